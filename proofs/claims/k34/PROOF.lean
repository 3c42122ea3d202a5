import PyProof.Rows.All
import Wide.All
import OpenK.AllK
import Wide.FinOn
import PyProof.EqAt
import PyProof.EqKinds
import PyProof.TupleCall
import PyProof.DictCompW
import PyProof.WalksMore
import PyProof.MinMaxWalk
import PyProof.DictDisplay
import PyProof.DictWalks
import Lean
import PySem.Challenge.RW_ablehands_k34_no_costs
open PySem.Heap renaming get?_push_of_some -> Qa,get?_push_size -> Qk,lt_size -> Qm,size_push -> Je,get?_update_other -> Jm,get?_update_self -> Xj
open List renaming length_map -> Qb,getElem?_eq_getElem -> Qc,getElem?_eq_some_iff -> Qd,length_append -> Qe,mem_of_getElem? -> Qh,getElem?_map -> Qi,mem_cons -> Qj,size_toArray -> Ql,not_mem_nil -> Qn,mem_singleton -> Qp,mem_cons_of_mem -> Qq,mem_append_right -> Qr,mem_cons_self -> Qt,length_take -> Qu,getElem?_append_left -> Qv,mem_append -> Qx,map_append -> Qz,length_drop -> Ja,length_replicate -> Jc,getElem?_append_right -> Jd,map_cons -> Jf,mem_append_left -> Ji,take_of_length_le -> Jj,getD_eq_getElem?_getD -> Jk,getElem?_zip_eq_some -> Jl,take_succ -> Jn,all_eq_true -> Jo,mem_of_mem_take -> Jq,flatten_replicate_singleton -> Jr,lookup_cons -> Js,length_cons -> Jt,take_length -> Ju,mem_map -> Jw,filterMap_cons -> Jx,mem_iff_getElem? -> Jz,getElem?_replicate -> Xb,replicate_succ -> Xc,forIn_cons -> Xe,getElem_mem -> Xg,flatten_cons -> Xh,nodup_cons -> Xi,forIn_nil -> Xk,drop_eq_getElem_cons -> Xl,zipIdx_cons -> Xn,getElem?_set_self -> Xp,mem_filter -> Xq,length_set -> Xt,zipIdx_nil -> Xu,find?_cons -> Xv,all_map -> Xw,length_pos_iff -> Xy,eq_of_mem_replicate -> Xz,append_nil -> Za,nil_append -> Zb,take_succ_eq_append_getElem -> Zf,getElem?_set -> Zh,nodup_append -> Zi,all_eq_false -> Zj,take_zero -> Zk,getElem?_eq_none -> Zl,getElem?_set_ne -> Zm,mem_of_mem_drop -> Zn,any_cons -> Zo,of_mem_zip -> Zp,toList_toArray -> Zr,length_reverse -> Zs,contains_cons -> Zv,pairwise_cons -> Zx,map_replicate -> Zy,mem_range -> Zz,drop_zero -> Ya,pairwise_iff_getElem -> Yb,append_assoc -> Yd,getElem?_inj -> Ye,length_eq_zero_iff -> Yf,map_take -> Yg,any_eq_true -> Yi,drop_of_length_le -> Yj,map_nil -> Yk,length_zip -> Yl,pairwise_append -> Yn,length -> Yo,flatten_append -> Yq,getElem?_range -> Yr,mem_filterMap -> Yt,filterMap_map -> Yu,getElem?_drop -> Yv,filter_append -> Yw,getElem?_take -> Yx,any_map -> Wb
open Nat renaming le_refl -> Qg,lt_of_lt_of_le -> Qo,le_trans -> Qw,lt_irrefl -> Qy,ne_of_lt -> Jb,zero_le -> Jh,le_add_right -> Jp,lt_succ_of_lt -> Jy,ne_of_gt -> Xd,sub_self -> Xm,le_of_lt -> Xr,lt_succ_self -> Xx,min_eq_left -> Zd,lt_of_le_of_lt -> Zu,succ_le_succ -> Yh,le_succ -> Yp,sub_zero -> Wa
open Bool renaming false_ne_true -> Qs,and_eq_true -> Jg,true_and -> Jv,false_and -> Xa,and_false -> Xo,eq_iff_iff -> Xs,false_eq_true -> Ze
open Option renaming map_some -> Xf,isSome_iff_exists -> Yc,isSome_map -> Yy
open Int renaming toNat_natCast -> Zg,le_refl -> Zq,fdiv_eq_ediv_of_nonneg -> Zt,emod_lt_of_pos -> Zw,emod_nonneg -> Ym,toNat_of_nonneg -> Ys,ediv_one -> Yz
def PySem.W.Fast.tw10198748241112922695:Nat:=0
def PySem.W.Fast.tw13452942163427955556:Nat:=0
def PySem.W.Fast.tw8416179878515524301:Nat:=0
def PySem.W.Fast.tw8781687747330252969:Nat:=0
def PySem.W.Fast.tw16714855517308363081:Nat:=0
def PySem.W.Fast.tw7322792683616836945:Nat:=0
def PySem.W.Fast.tw17264943098443404030:Nat:=0
def PySem.W.Fast.tw3568351866501923438:Nat:=0
def PySem.W.Fast.tw15097789475450505938:Nat:=0
def PySem.W.Fast.tw8676986122952997204:Nat:=0
def PySem.W.Fast.tw4603600086430971966:Nat:=0
def PySem.W.Fast.tw5309244185583796745:Nat:=0
def PySem.W.Fast.tw11864596762709738391:Nat:=0
def PySem.W.Fast.tw4953567245771939628:Nat:=0
def PySem.W.Fast.tw17987813626289222414:Nat:=0
def PySem.W.Fast.tw7320738809592982426:Nat:=0
def PySem.W.Fast.tw4527190999999098129:Nat:=0
def PySem.W.Fast.tw4687359000040553260:Nat:=0
def PySem.W.Fast.tw2740567011521300594:Nat:=0
def PySem.W.Fast.tw15748496932774648267:Nat:=0
def PySem.W.Fast.tw13713941744173309770:Nat:=0
def PySem.W.Fast.tw15759070902013388449:Nat:=0
def PySem.W.Fast.tw9429577250852110216:Nat:=0
def PySem.W.Fast.tw2885316314530682851:Nat:=0
def PySem.W.Fast.tw17039737096992281850:Nat:=0
def PySem.W.Fast.tw4184764371747114360:Nat:=0
def PySem.W.Fast.tw13864356203498836537:Nat:=0
def PySem.W.Fast.tw3937228164529886780:Nat:=0
def PySem.W.Fast.tw17809312690146667345:Nat:=0
def PySem.W.Fast.tw17462632341990254850:Nat:=0
def PySem.W.Fast.tw11009243975121471524:Nat:=0
def PySem.W.Fast.tw13852568423454539841:Nat:=0
def PySem.W.Fast.tw747160332125755576:Nat:=0
def PySem.W.Fast.tw13943687512380767535:Nat:=0
def PySem.W.Fast.tw14579404950512707754:Nat:=0
def PySem.W.Fast.tw15661416231490808991:Nat:=0
def PySem.W.Fast.tw9321857787683258025:Nat:=0
def PySem.W.Fast.tw4678476098041402660:Nat:=0
def PySem.W.Fast.tw3513742324315377996:Nat:=0
def PySem.W.Fast.tw1396989372600900173:Nat:=0
def PySem.W.Fast.tw6978275536526969820:Nat:=0
def PySem.W.Fast.tw14954114643652673251:Nat:=0
def PySem.W.Fast.tw2693681575966841416:Nat:=0
def PySem.W.Fast.tw12168061015354387956:Nat:=0
def PySem.W.Fast.tw8347110718128867094:Nat:=0
def PySem.W.Fast.tw7492506611353793657:Nat:=0
def PySem.W.Fast.tw1087223030875252766:Nat:=0
def PySem.W.Fast.tw14792458118858525868:Nat:=0
def PySem.W.Fast.tw11598113912666761209:Nat:=0
def PySem.W.Fast.tw16357963389492500549:Nat:=0
def PySem.W.Fast.tw9413613372472178655:Nat:=0
def PySem.W.Fast.tw1818516616986897032:Nat:=0
def PySem.W.Fast.tw375573887035833540:Nat:=0
def PySem.W.Fast.tw5114935539717827474:Nat:=0
def PySem.W.Fast.tw7636207117653032335:Nat:=0
def PySem.W.Fast.tw18103580322737333280:Nat:=0
def PySem.W.Fast.tw18383642325479055231:Nat:=0
def PySem.W.Fast.tw6412424590858002540:Nat:=0
def PySem.W.Fast.tw11094384163103920127:Nat:=0
def PySem.W.Fast.tw4096014376458276389:Nat:=0
def PySem.W.Fast.tw15257037031956487257:Nat:=0
def PySem.W.Fast.tw3432314261522472805:Nat:=0
def PySem.W.Fast.tw5048408004761120507:Nat:=0
def PySem.W.Fast.tw14332728823590057158:Nat:=0
def PySem.W.Fast.tw2809572555001516519:Nat:=0
def PySem.W.Fast.tw13626827960763730166:Nat:=0
def PySem.W.Fast.tw1388272224027473457:Nat:=0
def PySem.W.Fast.tw3987468735441540815:Nat:=0
def PySem.W.Fast.tw6687758240946028694:Nat:=0
def PySem.W.Fast.tw10710383539989963431:Nat:=0
def PySem.W.Fast.tw2201926168019858257:Nat:=0
def PySem.W.Fast.tw12284839038593237514:Nat:=0
def PySem.W.Fast.tw7092991944538898462:Nat:=0
def PySem.W.Fast.tw7767200285789900411:Nat:=0
def PySem.W.Fast.tw17657787251853461010:Nat:=0
def PySem.W.Fast.tw16650619673083635745:Nat:=0
def PySem.W.Fast.tw1605567084419177016:Nat:=0
def PySem.W.Fast.tw14045012091982208053:Nat:=0
def PySem.W.Fast.tw11701362565645601893:Nat:=0
def PySem.W.Fast.tw1891403949275364671:Nat:=0
def PySem.W.Fast.tw738559359208018563:Nat:=0
def PySem.W.Fast.tw5547919500424723008:Nat:=0
def PySem.W.Fast.tw16485211053903318463:Nat:=0
def PySem.W.Fast.tw3295223717892000627:Nat:=0
def PySem.W.Fast.tw3189804178322695426:Nat:=0
def PySem.W.Fast.tw9920216885282758755:Nat:=0
def PySem.W.Fast.tw18390061106441700832:Nat:=0
def PySem.W.Fast.tw17522517419046945195:Nat:=0
def PySem.W.Fast.tw5921372774777232536:Nat:=0
def PySem.W.Fast.tw834986563948109804:Nat:=0
def PySem.W.Fast.tw13372105247345782592:Nat:=0
def PySem.W.Fast.tw13174179340488789702:Nat:=0
def PySem.W.Fast.tw12388751469299057368:Nat:=0
def PySem.W.Fast.tw12433944280189581968:Nat:=0
def PySem.W.Fast.tw1160743028376950963:Nat:=0
def PySem.W.Fast.tw6984248764393187951:Nat:=0
def PySem.W.Fast.tw15902808862315044883:Nat:=0
def PySem.W.Fast.tw11995269711196138504:Nat:=0
def PySem.W.Fast.tw17962361871005399430:Nat:=0
def PySem.W.Fast.tw16560348853361388734:Nat:=0
def PySem.W.Fast.tw1860677028835799134:Nat:=0
def PySem.W.Fast.tw3512526267506713762:Nat:=0
def PySem.W.Fast.tw14635051125357055465:Nat:=0
def PySem.W.Fast.tw12481174169756277823:Nat:=0
def PySem.W.Fast.tw18009809376591327163:Nat:=0
def PySem.W.Fast.tw10796854943257043:Nat:=0
def PySem.W.Fast.tw10355634411106021351:Nat:=0
def PySem.W.Fast.tw9293516476330724421:Nat:=0
def PySem.W.Fast.tw4827447728071678361:Nat:=0
def PySem.W.Fast.tw1277120979904399632:Nat:=0
def PySem.W.Fast.tw7351003040609866914:Nat:=0
def PySem.W.Fast.tw4199599174317001953:Nat:=0
def PySem.W.Fast.tw1794918336391585618:Nat:=0
def PySem.W.Fast.tw8748107704326169701:Nat:=0
def PySem.W.Fast.tw10147467133312753289:Nat:=0
def PySem.W.Fast.tw309988992547774809:Nat:=0
def PySem.W.Fast.tw17091047723824669188:Nat:=0
def PySem.W.Fast.tw5495413408750801044:Nat:=0
def PySem.W.Fast.tw8614384188253370453:Nat:=0
def PySem.W.Fast.tw14445139797648975177:Nat:=0
def PySem.W.Fast.tw8051643751498144760:Nat:=0
def PySem.W.Fast.tw8661670286725491761:Nat:=0
def PySem.W.Fast.tw381751711812571867:Nat:=0
def PySem.W.Fast.tw6138752285427328116:Nat:=0
def PySem.W.Fast.tw5627952439462275194:Nat:=0
def PySem.W.Fast.tw11155355045204875803:Nat:=0
def PySem.W.Fast.tw1276209767120172128:Nat:=0
def PySem.W.Fast.tw12772663233241491023:Nat:=0
def PySem.W.Fast.tw6716497620921078987:Nat:=0
def PySem.W.Fast.tw9627143988905725260:Nat:=0
def PySem.W.Fast.tw5060013882372911123:Nat:=0
def PySem.W.Fast.tw12272743202758489583:Nat:=0
def PySem.W.Fast.tw8269588743004898731:Nat:=0
def PySem.W.Fast.tw6960086205805970832:Nat:=0
def PySem.W.Fast.tw119604538303378638:Nat:=0
def PySem.W.Fast.tw5085898114078239694:Nat:=0
def PySem.W.Fast.tw13947993042876713562:Nat:=0
def PySem.W.Fast.tw3882146993878888255:Nat:=0
def PySem.W.Fast.tw8386403499014261965:Nat:=0
def PySem.W.Fast.tw1611332568670957856:Nat:=0
def PySem.W.Fast.tw11740080593928200878:Nat:=0
def PySem.W.Fast.tw238839801977562424:Nat:=0
def PySem.W.Fast.tw17323940695901500239:Nat:=0
def PySem.W.Fast.tw7546810198805916013:Nat:=0
def PySem.W.Fast.tw10609239864762803133:Nat:=0
def PySem.W.Fast.tw12528360859130925993:Nat:=0
def PySem.W.Fast.tw6477609515926336593:Nat:=0
def PySem.W.Fast.tw2595394079149845233:Nat:=0
def PySem.W.Fast.tw5807440668441980815:Nat:=0
def PySem.W.Fast.tw9700630379111831032:Nat:=0
def PySem.W.Fast.tw9350707899064079347:Nat:=0
def PySem.W.Fast.tw5757363444819462854:Nat:=0
def PySem.W.Fast.tw2575896595870412254:Nat:=0
def PySem.W.Fast.tw4341015896005724415:Nat:=0
def PySem.W.Fast.tw2306815487055892916:Nat:=0
def PySem.W.Fast.tw17857839214328728321:Nat:=0
def PySem.W.Fast.tw15150721958576287833:Nat:=0
def PySem.W.Fast.tw5574776060179921112:Nat:=0
def PySem.W.Fast.tw5183540078644714337:Nat:=0
def PySem.W.Fast.tw4025963695095927459:Nat:=0
def PySem.W.Fast.tw1495297985485696879:Nat:=0
def PySem.W.Fast.tw13692560055883980848:Nat:=0
def PySem.W.Fast.tw16968247884816912121:Nat:=0
def PySem.W.Fast.tw15025663387534452956:Nat:=0
def PySem.W.Fast.tw13176595545548393855:Nat:=0
def PySem.W.Fast.tw6133457566818918257:Nat:=0
def PySem.W.Fast.tw15695869426830209351:Nat:=0
def PySem.W.Fast.tw15454312025358373416:Nat:=0
set_option Elab.async false
set_option linter.all false
set_option maxRecDepth 100000
namespace L2
open PySem PySem.Spec PyProof.Rows
abbrev Key:=Sum Int Str
def sL:Key->Value->Bool
 | .inl k,v=>Value.isInt k v
 | .inr x,v=>Value.isStrOf x v
def aFh (w:World):Key->Int
 | .inl k=>hashInt k
 | .inr x=>hashStr w x
theorem cS:∀ {k:Key} {v:Value},sL k v=true->(∃ i t,k=Sum.inl i/\v=Value.int i t)∨(∃ x t,k=Sum.inr x/\v=Value.str x t)
 | .inl i,v,h=>by
  obtain ⟨t,e⟩:=Value.isInt_shape (k:=i) (v:=v) h
  exact .inl ⟨i,t,rfl,e⟩
 | .inr x,v,h=>by
  obtain ⟨t,e⟩:=Value.isStrOf_shape (x:=x) (v:=v) h
  exact .inr ⟨x,t,rfl,e⟩
theorem aAB (i:Int) (t:Tok):sL (.inl i) (.int i t)=true:=by simp [sL,Value.isInt]
theorem aAC (x:Str) (t:Tok):sL (.inr x) (.str x t)=true:=by simp [sL,Value.isStrOf]
theorem aDK (a b:Int):decide ((Sum.inl a:Key)=Sum.inl b)=(a==b):=by
 by_cases e:a=b
 ·subst e; simp
 ·have h:¬ (Sum.inl a:Key)=Sum.inl b:=fun q=>e (Sum.inl.inj q)
  rw [decide_eq_false h]
  exact (beq_eq_false_iff_ne.mpr e).symm
theorem aDL (a b:Str):decide ((Sum.inr a:Key)=Sum.inr b)=decide (a=b):=by
 by_cases e:a=b
 ·subst e; simp
 ·have h:¬ (Sum.inr a:Key)=Sum.inr b:=fun q=>e (Sum.inr.inj q)
  rw [decide_eq_false h,decide_eq_false e]
theorem aDM (a:Int) (b:Str):decide ((Sum.inl a:Key)=Sum.inr b)=false:=decide_eq_false (fun q=>nomatch q)
theorem aDN (a:Str) (b:Int):decide ((Sum.inr a:Key)=Sum.inl b)=false:=decide_eq_false (fun q=>nomatch q)
def bT (prog:Program) (w:World):PySem.KeyKind prog w Key where
 is:=sL
 hash:=aFh w
 inj:=fun v a b ha hb=>by
  rcases cS ha with ⟨i,t,rfl,rfl⟩ | ⟨x,t,rfl,rfl⟩
  ·rcases cS hb with ⟨j,u,rfl,e⟩ | ⟨y,u,rfl,e⟩
   ·injection e with e1 _; rw [e1]
   ·exact nomatch e
  ·rcases cS hb with ⟨j,u,rfl,e⟩ | ⟨y,u,rfl,e⟩
   ·exact nomatch e
   ·injection e with e1 _; rw [e1]
 byValue:=fun k v h=>by
  rcases cS h with ⟨i,t,rfl,rfl⟩ | ⟨x,t,rfl,rfl⟩ <;> rfl
 pyHash:=fun hv h=>by
  rcases cS hv with ⟨i,t,rfl,rfl⟩ | ⟨x,t,rfl,rfl⟩
  ·exact wpAny_pyHash_int h
  ·exact wpAny_pyHash_str h
 eqBool:=fun hu hv h=>by
  rcases cS hu with ⟨i,t,rfl,rfl⟩ | ⟨x,t,rfl,rfl⟩
  ·rcases cS hv with ⟨j,u,rfl,rfl⟩ | ⟨y,u,rfl,rfl⟩
   ·rw [aDK] at h; exact wpAny_eqBool_int h
   ·rw [aDM] at h; exact SeqAt.EqAt.int_str i t y u _ _ _ _ h
  ·rcases cS hv with ⟨j,u,rfl,rfl⟩ | ⟨y,u,rfl,rfl⟩
   ·rw [aDN] at h; exact SeqAt.EqAt.str_int x t j u _ _ _ _ h
   ·rw [aDL] at h; exact wpAny_eqBool_str h
 «strs»:=fun k x t v h=>by
  rcases cS h with ⟨i,u,rfl,e⟩ | ⟨y,u,rfl,e⟩
  ·exact nomatch e
  ·injection e with e1 _
   subst e1
   cases v <;> rfl
theorem vV (prog:Program) (w:World) (i:Int) (t:Tok):(bT prog w).is (.inl i) (.int i t)=true:=aAB i t
theorem vW (prog:Program) (w:World) (x:Str) (t:Tok):(bT prog w).is (.inr x) (.str x t)=true:=aAC x t
inductive V where
 | non | bl (b:Bool) | int (i:Int) | str (x:Str) | byt (b:Array UInt8) | flt (b:UInt64) | ref (a:Addr) | ty (n:String)
 deriving DecidableEq
def bO:V->Value->Prop
 | .non,u=>u=Value.none
 | .bl b,u=>u=Value.bool b
 | .int i,u=>∃ t,u=Value.int i t
 | .str x,u=>∃ t,u=Value.str x t
 | .byt b,u=>∃ t,u=Value.bytes b t
 | .flt b,u=>∃ t,u=Value.float b t
 | .ref a,u=>u=Value.ref a
 | .ty n,u=>u=Value.type n
abbrev aY:List V->List Value->Prop:=Paired bO
theorem aY.length {xs:List V} {us:List Value} (r:aY xs us):xs.length=us.length:=Paired.length r
theorem aY.get:∀ {xs:List V} {us:List Value} {i:Nat} {x:V},aY xs us->xs[i]?=some x->∃ u,us[i]?=some u/\bO x u
 | _,_,_,_,.nil,e=>by simp at e
 | _,_,0,_,.cons r _,e=>by simp at e; subst e; exact ⟨_,rfl,r⟩
 | _,_,i+1,x,.cons _ t,e=>by
  obtain ⟨u,h1,h2⟩:=aY.get (i:=i) (x:=x) t (by simpa using e)
  exact ⟨u,by simpa using h1,h2⟩
theorem aY.set {x:V} {u:Value} (r:bO x u):∀ {xs:List V} {us:List Value} (i:Nat),aY xs us->aY (xs.set i x) (us.set i u)
 | _,_,_,.nil=>.nil
 | _,_,0,.cons _ t=>.cons r t
 | _,_,i+1,.cons q t=>.cons q (aY.set r i t)
theorem aY.append:∀ {xs ys:List V} {us ws:List Value},aY xs us->aY ys ws->aY (xs++ys) (us++ws)
 := by
 intro xs ys us ws h s
 induction h with
 | nil=>exact s
 | cons r t ih=>exact .cons r ih
theorem aY.take:∀ {xs:List V} {us:List Value} (n:Nat),aY xs us->aY (xs.take n) (us.take n)
 | _,_,0,_=>.nil
 | _,_,_+1,.nil=>.nil
 | _,_,n+1,.cons r t=>.cons r (aY.take n t)
theorem aY.drop:∀ {xs:List V} {us:List Value} (n:Nat),aY xs us->aY (xs.drop n) (us.drop n)
 | _,_,0,r=>r
 | _,_,_+1,.nil=>.nil
 | _,_,n+1,.cons _ t=>aY.drop n t
def pE:Option V->Option Value->Prop
 | some v,some u=>bO v u
 | none,none=>True
 | _,_=>False
def KV {κ:Type}:List (κ×V)->List (κ×Value)->Prop:=Paired fun (p:κ×V) (q:κ×Value)=>p.1=q.1/\bO p.2 q.2
def kV:Key->V
 | .inl i=>.int i
 | .inr x=>.str x
inductive HO where
 /-- a list -/
 | lst (xs:List V)
 /-- a tuple (never changes) -/
 | tup (xs:List V)
 /-- a dict whose keys are ints and texts; one whose keys are tuples of ints and texts (the empty one is both) -/
 | dK (kvs:List (Key×V)) | dT (kvs:List (List Key×V))
 /-- a set of ints: its members,its size -/
 | set (S:Int->Bool) (n:Nat)
 /-- an instance of the class at C,its dict at dx,its attributes -/
 | ins (C dx:Addr) (fs:List (Str×V))
 /-- the dict of the instance at x -/
 | own (x:Addr)
 /-- the dict of an exception -/
 | xd (fs:List (Str×V))
 /-- a bound method,f of x -/
 | met (f x:Addr)
 /-- a range object lo,lo+1,.. below hi -/
 | rng (lo hi:Int)
 /-- a thing that is known to the object (the script; a dict while a loop walks it): read,never written while it is so -/
 | frz (o:Obj) (u:HO)
 /-- a code object's table -/
 | tbl (ps:Array Value)
 /-- a code object's table,all of whose codes have the name q; they are tracked as its own -/
 | tab (q:Str)
 /-- any other thing,by what is true of its one object (a def of one's own: aFx a S n:=HO.ext fun h=>..) -/
 | ext (φ:Heap->Prop)
abbrev Hp:=Addr->Option HO
def upd (H:Hp) (a:Addr) (o:HO):Hp:=fun b=>if b=a then some o else H b
theorem aC {H:Hp} {a:Addr} {o:HO}:upd H a o a=some o:=by unfold upd; rw [if_pos rfl]
theorem aH {H:Hp} {a b:Addr} {o:HO} (h:b≠a):upd H a o b=H b:=by unfold upd; rw [if_neg h]
theorem aCM {H:Hp} {a:Addr} {o u:HO}:upd (upd H a o) a u=upd H a u:=by
 funext b; unfold upd; split <;> rfl
theorem aEx {H:Hp} {a b:Addr} {o u:HO} (h:H a=some o) (h':H b=some u) (d:o≠u):a≠b:=by
 intro e; subst e; rw [h] at h'; exact d (Option.some.inj h')
theorem iD {H:Hp} {a b:Addr} {o:HO} (h:H a=some o) (h':H b=none):a≠b:=by
 intro e; subst e; rw [h] at h'; cases h'
section
variable (P:Program) (w:World)
def bX (H:Hp) (h:Heap) (a:Addr):HO->Prop
 | .lst xs=>xs.length<=sizeLine/\∃ (its:List Value) (n:Nat),aY xs its/\h.get? a=some { cls:=.type "list",data:=.seq its.toArray n }
 | .tup xs=>xs.length<=sizeLine/\∃ (its:List Value) (n:Nat),aY xs its/\h.get? a=some { cls:=.type "tuple",data:=.seq its.toArray n }
 | .dK kvs=>kvs.length<=sizeLine/\(a==sysModules)=false/\∃ vs,KV kvs vs/\h.DictOf (bT P w) a vs
 | .dT kvs => kvs.length <= sizeLine /\ (a == sysModules) = false /\ ∃ xs : List (List Key × Addr × Value),
     Paired (fun (p:List Key×V) (q:List Key×Addr×Value)=>p.1=q.1/\H q.2.1=some (.tup (p.1.map kV))/\bO p.2 q.2.2) kvs xs /\
     ∃ o es ep,h.get? a=some o/\o.ExactDict/\o.data=.dict es ep/\es.toList=xs.map (entryOfKey (tupleKind (bT P w)))/\(xs.map (·.1)).Nodup
 | .set S n=>h.SetOf (intKind P w) a S n
 | .ins C dx fs => H dx = some (.own a) /\ fs.length <= 1000 /\ dx ≠ a /\ h.get? a = some (PySem.W.instObj C dx) /\
     ∃ mA,h.Ns1 dx mA/\(∀ f,pE (fs.lookup f) (mA f))/\PySem.Within mA (fs.map (·.1))
 | .own _=>∃ o,h.get? a=some o
 | .xd fs=>∃ mA,h.Ns1 a mA/\∀ f,pE (fs.lookup f) (mA f)
 | .rng lo hi=>∃ t u v,h.get? a=some { cls:=.type "range",data:=.fields #[.int lo t,.int hi u,.int 1 v] }
 | .frz o u=>h.get? a=some o/\bX H h a u
 | .tbl ps=>h.get? a=some { cls:=.none,data:=.fields ps }
 | .tab q=>∃ ps:Array Value,h.get? a=some { cls:=.none,data:=.fields ps }/\TriplesOk ps.toList/\∀ (pos:Pos) (cv:Value),codeAmong pos ps.toList=some cv->∃ (c:Addr) (o:Obj) (vs:Array Value) (t:Tok),cv=.ref c/\H c=some (.own a)/\h.get? c=some o/\o.data=.fields vs/\vs[1]?=some (.str q t)
 | .met f x=>h.get? a=some (PySem.W.methodObj (.ref f) (.ref x))
 | .ext φ=>φ h/\(∃ o,h.get? a=some o)/\∀ h1 h2:Heap,φ h1->(∀ o,h1.get? a=some o->h2.get? a=some o)->φ h2
def HOk (H:Hp) (h:Heap):Prop:=∀ a o,H a=some o->bX P w H h a o
end
section
variable {P:Program} {w:World} {H H':Hp} {h h':Heap} {a:Addr} {o:HO}
theorem bX.lt (x:bX P w H h a o):a < h.objs.size:=by
 cases o with
 | lst xs=>obtain ⟨_,_,_,_,e⟩:=x; exact Qm e
 | tup xs=>obtain ⟨_,_,_,_,e⟩:=x; exact Qm e
 | dK kvs=>obtain ⟨_,_,_,_,o,_,_,e,_⟩:=x; exact Qm e
 | dT kvs=>obtain ⟨_,_,_,_,o,_,_,e,_⟩:=x; exact Qm e
 | set S n=>obtain ⟨o,_,_,_,e,_⟩:=x; exact Qm e
 | ins C dx fs=>obtain ⟨_,_,_,e,_⟩:=x; exact Qm e
 | own y=>obtain ⟨_,e⟩:=x; exact Qm e
 | xd fs=>obtain ⟨_,⟨_,_,_,e,_⟩,_⟩:=x; exact Qm e
 | rng lo hi=>obtain ⟨_,_,_,e⟩:=x; exact Qm e
 | frz ob u=>obtain ⟨e,_⟩:=x; exact Qm e
 | tbl ps=>exact Qm (show h.get? a=some _ from x)
 | tab q=>obtain ⟨_,e,_⟩:=x; exact Qm e
 | met f y=>exact Qm (show h.get? a=some _ from x)
 | ext φ=>obtain ⟨_,⟨_,e⟩,_⟩:=x; exact Qm e
theorem Paired.mapP {α β:Type} {F G:α->β->Prop}:∀ {l₁:List α} {l₂:List β},Paired F l₁ l₂->(∀ a b,F a b->G a b)->Paired G l₁ l₂
 := by
 intro l₁ l₂ h f
 induction h with
 | nil=>exact .nil
 | cons r t ih=>exact .cons (f _ _ r) ih
theorem bX.stay (x:bX P w H h a o) (k:∀ b u,(b=a∨H b=some (.own a))->h.get? b=some u->h'.get? b=some u)
  (ho:∀ b,H b=some (.own a)->H' b=some (.own a)) (ht:∀ b xs,H b=some (.tup xs)->H' b=some (.tup xs)):bX P w H' h' a o:=by
 induction o with
 | lst xs=>obtain ⟨z,its,n,r,e⟩:=x; exact ⟨z,its,n,r,k _ _ (.inl rfl) e⟩
 | tup xs=>obtain ⟨z,its,n,r,e⟩:=x; exact ⟨z,its,n,r,k _ _ (.inl rfl) e⟩
 | dK kvs=>obtain ⟨z,y,vs,r,ob,es,ep,e,c⟩:=x; exact ⟨z,y,vs,r,ob,es,ep,k _ _ (.inl rfl) e,c⟩
 | dT kvs =>
  obtain ⟨z,y,xs,r,ob,es,ep,e,c⟩:=x
  exact ⟨z,y,xs,Paired.mapP r fun p q z=>⟨z.1,ht _ _ z.2.1,z.2.2⟩,ob,es,ep,k _ _ (.inl rfl) e,c⟩
 | set S n=>obtain ⟨ob,es,ep,t,e,c⟩:=x; exact ⟨ob,es,ep,t,k _ _ (.inl rfl) e,c⟩
 | ins C dx fs =>
  obtain ⟨d,z,ne,e,mA,⟨od,es,ep,e2,c⟩,r⟩:=x
  exact ⟨ho _ d,z,ne,k _ _ (.inl rfl) e,mA,⟨od,es,ep,k _ _ (.inr d) e2,c⟩,r⟩
 | own y=>obtain ⟨ob,e⟩:=x; exact ⟨ob,k _ _ (.inl rfl) e⟩
 | xd fs=>obtain ⟨mA,⟨od,es,ep,e,c⟩,r⟩:=x; exact ⟨mA,⟨od,es,ep,k _ _ (.inl rfl) e,c⟩,r⟩
 | rng lo hi=>obtain ⟨t,u,v,e⟩:=x; exact ⟨t,u,v,k _ _ (.inl rfl) e⟩
 | frz ob u ih=>obtain ⟨e,q⟩:=x; exact ⟨k _ _ (.inl rfl) e,ih q⟩
 | tbl ps =>
  have e:h.get? a=some { cls:=.none,data:=.fields ps }:=x
  show h'.get? a=some { cls:=.none,data:=.fields ps }
  exact k a _ (.inl rfl) e
 | tab q =>
  obtain ⟨ps,e,z,r⟩:=x
  refine ⟨ps,k _ _ (.inl rfl) e,z,fun pos cv q=>?_⟩
  obtain ⟨c,o,vs,t,r1,r2,r3,r4⟩:=r pos cv q
  exact ⟨c,o,vs,t,r1,ho _ r2,k _ _ (.inr r2) r3,r4⟩
 | met f y =>
  have e:h.get? a=some (PySem.W.methodObj (.ref f) (.ref y)):=x
  show h'.get? a=some (PySem.W.methodObj (.ref f) (.ref y))
  exact k a _ (.inl rfl) e
 | ext φ=>obtain ⟨p,⟨o,e⟩,st⟩:=x; exact ⟨st _ _ p fun o q=>k _ _ (.inl rfl) q,⟨o,k _ _ (.inl rfl) e⟩,st⟩
theorem HOk.lt (x:HOk P w H h) (e:H a=some o):a < h.objs.size:=(x a o e).lt
theorem HOk.fresh (x:HOk P w H h) (e:h.objs.size<=a):H a=none:=by
 cases q:H a with
 | none=>rfl
 | some u=>exact absurd (Qo (x.lt q) e) (Qy _)
theorem HOk.kept (x:HOk P w H h) (k:∀ b u,h.get? b=some u->h'.get? b=some u):HOk P w H h':=fun a o e =>
 (x a o e).stay (fun b u _ q=>k b u q) (fun _ q=>q) fun _ _ q=>q
theorem HOk.laid (x:HOk P w H h) (k:∀ b u,h.get? b=some u->h'.get? b=some u) (hp:h.objs.size<=a) (new:bX P w (upd H a o) h' a o):HOk P w (upd H a o) h':=fun b u e=>by
 have hn:=x.fresh hp
 by_cases hb:b=a
 ·subst hb; rw [aC] at e; cases e; exact new
 ·rw [aH hb] at e
  exact (x b u e).stay (fun c v _ q=>k c v q) (fun c q=>by rw [aH (iD q hn)]; exact q) fun c xs q=>by rw [aH (iD q hn)]; exact q
end
def Rd (H:Hp) (a:Addr) (u:HO):Prop:=H a=some u∨∃ o,H a=some (.frz o u)
theorem Rd.of {H:Hp} {a:Addr} {u:HO} (h:H a=some u):Rd H a u:=.inl h
theorem Rd.ok {P:Program} {w:World} {H:Hp} {h:Heap} {a:Addr} {u:HO} (r:Rd H a u) (x:HOk P w H h):bX P w H h a u:=by
 rcases r with r | ⟨o,r⟩
 ·exact x a u r
 ·obtain ⟨_,q⟩:=x a _ r
  exact q
def Mut:Option HO->Prop
 | some (.lst _)=>True
 | some (.dK _)=>True
 | some (.dT _)=>True
 | some (.set _ _)=>True
 | some (.ins _ _ _)=>True
 | some (.ext _)=>True
 | some (.tab _)=>True
 | _=>False
section
variable {P:Program} {w:World} {H:Hp} {h h':Heap} {x e:Addr} {o':HO}
theorem HOk.write (ok:HOk P w H h) (mu:Mut (H x)) (he:e=x∨H e=some (.own x)) (k:∀ b u,b≠e->h.get? b=some u->h'.get? b=some u) (heo:∃ u,h'.get? e=some u)
  (new:bX P w (upd H x o') h' x o'):HOk P w (upd H x o') h':=fun b u q=>by
 have nown:∀ c y,H c=some (.own y)->c≠x:=fun c y r z=>by subst z; rw [r] at mu; exact mu
 have ntup:∀ c xs,H c=some (.tup xs)->c≠x:=fun c xs r z=>by subst z; rw [r] at mu; exact mu
 by_cases hb:b=x
 ·subst hb; rw [aC] at q; cases q; exact new
 ·rw [aH hb] at q
  by_cases hbe:b=e
  ·have q':H b=some (.own x):=by
    rcases he with z | z
    ·exact absurd (hbe.trans z) hb
    ·rw [hbe]; exact z
   rw [q] at q'; cases q'
   obtain ⟨v,hv⟩:=heo
   exact ⟨v,by rw [hbe]; exact hv⟩
  ·refine (ok b u q).stay (fun c v hc r=>k c v ?_ r) (fun c r=>by rw [aH (nown c b r)]; exact r) fun c xs r=>by rw [aH (ntup c xs r)]; exact r
   rcases hc with rfl | hc
   ·exact hbe
   ·rintro rfl
    rcases he with z | z
    ·exact nown c b hc z
    ·rw [hc] at z; cases z; exact hb rfl
end
structure Un (fs ex:List Addr) (H H':Hp) (h h':Heap):Prop where
 keep:∀ b o,h.get? b=some o->H b=none->b∉fs->b∉ex->h'.get? b=some o
 slot:∀ b o,h.get? b=some o->H b=none->b∈fs->b∉ex->∃ sl,h'.get? b=some { o with slots:=sl }
 free:∀ b o,h.get? b=some o->H b=none->b∉ex->H' b=none
 there:∀ b o,h.get? b=some o->b∉ex->∃ o',h'.get? b=some o'
 tups:∀ b xs,H b=some (.tup xs)->H' b=some (.tup xs)
 frzs:∀ b o u,H b=some (.frz o u)->H' b=some (.frz o u)
 tbls:∀ b ps,H b=some (.tbl ps)->∃ more,H' b=some (.tbl (ps++more))
section
variable {fs fs' ex ex':List Addr} {H H1 H2:Hp} {h h1 h2 h':Heap} {a x e:Addr} {o:HO}
theorem Un.any (u:Un fs ex H H1 h h1) {b:Addr} {ob:Obj} (q:h.get? b=some ob) (n:H b=none) (hx:b∉ex):∃ sl,h1.get? b=some { ob with slots:=sl }:=by
 by_cases hb:b∈fs
 ·exact u.slot b ob q n hb hx
 ·exact ⟨ob.slots,u.keep b ob q n hb hx⟩
theorem Un.trans (a:Un fs ex H H1 h h1) (b:Un fs ex H1 H2 h1 h2):Un fs ex H H2 h h2 where
 keep:=fun c ob q n hc hx=>b.keep c ob (a.keep c ob q n hc hx) (a.free c ob q n hx) hc hx
 slot:=fun c ob q n hc hx=>by
  obtain ⟨sl,e1⟩:=a.slot c ob q n hc hx
  obtain ⟨sl',e2⟩:=b.slot c _ e1 (a.free c ob q n hx) hc hx
  exact ⟨sl',e2⟩
 free:=fun c ob q n hx=>by
  obtain ⟨o',e1⟩:=a.there c ob q hx
  exact b.free c o' e1 (a.free c ob q n hx) hx
 there:=fun c ob q hx=>by
  obtain ⟨o',e1⟩:=a.there c ob q hx
  exact b.there c o' e1 hx
 tups:=fun c xs q=>b.tups c xs (a.tups c xs q)
 frzs:=fun c ob xs q=>b.frzs c ob xs (a.frzs c ob xs q)
 tbls:=fun c ps q=>by
  obtain ⟨m1,e1⟩:=a.tbls c ps q
  obtain ⟨m2,e2⟩:=b.tbls c _ e1
  exact ⟨m1++m2,by rw [e2,Array.append_assoc]⟩
theorem Un.kept (k:∀ b u,h.get? b=some u->h'.get? b=some u):Un fs ex H H h h' :=
 ⟨fun b ob q _ _ _=>k b ob q,fun b ob q _ _ _=>⟨ob.slots,k b ob q⟩,fun _ _ _ n _=>n,fun b ob q _=>⟨ob,k b ob q⟩,fun _ _ q=>q,fun _ _ _ q=>q,fun _ ps q=>⟨#[],by rw [q]; simp⟩⟩
theorem Un.refl:Un fs ex H H h h:=Un.kept fun _ _ q=>q
theorem Un.laid (k:∀ b u,h.get? b=some u->h'.get? b=some u) (hp:h.objs.size<=a) (hn:H a=none):Un fs ex H (upd H a o) h h' where
 keep:=fun b u q _ _ _=>k b u q
 slot:=fun b u q _ _ _=>⟨u.slots,k b u q⟩
 free:=fun b u q n _=>by rw [aH (Jb (Qo (Qm q) hp))]; exact n
 there:=fun b u q _=>⟨u,k b u q⟩
 tups:=fun b xs q=>by rw [aH (iD q hn)]; exact q
 frzs:=fun b u xs q=>by rw [aH (iD q hn)]; exact q
 tbls:=fun b ps q=>⟨#[],by rw [aH (iD q hn),q]; simp⟩
theorem Un.write (mu:Mut (H x)) (he:e=x∨H e=some (.own x)) (k:∀ b u,b≠e->h.get? b=some u->h'.get? b=some u) (heo:∃ u,h'.get? e=some u):Un fs ex H (upd H x o) h h':=by
 have hx:∀ b,H b=none->b≠x:=fun b n z=>by subst z; rw [n] at mu; exact mu
 have hb:∀ b,H b=none->b≠e:=fun b n z=>by
  subst z
  rcases he with r | r
  ·exact hx b n r
  ·rw [n] at r; cases r
 have hm:∀ b u,H b=some u->¬ Mut (some u)->b≠x:=fun b u q nm z=>by subst z; rw [q] at mu; exact nm mu
 refine ⟨fun b u q n _ _=>k b u (hb b n) q,fun b u q n _ _=>⟨u.slots,k b u (hb b n) q⟩,fun b u q n _=>by rw [aH (hx b n)]; exact n,fun b u q _=>?_,
  fun b xs q=>by rw [aH (hm b _ q fun z=>z)]; exact q,fun b u xs q=>by rw [aH (hm b _ q fun z=>z)]; exact q,fun b ps q=>⟨#[],by rw [aH (hm b _ q fun z=>z),q]; simp⟩⟩
 by_cases hbe:b=e
 ·subst hbe; exact heo
 ·exact ⟨u,k b u hbe q⟩
theorem Un.mono (u:Un fs ex H H1 h h1) (hs:∀ b∈fs,b∈fs') (hx:∀ b∈ex,b∈ex'):Un fs' ex' H H1 h h1 :=
 ⟨fun b ob q n hb he=>u.keep b ob q n (fun z=>hb (hs b z)) fun z=>he (hx b z),fun _ _ q n _ he=>u.any q n fun z=>he (hx _ z),fun b ob q n he=>u.free b ob q n fun z=>he (hx b z),fun b ob q he=>u.there b ob q fun z=>he (hx b z),u.tups,u.frzs,u.tbls⟩
end
def trk (h:Heap) (H:Hp):List Addr:=(List.range h.objs.size).filter fun a=>(H a).isSome
def rY (h:Heap) (H:Hp):Heap:=PySem.W.hideAll h (trk h H)
theorem aAD (h:Heap) (H:Hp):(rY h H).objs.size=h.objs.size:=PySem.W.hideAll_size _ _
theorem aBk {h:Heap} {H:Hp} {b:Addr} {o:Obj} (e:h.get? b=some o) (n:H b=none):(rY h H).get? b=some o :=
 PySem.W.hideAll_get _ e fun hm=>by
  have q:(H b).isSome=true:=(Xq.mp hm).2
  rw [n] at q; simp at q
theorem aCN {h:Heap} {H:Hp} {b:Addr} {o:Obj} (e:(rY h H).get? b=some o):h.get? b=some o/\H b=none:=by
 have e':h.get? b=some o:=PySem.W.of_hideAll (trk h H) e
 refine ⟨e',?_⟩
 cases q:H b with
 | none=>rfl
 | some x =>
  have hm:b∈trk h H:=Xq.mpr ⟨Zz.mpr (Qm e'),by simp [q]⟩
  have z:(rY h H).get? b=none:=PySem.W.hideAll_none (trk h H) hm
  rw [z] at e; cases e
def aCO (g h:Heap) (L:Addr):List (Addr×Obj):=(List.range h.objs.size).filterMap fun a=>if a=L∨(g.get? a).isSome=true then none else (h.get? a).map fun o=>(a,o)
def kY (g h:Heap) (L d:Addr):List (Addr×Obj):=(aCO g h L).filter fun p=>decide (p.1≠d)
structure Mod (K:PySem.W.Frag) (mg:Str->Option Value) (base:Heap):Prop where
 kin:K.In base
 glob:base.Ns mainGlobals mg
 blt:∃ mb,base.Ns builtinsNs mb/\∀ x:Str,x ≠ "__name__" -> mb x=bootBuiltins x
 nolimit:base.NoLimit
 mods:∃ mm,base.Ns sysModules mm
structure Cx where
 prog:Program
 w:World
 K:PySem.W.Frag
 mg:Str->Option Value
 base:Heap
 A:Around
 N:List Str
 s₀:Shared
 H₀:Hp
 env:Env
 outer:List Env
 stack:List Env
 ex:List Addr
 fn:Str->Bool
 calm:Bool
 pn:List (Addr×Obj)
 xe:Value->Shared->Prop
def frs (l:List Env):List Addr:=l.filterMap (·.frame)
abbrev Cx.fs (X:Cx):List Addr:=frs X.outer
def Vis (sc:Scope) (x:Str):Prop:=sc.names.lookup x=some .local∨sc.names.lookup x=some .cell∨sc.names.lookup x=some .free
def Loc (sc:Scope) (x:Str):Prop:=sc.names.lookup x=some .local∨sc.names.lookup x=some .cell
def aEy (env:Env) (h:Heap) (m:Str->Option Value) (x:Str) (u:Value):Prop :=
 (env.kindOf x=some .local/\m x=some u)∨((env.kindOf x=some .cell∨env.kindOf x=some .free)/\∃ c,env.cells.lookup x=some c/\h.IsCell c (some u))
structure Cx.Ok (X:Cx):Prop where
 mod:Mod X.K X.mg X.base
 kind:X.env.scope.kind=.function
 glob:X.env.globals=mainGlobals
 blt:X.env.builtins=builtinsNs
 above:X.s₀.heap.objs.size<=X.env.locals
 inj:∀ x y c,X.env.cells.lookup x=some c->X.env.cells.lookup y=some c->x=y
 has:∀ x,(X.env.kindOf x=some .cell∨X.env.kindOf x=some .free)->∃ c,X.env.cells.lookup x=some c
 cab:∀ x c,X.fn x=true->X.env.cells.lookup x=some c->X.s₀.heap.objs.size<=c
 hd:X.calm=true->X.A.handled=none
 frames:X.A.frames=some X.stack
 stk:X.stack=X.outer∨(X.stack=X.env::X.outer/\X.env.frame=some X.env.locals)
 exf:∀ b∈X.ex,b≠X.env.locals/\∀ x c,X.env.cells.lookup x=some c->c≠b
 bs:∀ b o,X.base.get? b=some o->X.s₀.heap.get? b=some o/\X.H₀ b=none
 bsz:X.base.objs.size<=X.s₀.heap.objs.size
 noex:∀ b o,X.base.get? b=some o->b∉X.ex
 exfs:∀ b∈X.ex,b∉X.fs
 funs:X.s₀.heap.FunFrames X.base X.outer
 frf:∀ b∈X.fs,X.H₀ b=none
structure Inv (X:Cx) (pins:List (Addr×Obj)) (σ:List (Option V)) (H:Hp) (s:Shared):Prop where
 ok:X.Ok
 os:s.os=X.s₀.os
 bare:AllBare s.gens
 base:Un X.fs X.ex X.H₀ H X.s₀.heap s.heap
 loc:∃ m,s.heap.Ns X.env.locals m/\∀ (i:Nat) (x:Str) (v:V),X.N[i]?=some x->σ[i]?=some (some v)->Vis X.env.scope x->∃ u,bO v u/\aEy X.env s.heap m x u
 cell:∀ x c,X.env.cells.lookup x=some c->∃ v,s.heap.IsCell c v
 free:H X.env.locals=none
 freeC:∀ x c,X.env.cells.lookup x=some c->H c=none
 pin:∀ p∈X.pn++pins,s.heap.get? p.1=some p.2/\H p.1=none/\p.1≠X.env.locals/\p.1∉X.fs/\∀ v,p.2.data≠.cell v
 hok:HOk X.prog X.w H s.heap
 len:σ.length=X.N.length
section
variable {X:Cx} {pins:List (Addr×Obj)} {σ:List (Option V)} {H H':Hp} {s:Shared} {h':Heap}
theorem Cx.Ok.nofr (ok:X.Ok) {b:Addr} {o:Obj} (e:X.base.get? b=some o):b∉X.fs:=fun hb=>by
 have:=(ok.funs.mem hb).1
 rw [e] at this; cases this
theorem Inv.bs (I:Inv X pins σ H s):∀ b o,X.base.get? b=some o->s.heap.get? b=some o/\H b=none:=fun b o e =>
 ⟨I.base.keep b o (I.ok.bs b o e).1 (I.ok.bs b o e).2 (I.ok.nofr e) (I.ok.noex b o e),I.base.free b o (I.ok.bs b o e).1 (I.ok.bs b o e).2 (I.ok.noex b o e)⟩
theorem Inv.bk (I:Inv X pins σ H s):∀ b o,X.base.get? b=some o->s.heap.get? b=some o:=fun b o e=>(I.bs b o e).1
theorem Inv.mod (I:Inv X pins σ H s):Mod X.K X.mg X.base:=I.ok.mod
theorem Inv.kIn (I:Inv X pins σ H s):X.K.In s.heap:=I.ok.mod.kin.keeps I.bk
theorem Inv.nolimit (I:Inv X pins σ H s):s.heap.NoLimit:=I.ok.mod.nolimit.keeps I.bk
theorem Inv.fr (I:Inv X pins σ H s):∃ m,Fr X.base X.env.locals s.heap m :=
 let ⟨m,hn,_⟩:=I.loc
 ⟨m,hn,I.bk,Qw I.ok.bsz I.ok.above⟩
theorem Inv.lt (I:Inv X pins σ H s):X.env.locals < s.heap.objs.size:=let ⟨_,hn,_⟩:=I.loc; hn.lt
theorem Inv.sz (I:Inv X pins σ H s):X.s₀.heap.objs.size<=s.heap.objs.size:=Qw I.ok.above (Xr I.lt)
theorem Inv.nofs (I:Inv X pins σ H s) {a:Addr} (h:s.heap.objs.size<=a):a∉X.fs:=fun hb=>by
 obtain ⟨_,o,ho,_⟩:=I.ok.funs.mem hb
 exact absurd (Qo (Qm ho) (Qw I.sz h)) (Qy _)
theorem Inv.cne (I:Inv X pins σ H s):∀ x c,X.env.cells.lookup x=some c->c≠X.env.locals:=fun x c e z=>by
 obtain ⟨v,o,ho,hd⟩:=I.cell x c e
 obtain ⟨m,⟨o',es,ep,ho',hd',_⟩,_⟩:=I.loc
 rw [z,ho'] at ho; cases ho; rw [hd'] at hd; cases hd
theorem Inv.funs (I:Inv X pins σ H s):s.heap.FunFrames X.base X.outer:=by
 have all:∀ (l:List Env),(∀ b∈frs l,b∈X.fs)->X.s₀.heap.FunFrames X.base l->s.heap.FunFrames X.base l:=by
  intro l
  induction l with
  | nil=>intro _ _; trivial
  | cons env r ih =>
   intro hs hl
   obtain ⟨hk,⟨L,o,hf,hn,ho,hd⟩,hr⟩:=hl
   have hL:L∈X.fs:=hs L (by unfold frs; rw [Jx,hf]; exact Qt)
   obtain ⟨sl,e⟩:=I.base.slot L o ho (I.ok.frf L hL) hL fun z=>I.ok.exfs L z hL
   exact ⟨hk,⟨L,_,hf,hn,e,hd⟩,ih (fun b hb=>hs b (by unfold frs; rw [Jx,hf]; exact Qq _ hb)) hr⟩
 exact all X.outer (fun _ hb=>hb) I.ok.funs
theorem Inv.stack (I:Inv X pins σ H s):s.heap.FunFrames X.base X.stack:=by
 rcases I.ok.stk with e | ⟨e,hf⟩
 ·rw [e]; exact I.funs
 ·rw [e]
  obtain ⟨m,hn,_⟩:=I.loc
  refine .cons (by rw [I.ok.kind]; decide) hf hn ?_ I.funs
  exact Heap.get?_none_of_le (Qw I.ok.bsz I.ok.above)
theorem Inv.stkSub (I:Inv X pins σ H s):∀ b∈frs X.stack,b∈X.env.locals::X.fs:=fun b hb=>by
 rcases I.ok.stk with e | ⟨e,hf⟩
 ·rw [e] at hb; exact Qq _ hb
 ·rw [e] at hb
  unfold frs at hb
  rw [Jx,hf] at hb
  exact hb
theorem Inv.stkFree (I:Inv X pins σ H s):∀ b∈frs X.stack,H b=none:=fun b hb=>by
 rcases Qj.mp (I.stkSub b hb) with e | hb
 ·rw [e]; exact I.free
 ·obtain ⟨_,o,ho,_⟩:=I.ok.funs.mem hb
  exact I.base.free b o ho (I.ok.frf b hb) fun z=>I.ok.exfs b z hb
theorem Inv.step {g':Array GenState} {t':Nat} {d':Drawn} {ch:List Addr} (I:Inv X pins σ H s)
  (hch:∀ b∈ch,(b∈X.ex∨X.s₀.heap.objs.size<=b)/\b≠X.env.locals/\(∀ x c,X.env.cells.lookup x=some c->c≠b)/\∀ p∈X.pn++pins,p.1≠b)
  (keep:∀ b o,b≠X.env.locals->b∉X.fs->b∉ch->s.heap.get? b=some o->H b=none->h'.get? b=some o)
  (slot:∀ b o,b≠X.env.locals->b∈X.fs->b∉ch->s.heap.get? b=some o->H b=none->∃ sl,h'.get? b=some { o with slots:=sl }) (free:∀ b o,b∉ch->s.heap.get? b=some o->H b=none->H' b=none)
  (there:∀ b o,b∉ch->s.heap.get? b=some o->∃ o',h'.get? b=some o')
  (tups:∀ b xs,H b=some (.tup xs)->H' b=some (.tup xs)) (frzs:∀ b o u,H b=some (.frz o u)->H' b=some (.frz o u)) (tbls:∀ b ps,H b=some (.tbl ps)->∃ more,H' b=some (.tbl (ps++more)))
  (ns:∀ m,s.heap.Ns X.env.locals m->h'.Ns X.env.locals m) (hok:HOk X.prog X.w H' h') (hg:AllBare g') :
  Inv X pins σ H' { s with heap:=h',gens:=g',drawn:=d',toks:=t' }:=by
 have neL:∀ b o,X.s₀.heap.get? b=some o->b≠X.env.locals:=fun b o e=>Jb (Qo (Qm e) I.ok.above)
 have neC:∀ b o,X.s₀.heap.get? b=some o->b∉X.ex->b∉ch:=fun b o e hx hb=>by
  rcases (hch b hb).1 with z | z
  ·exact hx z
  ·exact absurd (Qo (Qm e) z) (Qy _)
 have cellK:∀ x c,X.env.cells.lookup x=some c->∀ v,s.heap.IsCell c v->h'.IsCell c v:=fun x c e v ⟨o,ho,hd⟩=>by
  have nch:c∉ch:=fun z=>(hch c z).2.2.1 x c e rfl
  by_cases hc:c∈X.fs
  ·obtain ⟨sl,q⟩:=slot c o (I.cne x c e) hc nch ho (I.freeC x c e)
   exact ⟨_,q,hd⟩
  ·exact ⟨o,keep c o (I.cne x c e) hc nch ho (I.freeC x c e),hd⟩
 refine ⟨I.ok,I.os,hg,⟨fun b o e n hb hx=>?_,fun b o e n hb hx=>?_,fun b o e n hx=>?_,fun b o e hx=>?_,fun b xs e=>tups b xs (I.base.tups b xs e),fun b o xs e=>frzs b o xs (I.base.frzs b o xs e),fun b ps e=>?_⟩,?_,fun x c e=>?_,?_,fun x c e=>?_,fun p hp=>?_,hok,I.len⟩
 ·exact keep b o (neL b o e) hb (neC b o e hx) (I.base.keep b o e n hb hx) (I.base.free b o e n hx)
 ·obtain ⟨sl,e1⟩:=I.base.slot b o e n hb hx
  obtain ⟨sl',e2⟩:=slot b _ (neL b o e) hb (neC b o e hx) e1 (I.base.free b o e n hx)
  exact ⟨sl',e2⟩
 ·obtain ⟨o',e1⟩:=I.base.there b o e hx
  exact free b o' (neC b o e hx) e1 (I.base.free b o e n hx)
 ·obtain ⟨o',e1⟩:=I.base.there b o e hx
  exact there b o' (neC b o e hx) e1
 ·obtain ⟨m1,e1⟩:=I.base.tbls b ps e
  obtain ⟨m2,e2⟩:=tbls b _ e1
  exact ⟨m1++m2,by rw [e2,Array.append_assoc]⟩
 ·obtain ⟨m,hn,hl⟩:=I.loc
  refine ⟨m,ns m hn,fun i x v e1 e2 e3=>?_⟩
  obtain ⟨u,r,l⟩:=hl i x v e1 e2 e3
  refine ⟨u,r,?_⟩
  rcases l with l | ⟨k,c,e,z⟩
  ·exact .inl l
  ·exact .inr ⟨k,c,e,cellK x c e _ z⟩
 ·obtain ⟨v,z⟩:=I.cell x c e
  exact ⟨v,cellK x c e v z⟩
 ·obtain ⟨m,⟨o,_,_,ho,_⟩,_⟩:=I.loc
  exact free _ o (fun z=>(hch _ z).2.1 rfl) ho I.free
 ·obtain ⟨v,o,ho,hd⟩:=I.cell x c e
  exact free c o (fun z=>(hch c z).2.2.1 x c e rfl) ho (I.freeC x c e)
 ·obtain ⟨e,n,ne,nf,d⟩:=I.pin p hp
  have nch:p.1∉ch:=fun z=>(hch p.1 z).2.2.2 p hp rfl
  exact ⟨keep p.1 p.2 ne nf nch e n,free p.1 p.2 nch e n,ne,nf,d⟩
theorem Inv.un {t':Nat} (I:Inv X pins σ H s) (u:Un X.fs [] H H' s.heap h') (hok:HOk X.prog X.w H' h'):Inv X pins σ H' { s with heap:=h',toks:=t' }:=by
 obtain ⟨m,⟨o,es,ep,ho,r⟩,_⟩:=id I.loc
 obtain ⟨sl,hL⟩:=u.any ho I.free (by simp)
 exact I.step (g':=s.gens) (d':=s.drawn) (ch:=[]) (fun _ z=>nomatch z) (fun b o _ hb _ e n=>u.keep b o e n hb (by simp)) (fun b o _ hb _ e n=>u.slot b o e n hb (by simp)) (fun b o _ e n=>u.free b o e n (by simp)) (fun b o _ e=>u.there b o e (by simp)) u.tups u.frzs u.tbls (fun m' hm=>by
  obtain ⟨o',es',ep',ho',r'⟩:=hm
  rw [ho] at ho'; cases ho'
  exact ⟨_,es',ep',hL,r'⟩) hok I.bare
theorem Inv.call {g':Array GenState} {t':Nat} {d':Drawn} {ch:List Addr} (I:Inv X pins σ H s) (u:Un (frs X.stack) ch H H' s.heap h') (hok:HOk X.prog X.w H' h') (hg:AllBare g')
  (hch:∀ b∈ch,(b∈X.ex∨X.s₀.heap.objs.size<=b)/\b≠X.env.locals/\(∀ x c,X.env.cells.lookup x=some c->c≠b)/\∀ p∈X.pn++pins,p.1≠b) :
  Inv X pins σ H' { s with heap:=h',gens:=g',drawn:=d',toks:=t' }:=by
 obtain ⟨m,⟨o,es,ep,ho,r⟩,_⟩:=id I.loc
 obtain ⟨sl,hL⟩:=u.any ho I.free fun z=>(hch _ z).2.1 rfl
 exact I.step (ch:=ch) hch (fun b o hL hb hc e n=>u.keep b o e n (fun z=>(Qj.mp (I.stkSub b z)).elim hL hb) hc) (fun b o _ _ hc e n=>u.any e n hc) (fun b o hc e n=>u.free b o e n hc) (fun b o hc e=>u.there b o e hc) u.tups u.frzs u.tbls (fun m' hm=>by
  obtain ⟨o',es',ep',ho',r'⟩:=hm
  rw [ho] at ho'; cases ho'
  exact ⟨_,es',ep',hL,r'⟩) hok hg
theorem Inv.turned {t':Nat} {it:Addr} (I:Inv X pins σ H s) (k:∀ b o,b≠it->s.heap.get? b=some o->h'.get? b=some o) (hn:H it=none) (hL:it≠X.env.locals)
  (h1:it∈X.ex∨X.s₀.heap.objs.size<=it) (h2:∀ x c,X.env.cells.lookup x=some c->c≠it) (h3:∀ p∈X.pn++pins,p.1≠it):Inv X pins σ H { s with heap:=h',toks:=t' }:=by
 have nit:∀ b u,H b=some u->b≠it:=fun b u e z=>by rw [z,hn] at e; cases e
 refine I.step (g':=s.gens) (d':=s.drawn) (ch:=[it]) (fun b hb=>?_) (fun b o _ _ hc e _=>k b o (fun z=>hc (by simp [z])) e) (fun b o _ _ hc e _=>⟨o.slots,k b o (fun z=>hc (by simp [z])) e⟩) (fun _ _ _ _ n=>n)
  (fun b o hc e=>⟨o,k b o (fun z=>hc (by simp [z])) e⟩) (fun _ _ e=>e) (fun _ _ _ e=>e) (fun b ps e=>⟨#[],by rw [e]; simp⟩) (fun m hm=>?_) (fun b u e=>?_) I.bare
 ·have e:b=it:=by simpa using hb
  subst e
  exact ⟨h1,hL,h2,h3⟩
 ·obtain ⟨o,es,ep,ho,r⟩:=hm
  exact ⟨o,es,ep,k _ o (Ne.symm hL) ho,r⟩
 ·refine (I.hok b u e).stay (fun c v hc q=>k c v ?_ q) (fun _ q=>q) fun _ _ q=>q
  rcases hc with z | z
  ·rw [z]; exact nit b u e
  ·exact nit c _ z
theorem Inv.tok (I:Inv X pins σ H s) (t:Nat):Inv X pins σ H { s with toks:=t }:=I.un (h':=s.heap) (t':=t) Un.refl I.hok
theorem Inv.kept {t':Nat} (I:Inv X pins σ H s) (k:∀ b u,s.heap.get? b=some u->h'.get? b=some u):Inv X pins σ H { s with heap:=h',toks:=t' }:=I.un (Un.kept k) (I.hok.kept k)
theorem Inv.laid {a:Addr} {o:HO} {t':Nat} (I:Inv X pins σ H s) (k:∀ b u,s.heap.get? b=some u->h'.get? b=some u) (hp:s.heap.objs.size<=a) (new:bX X.prog X.w (upd H a o) h' a o) :
  Inv X pins σ (upd H a o) { s with heap:=h',toks:=t' }:=I.un (Un.laid k hp (I.hok.fresh hp)) (I.hok.laid k hp new)
theorem Inv.write {x e:Addr} {o:HO} {t':Nat} (I:Inv X pins σ H s) (mu:Mut (H x)) (he:e=x∨H e=some (.own x)) (k:∀ b u,b≠e->s.heap.get? b=some u->h'.get? b=some u) (heo:∃ u,h'.get? e=some u)
  (new:bX X.prog X.w (upd H x o) h' x o):Inv X pins σ (upd H x o) { s with heap:=h',toks:=t' }:=I.un (Un.write mu he k heo) (I.hok.write mu he k heo new)
theorem Inv.weak {σ':List (Option V)} (I:Inv X pins σ H s) (hl:σ'.length=σ.length) (w:∀ (i:Nat) v,σ'[i]?=some (some v)->σ[i]?=some (some v)):Inv X pins σ' H s :=
 ⟨I.ok,I.os,I.bare,I.base,let ⟨m,hn,hl'⟩:=I.loc; ⟨m,hn,fun i x v e1 e2 e3=>hl' i x v e1 (w i v e2) e3⟩,I.cell,I.free,I.freeC,I.pin,I.hok,hl.trans I.len⟩
theorem Inv.pins_of {pins':List (Addr×Obj)} (I:Inv X pins σ H s) (h:∀ p∈pins',s.heap.get? p.1=some p.2/\H p.1=none/\p.1≠X.env.locals/\p.1∉X.fs/\∀ v,p.2.data≠.cell v):Inv X pins' σ H s :=
 ⟨I.ok,I.os,I.bare,I.base,I.loc,I.cell,I.free,I.freeC,fun p hp=>(Qx.mp hp).elim (fun z=>I.pin p (Ji _ z)) (h p),I.hok,I.len⟩
theorem pS {N:List Str} (hN:N.Nodup) {i j:Nat} {x:Str} (a:N[i]?=some x) (b:N[j]?=some x):i=j:=by
 obtain ⟨h1,e1⟩:=Qd.mp a
 obtain ⟨h2,e2⟩:=Qd.mp b
 exact (List.getElem_inj hN).mp (e1.trans e2.symm)
theorem oF {M:Model} {A:Around} {E:Value->Shared->Prop} {i:Nat} {x:Str} {v:V} {u:Value} {Q:Unit->Shared->Prop} (I:Inv X pins σ H s) (hN:X.N.Nodup) (hi:X.N[i]?=some x) (hx:Loc X.env.scope x) (r:bO v u)
  (h:∀ s',Inv X pins (σ.set i (some v)) H s'->(∃ a,Heap.SameBut a s.heap s'.heap/\(a=X.env.locals∨X.env.cells.lookup x=some a))->Q () s') (hf:X.fn x=true∨X.env.scope.names.lookup x=some .local:=by first | exact .inl rfl | exact .inr rfl | assumption):wpAny M A (storeName X.env x u) Q E s:=by
 obtain ⟨m,hn,hl⟩:=id I.loc
 have hcls:(X.env.scope.kind==.class || (X.env.scope.kind==.module && X.env.locals !=X.env.globals))=false:=by rw [I.ok.kind]; rfl
 have hiσ:i < σ.length:=by rw [I.len]; exact (Qd.mp hi).1
 have cne:=I.cne
 have tracked:∀ {a:Addr} {h':Heap},(∃ o,s.heap.get? a=some o/\H a=none)->Heap.SameBut a s.heap h'->HOk X.prog X.w H h':=fun {a h'} ha hs b ob e=>by
  obtain ⟨_,_,hfree⟩:=ha
  refine (I.hok b ob e).stay (fun c w' hc q=>(hs.2 c ?_).trans q) (fun _ q=>q) fun _ _ q=>q
  rintro rfl
  rcases hc with rfl | hc
  ·rw [hfree] at e; cases e
  ·rw [hfree] at hc; cases hc
 rcases hx with hk | hk
 ·refine wpAny_storeName_local hk hn (fun h' hn' hs=>?_) hcls
  obtain ⟨oL,_,_,hoL,_⟩:=id hn
  refine h _ ⟨I.ok,I.os,I.bare,⟨fun b o e n hb hx=>?_,fun b o e n hb hx=>?_,I.base.free,fun b o e hx=>?_,I.base.tups,I.base.frzs,I.base.tbls⟩,⟨_,hn',fun j y v' e1 e2 e3=>?_⟩,fun y c e=>?_,I.free,I.freeC,fun p hp=>?_,tracked ⟨oL,hoL,I.free⟩ hs,by simpa using I.len⟩ ⟨_,hs,.inl rfl⟩
  ·exact (hs.2 b (Jb (Qo (Qm e) I.ok.above))).trans (I.base.keep b o e n hb hx)
  ·obtain ⟨sl,e1⟩:=I.base.slot b o e n hb hx
   exact ⟨sl,(hs.2 b (Jb (Qo (Qm e) I.ok.above))).trans e1⟩
  ·obtain ⟨o',e1⟩:=I.base.there b o e hx
   exact ⟨o',(hs.2 b (Jb (Qo (Qm e) I.ok.above))).trans e1⟩
  ·by_cases hj:j=i
   ·subst hj
    rw [hi] at e1; cases e1
    rw [Xp hiσ] at e2
    cases e2
    exact ⟨u,r,.inl ⟨hk,by simp⟩⟩
   ·rw [Zm (Ne.symm hj)] at e2
    obtain ⟨u',r',q⟩:=hl j y v' e1 e2 e3
    refine ⟨u',r',?_⟩
    rcases q with ⟨k,e⟩ | ⟨k,c,e,z⟩
    ·refine .inl ⟨k,?_⟩
     have:y≠x:=fun e=>hj (pS hN e1 (e ▸ hi))
     simp [this,e]
    ·exact .inr ⟨k,c,e,z.sameBut hs (cne y c e)⟩
  ·obtain ⟨w',z⟩:=I.cell y c e
   exact ⟨w',z.sameBut hs (cne y c e)⟩
  ·obtain ⟨e,n,ne,nf,d⟩:=I.pin p hp
   exact ⟨(hs.2 p.1 ne).trans e,n,ne,nf,d⟩
 ·have hfn:X.fn x=true:=by
   rcases hf with z | z
   ·exact z
   ·rw [z] at hk; cases hk
  obtain ⟨c,hc⟩:=I.ok.has x (.inl hk)
  obtain ⟨w',z⟩:=I.cell x c hc
  refine wpAny_storeName_cell I.ok.kind hk hc z (fun h' hc' hs=>?_)
  obtain ⟨oc,hoc,hocd⟩:=id z
  refine h { s with heap:=h' } ⟨I.ok,I.os,I.bare,⟨fun b o e n hb hx=>?_,fun b o e n hb hx=>?_,I.base.free,fun b o e hx=>?_,I.base.tups,I.base.frzs,I.base.tbls⟩,⟨m,hn.sameBut hs (Ne.symm (cne x c hc)),fun j y v' e1 e2 e3=>?_⟩,fun y c' e=>?_,I.free,I.freeC,fun p hp=>?_,tracked ⟨oc,hoc,I.freeC x c hc⟩ hs,by simpa using I.len⟩ ⟨c,hs,.inr hc⟩
  ·exact (hs.2 b (Jb (Qo (Qm e) (I.ok.cab x c hfn hc)))).trans (I.base.keep b o e n hb hx)
  ·obtain ⟨sl,e1⟩:=I.base.slot b o e n hb hx
   exact ⟨sl,(hs.2 b (Jb (Qo (Qm e) (I.ok.cab x c hfn hc)))).trans e1⟩
  ·obtain ⟨o',e1⟩:=I.base.there b o e hx
   exact ⟨o',(hs.2 b (Jb (Qo (Qm e) (I.ok.cab x c hfn hc)))).trans e1⟩
  ·by_cases hj:j=i
   ·subst hj
    rw [hi] at e1; cases e1
    rw [Xp hiσ] at e2
    cases e2
    exact ⟨u,r,.inr ⟨.inl hk,c,hc,hc'⟩⟩
   ·rw [Zm (Ne.symm hj)] at e2
    obtain ⟨u',r',q⟩:=hl j y v' e1 e2 e3
    refine ⟨u',r',?_⟩
    rcases q with q | ⟨k,c',e,z'⟩
    ·exact .inl q
    ·refine .inr ⟨k,c',e,z'.sameBut hs ?_⟩
     rintro rfl
     exact hj (pS hN e1 (I.ok.inj _ _ _ e hc ▸ hi))
  ·by_cases hcc:c'=c
   ·subst hcc; exact ⟨_,hc'⟩
   ·obtain ⟨w2,z2⟩:=I.cell y c' e
    exact ⟨w2,z2.sameBut hs hcc⟩
  ·obtain ⟨e,n,ne,nf,d⟩:=I.pin p hp
   refine ⟨(hs.2 p.1 ?_).trans e,n,ne,nf,d⟩
   intro q
   rw [q,hoc] at e
   have q':oc=p.2:=Option.some.inj e
   exact d w' (by rw [<- q']; exact hocd)
theorem vX {M:Model} {A:Around} {E:Value->Shared->Prop} {i:Nat} {x:Str} {v:V} {u:Value} {Q:Unit->Shared->Prop} (I:Inv X pins σ H s) (hN:X.N.Nodup) (hi:X.N[i]?=some x) (hx:Loc X.env.scope x) (r:bO v u)
  (h:∀ s',Inv X pins (σ.set i (some v)) H s'->Q () s') (hf:X.fn x=true∨X.env.scope.names.lookup x=some .local:=by first | exact .inl rfl | exact .inr rfl | assumption):wpAny M A (storeName X.env x u) Q E s :=
 oF I hN hi hx r (fun s' I' _=>h s' I') hf
theorem Inv.call' {s':Shared} {ch:List Addr} (I:Inv X pins σ H s) (ho:s'.os=s.os) (u:Un (frs X.stack) ch H H' s.heap s'.heap) (hok:HOk X.prog X.w H' s'.heap) (hg:AllBare s'.gens)
  (hch:∀ b∈ch,(b∈X.ex∨X.s₀.heap.objs.size<=b)/\b≠X.env.locals/\(∀ x c,X.env.cells.lookup x=some c->c≠b)/\∀ p∈X.pn++pins,p.1≠b):Inv X pins σ H' s':=by
 obtain ⟨h',g',d',t',o'⟩:=s'
 have e:o'=s.os:=ho
 subst e
 exact I.call (g':=g') (t':=t') (d':=d') u hok hg hch
end
abbrev XK:=Value->Option Addr->Hp->Prop
abbrev St:=List (Option V)
abbrev VK:=V->Hp->Prop
abbrev TE:=St->Hp->VK->Prop
abbrev TT:=St->Hp->(Bool->Hp->Prop)->Prop
abbrev TA:=St->Hp->(List V->Hp->Prop)->Prop
structure Ends where
 nx:St->Hp->Prop
 rt:VK
 bk:St->Hp->Prop:=fun _ _=>False
 ct:St->Hp->Prop:=fun _ _=>False
abbrev TS:=Ends->St->Hp->Prop
def EP (X:Cx) (pins:List (Addr×Obj)) (σ:St) (Q:VK) (u:Value) (s':Shared):Prop:=∃ v H',Inv X pins σ H' s'/\bO v u/\Q v H'
def TP (X:Cx) (pins:List (Addr×Obj)) (σ:St) (Q:Bool->Hp->Prop) (b:Bool) (s':Shared):Prop:=∃ H',Inv X pins σ H' s'/\Q b H'
def AP (X:Cx) (pins:List (Addr×Obj)) (σ:St) (Q:List V->Hp->Prop) (us:List Value) (s':Shared):Prop:=∃ vs H',Inv X pins σ H' s'/\aY vs us/\Q vs H'
def SP (X:Cx) (pins:List (Addr×Obj)) (D:Ends) (f:Flow) (s':Shared):Prop :=
 match f with
 | .next=>∃ σ' H',Inv X pins σ' H' s'/\D.nx σ' H'
 | .brk=>∃ σ' H',Inv X pins σ' H' s'/\D.bk σ' H'
 | .cont=>∃ σ' H',Inv X pins σ' H' s'/\D.ct σ' H'
 | .ret u=>∃ v σ' H',Inv X pins σ' H' s'/\bO v u/\D.rt v H'
def PE (X:Cx) (e:Expr) (t:TE):Prop :=
 ∀ (pins:List (Addr×Obj)) (s:Shared) (σ:St) (H:Hp) (Q:VK),Inv X pins σ H s->t σ H Q->wpAny (model X.prog X.w) X.A (eval e X.env) (EP X pins σ Q) X.xe s
def PT (X:Cx) (e:Expr) (t:TT):Prop :=
 ∀ (pins:List (Addr×Obj)) (s:Shared) (σ:St) (H:Hp) (Q:Bool->Hp->Prop),Inv X pins σ H s->t σ H Q->wpAny (model X.prog X.w) X.A (isTrue e X.env (eval e X.env)) (TP X pins σ Q) X.xe s
def PW (X:Cx) (e:Expr) (t:TT):Prop :=
 ∀ (whole:Sem Value) (pins:List (Addr×Obj)) (s:Shared) (σ:St) (H:Hp) (Q:Bool->Hp->Prop),Inv X pins σ H s->t σ H Q->wpAny (model X.prog X.w) X.A (isTrue e X.env whole) (TP X pins σ Q) X.xe s
theorem PW.pt {X:Cx} {e:Expr} {t:TT} (h:PW X e t):PT X e t:=h _
def PA (X:Cx) (es:List Expr) (t:TA):Prop :=
 ∀ (pos:Pos) (pins:List (Addr×Obj)) (s:Shared) (σ:St) (H:Hp) (Q:List V->Hp->Prop),Inv X pins σ H s->t σ H Q->wpAny (model X.prog X.w) X.A (spliced (backTo pos (starEach es X.env))) (AP X pins σ Q) X.xe s
def PS (X:Cx) (st:Stmt) (t:TS):Prop :=
 ∀ (pins:List (Addr×Obj)) (s:Shared) (σ:St) (H:Hp) (D:Ends),Inv X pins σ H s->t D σ H->wpAny (model X.prog X.w) X.A (exec st X.env) (SP X pins D) X.xe s
def PSs (X:Cx) (st:List Stmt) (t:TS):Prop :=
 ∀ (pins:List (Addr×Obj)) (s:Shared) (σ:St) (H:Hp) (D:Ends),Inv X pins σ H s->t D σ H->wpAny (model X.prog X.w) X.A (execs st X.env) (SP X pins D) X.xe s
theorem thn {α:Type} {t:Sem α} {Q Q':α->Shared->Prop} {M:Model} {A:Around} {E:Value->Shared->Prop} {s:Shared} (h:wpAny M A t Q E s) (hQ:∀ a s,Q a s->Q' a s):wpAny M A t Q' E s:=wpAny_mono h hQ fun _ _ x=>x
section
variable {X:Cx}
def gT (i:Nat):TE:=fun σ H Q=>∃ v,σ[i]?=some (some v)/\Q v H
abbrev tC (v:V):TE:=fun _ H Q=>Q v H
theorem aBl {i:Nat} {x:Str} {pos:Pos} (hN:X.N[i]?=some x) (hv:Vis X.env.scope x) (hd:(x==("__debug__" : Str))=false:=by decide) (hcd:(x==("__classdict__" : Str))=false:=by decide):PE X (.Name x pos) (gT i):=by
 intro pins s σ H Q I h
 obtain ⟨v,e,h⟩:=h
 obtain ⟨m,hn,hl⟩:=I.loc
 obtain ⟨u,r,l⟩:=hl i x v hN e hv
 have fin:EP X pins σ Q u s:=⟨v,H,I,r,h⟩
 rcases l with ⟨hk,hm⟩ | ⟨hk,c,hc,hcell⟩
 ·exact wpAny_Name (wpAny_loadName_local I.ok.kind hk hn hm fin) hd
 ·rcases hk with hk | hk
  ·exact wpAny_Name (wpAny_loadName_cell I.ok.kind hk hc hcell fin) hd
  ·exact wpAny_Name (wpAny_loadName_free I.ok.kind hk hc hcell fin hcd) hd
theorem aG {i j pos}:PE X (.Constant (.int i) j pos) (tC (.int i)):=fun _ _ _ H _ I h=>wpAny_Constant_int ⟨.int i,H,I.tok _,⟨_,rfl⟩,h⟩
theorem dO {b j pos}:PE X (.Constant (.bool b) j pos) (tC (.bl b)):=fun _ _ _ H _ I h=>Constant_bool ⟨.bl b,H,I,rfl,h⟩
theorem gU {j pos}:PE X (.Constant .none j pos) (tC .non):=fun _ _ _ H _ I h=>Constant_none ⟨.non,H,I,rfl,h⟩
theorem gB {x j pos}:PE X (.Constant (.str x) j pos) (tC (.str x)):=fun _ _ _ H _ I h=>Calls.Constant_str ⟨.str x,H,I.tok _,⟨_,rfl⟩,h⟩
def Gl (X:Cx) (x:Str):Prop:=X.env.kindOf x=some .globalImplicit
theorem nC {E:Value->Shared->Prop} {pins:List (Addr×Obj)} {s:Shared} {σ:St} {H:Hp} {x:Str} {u:Value} {pos:Pos} {Q:Value->Shared->Prop} (I:Inv X pins σ H s) (hg:Gl X x) (hm:X.mg x=some u) (h:Q u s)
  (hd:(x==("__debug__" : Str))=false:=by decide):wpAny (model X.prog X.w) X.A (eval (.Name x pos) X.env) Q E s :=
 Calls.Name_function_global I.ok.kind hg (Calls.loadGlobal_global (by rw [I.ok.glob]; exact I.mod.glob.keeps I.bk) hm h) hd
theorem jB {E:Value->Shared->Prop} {pins:List (Addr×Obj)} {s:Shared} {σ:St} {H:Hp} {x:Str} {u:Value} {pos:Pos} {Q:Value->Shared->Prop} (I:Inv X pins σ H s) (hg:Gl X x) (hm:X.mg x=none) (hv:bootBuiltins x=some u) (h:Q u s)
  (hn:x ≠ "__name__" := by decide) (hd:(x==("__debug__" : Str))=false:=by decide):wpAny (model X.prog X.w) X.A (eval (.Name x pos) X.env) Q E s:=by
 obtain ⟨mb,h1,h2⟩:=I.mod.blt
 exact Calls.Name_function_global I.ok.kind hg (Calls.loadGlobal_builtin (by rw [I.ok.glob]; exact I.mod.glob.keeps I.bk) hm (by rw [I.ok.blt]; exact h1.keeps I.bk) ((h2 x hn).trans hv) h) hd
theorem lV {x:Str} {v:V} {u:Value} {pos:Pos} (hg:Gl X x) (hm:X.mg x=some u) (r:bO v u) (hd:(x==("__debug__" : Str))=false:=by decide):PE X (.Name x pos) (tC v) :=
 fun _ _ _ H _ I h=>nC I hg hm ⟨v,H,I,r,h⟩ hd
theorem gJ {x:Str} {v:V} {u:Value} {pos:Pos} (hg:Gl X x) (hm:X.mg x=none) (hv:bootBuiltins x=some u) (r:bO v u) (hn:x ≠ "__name__" := by decide) (hd:(x==("__debug__" : Str))=false:=by decide):PE X (.Name x pos) (tC v) :=
 fun _ _ _ H _ I h=>jB I hg hm hv ⟨v,H,I,r,h⟩ hn hd
variable {a b:Expr} {ta tb:TE} {pos:Pos}
def PC (X:Cx) (op:CmpOp) (a b:Expr) (t:TE):Prop :=
 ∀ (pins:List (Addr×Obj)) (s:Shared) (σ:St) (H:Hp) (Q:VK),Inv X pins σ H s->t σ H Q ->
  wpAny (model X.prog X.w) X.A (eval a X.env) (fun v s₁=>wpAny (model X.prog X.w) X.A (eval b X.env) (fun u s₂=>wpAny (model X.prog X.w) X.A (compareOp op v u) (EP X pins σ Q) X.xe s₂) X.xe s₁) X.xe s
theorem aBm (b:Expr) {op:CmpOp} (h:op≠.In) (h2:op≠.NotIn):behindInMarks op b=false:=by
 have e1:(op==CmpOp.In)=false:=by cases op <;> first | rfl | exact absurd rfl h
 have e2:(op==CmpOp.NotIn)=false:=by cases op <;> first | rfl | exact absurd rfl h2
 cases b <;> simp [behindInMarks,e1,e2]
def aEz (ta:TE):TE:=fun σ H Q=>ta σ H fun x H1=>Q (.bl (!decide (x=.non))) H1
theorem bO.none_iff {x:V} {v:Value} (r:bO x v):(v==Value.none)=decide (x=.non):=by
 cases x with
 | non=>cases r; rfl
 | bl _=>cases r; rfl
 | int _=>obtain ⟨t,rfl⟩:=r; rfl
 | str _=>obtain ⟨t,rfl⟩:=r; rfl
 | byt _=>obtain ⟨t,rfl⟩:=r; rfl
 | flt _=>obtain ⟨t,rfl⟩:=r; rfl
 | ref _=>cases r; rfl
 | ty _=>cases r; rfl
theorem aCP {j pos'} (ha:PE X a ta):PC X .IsNot a (.Constant .none j pos') (aEz ta):=by
 intro pins s σ H Q I h
 refine thn (ha pins s σ H _ I h) fun v s1 hx9=>?_
 obtain ⟨x,H1,I1,r1,q1⟩:=hx9
 exact Constant_none (isnot_none_gen ⟨.bl _,H1,I1,by rw [r1.none_iff]; rfl,q1⟩)
def tB (t:TE):TT:=fun σ H Q=>t σ H fun x H1=>∃ c,x=.bl c/\Q c H1
theorem aBn {op:CmpOp} {t:TE} (h:PC X op a b t) (h1:behindInMarks op b=false:=by first | exact aBm _ (by decide) (by decide) | rfl):PT X (.Compare a [op] [b] pos) (tB t):=by
 intro pins s σ H Q I hw
 refine wpAny_isTrue_Compare1 (thn (h pins s σ H _ I hw) fun v s1 h1=>thn h1 fun u s2 h2=>thn h2 fun c s3 hx9=>?_) h1
 obtain ⟨x,H1,I1,r1,q1⟩:=hx9
 obtain ⟨d,rfl,q⟩:=q1
 cases r1
 exact wpAny_truthy_bool ⟨H1,I1,q⟩
theorem cU {e:Expr} {t:TE} (h:PE X e t) (he:∀ whole,isTrue e X.env whole=(do let v<-whole; standAt e.pos; holding [v] (truthy v)):=by intro _; rfl):PT X e (tB t):=by
 intro pins s σ H Q I hw
 refine isTrue_plain (thn (h pins s σ H _ I hw) fun v s1 hx9=>?_) (he _)
 obtain ⟨x,H1,I1,r1,q1⟩:=hx9
 obtain ⟨d,rfl,q⟩:=q1
 cases r1
 exact wpAny_truthy_bool ⟨H1,I1,q⟩
variable {tA tB':TT} {kY:List Expr}
def aFi (t u:TT):TT:=fun σ H Q=>t σ H fun c H1=>if c=true then u σ H1 Q else Q false H1
def tOr (t u:TT):TT:=fun σ H Q=>t σ H fun c H1=>if c=true then Q true H1 else u σ H1 Q
def aFj (t:TT):TT:=fun σ H Q=>t σ H fun c H1=>Q (!c) H1
theorem aCQ (ha:PT X a tA):PW X (.BoolOp .And [a] pos) tA:=by
 intro wh pins s σ H Q I h
 refine isTrue_and (thn (ha pins s σ H Q I h) fun c s1 e=>?_)
 cases c with
 | true=>exact isTrue_and_nil e
 | false=>exact e
theorem jC (ha:PT X a tA):PW X (.BoolOp .Or [a] pos) tA:=by
 intro wh pins s σ H Q I h
 refine isTrue_or (thn (ha pins s σ H Q I h) fun c s1 e=>?_)
 cases c with
 | false=>exact isTrue_or_nil e
 | true=>exact e
theorem aDO (ha:PT X a tA) (hb:PW X (.BoolOp .And (b::kY) pos) tB'):PW X (.BoolOp .And (a::b::kY) pos) (aFi tA tB'):=by
 intro wh pins s σ H Q I h
 refine isTrue_and (thn (ha pins s σ H _ I h) fun c s1 hx9=>?_)
 obtain ⟨H1,I1,q1⟩:=hx9
 cases c with
 | true=>exact hb wh pins s1 σ H1 Q I1 q1
 | false=>exact ⟨H1,I1,q1⟩
theorem jX (ha:PT X a tA) (hb:PW X (.BoolOp .Or (b::kY) pos) tB'):PW X (.BoolOp .Or (a::b::kY) pos) (tOr tA tB'):=by
 intro wh pins s σ H Q I h
 refine isTrue_or (thn (ha pins s σ H _ I h) fun c s1 hx9=>?_)
 obtain ⟨H1,I1,q1⟩:=hx9
 cases c with
 | true=>exact ⟨H1,I1,q1⟩
 | false=>exact hb wh pins s1 σ H1 Q I1 q1
theorem cV (ha:PT X a tA):PT X (.UnaryOp .Not a pos) (aFj tA):=by
 intro pins s σ H Q I h
 exact isTrue_not (ha pins s σ H (fun c H1=>Q (!c) H1) I h)
def aEA (ta tb:TE):TE:=fun σ H Q=>ta σ H fun x H1=>∃ c,x=.bl c/\if c=true then tb σ H1 Q else Q (.bl false) H1
def aFk (ta tb:TE):TE:=fun σ H Q=>ta σ H fun x H1=>∃ c,x=.bl c/\if c=true then Q (.bl true) H1 else tb σ H1 Q
def aEB (ta:TE):TE:=fun σ H Q=>ta σ H fun x H1=>∃ c,x=.bl c/\Q (.bl (!c)) H1
theorem oG {op} {t:TE} (h:PE X a t):PE X (.BoolOp op [a] pos) t:=fun pins s σ H Q I hw=>BoolOp_one (h pins s σ H Q I hw)
theorem pT (ha:PE X a ta) (hb:PE X (.BoolOp .And (b::kY) pos) tb):PE X (.BoolOp .And (a::b::kY) pos) (aEA ta tb):=by
 intro pins s σ H Q I h
 refine BoolOp_and (thn (ha pins s σ H _ I h) fun v s1 hx9=>?_)
 obtain ⟨x,H1,I1,r1,q1⟩:=hx9
 obtain ⟨c,rfl,q1⟩:=q1
 cases r1
 refine wpAny_truthy_bool ?_
 cases c with
 | true=>exact hb pins s1 σ H1 Q I1 q1
 | false=>exact ⟨.bl false,H1,I1,rfl,q1⟩
theorem aEC (ha:PE X a ta) (hb:PE X (.BoolOp .Or (b::kY) pos) tb):PE X (.BoolOp .Or (a::b::kY) pos) (aFk ta tb):=by
 intro pins s σ H Q I h
 refine BoolOp_or (thn (ha pins s σ H _ I h) fun v s1 hx9=>?_)
 obtain ⟨x,H1,I1,r1,q1⟩:=hx9
 obtain ⟨c,rfl,q1⟩:=q1
 cases r1
 refine wpAny_truthy_bool ?_
 cases c with
 | false=>exact hb pins s1 σ H1 Q I1 q1
 | true=>exact ⟨.bl true,H1,I1,rfl,q1⟩
theorem aDP (ha:PE X a ta):PE X (.UnaryOp .Not a pos) (aEB ta):=by
 intro pins s σ H Q I h
 refine UnaryOp_ (thn (ha pins s σ H _ I h) fun v s1 hx9=>?_)
 obtain ⟨x,H1,I1,r1,q1⟩:=hx9
 obtain ⟨c,rfl,q1⟩:=q1
 cases r1
 exact not_of (wpAny_truthy_bool ⟨.bl (!c),H1,I1,rfl,q1⟩)
end
def SqL (K:PySem.W.Frag) (H:Hp) (a:Addr) (xs:List V):Prop :=
 Rd H a (.lst xs) ∨
  ∃ (o:Obj) (its:Array Value) (n:Nat),K.lookup a=some o/\o.cls=.type "list" /\ o.dict=none/\o.data=.seq its n/\its.size<=sizeLine/\aY xs its.toList
def SqT (K:PySem.W.Frag) (H:Hp) (a:Addr) (xs:List V):Prop :=
 Rd H a (.tup xs) ∨
  ∃ (o:Obj) (its:Array Value) (n:Nat),K.lookup a=some o/\o.cls=.type "tuple" /\ o.dict=none/\o.data=.seq its n/\its.size<=sizeLine/\aY xs its.toList
def aFl:Value->Option V
 | .none=>some .non
 | .bool b=>some (.bl b)
 | .int i _=>some (.int i)
 | .str x _=>some (.str x)
 | .bytes b _=>some (.byt b)
 | .float b _=>some (.flt b)
 | .ref a=>some (.ref a)
 | .type n=>some (.ty n)
 | _=>none
theorem bO.abs {x:V} {u:Value} (r:bO x u):aFl u=some x:=by
 cases x with
 | non=>cases r; rfl
 | bl _=>cases r; rfl
 | int _=>obtain ⟨t,rfl⟩:=r; rfl
 | str _=>obtain ⟨t,rfl⟩:=r; rfl
 | byt _=>obtain ⟨t,rfl⟩:=r; rfl
 | flt _=>obtain ⟨t,rfl⟩:=r; rfl
 | ref _=>cases r; rfl
 | ty _=>cases r; rfl
theorem bO.inj {x y:V} {u:Value} (r:bO x u) (q:bO y u):x=y:=Option.some.inj (r.abs.symm.trans q.abs)
theorem aY.inj:∀ {xs ys:List V} {us:List Value},aY xs us->aY ys us->xs=ys
 := by
 intro xs ys us h
 induction h generalizing ys with
 | nil=>intro q; cases q; rfl
 | cons r t ih=>intro q; cases q with | cons r' t'=>rw [r.inj r',ih t']
section
variable {X:Cx} {pins:List (Addr×Obj)} {σ:St} {H:Hp} {s:Shared} {a:Addr} {xs ys:List V}
theorem SqL.of {K:PySem.W.Frag} (h:H a=some (.lst xs)):SqL K H a xs:=.inl (.inl h)
theorem SqT.of {K:PySem.W.Frag} (h:H a=some (.tup xs)):SqT K H a xs:=.inl (.inl h)
theorem Inv.list (I:Inv X pins σ H s) (h:SqL X.K H a xs):∃ its:List Value,aY xs its/\PlainL s.heap a its.toArray/\xs.length<=sizeLine:=by
 rcases h with h | ⟨o,its,n,hk,hc,hd,hs,hz,r⟩
 ·obtain ⟨z,its,n,r,e⟩:=h.ok I.hok
  exact ⟨its,r,⟨_,n,e,rfl,rfl,rfl⟩,z⟩
 ·refine ⟨its.toList,r,⟨o,n,I.kIn a o hk,hc,hd,by simpa using hs⟩,?_⟩
  have e:=r.length
  simp only [Array.length_toList] at e
  omega
theorem Inv.tuple (I:Inv X pins σ H s) (h:SqT X.K H a xs):∃ its:List Value,aY xs its/\IsTup s.heap a its.toArray/\xs.length<=sizeLine:=by
 rcases h with h | ⟨o,its,n,hk,hc,_,hs,hz,r⟩
 ·obtain ⟨z,its,n,r,p⟩:=h.ok I.hok
  exact ⟨its,r,⟨_,p,rfl,n,rfl⟩,z⟩
 ·refine ⟨its.toList,r,⟨o,I.kIn a o hk,hc,n,by simpa using hs⟩,?_⟩
  have e:=r.length
  simp only [Array.length_toList] at e
  omega
theorem Inv.list_inj (I:Inv X pins σ H s) (h:SqL X.K H a xs) (h':SqL X.K H a ys):xs=ys:=by
 obtain ⟨its,r,⟨o,n,e,_,_,d⟩,_⟩:=I.list h
 obtain ⟨its',r',⟨o',n',e',_,_,d'⟩,_⟩:=I.list h'
 rw [e] at e'; cases e'
 rw [d] at d'
 injection d' with d1 _
 have:its=its':=by simpa using congrArg Array.toList d1
 subst this
 exact r.inj r'
theorem Inv.tuple_inj (I:Inv X pins σ H s) (h:SqT X.K H a xs) (h':SqT X.K H a ys):xs=ys:=by
 obtain ⟨its,r,⟨o,e,_,n,d⟩,_⟩:=I.tuple h
 obtain ⟨its',r',⟨o',e',_,n',d'⟩,_⟩:=I.tuple h'
 rw [e] at e'; cases e'
 rw [d] at d'
 injection d' with d1 _
 have:its=its':=by simpa using congrArg Array.toList d1
 subst this
 exact r.inj r'
end
abbrev Cx.wish (X:Cx) (E:Value->Shared->Prop):Cx:={ X with xe:=E }
abbrev Cx.nox (X:Cx):Cx:=X.wish fun _ _=>False
theorem Cx.Ok.wish {X:Cx} (ok:X.Ok) (E:Value->Shared->Prop):(X.wish E).Ok :=
 ⟨ok.mod,ok.kind,ok.glob,ok.blt,ok.above,ok.inj,ok.has,ok.cab,ok.hd,ok.frames,ok.stk,ok.exf,ok.bs,ok.bsz,ok.noex,ok.exfs,ok.funs,ok.frf⟩
theorem Cx.Ok.unwish {X:Cx} {E:Value->Shared->Prop} (ok:(X.wish E).Ok):X.Ok :=
 ⟨ok.mod,ok.kind,ok.glob,ok.blt,ok.above,ok.inj,ok.has,ok.cab,ok.hd,ok.frames,ok.stk,ok.exf,ok.bs,ok.bsz,ok.noex,ok.exfs,ok.funs,ok.frf⟩
section
variable {X:Cx} {pins:List (Addr×Obj)} {σ:St} {H:Hp} {s:Shared} {E:Value->Shared->Prop}
theorem Inv.wish (I:Inv X pins σ H s) (E:Value->Shared->Prop):Inv (X.wish E) pins σ H s:=⟨I.ok.wish E,I.os,I.bare,I.base,I.loc,I.cell,I.free,I.freeC,I.pin,I.hok,I.len⟩
theorem Inv.unwish (I:Inv (X.wish E) pins σ H s):Inv X pins σ H s:=⟨I.ok.unwish,I.os,I.bare,I.base,I.loc,I.cell,I.free,I.freeC,I.pin,I.hok,I.len⟩
theorem SP.unwish {D:Ends} {f:Flow} {s':Shared} (h:SP (X.wish E) pins D f s'):SP X pins D f s':=by
 cases f with
 | next=>obtain ⟨σ',H',I,q⟩:=h; exact ⟨σ',H',I.unwish,q⟩
 | brk=>obtain ⟨σ',H',I,q⟩:=h; exact ⟨σ',H',I.unwish,q⟩
 | cont=>obtain ⟨σ',H',I,q⟩:=h; exact ⟨σ',H',I.unwish,q⟩
 | ret u=>obtain ⟨v,σ',H',I,r,q⟩:=h; exact ⟨v,σ',H',I.unwish,r,q⟩
theorem PE.nox {e:Expr} {t:TE} (h:PE X.nox e t):PE X e t:=fun pins s σ H Q I hw =>
 wpAny_mono (h pins s σ H Q (I.wish _) hw) (fun _ _ ⟨v,H',I',r,q⟩=>⟨v,H',I'.unwish,r,q⟩) fun _ _ z=>False.elim z
theorem PT.nox {e:Expr} {t:TT} (h:PT X.nox e t):PT X e t:=fun pins s σ H Q I hw =>
 wpAny_mono (h pins s σ H Q (I.wish _) hw) (fun _ _ ⟨H',I',q⟩=>⟨H',I'.unwish,q⟩) fun _ _ z=>False.elim z
theorem PSs.nox {st:List Stmt} {t:TS} (h:PSs X.nox st t):PSs X st t:=fun pins s σ H D I hw =>
 wpAny_mono (h pins s σ H D (I.wish _) hw) (fun _ _ q=>q.unwish) fun _ _ z=>False.elim z
end
section
variable {X:Cx} {st:Stmt} {kY:List Stmt} {t u:TS} {e:Expr} {te:TE} {pos:Pos}
def aED:TS:=fun D σ H=>D.nx σ H
def aBo (t u:TS):TS:=fun D σ H=>t { D with nx:=u D } σ H
theorem aW:PSs X [] aED:=fun _ _ σ H _ I h=>wpAny_execs_nil ⟨σ,H,I,h⟩
theorem aE (h1:PS X st t) (h2:PSs X kY u):PSs X (st::kY) (aBo t u):=by
 intro pins s σ H D I h
 refine wpAny_execs_cons (thn (h1 pins s σ H { D with nx:=u D } I h) fun f s1 q=>?_)
 cases f with
 | next =>
  obtain ⟨σ',H',I',q⟩:=q
  exact h2 pins s1 σ' H' D I' q
 | ret v=>exact q
 | brk=>exact q
 | cont=>exact q
theorem aF (h1:PS X st t):PSs X [st] t:=by
 intro pins s σ H D I h
 refine wpAny_execs_cons (thn (h1 pins s σ H D I h) fun f s1 q=>?_)
 cases f with
 | next=>exact wpAny_execs_nil q
 | ret v=>exact q
 | brk=>exact q
 | cont=>exact q
theorem Inv.quiet {pins:List (Addr×Obj)} {σ:St} {H:Hp} {s:Shared} (I:Inv X pins σ H s):interactive X.env=false:=by simp [interactive,I.ok.kind]
def zL (te:TE):TS:=fun D σ H=>te σ H fun _ H1=>D.nx σ H1
theorem bI (he:PE X e te) (hs:swapsWith e none pos.line X.env=pure false:=by rfl):PS X (.Expr e pos) (zL te):=by
 intro pins s σ H D I h
 refine wpAny_Expr_any (thn (he pins s σ H _ I h) fun v s1 hx9=>?_) I.quiet hs
 obtain ⟨x,H1,I1,r1,q1⟩:=hx9
 exact ⟨σ,H1,I1,q1⟩
def aFm (te:TE):TS:=fun D σ H=>te σ H D.rt
theorem aQ (he:PE X e te):PS X (.Return (some e) pos) (aFm te):=by
 intro pins s σ H D I h
 refine wpAny_Return_some (thn (he pins s σ H _ I h) fun v s1 hx9=>?_)
 obtain ⟨x,H1,I1,r1,q1⟩:=hx9
 exact ⟨x,σ,H1,I1,r1,q1⟩
def aFn (c:TT) (t u:TS):TS:=fun D σ H=>c σ H fun b H1=>if b=true then t D σ H1 else u D σ H1
theorem cF {c:Expr} {a b:List Stmt} {tc:TT} (hc:PT X c tc) (ha:PSs X a t) (hb:PSs X b u):PS X (.If c a b pos) (aFn tc t u):=by
 intro pins s σ H D I h
 refine wpAny_If (thn (hc pins s σ H _ I h) fun d s1 hx9=>?_)
 obtain ⟨H1,I1,q1⟩:=hx9
 cases d with
 | true=>exact ha pins s1 σ H1 D I1 q1
 | false=>exact hb pins s1 σ H1 D I1 q1
def aDQ:TS:=fun _ _ _=>False
theorem gO {sts:List Stmt}:PSs X sts aDQ:=fun _ _ _ _ _ _ h=>h.elim
end
abbrev TG:=V->St->Hp->(St->Hp->Prop)->Prop
abbrev TGs:=List V->St->Hp->(St->Hp->Prop)->Prop
def PG (X:Cx) (target:Expr) (t:TG):Prop :=
 ∀ (pins:List (Addr×Obj)) (s:Shared) (σ:St) (H:Hp) (v:V) (u:Value) (Q:St->Hp->Prop),Inv X pins σ H s->bO v u->t v σ H Q ->
  wpAny (model X.prog X.w) X.A (assign target X.env u) (fun _ s'=>∃ σ' H',Inv X pins σ' H' s'/\Q σ' H') X.xe s
def PGs (X:Cx) (ts:List Expr) (t:TGs):Prop :=
 ∀ (pins:List (Addr×Obj)) (s:Shared) (σ:St) (H:Hp) (vs:List V) (us:List Value) (Q:St->Hp->Prop),Inv X pins σ H s->aY vs us->t vs σ H Q ->
  wpAny (model X.prog X.w) X.A (assignInOrder ((assignEach ts X.env).map (·.2)) us) (fun _ s'=>∃ σ' H',Inv X pins σ' H' s'/\Q σ' H') X.xe s
abbrev aDR:=V->V->V->Hp->(Hp->Prop)->Prop
def aEE (X:Cx) (t:aDR):Prop :=
 ∀ (pins:List (Addr×Obj)) (s:Shared) (σ:St) (H:Hp) (o i v:V) (ov iv u:Value) (Q:Hp->Prop),Inv X pins σ H s->bO o ov->bO i iv->bO v u->t o i v H Q ->
  wpAny (model X.prog X.w) X.A (setItem ov iv u) (fun _ s'=>∃ H',Inv X pins σ H' s'/\Q H') X.xe s
section
variable {X:Cx} {pos:Pos}
def jL (i:Nat):TG:=fun v σ H Q=>Q (σ.set i (some v)) H
theorem aK {i:Nat} {x:Str} (hN:X.N.Nodup) (hi:X.N[i]?=some x) (hx:Loc X.env.scope x) (hf:X.fn x=true∨X.env.scope.names.lookup x=some .local:=by first | exact .inl rfl | exact .inr rfl | assumption):PG X (.Name x pos) (jL i):=by
 intro pins s σ H v u Q I r h
 exact wpAny_assign_Name (vX I hN hi hx r (fun s' I'=>⟨_,H,I',h⟩) hf)
def aFo:TGs:=fun vs σ H Q=>vs = []/\Q σ H
def aEF (t:TG) (u:TGs):TGs:=fun vs σ H Q=>∃ v r,vs=v::r/\t v σ H fun σ' H'=>u r σ' H' Q
theorem eF:PGs X [] aFo:=by
 intro pins s σ H vs us Q I r h
 obtain ⟨e,h⟩:=h
 subst e
 cases r
 exact assignInOrder_nil ⟨σ,H,I,h⟩
theorem aV {e:Expr} {es:List Expr} {t:TG} {u:TGs} (h1:PG X e t) (h2:PGs X es u)
  (hs:(assignEach (e::es) X.env).map (·.2)=assign e X.env::(assignEach es X.env).map (·.2):=by rfl):PGs X (e::es) (aEF t u):=by
 intro pins s σ H vs us Q I r h
 obtain ⟨v,vr,e1,h⟩:=h
 subst e1
 cases r with
 | cons r rr =>
  rw [hs]
  refine assignInOrder_cons (thn (h1 pins s σ H _ _ _ I r h) fun _ s1 hx9=>?_)
  obtain ⟨σ1,H1,I1,q1⟩:=hx9
  exact h2 pins s1 σ1 H1 _ _ Q I1 rr q1
def aEG (K:PySem.W.Frag) (n:Nat) (t:TGs):TG:=fun v σ H Q=>∃ a xs,v=.ref a/\SqT K H a xs/\xs.length=n/\t xs σ H Q
theorem jR {es:List Expr} {k:Nat} {t:TGs} {n:Nat} (hc:X.calm=true) (h:PGs X es t)
  (hn:(assignEach es X.env).length=n:=by rfl) (hst:(assignEach es X.env).findIdx? (·.1)=none:=by rfl):PG X (.Tuple es k pos) (aEG X.K n t):=by
 intro pins s σ H v u Q I r hw
 obtain ⟨a,xs,e1,hq,hl,hw⟩:=hw
 subst e1
 cases r
 obtain ⟨its,rv,ht,hz⟩:=I.tuple hq
 refine assign_Tuple_tuple (I.ok.hd hc) ht (by simp [hn,<- hl,rv.length]) hst fun h' hx=>?_
 have I1:Inv X pins σ H { s with heap:=h' }:=I.kept (t':=s.toks) fun b o e=>hx b o (Jb (Qm e)) e
 exact h pins _ σ H xs _ Q I1 (by simpa using rv) hw
def aFp (to ti:TE) (t:aDR):TG:=fun v σ H Q=>to σ H fun o H1=>ti σ H1 fun i H2=>t o i v H2 fun H3=>Q σ H3
theorem aBp {o i:Expr} {to ti:TE} {t:aDR} (ho:PE X o to) (hi:PE X i ti) (hs:aEE X t)
  (ha:∀ v,assign (.Subscript o i pos) X.env v=(do
   let ov<-holding [v] (eval o X.env)
   let iv<-holding [v,ov] (eval i X.env)
   standAt pos
   holding [v,ov,iv] (setItem ov iv v)
   release [v,ov,iv] []):=by intro _; rfl):PG X (.Subscript o i pos) (aFp to ti t):=by
 intro pins s σ H v u Q I r h
 rw [ha]
 refine wpAny_bind (wpAny_holding (thn (ho pins s σ H _ I h) fun ov s1 hx9=>?_))
 obtain ⟨x,H1,I1,r1,q1⟩:=hx9
 refine wpAny_bind (wpAny_holding (thn (hi pins s1 σ H1 _ I1 q1) fun iv s2 hx9=>?_))
 obtain ⟨y,H2,I2,r2,q2⟩:=hx9
 refine wpAny_bind (wpAny_standAt (wpAny_bind (wpAny_holding (thn (hs pins s2 σ H2 x y v ov iv u _ I2 r1 r2 r q2) fun _ s3 hx9=>?_))))
 obtain ⟨H3,I3,q3⟩:=hx9
 exact wpAny_release ⟨σ,H3,I3,q3⟩
def aBq (te:TE) (g:TG):TS:=fun D σ H=>te σ H fun x H1=>g x σ H1 D.nx
theorem pU {tg e:Expr} {te:TE} {g:TG} (he:PE X e te) (hg:PG X tg g) (hs:swapsWithSole [tg] e pos.line X.env=pure false:=by rfl) (hw:swappedStores [tg] e X.env=pure none:=by rfl)
  (h1:(assignEach [tg] X.env).map (·.2) = [assign tg X.env]:=by rfl):PS X (.Assign [tg] e pos) (aBq te g):=by
 intro pins s σ H D I h
 refine wpAny_Assign_stores (thn (he pins s σ H _ I h) fun v s1 hx9=>?_) hs hw
 obtain ⟨x,H1,I1,r1,q1⟩:=hx9
 rw [h1]
 exact thn (hg pins s1 σ H1 x v _ I1 r1 q1) fun _ s2 q=>q
theorem aS {i:Nat} {x:Str} {e:Expr} {te:TE} {pos':Pos} (hN:X.N.Nodup) (hi:X.N[i]?=some x) (hx:Loc X.env.scope x) (he:PE X e te) (hs:swapsWith e (some (.Name x pos')) pos.line X.env=pure false:=by rfl) (hf:X.fn x=true∨X.env.scope.names.lookup x=some .local:=by first | exact .inl rfl | exact .inr rfl | assumption) :
  PS X (.Assign [.Name x pos'] e pos) (aBq te (jL i)):=by
 intro pins s σ H D I h
 refine wpAny_Assign_Name (thn (he pins s σ H _ I h) fun v s1 hx9=>?_) hs
 obtain ⟨y,H1,I1,r1,q1⟩:=hx9
 exact vX I1 hN hi hx r1 (fun s2 I2=>⟨_,H1,I2,q1⟩) hf
def aDS (c:TT) (tb:TS):TS:=fun D σ H=>∃ W:Nat->St->Hp->Prop,(∃ m,W m σ H)/\∀ m σ H,W m σ H ->
 c σ H fun b H1=>if b=true then ∃ N:St->Hp->Prop,(∀ σ' H',N σ' H'->∃ m',m' < m/\W m' σ' H')/\tb { D with nx:=N,ct:=N,bk:=D.nx } σ H1 else D.nx σ H1
theorem vY {c:Expr} {body:List Stmt} {tc:TT} {tb:TS} (hp:PassesOwn (model X.prog X.w) X.A X.env X.xe) (hc:PT X c tc) (hb:PSs X body tb):PS X (.While c body [] pos) (aDS tc tb):=by
 intro pins s σ H D I h
 obtain ⟨W,⟨m0,w0⟩,turn⟩:=h
 refine wpAny_While (codeAny_whileLoop (fun n s'=>∃ σ' H',Inv X pins σ' H' s'/\W n σ' H') ?_ m0 ⟨σ,H,I,w0⟩)
 rintro n s1 ⟨σ1,H1,I1,w1⟩
 refine wpAny_passesOwn hp (thn (hc pins s1 σ1 H1 _ I1 (turn n σ1 H1 w1)) fun b s2 hx9=>?_)
 obtain ⟨H2,I2,q2⟩:=hx9
 cases b with
 | true =>
  obtain ⟨N,hN,q2⟩:=q2
  rw [if_pos rfl]
  refine wpAny_passesOwn hp (thn (hb pins s2 σ1 H2 _ I2 q2) fun f s3 q3=>?_)
  cases f with
  | next =>
   obtain ⟨σ3,H3,I3,n3⟩:=q3
   obtain ⟨m',hm,w3⟩:=hN σ3 H3 n3
   exact ⟨m',hm,σ3,H3,I3,w3⟩
  | cont =>
   obtain ⟨σ3,H3,I3,n3⟩:=q3
   obtain ⟨m',hm,w3⟩:=hN σ3 H3 n3
   exact ⟨m',hm,σ3,H3,I3,w3⟩
  | brk=>exact q3
  | ret v=>exact q3
 | false =>
  rw [if_neg Qs]
  exact wpAny_execs_nil ⟨σ1,H2,I2,q2⟩
end
structure It where
 go:Nat->Hp->Prop
 yld:Nat->Hp->V->Hp->Prop
 stop:Nat->Hp->Prop
def lA (X:Cx) (pins:List (Addr×Obj)) (H:Hp) (b:Addr):Prop :=
 H b=none/\b≠X.env.locals/\b∉X.fs/\(b∈X.ex∨X.s₀.heap.objs.size<=b)/\(∀ x c,X.env.cells.lookup x=some c->c≠b)/\∀ p∈X.pn++pins,p.1≠b
theorem Inv.fpOk {X:Cx} {pins:List (Addr×Obj)} {σ:St} {H H':Hp} {s:Shared} {b:Addr} (I:Inv X pins σ H s) (hb:s.heap.objs.size<=b) (hn:H' b=none):lA X pins H' b:=by
 refine ⟨hn,Xd (Qo I.lt hb),I.nofs hb,.inr (Qw I.sz hb),fun x c e z=>?_,fun p hp z=>?_⟩
 ·obtain ⟨v,q⟩:=I.cell x c e
  exact absurd (Qo q.lt (by rw [z]; exact hb)) (Qy _)
 ·exact absurd (Qo (Qm (I.pin p hp).1) (by rw [z]; exact hb)) (Qy _)
structure Turn (P:Program) (w:World) (K:PySem.W.Frag) (tg:Expr) (J:It) (fp:List Addr) (it:Addr) (tn:Nat->Heap->Prop):Prop where
 mem:it∈fp
 obj:∀ i h,tn i h->∀ b∈fp,∃ o,h.get? b=some o/\∀ v,o.data≠.cell v
 keep:∀ i h h',tn i h->(∀ b∈fp,∀ o,h.get? b=some o->h'.get? b=some o)->tn i h'
 item:∀ (X:Cx),X.prog=P->X.w=w->X.K=K->X.calm=true->∀ (i:Nat) (pins:List (Addr×Obj)) (s:Shared) (σ:St) (H:Hp) (E:Value->Shared->Prop),Inv X pins σ H s->(∀ b∈fp,lA X pins H b)->tn i s.heap->J.go i H ->
  wpAny (model P w) X.A (pyNext (.ref it)) (fun r s1=>∃ u,r=some u /\
   wpAny (model P w) X.A (letOwnedTupleGo tg (.ref it) u) (fun _ s2=>∃ x H',Inv X pins σ H' s2/\bO x u/\J.yld i H x H'/\tn (i+1) s2.heap/\∀ b∈fp,H' b=none) E s1) E s
 done:∀ (X:Cx),X.prog=P->X.w=w->X.K=K->X.calm=true->∀ (i:Nat) (pins:List (Addr×Obj)) (s:Shared) (σ:St) (H:Hp) (E:Value->Shared->Prop),Inv X pins σ H s->(∀ b∈fp,lA X pins H b)->tn i s.heap->J.stop i H ->
  wpAny (model P w) X.A (pyNext (.ref it)) (fun r s1=>r=none/\Inv X pins σ H s1) E s
 self:∀ (A:Around) (i:Nat) (s:Shared) (Q:Value->Shared->Prop) (E:Value->Shared->Prop),tn i s.heap->Q (.ref it) s->wpAny (model P w) A (pyIter (.ref it)) Q E s
abbrev TI:=St->Hp->(It->Hp->Prop)->Prop
def PIE (X:Cx) (pins:List (Addr×Obj)) (σ:St) (tg:Expr) (R:It->Hp->Prop) (itv:Value) (s2:Shared):Prop :=
 ∃ (it:Addr) (fp:List Addr) (tn:Nat->Heap->Prop) (J:It) (H':Hp),itv=.ref it/\Inv X pins σ H' s2/\Turn X.prog X.w X.K tg J fp it tn/\tn 0 s2.heap/\(∀ b∈fp,lA X pins H' b)/\R J H'
def PI (X:Cx) (tg iter:Expr) (wi:TI):Prop :=
 ∀ (pins:List (Addr×Obj)) (s:Shared) (σ:St) (H:Hp) (R:It->Hp->Prop),Inv X pins σ H s->wi σ H R ->
  wpAny (model X.prog X.w) X.A (eval iter X.env) (fun v s1=>wpAny (model X.prog X.w) X.A (pyIter v) (PIE X pins σ tg R) X.xe s1) X.xe s
theorem zM {M:Model} {A:Around} {E:Value->Shared->Prop} {s:Shared} {tg:Expr} {it:Addr} {u:Value} {o:Obj} {n:String} {vs:Array Value} {Q:Unit->Shared->Prop} (ho:s.heap.get? it=some o) (hc:o.cls=.type n) (hd:o.data=.fields vs)
  (hn : ["enumerate", "zip", "dict_itemiterator", "dict_reverseitemiterator", "odict_iterator", "itertools.zip_longest", "itertools.pairwise"].contains n=false) (hQ:Q () s):wpAny M A (letOwnedTupleGo tg (.ref it) u) Q E s:=by
 unfold letOwnedTupleGo
 cases tg <;> first
  | exact wpAny_pure hQ
  | (cases u <;> first
    | exact wpAny_pure hQ
    | (refine wpAny_bind (wpAny_load ho ?_)
       rw [hc,hd]
       show wpAny M A (if (["enumerate", "zip", "dict_itemiterator", "dict_reverseitemiterator", "odict_iterator", "itertools.zip_longest", "itertools.pairwise"].contains n && vs[0]?==some (rawInt _))=true then _ else _) Q E s
       rw [if_neg (by intro h; rw [hn,Xa] at h; cases h)]
       exact wpAny_pure hQ))
def Itl (K:PySem.W.Frag) (a:Addr):It :=
 ⟨fun i H=>∃ xs x,SqL K H a xs/\xs[i]?=some x,fun i H x H'=>H'=H/\∀ xs,SqL K H a xs->xs[i]?=some x,fun i H=>∃ xs,SqL K H a xs/\xs.length<=i⟩
def Itt (K:PySem.W.Frag) (a:Addr):It :=
 ⟨fun i H=>∃ xs x,SqT K H a xs/\xs[i]?=some x,fun i H x H'=>H'=H/\∀ xs,SqT K H a xs->xs[i]?=some x,fun i H=>∃ xs,SqT K H a xs/\xs.length<=i⟩
def Itr (lo:Int) (n:Nat):It:=⟨fun i _=>i < n,fun i H x H'=>H'=H/\x=.int (lo+i),fun i _=>n<=i⟩
theorem aAE {P:Program} {w:World} {K:PySem.W.Frag} {tg:Expr} (a it:Addr):Turn P w K tg (Itl K a) [it] it (fun i h=>h.IsListIter it a i) where
 mem:=by simp
 obj:=fun i h st b hb=>by
  have e:b=it:=by simpa using hb
  subst e
  obtain ⟨o,e,c,d⟩:=st
  exact ⟨o,e,fun v z=>by rw [d] at z; cases z⟩
 keep:=fun i h h' st k=>st.at fun o e=>k it (by simp) o e
 item:=by
  intro X hP hw hK hc i pins s σ H E I hf st hg
  subst hP hw hK
  obtain ⟨xs,x,hq,hx⟩:=hg
  obtain ⟨its,rv,p,hz⟩:=I.list hq
  obtain ⟨u,hu,ru⟩:=rv.get hx
  obtain ⟨f0,f1,f2,f3,f4,f5⟩:=hf it (by simp)
  refine wpAny_pyNext_list_item st p.isList (x:=u) (by simpa using hu) fun h' st' sb=>?_
  have I1:Inv X pins σ H { s with heap:=h' }:=I.turned (t':=s.toks) (fun b o hb e=>(sb.2 b hb).trans e) f0 f1 f3 f4 f5
  obtain ⟨o,e,c,d⟩:=id st'
  exact ⟨u,rfl,zM (s:={ s with heap:=h' }) e c d (by decide) ⟨x,H,I1,ru,⟨rfl,fun ys hy=>by rw [I.list_inj hy hq]; exact hx⟩,st',fun b hb=>(hf b hb).1⟩⟩
 done:=by
  intro X hP hw hK hc i pins s σ H E I hf st hg
  subst hP hw hK
  obtain ⟨xs,hq,hx⟩:=hg
  obtain ⟨its,rv,p,hz⟩:=I.list hq
  obtain ⟨f0,f1,f2,f3,f4,f5⟩:=hf it (by simp)
  have hl:=rv.length
  exact wpAny_pyNext_list_end (I.ok.hd hc) st p.isList (by simp; omega) fun h' eb=>⟨rfl,I.turned (t':=s.toks) (fun b o hb e=>eb b o hb e) f0 f1 f3 f4 f5⟩
 self:=fun _ _ _ _ _ st h=>wpAny_pyIter_listiter st h
theorem xX {P:Program} {w:World} {K:PySem.W.Frag} {tg:Expr} (a it:Addr):Turn P w K tg (Itt K a) [it] it (fun i h=>h.IsTupleIter it a i) where
 mem:=by simp
 obj:=fun i h st b hb=>by
  have e:b=it:=by simpa using hb
  subst e
  obtain ⟨o,e,c,d⟩:=st
  exact ⟨o,e,fun v z=>by rw [d] at z; cases z⟩
 keep:=fun i h h' st k=>st.at fun o e=>k it (by simp) o e
 item:=by
  intro X hP hw hK hc i pins s σ H E I hf st hg
  subst hP hw hK
  obtain ⟨xs,x,hq,hx⟩:=hg
  obtain ⟨its,rv,p,hz⟩:=I.tuple hq
  obtain ⟨u,hu,ru⟩:=rv.get hx
  obtain ⟨f0,f1,f2,f3,f4,f5⟩:=hf it (by simp)
  refine wpAny_pyNext_tuple_item st (show s.heap.IsTuple a its.toArray from p) (x:=u) (by simpa using hu) fun h' st' sb=>?_
  have I1:Inv X pins σ H { s with heap:=h' }:=I.turned (t':=s.toks) (fun b o hb e=>(sb.2 b hb).trans e) f0 f1 f3 f4 f5
  obtain ⟨o,e,c,d⟩:=id st'
  exact ⟨u,rfl,zM (s:={ s with heap:=h' }) e c d (by decide) ⟨x,H,I1,ru,⟨rfl,fun ys hy=>by rw [I.tuple_inj hy hq]; exact hx⟩,st',fun b hb=>(hf b hb).1⟩⟩
 done:=by
  intro X hP hw hK hc i pins s σ H E I hf st hg
  subst hP hw hK
  obtain ⟨xs,hq,hx⟩:=hg
  obtain ⟨its,rv,p,hz⟩:=I.tuple hq
  obtain ⟨f0,f1,f2,f3,f4,f5⟩:=hf it (by simp)
  have hl:=rv.length
  exact wpAny_pyNext_tuple_end (I.ok.hd hc) st (show s.heap.IsTuple a its.toArray from p) (by simp; omega) fun h' eb=>⟨rfl,I.turned (t':=s.toks) (fun b o hb e=>eb b o hb e) f0 f1 f3 f4 f5⟩
 self:=fun _ _ _ _ _ st h=>wpAny_pyIter_tupleiter st h
theorem xY {P:Program} {w:World} {K:PySem.W.Frag} {tg:Expr} (it:Addr) (lo:Int) (n:Nat):Turn P w K tg (Itr lo n) [it] it (fun i h=>IsRangeIter h it (lo+(i:Nat)*1) ((n:Int) - (i:Nat)) 1) where
 mem:=by simp
 obj:=fun i h st b hb=>by
  have e:b=it:=by simpa using hb
  subst e
  exact ⟨_,st,fun v z=>by
   have z':Data.fields _=Data.cell v:=z
   cases z'⟩
 keep:=fun i h h' st k=>k it (by simp) _ st
 item:=by
  intro X hP hw hK hc i pins s σ H E I hf st hg
  subst hP hw hK
  obtain ⟨f0,f1,f2,f3,f4,f5⟩:=hf it (by simp)
  have W:=Walks.range (prog:=X.prog) (w:=X.w) (I.ok.hd hc) it lo 1 n
  refine W.item i s _ _ hg st fun v h' tk hv st' kk=>?_
  obtain ⟨t,rfl⟩:=hv
  have I1:Inv X pins σ H { s with heap:=h',toks:=tk }:=I.turned (fun b o hb e=>kk b o (by simpa using hb) e) f0 f1 f3 f4 f5
  refine ⟨_,rfl,zM (s:={ s with heap:=h',toks:=tk }) (n := "range_iterator") st' rfl rfl (by decide) ⟨.int (lo+i),H,I1,⟨t,?_⟩,⟨rfl,rfl⟩,st',fun b hb=>(hf b hb).1⟩⟩
  rw [Int.mul_one]
 done:=by
  intro X hP hw hK hc i pins s σ H E I hf st hg
  subst hP hw hK
  obtain ⟨f0,f1,f2,f3,f4,f5⟩:=hf it (by simp)
  exact wpAny_pyNext_range_end (I.ok.hd hc) st (by have:n<=i:=hg; omega) fun h' eb=>⟨rfl,I.turned (t':=s.toks) (fun b o hb e=>eb b o hb e) f0 f1 f3 f4 f5⟩
 self:=fun _ _ _ _ _ st h=>wpAny_pyIter_rangeiter st h
section
variable {X:Cx} {tg:Expr}
def aDz (K:PySem.W.Frag) (tl:TE):TI:=fun σ H R=>tl σ H fun x H1=>∃ a,x=.ref a/\(∃ xs,SqL K H1 a xs)/\R (Itl K a) H1
def aEH (K:PySem.W.Frag) (tl:TE):TI:=fun σ H R=>tl σ H fun x H1=>∃ a,x=.ref a/\(∃ xs,SqT K H1 a xs)/\R (Itt K a) H1
theorem iI {l:Expr} {tl:TE} (hl:PE X l tl):PI X tg l (aDz X.K tl):=by
 intro pins s σ H R I h
 refine thn (hl pins s σ H _ I h) fun v s1 hx9=>?_
 obtain ⟨x,H1,I1,r1,q1⟩:=hx9
 obtain ⟨a,e,⟨xs,hq⟩,q⟩:=q1
 subst e
 cases r1
 obtain ⟨its,rv,p,hz⟩:=I1.list hq
 refine wpAny_pyIter_list p.isList ?_
 refine ⟨s1.heap.objs.size,[s1.heap.objs.size],_,_,H1,rfl,I1.kept (t':=s1.toks) fun b o e=>Qa _ e,aAE a _,⟨_,Qk _ rfl,rfl,rfl⟩,fun b hb=>?_,q⟩
 have e:b=s1.heap.objs.size:=by simpa using hb
 subst e
 exact I1.fpOk (Qg _) (I1.hok.fresh (Qg _))
theorem gW {l:Expr} {tl:TE} (hl:PE X l tl):PI X tg l (aEH X.K tl):=by
 intro pins s σ H R I h
 refine thn (hl pins s σ H _ I h) fun v s1 hx9=>?_
 obtain ⟨x,H1,I1,r1,q1⟩:=hx9
 obtain ⟨a,e,⟨xs,hq⟩,q⟩:=q1
 subst e
 cases r1
 obtain ⟨its,rv,p,hz⟩:=I1.tuple hq
 refine wpAny_pyIter_tuple (show s1.heap.IsTuple a its.toArray from p) ?_
 refine ⟨s1.heap.objs.size,[s1.heap.objs.size],_,_,H1,rfl,I1.kept (t':=s1.toks) fun b o e=>Qa _ e,xX a _,⟨_,Qk _ rfl,rfl,rfl⟩,fun b hb=>?_,q⟩
 have e:b=s1.heap.objs.size:=by simpa using hb
 subst e
 exact I1.fpOk (Qg _) (I1.hok.fresh (Qg _))
theorem vZ {pins:List (Addr×Obj)} {σ:St} {H:Hp} {s:Shared} {R:It->Hp->Prop} {E:Value->Shared->Prop} {lo hi:Int} {t u v:Tok} {tk:Nat} (I:Inv X pins σ H s) (h1:-(2^62)<=lo) (h2:lo < 2^62) (h3:-(2^62)<=hi) (h4:hi < 2^62)
  (q:R (Itr lo (hi - lo).toNat) H):wpAny (model X.prog X.w) X.A (pyIter (.ref s.heap.objs.size)) (PIE X pins σ tg R) E { s with heap:=s.heap.push { cls:=.type "range",data:=.fields #[.int lo t,.int hi u,.int 1 v] },toks:=tk }:=by
 refine wpAny_pyIter_range (IsRange.new ..) (small_one h1 h2 h3 h4) ?_
 have I1:Inv X pins σ H { s with heap:=s.heap.push { cls:=.type "range",data:=.fields #[.int lo t,.int hi u,.int 1 v] },toks:=tk }:=I.kept fun b o e=>Qa _ e
 refine ⟨(s.heap.push { cls:=.type "range",data:=.fields #[.int lo t,.int hi u,.int 1 v] }).objs.size,[(s.heap.push { cls:=.type "range",data:=.fields #[.int lo t,.int hi u,.int 1 v] }).objs.size],_,_,H,rfl,
  I1.kept (t':=tk) fun b o e=>Qa _ e,xY _ lo (hi - lo).toNat,?_,fun b hb=>?_,q⟩
 ·have e1:lo+((0:Nat):Int)*1=lo:=by simp
  have e2:(((hi - lo).toNat:Nat):Int) - ((0:Nat):Int)=Builtin.Range.rangeSize lo hi 1:=by rw [rangeSize_one]; split <;> omega
  show IsRangeIter _ _ (lo+((0:Nat):Int)*1) ((((hi - lo).toNat:Nat):Int) - ((0:Nat):Int)) 1
  rw [e1,e2]
  exact Qk _ rfl
 ·have e:b=(s.heap.push { cls:=.type "range",data:=.fields #[.int lo t,.int hi u,.int 1 v] }).objs.size:=by simpa using hb
  subst e
  exact I1.fpOk (Qg _) (I1.hok.fresh (Qg _))
def aEI (ta:TA):TI:=fun σ H R=>ta σ H fun vs H1=>∃ j:Int,vs = [.int j]/\-(2^62)<=j/\j < 2^62/\R (Itr 0 j.toNat) H1
def aEJ (ta:TA):TI:=fun σ H R=>ta σ H fun vs H1=>∃ i j:Int,vs = [.int i,.int j]/\(-(2^62)<=i/\i < 2^62/\-(2^62)<=j/\j < 2^62)/\R (Itr i (j - i).toNat) H1
theorem cL {a:Expr} {ta:TA} {p pos:Pos} (hg:Gl X "range") (hm:X.mg "range" = none) (ha:PA X [a] ta) (hs:starEach [a] X.env = [(false,eval a X.env)]:=by rfl):PI X tg (.Call (.Name "range" p) [a] [] pos) (aEI ta):=by
 intro pins s σ H R I h
 refine Call_ (jB I hg hm boot_range (PyProof.Rows.callWith_type1 (thn (ha pos pins s σ H _ I h) fun us s1 hx9=>?_) hs rfl))
 obtain ⟨vs,H1,I1,r1,q1⟩:=hx9
 obtain ⟨j,e,q1,q2,q⟩:=q1
 subst e
 cases r1 with
 | cons r rr =>
  cases rr
  obtain ⟨t,rfl⟩:=r
  exact call_range_1 (vZ I1 (by omega) (by omega) q1 q2 (by simpa using q))
theorem aAF {a b:Expr} {ta:TA} {p pos:Pos} (hg:Gl X "range") (hm:X.mg "range" = none) (ha:PA X [a,b] ta) (hs:starEach [a,b] X.env = [(false,eval a X.env),(false,eval b X.env)]:=by rfl) (hs2:starEach [b] X.env = [(false,eval b X.env)]:=by rfl) :
  PI X tg (.Call (.Name "range" p) [a,b] [] pos) (aEJ ta):=by
 intro pins s σ H R I h
 refine Call_ (jB I hg hm boot_range (PyProof.Rows.callWith_type1 (thn (ha pos pins s σ H _ I h) fun us s1 hx9=>?_) (by rw [hs,hs2]) (by rw [hs2]; rfl)))
 obtain ⟨vs,H1,I1,r1,q1⟩:=hx9
 obtain ⟨i,j,e,⟨q1,q2,q3,q4⟩,q⟩:=q1
 subst e
 cases r1 with
 | cons r rr =>
  cases rr with
  | cons r' rr =>
   cases rr
   obtain ⟨t,rfl⟩:=r
   obtain ⟨t',rfl⟩:=r'
   exact call_range_2 (vZ I1 q1 q2 q3 q4 q)
def aEK (wi:TI) (g:TG) (tb:TS):TS:=fun D σ H=>wi σ H fun J H1=>∃ W:Nat->Nat->St->Hp->Prop,(∃ m,W 0 m σ H1)/\∀ i m σ H,W i m σ H ->
 (J.stop i H/\D.nx σ H)∨(J.go i H/\∃ N:St->Hp->Prop,(∀ σ' H',N σ' H'->∃ m',m' < m/\W (i+1) m' σ' H')/\∀ x H',J.yld i H x H'->g x σ H' fun σ2 H2=>tb { D with nx:=N,ct:=N,bk:=D.nx } σ2 H2)
def lB (fp:List Addr) (h:Heap):List (Addr×Obj):=fp.filterMap fun b=>(h.get? b).map fun o=>(b,o)
theorem dQ {fp:List Addr} {h:Heap} {b:Addr} {o:Obj} (hb:b∈fp) (e:h.get? b=some o):(b,o)∈lB fp h:=Yt.mpr ⟨b,hb,by rw [e]; rfl⟩
theorem sM {fp:List Addr} {h:Heap} {p:Addr×Obj} (hp:p∈lB fp h):p.1∈fp/\h.get? p.1=some p.2:=by
 obtain ⟨b,hb,e⟩:=Yt.mp hp
 cases q:h.get? b with
 | none=>rw [q] at e; cases e
 | some o =>
  rw [q] at e
  have e':(b,o)=p:=Option.some.inj e
  subst e'
  exact ⟨hb,q⟩
theorem Inv.pinned {pins:List (Addr×Obj)} {σ:St} {H:Hp} {s:Shared} {fp:List Addr} (I:Inv X pins σ H s) (hf:∀ b∈fp,lA X pins H b) (ho:∀ b∈fp,∃ o,s.heap.get? b=some o/\∀ v,o.data≠.cell v):Inv X (pins++lB fp s.heap) σ H s :=
 I.pins_of fun p hp=>(Qx.mp hp).elim (fun z=>I.pin p (Qr _ z)) fun z=>by
  obtain ⟨hb,e⟩:=sM z
  obtain ⟨f0,f1,f2,_⟩:=hf p.1 hb
  obtain ⟨o,e',d⟩:=ho p.1 hb
  rw [e] at e'; cases e'
  exact ⟨e,f0,f1,f2,d⟩
theorem Inv.unpinned {pins pl:List (Addr×Obj)} {σ:St} {H:Hp} {s:Shared} (I:Inv X (pins++pl) σ H s):Inv X pins σ H s:=I.pins_of fun p hp=>I.pin p (Qr _ (Ji _ hp))
theorem cO {iter:Expr} {body:List Stmt} {wi:TI} {g:TG} {tb:TS} {pos:Pos} (hp:PassesOwn (model X.prog X.w) X.A X.env X.xe) (hc:X.calm=true) (hi:PI X tg iter wi) (hg:PG X tg g) (hb:PSs X body tb)
  (hs:∀ x,foldedSetIterable iter X.env x=pure x:=by intro _; rfl):PS X (.For tg iter body [] pos) (aEK wi g tb):=by
 intro pins s σ H D I h
 refine wpAny_For (thn (hi pins s σ H _ I h) fun v s1 h1=>thn h1 fun itv s2 h2=>?_) hs
 obtain ⟨it,fp,tn,J,H2,e,I2,T,st2,f2,W,⟨m0,w0⟩,turn⟩:=h2
 subst e
 -- what stays true of the iterator's objects through the loop
 have stat:∀ {H':Hp},(∀ b∈fp,H' b=none)->∀ b∈fp,lA X pins H' b:=fun hn b hb=>⟨hn b hb,(f2 b hb).2⟩
 refine codeAny_forLoop_any (fun n s'=>∃ i σ' H',Inv X pins σ' H' s'/\tn i s'.heap/\(∀ b∈fp,H' b=none)/\W i n σ' H') ?_ m0 ⟨0,σ,H2,I2,st2,fun b hb=>(f2 b hb).1,w0⟩
 rintro n s3 ⟨i,σ3,H3,I3,st3,fr3,w3⟩
 rcases turn i n σ3 H3 w3 with ⟨stop,qn⟩ | ⟨go,N,hN,step⟩
 ·refine wpAny_passesOwn hp (thn (T.done X rfl rfl rfl hc i pins s3 σ3 H3 X.xe I3 (stat fr3) st3 stop) fun r s4 hx9=>?_)
  obtain ⟨hr,I4⟩:=hx9
  subst hr
  exact wpAny_execs_nil ⟨σ3,H3,I4,qn⟩
 ·refine wpAny_passesOwn hp (thn (T.item X rfl rfl rfl hc i pins s3 σ3 H3 X.xe I3 (stat fr3) st3 go) fun r s4 hx9=>?_)
  obtain ⟨u,hr,h4⟩:=hx9
  subst hr
  refine wpAny_passesOwn hp (thn h4 fun _ s5 hx9=>?_)
  obtain ⟨x,H5,I5,r5,y5,st5,fr5⟩:=hx9
  have I5':=I5.pinned (stat fr5) (T.obj _ _ st5)
  refine wpAny_passesOwn hp (thn (hg _ s5 σ3 H5 x u _ I5' r5 (step x H5 y5)) fun _ s6 hx9=>?_)
  obtain ⟨σ6,H6,I6,q6⟩:=hx9
  refine wpAny_passesOwn hp (thn (hb _ s6 σ6 H6 _ I6 q6) fun f s7 q7=>?_)
  have again:∀ {σ7:St} {H7:Hp},Inv X (pins++lB fp s5.heap) σ7 H7 s7->N σ7 H7->∃ m,m < n/\∃ i σ' H',Inv X pins σ' H' s7/\tn i s7.heap/\(∀ b∈fp,H' b=none)/\W i m σ' H':=fun {σ7 H7} I7 n7=>by
   obtain ⟨m',hm,w7⟩:=hN σ7 H7 n7
   refine ⟨m',hm,i+1,σ7,H7,I7.unpinned,T.keep _ _ _ st5 fun b hb o e=>(I7.pin (b,o) (Qr _ (Qr _ (dQ hb e)))).1,fun b hb=>?_,w7⟩
   obtain ⟨o,e,d⟩:=T.obj _ _ st5 b hb
   exact (I7.pin (b,o) (Qr _ (Qr _ (dQ hb e)))).2.1
  cases f with
  | next=>obtain ⟨σ7,H7,I7,n7⟩:=q7; exact again I7 n7
  | cont=>obtain ⟨σ7,H7,I7,n7⟩:=q7; exact again I7 n7
  | brk=>obtain ⟨σ7,H7,I7,q7⟩:=q7; exact ⟨σ7,H7,I7.unpinned,q7⟩
  | ret v=>obtain ⟨x7,σ7,H7,I7,r7,q7⟩:=q7; exact ⟨x7,σ7,H7,I7.unpinned,r7,q7⟩
end
theorem gX {K:PySem.W.Frag} {a:Addr} {xs:List V} {g:TG} {tb:TS} {D:Ends} {σ:St} {H:Hp} (Pv:Nat->St->Hp->Prop) (h0:Pv 0 σ H) (hl:∀ i σ H,i<=xs.length->Pv i σ H->SqL K H a xs)
  (hs:∀ i x σ H,xs[i]?=some x->Pv i σ H->g x σ H fun σ2 H2=>tb { D with nx:=Pv (i+1),ct:=Pv (i+1),bk:=D.nx } σ2 H2) (hd:∀ σ H,Pv xs.length σ H->D.nx σ H) :
  ∃ W:Nat->Nat->St->Hp->Prop,(∃ m,W 0 m σ H)/\∀ i m σ H,W i m σ H ->
   ((Itl K a).stop i H/\D.nx σ H)∨((Itl K a).go i H/\∃ N:St->Hp->Prop,(∀ σ' H',N σ' H'->∃ m',m' < m/\W (i+1) m' σ' H')/\∀ x H',(Itl K a).yld i H x H'->g x σ H' fun σ2 H2=>tb { D with nx:=N,ct:=N,bk:=D.nx } σ2 H2):=by
 refine ⟨fun i m σ H=>m=xs.length - i/\i<=xs.length/\Pv i σ H,⟨xs.length,by simp,Jh _,h0⟩,?_⟩
 rintro i m σ H ⟨rfl,hi,p⟩
 have q:=hl i σ H hi p
 by_cases hlt:i < xs.length
 ·refine .inr ⟨⟨xs,xs[i],q,by simp [hlt]⟩,Pv (i+1),fun σ' H' p'=>⟨xs.length - (i+1),by omega,rfl,hlt,p'⟩,fun x H' y=>?_⟩
  obtain ⟨e,y⟩:=y
  subst e
  exact hs i x σ _ (y xs q) p
 ·have e:i=xs.length:=by omega
  subst e
  exact .inl ⟨⟨xs,q,Qg _⟩,hd σ H p⟩
theorem tZ {K:PySem.W.Frag} {a:Addr} {xs:List V} {g:TG} {tb:TS} {D:Ends} {σ:St} {H:Hp} (Pv:Nat->St->Hp->Prop) (h0:Pv 0 σ H) (hl:∀ i σ H,i<=xs.length->Pv i σ H->SqT K H a xs)
  (hs:∀ i x σ H,xs[i]?=some x->Pv i σ H->g x σ H fun σ2 H2=>tb { D with nx:=Pv (i+1),ct:=Pv (i+1),bk:=D.nx } σ2 H2) (hd:∀ σ H,Pv xs.length σ H->D.nx σ H) :
  ∃ W:Nat->Nat->St->Hp->Prop,(∃ m,W 0 m σ H)/\∀ i m σ H,W i m σ H ->
   ((Itt K a).stop i H/\D.nx σ H)∨((Itt K a).go i H/\∃ N:St->Hp->Prop,(∀ σ' H',N σ' H'->∃ m',m' < m/\W (i+1) m' σ' H')/\∀ x H',(Itt K a).yld i H x H'->g x σ H' fun σ2 H2=>tb { D with nx:=N,ct:=N,bk:=D.nx } σ2 H2):=by
 refine ⟨fun i m σ H=>m=xs.length - i/\i<=xs.length/\Pv i σ H,⟨xs.length,by simp,Jh _,h0⟩,?_⟩
 rintro i m σ H ⟨rfl,hi,p⟩
 have q:=hl i σ H hi p
 by_cases hlt:i < xs.length
 ·refine .inr ⟨⟨xs,xs[i],q,by simp [hlt]⟩,Pv (i+1),fun σ' H' p'=>⟨xs.length - (i+1),by omega,rfl,hlt,p'⟩,fun x H' y=>?_⟩
  obtain ⟨e,y⟩:=y
  subst e
  exact hs i x σ _ (y xs q) p
 ·have e:i=xs.length:=by omega
  subst e
  exact .inl ⟨⟨xs,q,Qg _⟩,hd σ H p⟩
theorem fU {lo:Int} {n:Nat} {g:TG} {tb:TS} {D:Ends} {σ:St} {H:Hp} (Pv:Nat->St->Hp->Prop) (h0:Pv 0 σ H)
  (hs:∀ i σ H,i < n->Pv i σ H->g (.int (lo+i)) σ H fun σ2 H2=>tb { D with nx:=Pv (i+1),ct:=Pv (i+1),bk:=D.nx } σ2 H2) (hd:∀ σ H,Pv n σ H->D.nx σ H) :
  ∃ W:Nat->Nat->St->Hp->Prop,(∃ m,W 0 m σ H)/\∀ i m σ H,W i m σ H ->
   ((Itr lo n).stop i H/\D.nx σ H)∨((Itr lo n).go i H/\∃ N:St->Hp->Prop,(∀ σ' H',N σ' H'->∃ m',m' < m/\W (i+1) m' σ' H')/\∀ x H',(Itr lo n).yld i H x H'->g x σ H' fun σ2 H2=>tb { D with nx:=N,ct:=N,bk:=D.nx } σ2 H2):=by
 refine ⟨fun i m σ H=>m=n - i/\i<=n/\Pv i σ H,⟨n,by simp,Jh _,h0⟩,?_⟩
 rintro i m σ H ⟨rfl,hi,p⟩
 by_cases hlt:i < n
 ·refine .inr ⟨hlt,Pv (i+1),fun σ' H' p'=>⟨n - (i+1),by omega,rfl,hlt,p'⟩,fun x H' y=>?_⟩
  obtain ⟨e,y⟩:=y
  subst e y
  exact hs i σ _ hlt p
 ·have e:i=n:=by omega
  subst e
  exact .inl ⟨Qg _,hd σ H p⟩
abbrev R2:=V->V->Hp->VK->Prop
def OpR (X:Cx) (f:Value->Value->Sem Value) (r:R2):Prop :=
 ∀ (pins:List (Addr×Obj)) (s:Shared) (σ:St) (H:Hp) (x y:V) (v u:Value) (Q:VK),Inv X pins σ H s->bO x v->bO y u->r x y H Q ->
  wpAny (model X.prog X.w) X.A (f v u) (EP X pins σ Q) X.xe s
def UnR (X:Cx) (f:Value->Sem Value) (r:V->Hp->VK->Prop):Prop :=
 ∀ (pins:List (Addr×Obj)) (s:Shared) (σ:St) (H:Hp) (x:V) (v:Value) (Q:VK),Inv X pins σ H s->bO x v->r x H Q ->
  wpAny (model X.prog X.w) X.A (f v) (EP X pins σ Q) X.xe s
def eJ (X:Cx) (f:Value) (r:List V->Hp->VK->Prop):Prop :=
 ∀ (pins:List (Addr×Obj)) (s:Shared) (σ:St) (H:Hp) (xs:List V) (us:List Value) (Q:VK),Inv X pins σ H s->aY xs us->r xs H Q ->
  wpAny (model X.prog X.w) X.A (call f us) (EP X pins σ Q) X.xe s
def aFq (X:Cx) (r:V->Hp->(Bool->Hp->Prop)->Prop):Prop :=
 ∀ (pins:List (Addr×Obj)) (s:Shared) (σ:St) (H:Hp) (x:V) (v:Value) (Q:Bool->Hp->Prop),Inv X pins σ H s->bO x v->r x H Q ->
  wpAny (model X.prog X.w) X.A (truthy v) (TP X pins σ Q) X.xe s
def tOp (r:R2) (ta tb:TE):TE:=fun σ H Q=>ta σ H fun x H1=>tb σ H1 fun y H2=>r x y H2 Q
def tUn (r:V->Hp->VK->Prop) (ta:TE):TE:=fun σ H Q=>ta σ H fun x H1=>r x H1 Q
def rI (C:Int->Int->Prop) (g:Int->Int->V):R2:=fun x y H Q=>∃ i j,x=.int i/\y=.int j/\C i j/\Q (g i j) H
def rI0 (g:Int->Int->V):R2:=fun x y H Q=>∃ i j,x=.int i/\y=.int j/\Q (g i j) H
def rU (g:Int->V):V->Hp->VK->Prop:=fun x H Q=>∃ i,x=.int i/\Q (g i) H
section
variable {X:Cx} {a b c:Expr} {ta tb tc:TE} {pos:Pos}
theorem aDT (ha:PE X a ta) (hb:PE X b tb) {pins:List (Addr×Obj)} {s:Shared} {σ:St} {H:Hp} {R:V->V->Hp->Prop} (I:Inv X pins σ H s)
  (h:ta σ H fun x H1=>tb σ H1 fun y H2=>R x y H2) {Q:Value->Shared->Prop} {f:Value->Value->Sem Value}
  (hf:∀ v u s2 x y H2,Inv X pins σ H2 s2->bO x v->bO y u->R x y H2->wpAny (model X.prog X.w) X.A (f v u) Q X.xe s2) :
  wpAny (model X.prog X.w) X.A (eval a X.env) (fun v s₁=>wpAny (model X.prog X.w) X.A (eval b X.env) (fun u s₂=>wpAny (model X.prog X.w) X.A (f v u) Q X.xe s₂) X.xe s₁) X.xe s:=by
 refine thn (ha pins s σ H _ I h) fun v s1 hx9=>?_
 obtain ⟨x,H1,I1,r1,q1⟩:=hx9
 refine thn (hb pins s1 σ H1 _ I1 q1) fun u s2 hx9=>?_
 obtain ⟨y,H2,I2,r2,q2⟩:=hx9
 exact hf v u s2 x y H2 I2 r1 r2 q2
theorem aT {op:Operator} {r:R2} (ho:OpR X (binaryOp op) r) (ha:PE X a ta) (hb:PE X b tb):PE X (.BinOp a op b pos) (tOp r ta tb):=by
 intro pins s σ H Q I h
 exact wpAny_BinOp (aDT ha hb I h fun v u s2 x y H2 I2 rx ry q=>ho pins s2 σ H2 x y v u Q I2 rx ry q)
theorem kU {op:UnaryOp} {r:V->Hp->VK->Prop} (ho:UnR X (unaryOp op) r) (ha:PE X a ta):PE X (.UnaryOp op a pos) (tUn r ta):=by
 intro pins s σ H Q I h
 refine UnaryOp_ (thn (ha pins s σ H _ I h) fun v s1 hx9=>?_)
 obtain ⟨x,H1,I1,r1,q1⟩:=hx9
 exact ho pins s1 σ H1 x v Q I1 r1 q1
theorem opI {f:Value->Value->Sem Value} {C:Int->Int->Prop} {g:Int->Int->Int}
  (rule:∀ (i j:Int) (t u:Tok) (s:Shared) (Q:Value->Shared->Prop) (E:Value->Shared->Prop),C i j->Q (.int (g i j) s.toks) { s with toks:=s.toks+1 }->wpAny (model X.prog X.w) X.A (f (.int i t) (.int j u)) Q E s) :
  OpR X f (rI C fun i j=>.int (g i j)):=by
 intro pins s σ H x y v u Q I rx ry h
 obtain ⟨i,j,rfl,rfl,hc,q⟩:=h
 obtain ⟨t,rfl⟩:=rx
 obtain ⟨t',rfl⟩:=ry
 exact rule i j t t' s _ _ hc ⟨.int (g i j),H,I.tok _,⟨_,rfl⟩,q⟩
theorem aEL {f:Value->Value->Sem Value} {g:Int->Int->Int}
  (rule:∀ (i j:Int) (t u:Tok) (s:Shared) (Q:Value->Shared->Prop) (E:Value->Shared->Prop),Q (.int (g i j) s.toks) { s with toks:=s.toks+1 }->wpAny (model X.prog X.w) X.A (f (.int i t) (.int j u)) Q E s) :
  OpR X f (rI0 fun i j=>.int (g i j)):=by
 intro pins s σ H x y v u Q I rx ry h
 obtain ⟨i,j,rfl,rfl,q⟩:=h
 obtain ⟨t,rfl⟩:=rx
 obtain ⟨t',rfl⟩:=ry
 exact rule i j t t' s _ _ ⟨.int (g i j),H,I.tok _,⟨_,rfl⟩,q⟩
theorem aCR {f:Value->Value->Sem Value} {g:Int->Int->Bool}
  (rule:∀ (i j:Int) (t u:Tok) (s:Shared) (Q:Value->Shared->Prop) (E:Value->Shared->Prop),Q (.bool (g i j)) s->wpAny (model X.prog X.w) X.A (f (.int i t) (.int j u)) Q E s) :
  OpR X f (rI0 fun i j=>.bl (g i j)):=by
 intro pins s σ H x y v u Q I rx ry h
 obtain ⟨i,j,rfl,rfl,q⟩:=h
 obtain ⟨t,rfl⟩:=rx
 obtain ⟨t',rfl⟩:=ry
 exact rule i j t t' s _ _ ⟨.bl (g i j),H,I,rfl,q⟩
def aFr (i j:Int):Prop:=0 < j/\j < 1073741824
def aFs (i j:Int):Prop:=0<=j/\j<=1000000/\i.natAbs < 2^64
def aDU (i j:Int):Prop:=(-(2^64) < i/\i < 2^64)∨(-(2^64) < j/\j < 2^64)
theorem aDU.ok {i j:Int} (h:aDU i j):IntMulOk i j:=by
 rcases h with ⟨h1,h2⟩ | ⟨h1,h2⟩
 ·exact .of_left (intBits_le_64 h1 h2)
 ·exact .of_right (intBits_le_64 h1 h2)
theorem eX:OpR X (binaryOp .Add) (rI0 fun i j=>.int (i+j)):=aEL fun _ _ _ _ _ _ _ q=>add_int q
theorem uA:OpR X (binaryOp .Sub) (rI0 fun i j=>.int (i - j)):=aEL fun _ _ _ _ _ _ _ q=>sub_int q
theorem pV:OpR X (binaryOp .Mult) (rI aDU fun i j=>.int (i*j)):=opI fun _ _ _ _ _ _ _ hc q=>mul_int q hc.ok
theorem aCS:OpR X (binaryOp .FloorDiv) (rI aFr fun i j=>.int (i / j)):=opI fun i j _ _ _ _ _ hc q=>by
 have h1:(0:Int) < j:=hc.1
 have h2:j < 1073741824:=hc.2
 exact floordiv_int (by omega) (by rw [Zt i (by omega)]; exact q) (.inl (PyProof.noPylong_small (by omega)))
theorem pW:OpR X (binaryOp .Mod) (rI (fun _ j=>0 < j) fun i j=>.int (i % j)):=opI fun i j _ _ _ _ _ hc q=>by
 have h1:(0:Int) < j:=hc
 exact mod_int' (by omega) (by rw [Int.fmod_eq_emod_of_nonneg i (by omega)]; exact q)
theorem aDV:OpR X (binaryOp .Pow) (rI aFs fun i j=>.int (i^j.toNat)):=opI fun _ _ _ _ _ _ _ hc q=>pow_int_small hc.1 hc.2.1 hc.2.2 q
theorem unI {f:Value->Sem Value} {g:Int->Int}
  (rule:∀ (i:Int) (t:Tok) (s:Shared) (Q:Value->Shared->Prop) (E:Value->Shared->Prop),Q (.int (g i) s.toks) { s with toks:=s.toks+1 }->wpAny (model X.prog X.w) X.A (f (.int i t)) Q E s) :
  UnR X f (rU fun i=>.int (g i)):=by
 intro pins s σ H x v Q I rx h
 obtain ⟨i,rfl,q⟩:=h
 obtain ⟨t,rfl⟩:=rx
 exact rule i t s _ _ ⟨.int (g i),H,I.tok _,⟨_,rfl⟩,q⟩
theorem iS:UnR X (unaryOp .USub) (rU fun i=>.int (-i)):=unI fun _ _ _ _ _ q=>neg_int q
def aEM:V->V->Bool
 | .non,.non=>true | .non,.int _=>true | .int _,.non=>true | .non,.bl _=>true | .bl _,.non=>true | .non,.str _=>true | .str _,.non=>true
 | .int _,.int _=>true | .bl _,.bl _=>true | .str _,.str _=>true | .byt _,.byt _=>true
 | .int _,.str _=>true | .str _,.int _=>true | .bl _,.str _=>true | .str _,.bl _=>true
 | _,_=>false
def rEq:R2:=fun x y H Q=>aEM x y=true/\Q (.bl (decide (x=y))) H
def rNe:R2:=fun x y H Q=>aEM x y=true/\Q (.bl (!decide (x=y))) H
theorem zN {i j:Int}:decide (V.int i=V.int j)=(i==j):=by
 rw [Xs]
 simp
theorem aBr {i j:Bool}:decide (V.bl i=V.bl j)=(i==j):=by
 rw [Xs]
 simp
theorem zO {i j:Str}:decide (V.str i=V.str j)=(i==j):=by
 rw [Xs]
 simp
theorem zP {i j:Array UInt8}:decide (V.byt i=V.byt j)=(i.toList==j.toList):=by
 rw [Xs]
 cases i
 cases j
 simp
theorem bY {pins:List (Addr×Obj)} {σ:St} {H:Hp} {s:Shared} {Q:VK} {k k':Bool} (I:Inv X pins σ H s) (q:Q (.bl k) H) (e:k=k'):EP X pins σ Q (.bool k') s:=by
 subst e
 exact ⟨.bl k,H,I,rfl,q⟩
theorem wA:OpR X (compareOp .Eq) rEq:=by
 intro pins s σ H x y v u Q I rx ry h
 obtain ⟨hs,q⟩:=h
 cases x with
 | non =>
  cases rx
  cases y with
  | non=>cases ry; exact PySem.EqNone.eq_none_none (bY I q (by simp))
  | bl j=>cases ry; exact PySem.EqNone.eq_none_bool (bY I q (by simp))
  | int j=>obtain ⟨t',rfl⟩:=ry; exact PySem.EqNone.eq_none_int (bY I q (by simp))
  | str j=>obtain ⟨t',rfl⟩:=ry; exact PySem.EqNone.eq_none_str (bY I q (by simp))
  | _=>exact absurd (show false=true from hs) Qs
 | bl i =>
  cases rx
  cases y with
  | non=>cases ry; exact PySem.EqNone.eq_bool_none (bY I q (by simp))
  | bl j=>cases ry; exact eq_bool (bY I q aBr)
  | str j=>obtain ⟨t',rfl⟩:=ry; exact PySem.EqMixed.eq_bool_str (bY I q (by simp))
  | _=>exact absurd (show false=true from hs) Qs
 | int i =>
  obtain ⟨t,rfl⟩:=rx
  cases y with
  | non=>cases ry; exact PySem.EqNone.eq_int_none (bY I q (by simp))
  | int j=>obtain ⟨t',rfl⟩:=ry; exact eq_int (bY I q zN)
  | str j=>obtain ⟨t',rfl⟩:=ry; exact PySem.EqMixed.eq_int_str (bY I q (by simp))
  | _=>exact absurd (show false=true from hs) Qs
 | str i =>
  obtain ⟨t,rfl⟩:=rx
  cases y with
  | non=>cases ry; exact PySem.EqNone.eq_str_none (bY I q (by simp))
  | bl j=>cases ry; exact PySem.EqMixed.eq_str_bool (bY I q (by simp))
  | int j=>obtain ⟨t',rfl⟩:=ry; exact PySem.EqMixed.eq_str_int (bY I q (by simp))
  | str j=>obtain ⟨t',rfl⟩:=ry; exact eq_str (bY I q zO)
  | _=>exact absurd (show false=true from hs) Qs
 | byt i =>
  obtain ⟨t,rfl⟩:=rx
  cases y with
  | byt j=>obtain ⟨t',rfl⟩:=ry; exact PySem.W.eq_bytes (bY I q zP)
  | _=>exact absurd (show false=true from hs) Qs
 | _=>cases y <;> exact absurd (show false=true from hs) Qs
theorem iX:OpR X (compareOp .NotEq) rNe:=by
 intro pins s σ H x y v u Q I rx ry h
 obtain ⟨hs,q⟩:=h
 cases x with
 | non =>
  cases rx
  cases y with
  | non=>cases ry; exact PySem.EqNone.ne_none_none (bY I q (by simp))
  | bl j=>cases ry; exact PySem.EqNone.ne_none_bool (bY I q (by simp))
  | int j=>obtain ⟨t',rfl⟩:=ry; exact PySem.EqNone.ne_none_int (bY I q (by simp))
  | str j=>obtain ⟨t',rfl⟩:=ry; exact PySem.EqNone.ne_none_str (bY I q (by simp))
  | _=>exact absurd (show false=true from hs) Qs
 | bl i =>
  cases rx
  cases y with
  | non=>cases ry; exact PySem.EqNone.ne_bool_none (bY I q (by simp))
  | bl j=>cases ry; exact ne_bool (bY I q (congrArg not aBr))
  | str j=>obtain ⟨t',rfl⟩:=ry; exact PySem.EqMixed.ne_bool_str (bY I q (by simp))
  | _=>exact absurd (show false=true from hs) Qs
 | int i =>
  obtain ⟨t,rfl⟩:=rx
  cases y with
  | non=>cases ry; exact PySem.EqNone.ne_int_none (bY I q (by simp))
  | int j=>obtain ⟨t',rfl⟩:=ry; exact ne_int (bY I q (congrArg not zN))
  | str j=>obtain ⟨t',rfl⟩:=ry; exact PySem.EqMixed.ne_int_str (bY I q (by simp))
  | _=>exact absurd (show false=true from hs) Qs
 | str i =>
  obtain ⟨t,rfl⟩:=rx
  cases y with
  | non=>cases ry; exact PySem.EqNone.ne_str_none (bY I q (by simp))
  | bl j=>cases ry; exact PySem.EqMixed.ne_str_bool (bY I q (by simp))
  | int j=>obtain ⟨t',rfl⟩:=ry; exact PySem.EqMixed.ne_str_int (bY I q (by simp))
  | str j=>obtain ⟨t',rfl⟩:=ry; exact ne_str (bY I q (congrArg not zO))
  | _=>exact absurd (show false=true from hs) Qs
 | byt i =>
  obtain ⟨t,rfl⟩:=rx
  cases y with
  | byt j=>obtain ⟨t',rfl⟩:=ry; exact PySem.W.ne_bytes (bY I q (congrArg not zP))
  | _=>exact absurd (show false=true from hs) Qs
 | _=>cases y <;> exact absurd (show false=true from hs) Qs
theorem aBs:OpR X (compareOp .Lt) (rI0 fun i j=>.bl (decide (i < j))):=aCR fun _ _ _ _ _ _ _ q=>lt_int q
theorem lC:OpR X (compareOp .LtE) (rI0 fun i j=>.bl (decide (i<=j))):=aCR fun _ _ _ _ _ _ _ q=>le_int q
theorem aBt:OpR X (compareOp .Gt) (rI0 fun i j=>.bl (decide (j < i))):=aCR fun _ _ _ _ _ _ _ q=>gt_int q
theorem aEN:OpR X (compareOp .GtE) (rI0 fun i j=>.bl (decide (j<=i))):=aCR fun _ _ _ _ _ _ _ q=>ge_int q
theorem aDW:OpR X (compareOp .Is) (fun x y H Q=>y=.non/\Q (.bl (decide (x=.non))) H):=by
 intro pins s σ H x y v u Q I rx ry h
 obtain ⟨rfl,q⟩:=h
 cases ry
 refine is_none_gen (bY I q ?_)
 cases x <;> first
  | (cases rx; rfl)
  | (obtain ⟨t,rfl⟩:=rx; rfl)
theorem OpR.or {f:Value->Value->Sem Value} {r r':R2} (h:OpR X f r) (h':OpR X f r'):OpR X f (fun x y H Q=>r x y H Q∨r' x y H Q):=by
 intro pins s σ H x y v u Q I rx ry q
 rcases q with q | q
 ·exact h pins s σ H x y v u Q I rx ry q
 ·exact h' pins s σ H x y v u Q I rx ry q
theorem bJ (b:Expr) {op:CmpOp} (h:op≠.In:=by decide) (h2:op≠.NotIn:=by decide):behindInMarks op b=false:=by
 have e1:(op==CmpOp.In)=false:=by cases op <;> first | rfl | exact absurd rfl h
 have e2:(op==CmpOp.NotIn)=false:=by cases op <;> first | rfl | exact absurd rfl h2
 cases b <;> simp [behindInMarks,e1,e2]
theorem kF {op:CmpOp} {r:R2} (ho:OpR X (compareOp op) r) (ha:PE X a ta) (hb:PE X b tb) (hm:behindInMarks op b=false):PE X (.Compare a [op] [b] pos) (tOp r ta tb):=by
 intro pins s σ H Q I h
 exact wpAny_Compare1 (aDT ha hb I h fun v u s2 x y H2 I2 rx ry q=>ho pins s2 σ H2 x y v u Q I2 rx ry q) hm
def aEO (t:TE):TT:=fun σ H Q=>t σ H fun x H'=>∃ k,x=.bl k/\Q k H'
theorem bE {op:CmpOp} {r:R2} (ho:OpR X (compareOp op) r) (ha:PE X a ta) (hb:PE X b tb) (hm:behindInMarks op b=false):PT X (.Compare a [op] [b] pos) (aEO (tOp r ta tb)):=by
 intro pins s σ H Q I h
 refine wpAny_isTrue_Compare1 (thn (ha pins s σ H _ I h) fun v s1 ⟨x,H1,I1,r1,q1⟩=>thn (hb pins s1 σ H1 _ I1 q1) fun u s2 ⟨y,H2,I2,r2,q2⟩ =>
  thn (ho pins s2 σ H2 x y v u _ I2 r1 r2 q2) fun c s3 ⟨z,H3,I3,r3,k,e,q3⟩=>?_) hm
 subst e
 cases r3
 exact wpAny_truthy_bool ⟨H3,I3,q3⟩
def aDX (r r':R2) (ta tb tc:TE):TE:=fun σ H Q=>ta σ H fun x H1=>tb σ H1 fun y H2=>r x y H2 fun z H3=>∃ k,z=.bl k /\
 (if k=true then tc σ H3 fun w' H4=>r' y w' H4 Q else Q (.bl false) H3)
theorem pX {op op':CmpOp} {r r':R2} (ho:OpR X (compareOp op) r) (ho':OpR X (compareOp op') r') (ha:PE X a ta) (hb:PE X b tb) (hc:PE X c tc)
  (hm:lastMarks [op,op'] [b,c]=false:=by with_unfolding_all rfl):PE X (.Compare a [op,op'] [b,c] pos) (aDX r r' ta tb tc):=by
 intro pins s σ H Q I h
 refine Compare_chain (thn (ha pins s σ H _ I h) fun v s1 ⟨x,H1,I1,r1,q1⟩=>chain_link (thn (hb pins s1 σ H1 _ I1 q1) fun u s2 ⟨y,H2,I2,r2,q2⟩ =>
  thn (ho pins s2 σ H2 x y v u _ I2 r1 r2 q2) fun d s3 ⟨z,H3,I3,r3,k,e,q3⟩=>?_)) hm
 subst e
 cases r3
 refine wpAny_truthy_bool ?_
 cases k with
 | false=>exact ite_ff ⟨.bl false,H3,I3,rfl,q3⟩
 | true=>exact ite_tt (chain_last (thn (hc pins s3 σ H3 _ I3 q3) fun w' s4 ⟨z',H4,I4,r4,q4⟩=>ho' pins s4 σ H4 y z' u w' Q I4 r2 r4 q4))
def aEP (K:PySem.W.Frag) (x:V) (H:Hp) (k:Bool):Prop :=
 match x with
 | .non=>k=false
 | .bl b=>k=b
 | .int i=>k=(i !=0)
 | .str y=>y.length<=sizeLine/\k=((y.length:Int) !=0)
 | .byt y=>y.size<=sizeLine/\k=((y.size:Int) !=0)
 | .ref p=>(∃ xs,SqL K H p xs/\k=!xs.isEmpty)∨(∃ xs,SqT K H p xs/\k=!xs.isEmpty)∨∃ kvs,H p=some (.dK kvs)/\k=!kvs.isEmpty
 | _=>False
theorem xZ {κ:Type} {kvs:List (κ×V)} {vs:List (κ×Value)} (r:KV kvs vs):(!vs.isEmpty)=!kvs.isEmpty:=by
 cases r <;> rfl
theorem pY {xs:List V} {its:List Value} (r:aY xs its):(!its.toArray.isEmpty)=!xs.isEmpty:=by
 cases r <;> simp
theorem pZ:(sizeLine:Nat) < 2^63:=by rw [sizeLine_eq]; decide
theorem aDY:aFq X (fun x H Q=>∃ k,aEP X.K x H k/\Q k H):=by
 intro pins s σ H x v Q I rx h
 obtain ⟨k,e,q⟩:=h
 have hl:=pZ
 have hs:sizeLine=16777216:=sizeLine_eq
 cases x with
 | non =>
  cases rx
  have e':k=false:=e
  subst e'
  exact truthy_none ⟨H,I,q⟩
 | bl b =>
  cases rx
  have e':k=b:=e
  subst e'
  exact wpAny_truthy_bool ⟨H,I,q⟩
 | int i =>
  obtain ⟨t,rfl⟩:=rx
  have e':k=(i !=0):=e
  subst e'
  exact PySem.P.truthy_int ⟨H,I,q⟩
 | str y =>
  obtain ⟨t,rfl⟩:=rx
  obtain ⟨hy,e'⟩:y.length<=sizeLine/\k=((y.length:Int) !=0):=e
  subst e'
  exact PySem.P.truthy_str (by omega) ⟨H,I.tok _,q⟩
 | byt y =>
  obtain ⟨t,rfl⟩:=rx
  obtain ⟨hy,e'⟩:y.size<=sizeLine/\k=((y.size:Int) !=0):=e
  subst e'
  exact PySem.W.truthy_bytes (by omega) ⟨H,I.tok _,q⟩
 | ref p =>
  cases rx
  have e':(∃ xs,SqL X.K H p xs/\k=!xs.isEmpty)∨(∃ xs,SqT X.K H p xs/\k=!xs.isEmpty)∨∃ kvs,H p=some (.dK kvs)/\k=!kvs.isEmpty:=e
  rcases e' with ⟨xs,hx,e'⟩ | ⟨xs,hx,e'⟩ | ⟨kvs,hx,e'⟩
  ·subst e'
   obtain ⟨its,r,pl,hz⟩:=I.list hx
   have hlen:=r.length
   exact wpAny_truthy_list pl.isList (by simp only [Ql]; omega) ⟨H,I.tok _,by rw [pY r]; exact q⟩
  ·subst e'
   obtain ⟨its,r,pl,hz⟩:=I.tuple hx
   have hlen:=r.length
   exact truthy_tuple pl (by simp only [Ql]; omega) ⟨H,I.tok _,by rw [pY r]; exact q⟩
  ·subst e'
   obtain ⟨hz,hS,vs,r,m⟩:kvs.length<=sizeLine/\(p==sysModules)=false/\∃ vs,KV kvs vs/\s.heap.DictOf (bT X.prog X.w) p vs:=I.hok p _ hx
   have hlen:kvs.length=vs.length:=Paired.length r
   exact wpAny_truthy_dict hS m (by omega) ⟨H,I.tok _,by rw [xZ r]; exact q⟩
 | _=>exact (show False from e).elim
theorem aBu (ha:PE X a ta) (he:∀ whole,isTrue a X.env whole=(do let v<-whole; standAt a.pos; holding [v] (truthy v))) :
  PT X a (fun σ H Q=>ta σ H fun x H'=>∃ k,aEP X.K x H' k/\Q k H'):=by
 intro pins s σ H Q I h
 refine isTrue_plain (thn (ha pins s σ H _ I h) fun v s1 hx9=>?_) (he _)
 obtain ⟨x,H1,I1,r1,q1⟩:=hx9
 exact aDY pins s1 σ H1 x v Q I1 r1 q1
theorem gY {x:V} {us:List Value} (r:aY [x] us):∃ u,us = [u]/\bO x u:=by
 cases r with
 | cons r1 r2=>cases r2; exact ⟨_,rfl,r1⟩
theorem lD {x y:V} {us:List Value} (r:aY [x,y] us):∃ u w',us = [u,w']/\bO x u/\bO y w':=by
 cases r with
 | cons r1 r2 =>
  cases r2 with
  | cons r3 r4=>cases r4; exact ⟨_,_,rfl,r1,r3⟩
theorem aAG (hc:X.calm=true):eJ X (.builtin "max") (fun xs H Q=>∃ i j,xs = [.int i,.int j]/\Q (.int (if j > i then j else i)) H):=by
 intro pins s σ H xs us Q I r h
 obtain ⟨i,j,rfl,q⟩:=h
 obtain ⟨u,w',rfl,⟨t,rfl⟩,⟨t',rfl⟩⟩:=lD r
 refine max_two_ints (I.ok.hd hc) fun h' tk k=>⟨_,H,I.kept k,?_,q⟩
 by_cases hj:j > i
 ·rw [if_pos hj,if_pos hj]; exact ⟨_,rfl⟩
 ·rw [if_neg hj,if_neg hj]; exact ⟨_,rfl⟩
theorem aAH (hc:X.calm=true):eJ X (.builtin "min") (fun xs H Q=>∃ i j,xs = [.int i,.int j]/\Q (.int (if j < i then j else i)) H):=by
 intro pins s σ H xs us Q I r h
 obtain ⟨i,j,rfl,q⟩:=h
 obtain ⟨u,w',rfl,⟨t,rfl⟩,⟨t',rfl⟩⟩:=lD r
 refine min_two_ints (I.ok.hd hc) fun h' tk k=>⟨_,H,I.kept k,?_,q⟩
 by_cases hj:j < i
 ·rw [if_pos hj,if_pos hj]; exact ⟨_,rfl⟩
 ·rw [if_neg hj,if_neg hj]; exact ⟨_,rfl⟩
theorem aAI:eJ X (.type "int") (fun xs H Q=>(∃ i,xs = [.int i]/\Q (.int i) H)∨∃ k,xs = [.bl k]/\Q (.int (if k then 1 else 0)) H):=by
 intro pins s σ H xs us Q I r h
 rcases h with ⟨i,rfl,q⟩ | ⟨k,rfl,q⟩
 ·obtain ⟨u,rfl,t,rfl⟩:=gY r
  exact call_int_int ⟨.int i,H,I,⟨_,rfl⟩,q⟩
 ·obtain ⟨u,rfl,r1⟩:=gY r
  cases r1
  exact call_int_bool ⟨.int (if k then 1 else 0),H,I.tok _,⟨_,rfl⟩,q⟩
theorem qA:eJ X (.type "bool") (fun xs H Q=>(∃ i,xs = [.int i]/\Q (.bl (i !=0)) H)∨∃ k,xs = [.bl k]/\Q (.bl k) H):=by
 intro pins s σ H xs us Q I r h
 rcases h with ⟨i,rfl,q⟩ | ⟨k,rfl,q⟩
 ·obtain ⟨u,rfl,t,rfl⟩:=gY r
  exact call_bool_int ⟨.bl (i !=0),H,I,rfl,q⟩
 ·obtain ⟨u,rfl,r1⟩:=gY r
  cases r1
  exact call_bool_bool ⟨.bl k,H,I,rfl,q⟩
end
structure ObjM (h:Heap) (x dx C:Addr) (mA:Str->Option Value):Prop where
 obj:h.get? x=some (PySem.W.instObj C dx)
 ns:h.Ns1 dx mA
 ne:dx≠x
theorem aAJ {h:Heap} {dx:Addr} {mA:Str->Option Value} (n:h.Ns1 dx mA):∃ od,h.get? dx=some od/\∀ name,PySem.W.lookIn name od=some (mA name):=by
 obtain ⟨o,es,ep,ho,hd,hk,_,hm⟩:=n
 refine ⟨o,ho,fun name=>?_⟩
 have e:=hm name
 unfold nsFind findBy at e
 rw [<- Array.find?_toList] at e
 unfold PySem.W.lookIn
 rw [hd]
 dsimp only
 split
 ·rename_i y q
  rw [q] at e
  exact congrArg some e
 ·rename_i q
  rw [q] at e
  have a:es.toList.any (·.refKey)=false:=by
   rw [List.any_eq_false]
   intro y hy
   obtain ⟨z,t,hkey⟩:=hk y (Array.mem_toList_iff.mp hy)
   simp [DictEntry.refKey,hkey]
  have a':¬ es.toList.any (·.refKey)=true:=by rw [a]; exact Qs
  rw [if_neg a']
  exact congrArg some e
theorem ObjM.look {h:Heap} {x dx C:Addr} {mA:Str->Option Value} (I:ObjM h x dx C mA):∃ od,PySem.W.InstAt h x (PySem.W.instObj C dx) C (some od)/\∀ name,PySem.W.lookIn name od=some (mA name) :=
 let ⟨od,ho,hl⟩:=aAJ I.ns
 ⟨od,⟨I.obj,rfl,rfl,ho⟩,hl⟩
section
variable {prog:Program} {w:World} {A:Around} {E:Value->Shared->Prop} {s:Shared} {K:PySem.W.Frag} {x dx C f:Addr} {mA:Str->Option Value} {name:Str} {v:Value}
end
theorem pE.some_of {v:V} {o:Option Value} (r:pE (some v) o):∃ u,o=some u/\bO v u:=by
 cases o with
 | none=>exact (show False from r).elim
 | some u=>exact ⟨u,rfl,r⟩
section
variable {P:Program} {w:World} {H H':Hp} {h h':Heap} {a C dx:Addr} {fs fs':List (Str×V)}
end
structure Cls (K:PySem.W.Frag) (C:Addr):Prop where
 pg:PySem.W.plainGet K C Str.empty=true
 hd:PySem.W.hasDictIn K C=true
 po:PySem.W.plainOver K C=true
 sa:PySem.W.findIn K (.ref C) "__setattr__" = some (some (.builtin "object.__setattr__"))
theorem Cls.get {K:PySem.W.Frag} {C:Addr} (c:Cls K C) (f:Str):PySem.W.plainGet K C f=true:=c.pg
def aBv (K:PySem.W.Frag) (C:Addr) (f:Str):Prop:=PySem.W.findIn K (.ref C) f=some none
theorem aBv.taker {K:PySem.W.Frag} {C:Addr} {f:Str} (n:aBv K C f):PySem.W.takerIn K C f=some none:=by
 unfold PySem.W.takerIn
 rw [show PySem.W.findIn K (.ref C) f=some none from n]
 rfl
structure Con (K:PySem.W.Frag) (C:Addr) (f:Str) (v:V) (u:Value):Prop where
 at_:PySem.W.findIn K (.ref C) f=some (some u)
 rel:bO v u
 get:PySem.W.specialIn K u "__get__" = some none
 cp:PySem.W.copiedNames.contains f=false
structure Meth (K:PySem.W.Frag) (C:Addr) (m:Str) (f:Addr):Prop where
 at_:PySem.W.findIn K (.ref C) m=some (some (.ref f))
 fn:PySem.W.isFn K (.ref f)=true
 kp:PySem.W.keepIn K (.ref f)=true
section
variable {X:Cx} {pins:List (Addr×Obj)} {σ:St} {H:Hp} {s:Shared} {a C dx:Addr} {fs:List (Str×V)} {f:Str} {v:V} {A:Around} {E:Value->Shared->Prop}
end
section
variable {X:Cx} {o e value:Expr} {f:Str} {pos pos' tpos:Pos} {ta tv:TE}
end
section
variable {X:Cx} {pins:List (Addr×Obj)} {σ:St} {H:Hp} {s:Shared} {A:Around} {E:Value->Shared->Prop} {Q:Value->Shared->Prop} {c:Value} {b:Bool}
inductive TyOf (K:PySem.W.Frag) (H:Hp):V->Value->Prop where
 | non:TyOf K H .non (.type "NoneType")
 | bl (x:Bool):TyOf K H (.bl x) (.type "bool")
 | int (i:Int):TyOf K H (.int i) (.type "int")
 | str (x:Str):TyOf K H (.str x) (.type "str")
 | flt (x:UInt64):TyOf K H (.flt x) (.type "float")
 | lst {a:Addr} {xs:List V} (e:H a=some (.lst xs)):TyOf K H (.ref a) (.type "list")
 | frz {a:Addr} {o:Obj} {xs:List V} (e:H a=some (.frz o (.lst xs))):TyOf K H (.ref a) (.type "list")
 | tup {a:Addr} {xs:List V} (e:H a=some (.tup xs)):TyOf K H (.ref a) (.type "tuple")
 | dK {a:Addr} {kvs:List (Key×V)} (e:H a=some (.dK kvs)):TyOf K H (.ref a) (.type "dict")
 | dT {a:Addr} {kvs:List (List Key×V)} (e:H a=some (.dT kvs)):TyOf K H (.ref a) (.type "dict")
 | ins {a C dx:Addr} {fs:List (Str×V)} (e:H a=some (.ins C dx fs)) (cl:Cls K C) (ha:PySem.W.findIn K (.ref C) "__class__" = some (some (.builtin "object.__class__")))
   (hn:PySem.W.specialIn K (.builtin "object.__class__") "__get__" = some (some (.builtin "getset_descriptor.__get__"))) (htk:PySem.W.takesIn K (.builtin "object.__class__")=some true)
   (hm:PySem.W.mroIn K C (.type "object")=some true):TyOf K H (.ref a) (.ref C)
end
structure Room (k:Nat) (A:Around):Prop where
 hd:A.handled=none
 dp:A.depth+3*k+5 < recursionLimit
 un:A.units+16*k+200 < cLine
 gd:A.guards=some []
theorem Room.mono {j k:Nat} {A:Around} (r:Room k A) (h:j<=k):Room j A:=⟨r.hd,by have:=r.dp; omega,by have:=r.un; omega,r.gd⟩
theorem Room.deeper {k:Nat} {A:Around} (r:Room (k+1) A) (env:Env):Room k (A.deeper env) :=
 ⟨r.hd,by have:=r.dp; show A.depth+1+3*k+5 < _; omega,by have:=r.un; show A.units+3+16*k+200 < _; omega,r.gd⟩
theorem Room.in1 {k:Nat} {A:Around} (r:Room (k+1) A):Room k A.in1 :=
 ⟨r.hd,by have:=r.dp; show A.depth+3*k+5 < _; omega,by have:=r.un; show A.units+1+16*k+200 < _; omega,r.gd⟩
theorem Room.depth {k:Nat} {A:Around} (r:Room k A):A.depth < recursionLimit:=by have:=r.dp; omega
theorem Room.units {k:Nat} {A:Around} (r:Room k A):A.units+64 < cLine:=by have:=r.un; omega
abbrev jK:TA:=fun _ H Q=>Q [] H
abbrev gD (ta:TE) (tr:TA):TA:=fun σ H Q=>ta σ H fun x H1=>tr σ H1 fun xs H2=>Q (x::xs) H2
section
variable {X:Cx} {e:Expr} {es:List Expr} {te:TE} {t:TA} {pos:Pos}
theorem aB:PA X [] jK:=fun _ _ _ _ H Q I h=>Calls.spliced_nil ⟨[],H,I,.nil,h⟩
theorem aA (ha:PE X e te) (hr:PA X es t) (hs:starEach (e::es) X.env=(false,eval e X.env)::starEach es X.env:=by rfl):PA X (e::es) (gD te t):=by
 intro pos pins s σ H Q I h
 rw [hs]
 show wpAny _ _ (spliced ((false,eval e X.env)::backTo pos (starEach es X.env))) _ _ s
 refine Calls.spliced_cons (thn (ha pins s σ H _ I h) fun u s1 hx9=>?_)
 obtain ⟨x,H1,I1,r1,q1⟩:=hx9
 refine thn (hr pos pins s1 σ H1 _ I1 q1) fun us s2 hx9=>?_
 obtain ⟨xs,H2,I2,r2,q2⟩:=hx9
 exact ⟨x::xs,H2,I2,.cons r1 r2,q2⟩
def qB (t:TA):TE:=fun σ H Q=>t σ H fun xs H1=>xs.length<=sizeLine/\∀ p,H1 p=none->Q (.ref p) (upd H1 p (.tup xs))
def aBw (t:TA):TE:=fun σ H Q=>t σ H fun xs H1=>xs.length<=sizeLine/\∀ p,H1 p=none->Q (.ref p) (upd H1 p (.lst xs))
theorem aX {x1} (h:PA X es t):PE X (.Tuple es x1 pos) (qB t):=by
 intro pins s σ H Q I hq
 refine wpAny_Tuple_spliced (thn (h pos pins s σ H _ I hq) fun us s1 ⟨xs,H1,I1,r,z,q⟩=>⟨by rw [<- r.length]; exact z,?_⟩)
 have hf:H1 s1.heap.objs.size=none:=I1.hok.fresh (Qg _)
 refine ⟨.ref s1.heap.objs.size,upd H1 s1.heap.objs.size (.tup xs),I1.laid (t':=s1.toks) (fun b u e=>Qa _ e) (Qg _) ?_,rfl,q _ hf⟩
 exact ⟨z,us,0,r,Qk _ rfl⟩
theorem bW (h:PA X es t):PE X (.List es pos) (aBw t):=by
 intro pins s σ H Q I hq
 refine wpAny_List_spliced (thn (h pos pins s σ H _ I hq) fun us s1 ⟨xs,H1,I1,r,z,q⟩=>⟨by rw [<- r.length]; exact z,?_⟩)
 have hf:H1 s1.heap.objs.size=none:=I1.hok.fresh (Qg _)
 refine ⟨.ref s1.heap.objs.size,upd H1 s1.heap.objs.size (.lst xs),I1.laid (t':=s1.toks) (fun b u e=>Qa _ e) (Qg _) ?_,rfl,q _ hf⟩
 exact ⟨z,us,0,r,Qk _ rfl⟩
end
abbrev Sp:=List V->Hp->VK->XK->Prop
abbrev CXT:=List Env->Hp->Shared->XK->Value->Shared->Prop
structure Env0 (P:Program) (w:World) (K:PySem.W.Frag) (mg:Str->Option Value) (base:Heap) (A:Around) (outer:List Env) (s:Shared) (H:Hp):Prop where
 frames:A.frames=some outer
 mod:Mod K mg base
 bs:∀ b o,base.get? b=some o->s.heap.get? b=some o/\H b=none
 bsz:base.objs.size<=s.heap.objs.size
 funs:s.heap.FunFrames base outer
 frf:∀ b∈frs outer,H b=none
 hok:HOk P w H s.heap
 bare:AllBare s.gens
def CE (outer:List Env) (P:Program) (w:World) (H:Hp) (s:Shared) (Q:VK) (u:Value) (s':Shared):Prop :=
 ∃ v H',s'.os=s.os/\AllBare s'.gens/\Un (frs outer) [] H H' s.heap s'.heap/\HOk P w H' s'.heap/\bO v u/\Q v H'
def CR (CX:CXT) (outer:List Env) (P:Program) (w:World) (H:Hp) (s:Shared) (Q:VK) (E:XK) (r:Result) (s':Shared):Prop :=
 match r with
 | .ok (.ret u)=>CE outer P w H s Q u s'
 | .ok _=>False
 | .error e=>CX outer H s E e s'
structure FnOk (P:Program) (w:World) (K:PySem.W.Frag) (mg:Str->Option Value) (base:Heap) (CX:CXT) (k:Nat) (f:Addr) (fd:FuncData) (ps:List Str) (sp:Sp):Prop where
 len:∀ vs H Q E,sp vs H Q E->vs.length=ps.length
 run:∀ (A:Around) (outer:List Env) (s:Shared) (H:Hp) (args:Args) (us:List Value) (vs:List V) (Q:VK) (E:XK),Room k A->Env0 P w K mg base A outer s H->BindsTo s fd args (ps.zip us)->aY vs us->sp vs H Q E ->
  codeAny (model P w) A (.call (.ref f) args) (CR CX outer P w H s Q E) s
theorem FnOk.mono {P:Program} {w:World} {K:PySem.W.Frag} {mg:Str->Option Value} {base:Heap} {CX:CXT} {j k:Nat} {f:Addr} {fd:FuncData} {ps:List Str} {sp:Sp} (F:FnOk P w K mg base CX j f fd ps sp) (h:j<=k) :
  FnOk P w K mg base CX k f fd ps sp:=⟨F.len,fun A outer s H args us vs Q E hr=>F.run A outer s H args us vs Q E (hr.mono h)⟩
theorem Env0.in1 {P:Program} {w:World} {K:PySem.W.Frag} {mg:Str->Option Value} {base:Heap} {A:Around} {outer:List Env} {s:Shared} {H:Hp} (e:Env0 P w K mg base A outer s H) :
  Env0 P w K mg base A.in1 outer s H:=⟨e.frames,e.mod,e.bs,e.bsz,e.funs,e.frf,e.hok,e.bare⟩
section
variable {X:Cx} {pins:List (Addr×Obj)} {σ:St} {H:Hp} {s s':Shared}
theorem Inv.env0 (I:Inv X pins σ H s):Env0 X.prog X.w X.K X.mg X.base X.A X.stack s H :=
 ⟨I.ok.frames,I.ok.mod,I.bs,Qw I.ok.bsz I.sz,I.stack,I.stkFree,I.hok,I.bare⟩
theorem Inv.after {Q:VK} {u:Value} (I:Inv X pins σ H s) (h:CE X.stack X.prog X.w H s Q u s'):EP X pins σ Q u s':=by
 obtain ⟨v,H',os,bare,un,hok,r,q⟩:=h
 obtain ⟨hh,g,d,t,os'⟩:=s'
 obtain rfl:os'=s.os:=os
 exact ⟨v,H',I.call (h':=hh) (g':=g) (d':=d) (t':=t) (ch:=[]) un hok bare (fun b z=>absurd z (by simp)),r,q⟩
end
def wB (sp:Sp) (dvs:List V) (E:XK) (t:TA):TE:=fun σ H Q=>t σ H fun vs H1=>sp (vs++dvs) H1 Q E
def oW (K:PySem.W.Frag) (fd:FuncData) (ps:List Str) (ds:List Value):Prop :=
 ∀ (s:Shared) (us:List Value),K.In s.heap->(us++ds).length=ps.length->BindsTo s fd ⟨us,[]⟩ (ps.zip (us++ds))
theorem oW.all {K:PySem.W.Frag} {fd:FuncData} {ps:List Str} (h:∀ us:List Value,us.length=ps.length->bindArgs fd ⟨us,[]⟩=pure (ps.zip us)):oW K fd ps []:=fun s us _ hl=>by
 rw [Za] at hl ⊢
 exact .of_eq (h us hl)
def qC (CX:CXT) (X:Cx) (E:XK):Prop:=∀ (pins:List (Addr×Obj)) (σ:St) (H:Hp) (s:Shared) (e:Value) (s':Shared),Inv X pins σ H s->CX X.stack H s E e s'->X.xe e s'
section
variable {X:Cx} {CX:CXT} {k:Nat} {f C:Addr} {fd:FuncData} {ps:List Str} {sp:Sp} {dvs:List V} {ds:List Value} {E:XK} {x m:Str} {p pos apos:Pos} {e o:Expr} {es:List Expr} {ta:TE} {t:TA}
theorem aDZ {pins:List (Addr×Obj)} {σ:St} {H:Hp} {s:Shared} {Q:VK} {us:List Value} {vs:List V} (F:FnOk X.prog X.w X.K X.mg X.base CX k f fd ps sp) (hr:Room k X.A) (hb:oW X.K fd ps ds) (hd:aY dvs ds) (hx:qC CX X E)
  (I:Inv X pins σ H s) (r:aY vs us) (h:sp (vs++dvs) H Q E):wpAny (model X.prog X.w) X.A (call (.ref f) us) (EP X pins σ Q) X.xe s:=by
 have r2:aY (vs++dvs) (us++ds):=r.append hd
 have hl:(us++ds).length=ps.length:=by rw [<- r2.length]; exact F.len _ _ _ _ h
 refine wpAny_call (codeAny_mono (F.run X.A X.stack s H ⟨us,[]⟩ (us++ds) (vs++dvs) Q E hr I.env0 (hb s us I.kIn hl) r2 h) fun r s' hq=>?_)
 cases r with
 | error e=>exact hx pins σ H s e s' I hq
 | ok fl =>
  cases fl with
  | ret u=>exact I.after hq
  | next=>exact False.elim hq
  | brk=>exact False.elim hq
  | cont=>exact False.elim hq
theorem zQ (F:FnOk X.prog X.w X.K X.mg X.base CX k f fd ps sp) (hr:Room k X.A) (hg:Gl X x) (hm:X.mg x=some (.ref f)) (hk:PySem.W.keepIn X.K (.ref f)=true) (hb:oW X.K fd ps ds) (hd:aY dvs ds) (hx:qC CX X E)
  (ha:PA X (e::es) t) (hdb:(x==("__debug__" : Str))=false:=by decide) (he:starEach (e::es) X.env=(false,eval e X.env)::starEach es X.env:=by rfl) (hpl:(backTo pos (starEach es X.env)).any (·.1)=false:=by rfl) :
  PE X (.Call (.Name x p) (e::es) [] pos) (wB sp dvs E t):=by
 intro pins s σ H Q I h
 refine wpAny_Call_Name_kw (nC I hg hm ?_ hdb)
 refine PySem.W.callWith_K (h₀:=X.base) I.ok.mod.kin hk (thn (ha pos pins s σ H _ I h) fun us s1 ⟨vs,H1,I1,r,q⟩=>⟨I1.kIn,?_⟩) he hpl
 exact aDZ F hr hb hd hx I1 r q
structure Mk (K:PySem.W.Frag) (C f:Addr):Prop where
 makes:PySem.W.makesIn K C=true
 init:PySem.W.findIn K (.ref C) "__init__" = some (some (.ref f))
 fn:PySem.W.isFn K (.ref f)=true
 kp:PySem.W.keepIn K (.ref C)=true
end
section
variable {X:Cx} {CX:CXT} {k:Nat} {f C:Addr} {fd:FuncData} {ps ks:List Str} {sp:Sp} {E:XK} {x m:Str} {p pos apos kpos:Pos} {e o:Expr} {es:List Expr} {kws:List Keyword} {te ta:TE} {t tk:TA} {nm:Option Str}
structure KBinds (K:PySem.W.Frag) (fd:FuncData) (ps ks:List Str) (g:List Value->List Value->List Value) (gV:List V->List V->List V):Prop where
 to:∀ (s:Shared) (us ws:List Value),K.In s.heap->(g us ws).length=ps.length->BindsTo s fd ⟨us,ks.zip ws⟩ (ps.zip (g us ws))
 rel:∀ {vs:List V} {us:List Value} {zs:List V} {ws:List Value},aY vs us->aY zs ws->aY (gV vs zs) (g us ws)
variable {g:List Value->List Value->List Value} {gV:List V->List V->List V}
end
structure FnScope (N P:List Str) (sc:Scope):Prop where
 kind:sc.kind=.function
 co:sc.isCoroutine=false
 gen:sc.isGenerator=false
 nd:N.Nodup
 pre:N.take P.length=P
 par:∀ x∈P,sc.names.lookup x=some .local∨sc.names.lookup x=some .cell
 nofree:∀ y∈sc.names,y.2≠.free
theorem sN {kindOf:Str->Option NameKind} {x:Str}:∀ {binds:List (Str×Value)} {m:Str->Option Value},(∀ v,(x,v)∉binds)->bindL kindOf binds m x=m x
 | [],_,_=>rfl
 | (n,v)::r,m,h=>by
  unfold bindL
  rw [sN fun w hw=>h w (Qq _ hw)]
  split
  ·have:x≠n:=by rintro rfl; exact h v Qt
   simp [this]
  ·rfl
theorem sO {kindOf:Str->Option NameKind} {x:Str}:∀ {binds:List (Str×Value)} {m:Str->Option Value},(∀ v,(x,v)∉binds)->bindC kindOf binds m x=m x
 | [],_,_=>rfl
 | (n,v)::r,m,h=>by
  unfold bindC
  rw [sO fun w hw=>h w (Qq _ hw)]
  split
  ·rfl
  ·have:x≠n:=by rintro rfl; exact h v Qt
   simp [this]
theorem sP {kindOf:Str->Option NameKind} {x:Str} {v:Value}:∀ {P:List Str} {vs:List Value} {i:Nat} {m:Str->Option Value},P.Nodup->P[i]?=some x->vs[i]?=some v->kindOf x=some .local ->
  bindL kindOf (P.zip vs) m x=some v
 | [],_,_,_,_,h,_,_=>by simp at h
 | _::_,[],_,_,_,_,h,_=>by simp at h
 | p::P,w::vs,0,m,nd,h1,h2,hk=>by
  simp at h1 h2; subst h1; subst h2
  show bindL kindOf ((p,w)::P.zip vs) m p=_
  unfold bindL
  rw [sN fun v hv=>(Xi.mp nd).1 (Zp hv).1,if_pos hk]
  simp
 | p::P,w::vs,i+1,m,nd,h1,h2,hk=>by
  show bindL kindOf ((p,w)::P.zip vs) m x=_
  unfold bindL
  exact sP (i:=i) (Xi.mp nd).2 (by simpa using h1) (by simpa using h2) hk
theorem sQ {kindOf:Str->Option NameKind} {x:Str} {v:Value}:∀ {P:List Str} {vs:List Value} {i:Nat} {m:Str->Option Value},P.Nodup->P[i]?=some x->vs[i]?=some v->kindOf x≠some .local ->
  bindC kindOf (P.zip vs) m x=some v
 | [],_,_,_,_,h,_,_=>by simp at h
 | _::_,[],_,_,_,_,h,_=>by simp at h
 | p::P,w::vs,0,m,nd,h1,h2,hk=>by
  simp at h1 h2; subst h1; subst h2
  show bindC kindOf ((p,w)::P.zip vs) m p=_
  unfold bindC
  rw [sO fun v hv=>(Xi.mp nd).1 (Zp hv).1,if_neg hk]
  simp
 | p::P,w::vs,i+1,m,nd,h1,h2,hk=>by
  show bindC kindOf ((p,w)::P.zip vs) m x=_
  unfold bindC
  exact sQ (i:=i) (Xi.mp nd).2 (by simpa using h1) (by simpa using h2) hk
def start (N:List Str) (vs:List V):St:=vs.map some++List.replicate (N.length - vs.length) none
def nD (CX:CXT) (P:Program) (w:World) (K:PySem.W.Frag) (mg:Str->Option Value) (base:Heap) (N:List Str) (qual:Str) (scope:Scope) (f:Addr) (cd:Value) (A:Around) (outer:List Env) (s:Shared) (H:Hp) (E:XK):Cx where
 prog:=P
 w:=w
 K:=K
 mg:=mg
 base:=base
 A:=A.deeper (envOfC qual scope s.heap.objs.size f cd)
 N:=N
 s₀:=s
 H₀:=H
 env:=envOfC qual scope s.heap.objs.size f cd
 outer:=outer
 stack:=envOfC qual scope s.heap.objs.size f cd::outer
 ex:=[]
 calm:=true
 fn:=fun _=>true
 pn:=[]
 xe:=fun e s'=>wpAny (model P w) (A.deeper (envOfC qual scope s.heap.objs.size f cd)) (leaving (envOfC qual scope s.heap.objs.size f cd) e) (fun _ s''=>CX outer H s E e s'') (fun e' s''=>CX outer H s E e' s'') s'
theorem wC {sc:Scope} {n:Nat} {x:Str} (h:sc.names.lookup x=some .cell):∃ c,(cellsFrom n sc.names []).lookup x=some c:=by
 have q:=PySem.W.cellsFrom_some sc.names n [] (.inl h)
 exact Yc.mp q
theorem aAK {CX:CXT} {P:Program} {w:World} {K:PySem.W.Frag} {mg:Str->Option Value} {base:Heap} {N ps:List Str} {qual:Str} {scope:Scope} {f:Addr} {cd:Value} {A:Around} {outer:List Env} {s s1:Shared} {H:Hp} {E:XK} {us:List Value} {vs:List V}
  (S:FnScope N ps scope) (hd:A.handled=none) (e0:Env0 P w K mg base A outer s H) (hl:vs.length=ps.length) (r:aY vs us)
  (x:InCallC s s.heap.objs.size (bindL (envOfC qual scope s.heap.objs.size f cd).kindOf (ps.zip us) fun _=>none) (cellsFrom (s.heap.objs.size+1) scope.names []) (bindC (envOfC qual scope s.heap.objs.size f cd).kindOf (ps.zip us) fun _=>none) s1) :
  Inv (nD CX P w K mg base N qual scope f cd A outer s H E) [] (start N vs) H s1:=by
 have hpl:ps.length<=N.length:=by have:=congrArg Yo S.pre; rw [Qu] at this; omega
 obtain ⟨h1,tk,rfl,hk⟩:=x.done
 have noA:∀ b:Addr,b∉(nD CX P w K mg base N qual scope f cd A outer s H E).ex:=fun b z=>absurd (show b∈([]:List Addr) from z) (by simp)
 refine ⟨⟨e0.mod,S.kind,rfl,rfl,Qg _,fun y z c h1 h2=>?_,fun y hy=>?_,fun y c _ h=>?_,fun _=>hd,Around.frames_deeper e0.frames,.inr ⟨rfl,rfl⟩,fun b z=>absurd z (noA b),e0.bs,e0.bsz,fun b _ _=>noA b,fun b z=>absurd z (noA b),e0.funs,e0.frf⟩,
  rfl,e0.bare,Un.kept hk,⟨_,x.toInCall.ns,fun i y v h1 h2 h3=>?_⟩,fun y c h=>⟨_,x.cell y c h⟩,e0.hok.fresh (Qg _),fun y c h=>?_,fun p hp=>absurd (show p∈([]:List (Addr×Obj)) from hp) (by simp),e0.hok.kept hk,?_⟩
 ·exact name_of_addr x.apart (PySem.mem_of_lookup h1) (PySem.mem_of_lookup h2)
 ·have hy:scope.names.lookup y=some .cell∨scope.names.lookup y=some .free:=hy
  rcases hy with hy | hy
  ·exact wC hy
  ·exact absurd rfl (S.nofree _ (PySem.mem_of_lookup hy))
 ·exact Xr (x.above y c (PySem.mem_of_lookup h))
 ·have hi:i < vs.length:=by
   unfold start at h2
   by_cases hi:i < vs.length
   ·exact hi
   ·rw [Jd (by simpa using hi)] at h2
    rw [Xb] at h2
    split at h2 <;> cases h2
  have ha:vs[i]?=some v:=by
   unfold start at h2
   rw [Qv (by simpa using hi),Qi] at h2
   cases e:vs[i]? with
   | none=>rw [e] at h2; cases h2
   | some a=>rw [e] at h2; cases h2; rfl
  obtain ⟨u,hu,rv⟩:=r.get ha
  have hp:ps[i]?=some y:=by
   rw [<- S.pre,List.getElem?_take_of_lt (by omega)]; exact h1
  have ndP:ps.Nodup:=by rw [<- S.pre]; exact S.nd.sublist (List.take_sublist _ _)
  refine ⟨u,rv,?_⟩
  rcases S.par y (Qh hp) with k | k
  ·exact .inl ⟨k,sP ndP hp hu k⟩
  ·obtain ⟨c,e⟩:=wC (n:=s.heap.objs.size+1) k
   refine .inr ⟨.inl k,c,e,?_⟩
   have q:=x.cell y c e
   rw [sQ ndP hp hu (by show scope.names.lookup y≠_; rw [k]; decide)] at q
   exact q
 ·exact e0.hok.fresh (Xr (x.above y c (PySem.mem_of_lookup h)))
 ·unfold start
  show _=N.length
  rw [Qe,Qb,Jc]
  omega
theorem aBx {CX:CXT} {P:Program} {w:World} {K:PySem.W.Frag} {mg:Str->Option Value} {base:Heap} {k:Nat} {f:Addr} {name qual:Str} {params:Arguments} {body:List Stmt} {scope:Scope} {dV kV doc pm cdv ct oc:Value} {an od:Option Addr}
  {osl:Array (Option Value)} {N ps:List Str} {sp:Sp} (lk:K.lookup f=some ⟨oc,od,.func (PySem.W.fnOf name qual params body scope dV kV doc pm an cdv ct),osl⟩) (hcd:PySem.W.codeIn K cdv qual=true) (S:FnScope N ps scope)
  (len:∀ vs H Q E,sp vs H Q E->vs.length=ps.length)
  (hbody:∀ (A:Around) (outer:List Env) (s:Shared) (H:Hp) (vs:List V) (Q:VK) (E:XK),Room k (A.deeper (envOfC qual scope s.heap.objs.size f cdv))->sp vs H Q E ->
   ∃ t,PSs (nD CX P w K mg base N qual scope f cdv A outer s H E) body t/\t { nx:=fun _ H'=>Q .non H',rt:=Q } (start N vs) H) :
  FnOk P w K mg base CX (k+1) f (PySem.W.fnOf name qual params body scope dV kV doc pm an cdv ct) ps sp:=by
 refine ⟨len,fun A outer s H args us vs Q E hr e0 hb r hsp=>?_⟩
 have hl:=len _ _ _ _ hsp
 have KX:K.In s.heap:=e0.mod.kin.keeps fun b o e=>(e0.bs b o e).1
 have lim:s.heap.NoLimit:=e0.mod.nolimit.keeps fun b o e=>(e0.bs b o e).1
 have hkind:∀ y∈ps.zip us,scope.names.lookup y.1=some .local∨(scope.names.lookup y.1=some .cell/\((cellsFrom (s.heap.objs.size+1) scope.names []).lookup y.1).isSome=true):=fun ⟨n,v⟩ hy=>by
  rcases S.par n (Zp hy).1 with q | q
  ·exact .inl q
  ·exact .inr ⟨q,PySem.W.cellsFrom_some _ _ _ (.inl q)⟩
 refine codeAny_call_function hr.depth (KX _ _ lk) rfl S.co S.gen rfl (PySem.W.codeRec_of KX hcd) (hb _ _ _ _ ?_)
 refine wpAny_newFunctionEnv_cells S.kind hkind fun env he s1 x=>?_
 subst he
 refine ⟨lim.keeps x.toInCall.keep,codeAny_func ?_⟩
 obtain ⟨t,ht,hq⟩:=hbody A outer s H vs Q E (hr.deeper _) hsp
 have I:Inv (nD CX P w K mg base N qual scope f cdv A outer s H E) [] (start N vs) H s1:=aAK S hr.hd e0 hl r x
 refine wpAny_mono (ht [] s1 (start N vs) H _ I hq) (fun fl s' hs=>?_) fun e s' hs=>hs
 have fin:∀ {σ':St} {H':Hp} {v:V} {u:Value},Inv (nD CX P w K mg base N qual scope f cdv A outer s H E) [] σ' H' s'->bO v u->Q v H'->CE outer P w H s Q u s' :=
  fun {σ' H' v u} J rv q=>⟨v,H',J.os,J.bare,J.base,J.hok,rv,q⟩
 cases fl with
 | ret u =>
  obtain ⟨v,σ',H',J,rv,q⟩:=hs
  exact fin J rv q
 | next =>
  obtain ⟨σ',H',J,q⟩:=hs
  exact fin (v:=V.non) (u:=Value.none) J rfl q
 | brk =>
  obtain ⟨_,_,_,q⟩:=hs
  exact False.elim q
 | cont =>
  obtain ⟨_,_,_,q⟩:=hs
  exact False.elim q
section
variable {X:Cx} {x:Str} {p pos:Pos} {e:Expr} {es:List Expr} {t:TA} {id T:String} {r:List V->Hp->VK->Prop}
def tCB (r:List V->Hp->VK->Prop) (t:TA):TE:=fun σ H Q=>t σ H fun vs H1=>r vs H1 Q
theorem aL (hc:eJ X (.builtin id) r) (hg:Gl X x) (hm:X.mg x=none) (hv:bootBuiltins x=some (.builtin id)) (ha:PA X (e::es) t) (hn:x ≠ "__name__" := by decide) (hdb:(x==("__debug__" : Str))=false:=by decide)
  (he:starEach (e::es) X.env=(false,eval e X.env)::starEach es X.env:=by rfl) (hpl:(backTo pos (starEach es X.env)).any (·.1)=false:=by rfl):PE X (.Call (.Name x p) (e::es) [] pos) (tCB r t):=by
 intro pins s σ H Q I h
 refine wpAny_Call_Name_kw (jB I hg hm hv ?_ hn hdb)
 refine PyProof.Rows.callWith_builtin1 (thn (ha pos pins s σ H _ I h) fun us s1 hx9=>?_) he hpl
 obtain ⟨vs,H1,I1,r1,q1⟩:=hx9
 exact hc pins s1 σ H1 vs us Q I1 r1 q1
theorem cA (hc:eJ X (.type T) r) (hg:Gl X x) (hm:X.mg x=none) (hv:bootBuiltins x=some (.type T)) (ha:PA X (e::es) t) (hn:x ≠ "__name__" := by decide) (hdb:(x==("__debug__" : Str))=false:=by decide)
  (he:starEach (e::es) X.env=(false,eval e X.env)::starEach es X.env:=by rfl) (hpl:(backTo pos (starEach es X.env)).any (·.1)=false:=by rfl):PE X (.Call (.Name x p) (e::es) [] pos) (tCB r t):=by
 intro pins s σ H Q I h
 refine wpAny_Call_Name_kw (jB I hg hm hv ?_ hn hdb)
 refine PyProof.Rows.callWith_type1 (thn (ha pos pins s σ H _ I h) fun us s1 hx9=>?_) he hpl
 obtain ⟨vs,H1,I1,r1,q1⟩:=hx9
 exact hc pins s1 σ H1 vs us Q I1 r1 q1
end
end L2
namespace HT
open PySem PyProof.Rows
section
open PySem.SeqAt
open PySem.AutoSeq1 (wpAny_loadPart')
open PySem.MeetsSeq PySem.MeetsSeq2 PySem.MeetsSeq3
end
section
variable {prog:Program} {w:World} {A:Around} {E:Value->Shared->Prop} {s:Shared}
theorem cat_tup {t b:Addr} {vs ws:List Value} {Q:Value->Shared->Prop} (ht:IsTup s.heap t vs.toArray) (hb:IsTup s.heap b ws.toArray) (hv:vs≠[])
  (h1:ws = []->Q (.ref t) s) (h2:ws≠[]->Q (.ref s.heap.objs.size) { s with heap:=s.heap.push { cls:=.type "tuple",data:=.seq (vs++ws).toArray } })
  (hsz:vs.length+ws.length<=sizeLine):wpAny (model prog w) A (binaryOp .Add (.ref t) (.ref b)) Q E s:=by
 obtain ⟨⟨cls,dd,data,sl⟩,ho,hc,n,hd⟩:=id ht
 obtain ⟨⟨cls2,dd2,data2,sl2⟩,ho2,hc2,n2,hd2⟩:=id hb
 simp only at hc hd hc2 hd2
 subst hc hd hc2 hd2
 have e:vs.toArray++ws.toArray=(vs++ws).toArray:=by simp
 by_cases hw:ws = []
 ·exact concat_meets ⟨_,ho,rfl⟩ ⟨_,ho2,rfl⟩ noFill_tuple_add seq_tuple_add PySem.F.slot_tuple_add PySem.F.entry_tuple_add (PySem.F.args_tuple_add_2 _ _)
   (tuple_addW1 t b vs.toArray ws.toArray n n2 dd dd2 sl sl2 (by simpa using hv) (by simp [hw])) ⟨ho,ho2,h1 hw⟩
 ·refine concat_meets ⟨_,ho,rfl⟩ ⟨_,ho2,rfl⟩ noFill_tuple_add seq_tuple_add PySem.F.slot_tuple_add PySem.F.entry_tuple_add (PySem.F.args_tuple_add_2 _ _)
   (tuple_addW2 t b vs.toArray ws.toArray n n2 dd dd2 sl sl2 (by simpa using hv) (by simpa using hw) (by rw [Ql,Ql]; exact hsz)) ⟨ho,ho2,?_⟩
  rw [e]
  exact h2 hw
def sIx (n d:Nat):Option Int->Nat
 | none=>d
 | some v=>if v < 0 then (v+(n:Int)).toNat else min v.toNat n
theorem sIx_none (n d:Nat):sIx n d none=d:=rfl
theorem sIx_nat (n d k:Nat):sIx n d (some (k:Int))=min k n:=by
 show (if (k:Int) < 0 then ((k:Int)+(n:Int)).toNat else min (k:Int).toNat n)=min k n
 rw [if_neg (by omega),Zg]
theorem aD0 (n d:Nat) (hd:d<=n) (o:Option Int):sIx n d o<=n:=by
 cases o with
 | none=>exact hd
 | some v =>
  show (if v < 0 then (v+(n:Int)).toNat else min v.toNat n)<=n
  by_cases hv:v < 0
  ·rw [if_pos hv]; omega
  ·rw [if_neg hv]; exact Nat.min_le_right _ _
theorem zR (v:Int) (n d:Nat):(if v < 0 then max (v+(n:Int)) 0 else min v (n:Int))=((sIx n d (some v):Nat):Int):=by
 show (if v < 0 then max (v+(n:Int)) 0 else min v (n:Int))=(((if v < 0 then (v+(n:Int)).toNat else min v.toNat n):Nat):Int)
 by_cases hv:v < 0
 ·simp only [if_pos hv]; omega
 ·simp only [if_neg hv]; omega
theorem yA (lo hi:Option Int) (n:Nat):Builtin.Slice.sliceAdjust lo hi 1 (n:Int)=(((sIx n 0 lo:Nat):Int),((sIx n n hi:Nat):Int)):=by
 have h1:¬ ((1:Int) < 0):=by omega
 unfold Builtin.Slice.sliceAdjust
 simp only [h1,if_false]
 refine Prod.ext ?_ ?_
 ·cases lo with
  | none=>rfl
  | some v=>exact zR v n 0
 ·cases hi with
  | none=>rfl
  | some v=>exact zR v n n
theorem yB (i j:Nat):Builtin.Slice.slicePlaces (i:Int) (j:Int) 1=j - i:=by
 unfold Builtin.Slice.slicePlaces
 have h1:(1:Int) > 0:=by omega
 simp only [h1,if_true,Yz]
 split <;> omega
theorem slicePart_ {v:Value} {o:Option Int} {Q:Option Int->Shared->Prop} (p:IsPart v o) (h:Q o s):wpAny (model prog w) A (Builtin.Slice.slicePartIndex v) Q E s:=by
 cases p with
 | none=>exact slicePart_none h
 | int i t=>exact slicePart_int h
theorem sliceApplied_gen {sl:Addr} {vl vu:Value} {lo hi:Option Int} {n:Nat} {Q:Int×Int×Nat->Shared->Prop} (hs:s.heap.IsSliceOf sl vl vu .none) (pl:IsPart vl lo) (pu:IsPart vu hi)
  (h:Q (((sIx n 0 lo:Nat):Int),1,sIx n n hi - sIx n 0 lo) s):wpAny (model prog w) A (Builtin.Slice.sliceApplied (.ref sl) (pure (n:Int))) Q E s:=by
 obtain ⟨os,hos,hcs,hds⟩:=id hs
 unfold Builtin.Slice.sliceApplied Builtin.Slice.sliceFields
 refine wpAny_bind (wpAny_bind (wpAny_field hos hds (x:=vl) rfl (wpAny_bind (wpAny_field hos hds (x:=vu) rfl (wpAny_bind (wpAny_field hos hds (x:=.none) rfl (wpAny_pure ?_)))))))
 refine wpAny_bind (slicePart_none ?_)
 show wpAny _ _ (if ((1:Int)==0)=true then _ else _) _ _ s
 rw [if_neg (by decide)]
 refine wpAny_bind (slicePart_ pl (wpAny_bind (slicePart_ pu (wpAny_bind (wpAny_pure ?_)))))
 show wpAny _ _ (match Builtin.Slice.sliceAdjust lo hi 1 (n:Int) with | (lo,hi)=>pure (lo,(1:Int),Builtin.Slice.slicePlaces lo hi 1)) _ _ s
 rw [yA lo hi n]
 show wpAny _ _ (pure (((sIx n 0 lo:Nat):Int),(1:Int),Builtin.Slice.slicePlaces ((sIx n 0 lo:Nat):Int) ((sIx n n hi:Nat):Int) 1)) _ _ s
 rw [yB]
 exact wpAny_pure h
theorem pick_gen (xs:Array Value) (i k:Nat):((List.range k).filterMap fun (m:Nat)=>xs[((i:Int)+(m:Int)*1).toNat]?).toArray=((xs.toList.drop i).take k).toArray:=by
 have e:(fun (m:Nat)=>xs[((i:Int)+(m:Int)*1).toNat]?)=fun m=>xs[i+m]?:=by
  funext m
  have:((i:Int)+(m:Int)*1).toNat=i+m:=by omega
  rw [this]
 rw [e]
 have:=pick_run xs i k
 rw [Yu] at this
 have e2:((fun x=>xs[x]?) ∘ fun x=>i+x)=fun m=>xs[i+m]?:=rfl
 rw [e2] at this
 rw [this]
theorem getItem_tuple_cut {t sl:Addr} {items:Array Value} {vl vu:Value} {lo hi:Option Int} {Q:Value->Shared->Prop} (ht:IsTup s.heap t items) (hs:s.heap.IsSliceOf sl vl vu .none) (pl:IsPart vl lo) (pu:IsPart vu hi)
  (hw:¬ (sIx items.size 0 lo=0/\sIx items.size items.size hi=items.size))
  (h:Q (.ref s.heap.objs.size) { s with heap:=s.heap.push { cls:=.type "tuple",data:=.seq ((items.toList.drop (sIx items.size 0 lo)).take (sIx items.size items.size hi - sIx items.size 0 lo)).toArray } })
  (hsz:items.size<=sizeLine):wpAny (model prog w) A (getItem (.ref t) (.ref sl)) Q E s:=by
 have htake:sizeOk (.seq ((items.toList.drop (sIx items.size 0 lo)).take (sIx items.size items.size hi - sIx items.size 0 lo)).toArray):=by
  show ((items.toList.drop (sIx items.size 0 lo)).take (sIx items.size items.size hi - sIx items.size 0 lo)).toArray.size<=sizeLine
  rw [Ql,Qu,Ja,Array.length_toList]
  omega
 have hj:sIx items.size items.size hi<=items.size:=aD0 _ _ (Qg _) hi
 obtain ⟨os,hos,hcs,hds⟩:=id hs
 have hTs:s.TypeIs (.ref sl) "slice" := ⟨os,hos,hcs⟩
 unfold getItem
 try with_reducible refine wpAny_holding ?_
 first | refine wpAny_bind (wpAny_pure ?_) | skip
 refine wpAny_bind (wpAny_sequenceKey ht.typeIs (by decide) ?_)
 refine wpAny_bind (wpAny_callSpecial?_slot (name:=Str.ofString "__getitem__") ht.typeIs PyProof.Rows.slot_tuple_getitem
  (wpAny_call_entry PyProof.Rows.slot_tuple_getitem ht.typeIs entry_tuple_getitem ?_ (args_tuple_getitem _ _)))
 show wpAny _ _ (Builtin.Tuple.tupleItemsOf (.ref t) >>= _) _ _ s
 refine wpAny_bind (tupleItemsOf_ ht ?_)
 refine wpAny_bind (wpAny_typeOf hTs ?_)
 rw [if_pos (by decide)]
 refine wpAny_bind (sliceApplied_gen hs pl pu ?_)
 have hno:¬ ((((sIx items.size 0 lo:Nat):Int)==0 && (1:Int)==1 && (sIx items.size items.size hi - sIx items.size 0 lo)==items.size)=true):=by
  intro q
  rw [Jg,Jg] at q
  have q1:((sIx items.size 0 lo:Nat):Int)=0:=eq_of_beq q.1.1
  have q2:sIx items.size items.size hi - sIx items.size 0 lo=items.size:=eq_of_beq q.2
  exact hw ⟨by omega,by omega⟩
 show wpAny _ _ (if (((sIx items.size 0 lo:Nat):Int)==0 && (1:Int)==1 && (sIx items.size items.size hi - sIx items.size 0 lo)==items.size)=true then _ else _) _ _ s
 rw [if_neg hno,pick_gen]
 first
  | exact wpAny_bind (m:=Builtin.Tuple.tupleExact _) (wpAny_newObj_type (wpAny_pure ⟨_,rfl,wpAny_pure h⟩) htake)
  | exact wpAny_bind (m:=Builtin.Tuple.tupleExact _) (wpAny_newObj_type (wpAny_bind (wpAny_pure (wpAny_pure ⟨_,rfl,wpAny_pure h⟩))) htake)
  | exact wpAny_bind (wpAny_bind (m:=Builtin.Tuple.tupleExact _) (wpAny_newObj_type (wpAny_pure (wpAny_pure ⟨_,rfl,wpAny_pure h⟩)) htake))
  | exact wpAny_bind (wpAny_bind (m:=Builtin.Tuple.tupleExact _) (wpAny_newObj_type (wpAny_pure ⟨_,rfl,wpAny_pure h⟩) htake))
end
end HT
namespace L2
open PySem PySem.Spec PyProof.Rows
abbrev TO:=St->Hp->(Option Int->Hp->Prop)->Prop
def PO (X:Cx) (e:Option Expr) (t:TO):Prop :=
 ∀ (pins:List (Addr×Obj)) (s:Shared) (σ:St) (H:Hp) (Q:Option Int->Hp->Prop),Inv X pins σ H s->t σ H Q ->
  wpAny (model X.prog X.w) X.A (evalPart e X.env) (fun u s'=>∃ o H',Inv X pins σ H' s'/\IsPart u o/\Q o H') X.xe s
def gK:TO:=fun _ H Q=>Q none H
def kW (t:TE):TO:=fun σ H Q=>t σ H fun x H1=>∃ i,x=.int i/\Q (some i) H1
theorem jD {ns:List Int}:∀ {us:List Value},aY (ns.map V.int) us->IntsAre us ns:=by
 induction ns with
 | nil=>intro us r; rw [Yk] at r; cases r; exact .nil
 | cons n ns ih =>
  intro us r
  rw [Jf] at r
  cases r with
  | cons r1 r2 =>
   obtain ⟨t,e⟩:=r1
   subst e
   exact .cons n t (ih r2)
section
variable {X:Cx} {e:Expr} {te:TE} {lo hi:Option Expr} {tl th:TO} {pos p2:Pos}
theorem bN:PO X none gK:=by
 intro pins s σ H Q I h
 rw [evalPart_none]
 exact wpAny_pure ⟨none,H,I,.none,h⟩
theorem bK (h:PE X e te):PO X (some e) (kW te):=by
 intro pins s σ H Q I hw
 rw [evalPart_some]
 refine thn (h pins s σ H _ I hw) fun u s1 hx9=>?_
 obtain ⟨x,H1,I1,r1,q1⟩:=hx9
 obtain ⟨i,rfl,q⟩:=q1
 obtain ⟨t,rfl⟩:=r1
 exact ⟨some i,H1,I1,.int i t,q⟩
def SlR (X:Cx) (r:V->Option Int->Option Int->Hp->VK->Prop):Prop :=
 ∀ (pins:List (Addr×Obj)) (s:Shared) (σ:St) (H:Hp) (x:V) (v vl vu:Value) (lo hi:Option Int) (sl:Addr) (Q:VK),Inv X pins σ H s->bO x v->s.heap.IsSliceOf sl vl vu .none->IsPart vl lo->IsPart vu hi->r x lo hi H Q ->
  ∃ T id,typeLookup (.type T) "__getitem__" = pure (some (.builtin id))/\s.TypeIs v T/\wpAny (model X.prog X.w) X.A (getItem v (.ref sl)) (EP X pins σ Q) X.xe s
theorem SlR.or {r r':V->Option Int->Option Int->Hp->VK->Prop} (h:SlR X r) (h':SlR X r'):SlR X (fun x lo hi H Q=>r x lo hi H Q∨r' x lo hi H Q):=by
 intro pins s σ H x v vl vu lo hi sl Q I rx hs pl pu q
 rcases q with q | q
 ·exact h pins s σ H x v vl vu lo hi sl Q I rx hs pl pu q
 ·exact h' pins s σ H x v vl vu lo hi sl Q I rx hs pl pu q
def tSl (r:V->Option Int->Option Int->Hp->VK->Prop) (te:TE) (tl th:TO):TE:=fun σ H Q=>te σ H fun x H1=>tl σ H1 fun l H2=>th σ H2 fun u H3=>r x l u H3 Q
theorem bD {r:V->Option Int->Option Int->Hp->VK->Prop} (hr:SlR X r) (he:PE X e te) (hl:PO X lo tl) (hu:PO X hi th):PE X (.Subscript e (.Slice lo hi none p2) pos) (tSl r te tl th):=by
 intro pins s σ H Q I h
 refine Subscript_ (thn (he pins s σ H _ I h) fun v s1 hx9=>?_)
 obtain ⟨x,H1,I1,r1,q1⟩:=hx9
 refine wpAny_Slice (thn (hl pins s1 σ H1 _ I1 q1) fun vl s2 ⟨l,H2,I2,pl,q2⟩=>thn (hu pins s2 σ H2 _ I2 q2) fun vu s3 hx9=>?_)
 obtain ⟨u,H3,I3,pu,q3⟩:=hx9
 rw [evalPart_none]
 refine wpAny_pure ?_
 have I4:Inv X pins σ H3 { s3 with heap:=s3.heap.push { cls:=.type "slice",data:=.fields #[vl,vu,.none] } }:=I3.kept (t':=s3.toks) fun b ob q=>Qa _ q
 obtain ⟨T,id,hT,ht,hg⟩:=hr pins { s3 with heap:=s3.heap.push { cls:=.type "slice",data:=.fields #[vl,vu,.none] } } σ H3 x v vl vu l u s3.heap.objs.size Q I4 r1 (Heap.IsSliceOf.new ..) pl pu q3
 show wpAny (model X.prog X.w) X.A (subscriptTail e (.Slice lo hi none p2) v (.ref s3.heap.objs.size)) (EP X pins σ Q) X.xe { s3 with heap:=s3.heap.push { cls:=.type "slice",data:=.fields #[vl,vu,.none] } }
 exact tail_any (ops:=[.ref s3.heap.objs.size,v]) ht hT hg (by with_unfolding_all rfl)
def iY (xs:List V) (lo hi:Option Int):List V:=(xs.drop (HT.sIx xs.length 0 lo)).take (HT.sIx xs.length xs.length hi - HT.sIx xs.length 0 lo)
theorem cB (xs:List V) (lo hi:Option Int):(iY xs lo hi).length<=xs.length:=by
 unfold iY
 rw [Qu,Ja]
 exact Qw (Nat.min_le_right _ _) (Nat.sub_le _ _)
def aFt (K:PySem.W.Frag):V->Option Int->Option Int->Hp->VK->Prop:=fun x lo hi H Q=>∃ a xs,x=.ref a/\SqT K H a xs /\
 ¬ (HT.sIx xs.length 0 lo=0/\HT.sIx xs.length xs.length hi=xs.length)/\∀ p,H p=none->Q (.ref p) (upd H p (.tup (iY xs lo hi)))
theorem aD1:SlR X (aFt X.K):=by
 intro pins s σ H x v vl vu lo hi sl Q I rx hs pl pu h
 obtain ⟨a,xs,rfl,hx,hw,q⟩:=h
 cases rx
 obtain ⟨its,r,ht,hz⟩:=I.tuple hx
 have hlen:its.toArray.size=xs.length:=by rw [Ql]; exact r.length.symm
 refine ⟨"tuple",_,PyProof.Rows.slot_tuple_getitem.lookup,ht.typeIs,?_⟩
 refine HT.getItem_tuple_cut ht hs pl pu (by rw [hlen]; exact hw) ?_ (by rw [hlen]; exact hz)
 rw [hlen]
 refine ⟨.ref s.heap.objs.size,_,I.laid (t':=s.toks) (o:=.tup (iY xs lo hi)) (fun b ob q=>Qa _ q) (Qg _) ?_,rfl,q _ (I.hok.fresh (Qg _))⟩
 exact ⟨Qw (cB xs lo hi) hz,_,0,(r.drop (HT.sIx xs.length 0 lo)).take (HT.sIx xs.length xs.length hi - HT.sIx xs.length 0 lo),Qk _ rfl⟩
def aEQ (K:PySem.W.Frag):R2:=fun x y H Q=>∃ a b xs ys,x=.ref a/\y=.ref b/\SqT K H a xs/\SqT K H b ys/\xs≠[]/\xs.length+ys.length<=sizeLine /\
 (ys = []->Q (.ref a) H)/\(ys≠[]->∀ p,H p=none->Q (.ref p) (upd H p (.tup (xs++ys))))
theorem aY.nil_iff {xs:List V} {us:List Value} (r:aY xs us):us = []↔xs = []:=by
 cases r with
 | nil=>simp
 | cons _ _=>simp
theorem aCT:OpR X (binaryOp .Add) (aEQ X.K):=by
 intro pins s σ H x y v u Q I rx ry h
 obtain ⟨a,b,xs,ys,rfl,rfl,ha,hb,hx,hz,q1,q2⟩:=h
 cases rx
 cases ry
 obtain ⟨its,r1,p1,_⟩:=I.tuple ha
 obtain ⟨its2,r2,p2,_⟩:=I.tuple hb
 refine HT.cat_tup p1 p2 (fun z=>hx (r1.nil_iff.mp z)) (fun z=>⟨.ref a,H,I,rfl,q1 (r2.nil_iff.mp z)⟩) (fun z=>?_) (by rw [<- r1.length,<- r2.length]; exact hz)
 refine ⟨.ref s.heap.objs.size,_,I.laid (t':=s.toks) (o:=.tup (xs++ys)) (fun b ob q=>Qa _ q) (Qg _) ?_,rfl,q2 (fun w=>z (r2.nil_iff.mpr w)) _ (I.hok.fresh (Qg _))⟩
 exact ⟨by rw [Qe]; exact hz,_,0,r1.append r2,Qk _ rfl⟩
end
def ixN (n:Nat) (i:Int):Option Nat:=if 0<=i then (if i < n then some i.toNat else none) else if -(n:Int)<=i then some (i+n).toNat else none
def atI {α:Type} (xs:List α) (i:Int):Option α:=(ixN xs.length i).bind fun j=>xs[j]?
theorem zS {n:Nat} {i:Int} {j:Nat} (h:ixN n i=some j):seqIndex? i n=some j/\j < n/\-(n:Int)<=i/\i < n:=by
 unfold ixN at h
 by_cases h0:0<=i
 ·rw [if_pos h0] at h
  by_cases h1:i < n
  ·rw [if_pos h1] at h
   have e:i.toNat=j:=Option.some.inj h
   exact ⟨by rw [seqIndex_of h0 h1,e],by omega,by omega,h1⟩
  ·rw [if_neg h1] at h; cases h
 ·rw [if_neg h0] at h
  by_cases h1:-(n:Int)<=i
  ·rw [if_pos h1] at h
   have e:(i+n).toNat=j:=Option.some.inj h
   exact ⟨by rw [seqIndex_neg (by omega) h1,e],by omega,h1,by omega⟩
  ·rw [if_neg h1] at h; cases h
theorem zT {α:Type} {xs:List α} {i:Int} {v:α} (h:atI xs i=some v):∃ j,seqIndex? i xs.length=some j/\xs[j]?=some v/\j < xs.length/\-(xs.length:Int)<=i/\i < xs.length:=by
 unfold atI at h
 cases e:ixN xs.length i with
 | none=>rw [e] at h; cases h
 | some j =>
  rw [e] at h
  obtain ⟨h1,h2,h3,h4⟩:=zS e
  exact ⟨j,h1,h,h2,h3,h4⟩
theorem eR {α:Type} {xs:List α} {j:Nat} {v:α} (h:xs[j]?=some v):atI xs (j:Int)=some v:=by
 have hj:j < xs.length:=(Qd.mp h).1
 have e:ixN xs.length (j:Int)=some j:=by
  unfold ixN
  rw [if_pos (by omega),if_pos (by omega)]; simp
 unfold atI; rw [e]; exact h
def aCU (b:Expr):Prop:=∀ o i,subscripted b false o i=operate [o,i] (getItem o i)
def IxR (X:Cx) (r:R2):Prop :=
 ∀ (value slice:Expr) (pins:List (Addr×Obj)) (s:Shared) (σ:St) (H:Hp) (x y:V) (v u:Value) (Q:VK),Inv X pins σ H s->bO x v->bO y u->r x y H Q ->
  subscripted slice false v u=operate [v,u] (getItem v u)->wpAny (model X.prog X.w) X.A (subscriptTail value slice v u) (EP X pins σ Q) X.xe s
def MtR (X:Cx) (id:String) (r:V->List V->Hp->VK->Prop):Prop :=
 ∀ (pins:List (Addr×Obj)) (s:Shared) (σ:St) (H:Hp) (x:V) (xs:List V) (v:Value) (us:List Value) (Q:VK),Inv X pins σ H s->bO x v->aY xs us->r x xs H Q ->
  wpAny (model X.prog X.w) X.A (call (.builtin id) (v::us)) (EP X pins σ Q) X.xe s
section
variable {X:Cx} {a b:Expr} {ta tb:TE} {pos:Pos}
theorem IxR.or {r r':R2} (h:IxR X r) (h':IxR X r'):IxR X (fun x y H Q=>r x y H Q∨r' x y H Q):=by
 intro value slice pins s σ H x y v u Q I rx ry q hs
 rcases q with q | q
 ·exact h value slice pins s σ H x y v u Q I rx ry q hs
 ·exact h' value slice pins s σ H x y v u Q I rx ry q hs
theorem MtR.or {id:String} {r r':V->List V->Hp->VK->Prop} (h:MtR X id r) (h':MtR X id r'):MtR X id (fun x xs H Q=>r x xs H Q∨r' x xs H Q):=by
 intro pins s σ H x xs v us Q I rx rs q
 rcases q with q | q
 ·exact h pins s σ H x xs v us Q I rx rs q
 ·exact h' pins s σ H x xs v us Q I rx rs q
theorem bS {r:R2} (hr:IxR X r) (ha:PE X a ta) (hb:PE X b tb) (hs:aCU b):PE X (.Subscript a b pos) (tOp r ta tb):=by
 intro pins s σ H Q I h
 exact Subscript_ (aDT ha hb I h fun v u s2 x y H2 I2 rx ry q=>hr a b pins s2 σ H2 x y v u Q I2 rx ry q (hs _ _))
def aER (K:PySem.W.Frag):R2:=fun x y H Q=>∃ p xs i v,x=.ref p/\y=.int i/\SqL K H p xs/\atI xs i=some v/\Q v H
def aD2 (K:PySem.W.Frag):R2:=fun x y H Q=>∃ p xs i v,x=.ref p/\y=.int i/\SqT K H p xs/\atI xs i=some v/\Q v H
theorem iJ:IxR X (aER X.K):=by
 intro value slice pins s σ H x y v u Q I rx ry h hs
 obtain ⟨p,xs,i,z,rfl,rfl,hq,he,q⟩:=h
 cases rx
 obtain ⟨t,rfl⟩:=ry
 obtain ⟨its,r,pl,hz⟩:=I.list hq
 obtain ⟨j,h1,h2,h3,h4,h5⟩:=zT he
 obtain ⟨w,ew,rw'⟩:=r.get h2
 have hl:=r.length
 have hn:=pZ
 have fin:EP X pins σ Q w s:=⟨z,H,I,rw',q⟩
 by_cases h0:0<=i
 ·have hj:i.toNat=j:=by
   rw [seqIndex_of h0 h5] at h1
   exact Option.some.inj h1
  exact item_listR pl.isList h0 (by omega) (by rw [hj]; simpa using ew) fin hs
 ·have hj:(i+(its.toArray.size:Int)).toNat=j:=by
   rw [seqIndex_neg (by omega) h4] at h1
   rw [Ql,<- hl]
   exact Option.some.inj h1
  exact subscriptTail_builtinR (x:=w) pl.isList.typeIs slot_list_getitem.lookup
   (wpAny_getItem_list_neg (Q:=fun r s'=>r=w/\EP X pins σ Q r s') pl.isList (by omega) (by rw [Ql] <;> omega) (by omega) (by rw [hj]; simpa using ew) ⟨rfl,fin⟩) hs
theorem dU:IxR X (aD2 X.K):=by
 intro value slice pins s σ H x y v u Q I rx ry h hs
 obtain ⟨p,xs,i,z,rfl,rfl,hq,he,q⟩:=h
 cases rx
 obtain ⟨t,rfl⟩:=ry
 obtain ⟨its,r,pl,hz⟩:=I.tuple hq
 obtain ⟨j,h1,h2,h3,h4,h5⟩:=zT he
 obtain ⟨w,ew,rw'⟩:=r.get h2
 have hl:=r.length
 have hn:=pZ
 have fin:EP X pins σ Q w s:=⟨z,H,I,rw',q⟩
 exact subscriptTail_builtinR (x:=w) pl.typeIs slot_tuple_getitem.lookup
  (getItem_tuple (j:=j) (Q:=fun r s'=>r=w/\EP X pins σ Q r s') pl (by omega) (by omega) (by rw [Ql,<- hl]; exact h1) (by simpa using ew) ⟨rfl,fin⟩) hs
theorem yC (its:List Value) (n j:Nat) (u:Value):Obj.mapSeq (·.setIfInBounds j u) { cls:=.type "list",data:=.seq its.toArray n }={ cls:=.type "list",data:=.seq (its.set j u).toArray n }:=by
 simp [Obj.mapSeq]
theorem Inv.lst {pins:List (Addr×Obj)} {σ:St} {H:Hp} {s:Shared} {p:Addr} {xs:List V} (I:Inv X pins σ H s) (h:H p=some (.lst xs)) :
  ∃ (its:List Value) (n:Nat),aY xs its/\s.heap.get? p=some { cls:=.type "list",data:=.seq its.toArray n }/\xs.length<=sizeLine:=by
 obtain ⟨z,its,n,r,e⟩:=I.hok p _ h
 exact ⟨its,n,r,e,z⟩
theorem Inv.lstUpd {pins:List (Addr×Obj)} {σ:St} {H:Hp} {s:Shared} {p:Addr} {xs ys:List V} {its its':List Value} {n n':Nat} {f:Obj->Obj} (I:Inv X pins σ H s) (h:H p=some (.lst xs))
  (ho:s.heap.get? p=some { cls:=.type "list",data:=.seq its.toArray n }) (hf:f { cls:=.type "list",data:=.seq its.toArray n }={ cls:=.type "list",data:=.seq its'.toArray n' }) (r:aY ys its') (hz:ys.length<=sizeLine) (t:Nat) :
  Inv X pins σ (upd H p (.lst ys)) { s with heap:=s.heap.update p f,toks:=t }:=by
 have e:(s.heap.update p f).get? p=some { cls:=.type "list",data:=.seq its'.toArray n' }:=by
  rw [Xj f ho (by rw [hf] <;> rfl),hf]
 refine I.write (x:=p) (e:=p) (by rw [h]; trivial) (.inl rfl) (fun b u hb q=>(Jm _ _ (Ne.symm hb)).trans q) ⟨_,e⟩ ?_
 exact ⟨hz,its',n',r,e⟩
def aES:V->V->V->Hp->(Hp->Prop)->Prop:=fun o i v H Q=>∃ p xs k j,o=.ref p/\i=.int k/\H p=some (.lst xs)/\ixN xs.length k=some j/\Q (upd H p (.lst (xs.set j v)))
theorem wD:aEE X aES:=by
 intro pins s σ H o i v ov iv u Q I ro ri rv h
 obtain ⟨p,xs,k,j,rfl,rfl,hp,hj,q⟩:=h
 cases ro
 obtain ⟨t,rfl⟩:=ri
 obtain ⟨its,n,r,ho,hz⟩:=I.lst hp
 obtain ⟨h1,h2,h3,h4⟩:=zS hj
 have hl:=r.length
 have hn:=pZ
 have I':Inv X pins σ (upd H p (.lst (xs.set j v))) { s with heap:=s.heap.update p (Obj.mapSeq (·.setIfInBounds j u)) } :=
  I.lstUpd hp ho (yC its n j u) (r.set rv j) (by rw [Xt]; exact hz) s.toks
 by_cases h0:0<=k
 ·have hk:k.toNat=j:=by
   rw [seqIndex_of h0 h4] at h1
   exact Option.some.inj h1
  exact PySem.W.ki_setAt ho h0 (by omega) (by rw [Ql,<- hl]; exact h4) (by rw [hk]; exact ⟨_,I',q⟩)
 ·have hk:(k+(its.toArray.size:Int)).toNat=j:=by
   rw [seqIndex_neg (by omega) h3] at h1
   rw [Ql,<- hl]
   exact Option.some.inj h1
  exact PySem.W.ki_setBack ho (by omega) (by rw [Ql,<- hl]; exact h3) (by omega) (by rw [hk]; exact ⟨_,I',q⟩)
def nE:V->Bool
 | .non=>true
 | .bl _=>true
 | .int _=>true
 | .str _=>true
 | _=>false
def eqV:V->V->Bool
 | .non,.non=>true
 | .bl a,.bl b=>a==b
 | .bl a,.int b=>(if a then 1 else 0)==b
 | .int a,.bl b=>a==(if b then 1 else 0)
 | .int a,.int b=>a==b
 | .str a,.str b=>a==b
 | _,_=>false
theorem aD3 {A:Around} {s:Shared} {y x:V} {u v:Value} (ry:bO y u) (rx:bO x v) (fy:nE y=true) (fx:nE x=true):SeqAt.EqAt A s u v (eqV y x):=by
 cases y with
 | non =>
  cases ry
  cases x with
  | non=>cases rx; exact SeqAt.EqAt.same _
  | bl b=>cases rx; exact SeqAt.EqAt.none_bool b
  | int b=>obtain ⟨t,rfl⟩:=rx; exact SeqAt.EqAt.none_int b t
  | str b=>obtain ⟨t,rfl⟩:=rx; exact SeqAt.EqAt.none_str b t
  | _=>exact absurd (show false=true from fx) Qs
 | bl a =>
  cases ry
  cases x with
  | non=>cases rx; exact SeqAt.EqAt.bool_none a
  | bl b=>cases rx; exact SeqAt.EqAt.bool_bool a b
  | int b=>obtain ⟨t,rfl⟩:=rx; exact SeqAt.EqAt.bool_int a b t
  | str b=>obtain ⟨t,rfl⟩:=rx; exact SeqAt.EqAt.bool_str a b t
  | _=>exact absurd (show false=true from fx) Qs
 | int a =>
  obtain ⟨t',rfl⟩:=ry
  cases x with
  | non=>cases rx; exact SeqAt.EqAt.int_none a t'
  | bl b=>cases rx; exact SeqAt.EqAt.int_bool a t' b
  | int b=>obtain ⟨t,rfl⟩:=rx; exact SeqAt.EqAt.int_int a t' b t
  | str b=>obtain ⟨t,rfl⟩:=rx; exact SeqAt.EqAt.int_str a t' b t
  | _=>exact absurd (show false=true from fx) Qs
 | str a =>
  obtain ⟨t',rfl⟩:=ry
  cases x with
  | non=>cases rx; exact SeqAt.EqAt.str_none a t'
  | bl b=>cases rx; exact SeqAt.EqAt.str_bool a t' b
  | int b=>obtain ⟨t,rfl⟩:=rx; exact SeqAt.EqAt.str_int a t' b t
  | str b=>obtain ⟨t,rfl⟩:=rx; exact SeqAt.EqAt.str_str a t' b t
  | _=>exact absurd (show false=true from fx) Qs
 | _=>exact absurd (show false=true from fy) Qs
def eqU (x:V) (u:Value):Bool:=match u with
 | .none=>eqV .non x
 | .bool b=>eqV (.bl b) x
 | .int i _=>eqV (.int i) x
 | .str z _=>eqV (.str z) x
 | _=>false
theorem aBy {x y:V} {u:Value} (r:bO y u) (f:nE y=true):eqU x u=eqV y x:=by
 cases y with
 | non=>cases r; rfl
 | bl b=>cases r; rfl
 | int i=>obtain ⟨t,rfl⟩:=r; rfl
 | str z=>obtain ⟨t,rfl⟩:=r; rfl
 | _=>exact absurd (show false=true from f) Qs
theorem pI {x:V}:∀ {xs:List V} {us:List Value},aY xs us->xs.all nE=true->us.any (eqU x)=xs.any fun y=>eqV y x
 := by
 intro xs us h
 induction h with
 | nil=>intro _; rfl
 | cons r t ih =>
  intro f
  rw [List.all_cons,Jg] at f
  rw [Zo,Zo,aBy r f.1,ih f.2]
theorem lE {A:Around} {s:Shared} {x:V} {v:Value} (rx:bO x v) (fx:nE x=true):∀ {xs:List V} {us:List Value},aY xs us->xs.all nE=true->∀ u∈us,SeqAt.EqAt A s u v (eqU x u)
 | _,_,.nil,_=>fun u hu=>by cases hu
 | y::xs,u::us,.cons r t,f=>fun u' hu=>by
  rw [List.all_cons,Jg] at f
  rcases Qj.mp hu with rfl | hu
  ·rw [aBy r f.1]; exact aD3 r rx f.1 fx
  ·exact lE rx fx t f.2 u' hu
def inV (x:V) (xs:List V):Bool:=xs.any fun y=>eqV y x
def rIn (K:PySem.W.Frag) (neg:Bool):R2:=fun x y H Q=>∃ p xs,y=.ref p/\(SqL K H p xs∨SqT K H p xs)/\nE x=true/\xs.all nE=true/\Q (.bl (if neg then !inV x xs else inV x xs)) H
theorem sR:OpR X (compareOp .In) (rIn X.K false):=by
 intro pins s σ H x y v u Q I rx ry h
 obtain ⟨p,xs,rfl,hq,fx,fs,q⟩:=h
 cases ry
 rcases hq with hq | hq
 ·obtain ⟨its,r,pl,hz⟩:=I.list hq
  refine SeqAt.in_listAt (eqU x) pl.isList (fun w hw=>lE rx fx r fs w (by simpa using hw)) ⟨.bl _,H,I,rfl,?_⟩
  rw [show its.toArray.any (eqU x)=its.any (eqU x) by simp,pI r fs]
  exact q
 ·obtain ⟨its,r,pl,hz⟩:=I.tuple hq
  refine SeqAt.in_tupleAt (eqU x) pl (fun w hw=>lE rx fx r fs w (by simpa using hw)) ⟨.bl _,H,I,rfl,?_⟩
  rw [show its.toArray.any (eqU x)=its.any (eqU x) by simp,pI r fs]
  exact q
theorem uB:OpR X (compareOp .NotIn) (rIn X.K true):=by
 intro pins s σ H x y v u Q I rx ry h
 obtain ⟨p,xs,rfl,hq,fx,fs,q⟩:=h
 cases ry
 rcases hq with hq | hq
 ·obtain ⟨its,r,pl,hz⟩:=I.list hq
  refine SeqAt.notIn_listAt (eqU x) pl.isList (fun w hw=>lE rx fx r fs w (by simpa using hw)) ⟨.bl _,H,I,rfl,?_⟩
  rw [show its.toArray.any (eqU x)=its.any (eqU x) by simp,pI r fs]
  exact q
 ·obtain ⟨its,r,pl,hz⟩:=I.tuple hq
  refine SeqAt.notIn_tupleAt (eqU x) pl (fun w hw=>lE rx fx r fs w (by simpa using hw)) ⟨.bl _,H,I,rfl,?_⟩
  rw [show its.toArray.any (eqU x)=its.any (eqU x) by simp,pI r fs]
  exact q
theorem bU:eJ X (.builtin "len") (fun xs H Q=>∃ p ys,xs = [.ref p]/\(SqL X.K H p ys∨SqT X.K H p ys)/\Q (.int ys.length) H):=by
 intro pins s σ H xs us Q I r h
 obtain ⟨p,ys,rfl,hq,q⟩:=h
 obtain ⟨u,rfl,rx⟩:=gY r
 cases rx
 have hn:=pZ
 rcases hq with hq | hq
 ·obtain ⟨its,r',pl,hz⟩:=I.list hq
  have hlen:=r'.length
  exact Calls.call_len_list pl.isList (by simp only [Ql] <;> omega) ⟨.int ys.length,H,I.tok _,⟨s.toks+1,by rw [Ql,hlen]⟩,q⟩
 ·obtain ⟨its,r',pl,hz⟩:=I.tuple hq
  have hlen:=r'.length
  exact len_tuple pl (by simp only [Ql] <;> omega) ⟨.int ys.length,H,I.tok _,⟨s.toks+1,by rw [Ql,hlen]⟩,q⟩
theorem eJ.or {f:Value} {r r':List V->Hp->VK->Prop} (h:eJ X f r) (h':eJ X f r'):eJ X f (fun xs H Q=>r xs H Q∨r' xs H Q):=by
 intro pins s σ H xs us Q I rs q
 rcases q with q | q
 ·exact h pins s σ H xs us Q I rs q
 ·exact h' pins s σ H xs us Q I rs q
theorem uC:eJ X (.type "list") (fun xs H Q=>∃ p ys,xs = [.ref p]/\(SqL X.K H p ys∨SqT X.K H p ys)/\∀ l,H l=none->Q (.ref l) (upd H l (.lst ys))):=by
 intro pins s σ H xs us Q I r h
 obtain ⟨p,ys,rfl,hq,q⟩:=h
 obtain ⟨u,rfl,rx⟩:=gY r
 cases rx
 have fin:∀ (its:List Value),aY ys its->ys.length<=sizeLine->∀ (h':Heap) (c':Nat),(∀ b o',s.heap.get? b=some o'->h'.get? b=some o') ->
   h'.get? s.heap.objs.size=some { cls:=.type "list",dict:=none,data:=.seq its.toArray c',slots:=#[] }->EP X pins σ Q (.ref s.heap.objs.size) { s with heap:=h' }:=fun its r' hz h' c' kp e =>
  ⟨.ref s.heap.objs.size,_,I.laid (t':=s.toks) kp (Qg _) (show bX X.prog X.w _ h' _ (.lst ys) from ⟨hz,its,c',r',e⟩),rfl,q _ (I.hok.fresh (Qg _))⟩
 rcases hq with hq | hq
 ·obtain ⟨its,r',pl,hz⟩:=I.list hq
  have hlen:=r'.length
  obtain ⟨o,ho,hc,n,hd⟩:=pl.isList
  exact call_list_seq p (.inl rfl) ho hc hd (fun h' c' kp e=>fin its r' hz h' c' kp e) (by simp only [Ql] <;> omega)
 ·obtain ⟨its,r',pl,hz⟩:=I.tuple hq
  have hlen:=r'.length
  obtain ⟨o,ho,hc,n,hd⟩:=pl
  exact call_list_seq p (.inr rfl) ho hc hd (fun h' c' kp e=>fin its r' hz h' c' kp e) (by simp only [Ql] <;> omega)
theorem cG:eJ X (.type "tuple") (fun xs H Q=>∃ p ys,xs = [.ref p]/\((SqL X.K H p ys/\∀ l,H l=none->Q (.ref l) (upd H l (.tup ys)))∨(SqT X.K H p ys/\Q (.ref p) H))):=by
 intro pins s σ H xs us Q I r h
 obtain ⟨p,ys,rfl,h⟩:=h
 obtain ⟨u,rfl,rx⟩:=gY r
 cases rx
 rcases h with ⟨hq,q⟩ | ⟨hq,q⟩
 ·obtain ⟨its,r',pl,hz⟩:=I.list hq
  have hlen:=r'.length
  refine call_tuple_list pl.isList (fun h' kp=>?_) (by simp only [Ql] <;> omega)
  have I1:Inv X pins σ H { s with heap:=h' }:=I.kept (t':=s.toks) kp
  have I2:Inv X pins σ (upd H h'.objs.size (.tup ys)) { s with heap:=h'.push { cls:=.type "tuple",data:=.seq its.toArray } } :=
   I1.laid (t':=s.toks) (fun b o e=>Qa _ e) (Qg _) (show bX X.prog X.w _ _ _ (.tup ys) from ⟨hz,its,0,r',Qk _ rfl⟩)
  exact ⟨.ref h'.objs.size,_,I2,rfl,q _ (I1.hok.fresh (Qg _))⟩
 ·obtain ⟨its,r',pl,hz⟩:=I.tuple hq
  exact call_tuple_same pl ⟨.ref p,H,I,rfl,q⟩
def tyV (K:PySem.W.Frag) (T:String) (x:V) (H:Hp):Prop:=match x with
 | .str _=>T = "str"
 | .int _=>T = "int"
 | .ref p => (T = "list" /\ ∃ xs, SqL K H p xs) ∨ (T = "tuple" /\ ∃ xs, SqT K H p xs) ∨
     (T = "dict" /\ ((∃ kvs,H p=some (.dK kvs))∨∃ kvs,H p=some (.dT kvs)))∨(T = "set" /\ ∃ S n,H p=some (.set S n))
 | _=>False
theorem aD4 {pins:List (Addr×Obj)} {σ:St} {H:Hp} {s:Shared} {T:String} {x:V} {v:Value} (I:Inv X pins σ H s) (r:bO x v) (ty:tyV X.K T x H) :
  s.TypeIs v T/\∀ a,v=.ref a->∃ ob,s.heap.get? a=some ob/\ob.dict=none:=by
 cases x with
 | str z =>
  obtain ⟨t,rfl⟩:=r
  cases (show T = "str" from ty)
  exact ⟨typeIs_str s z t,fun _ e=>nomatch e⟩
 | int i =>
  obtain ⟨t,rfl⟩:=r
  cases (show T = "int" from ty)
  exact ⟨typeIs_int s i t,fun _ e=>nomatch e⟩
 | ref p =>
  cases r
  rcases ty with ⟨rfl,xs,hq⟩ | ⟨rfl,xs,hq⟩ | ⟨rfl,hk⟩ | ⟨rfl,S,n,hk⟩
  ·obtain ⟨its,_,pl,_⟩:=I.list hq
   refine ⟨pl.isList.typeIs,fun a e=>?_⟩
   cases e
   obtain ⟨o,n,e,c,hd,_⟩:=pl
   exact ⟨o,e,hd⟩
  ·obtain ⟨o,e,hc,hd⟩:∃ o,s.heap.get? p=some o/\o.cls=.type "tuple" /\ o.dict=none:=by
    rcases hq with hq | ⟨o,_,_,hk,hc,hd,_⟩
    ·obtain ⟨_,its,n,_,e⟩:=hq.ok I.hok
     exact ⟨_,e,rfl,rfl⟩
    ·exact ⟨o,I.kIn p o hk,hc,hd⟩
   refine ⟨⟨o,e,hc⟩,fun a e2=>?_⟩
   cases e2
   exact ⟨o,e,hd⟩
  ·have z:∃ o,s.heap.get? p=some o/\o.ExactDict:=by
    rcases hk with ⟨kvs,hk⟩ | ⟨kvs,hk⟩
    ·obtain ⟨_,_,_,_,o,_,_,e,ex,_⟩:=I.hok p _ hk
     exact ⟨o,e,ex⟩
    ·obtain ⟨_,_,_,_,o,_,_,e,ex,_⟩:=I.hok p _ hk
     exact ⟨o,e,ex⟩
   obtain ⟨o,e,ex⟩:=z
   refine ⟨⟨o,e,ex.1⟩,fun a e2=>?_⟩
   cases e2
   exact ⟨o,e,ex.2.1⟩
  ·obtain ⟨o,_,_,_,e,ex,_⟩:=I.hok p _ hk
   refine ⟨⟨o,e,ex.1⟩,fun a e2=>?_⟩
   cases e2
   exact ⟨o,e,ex.2.1⟩
 | _=>exact False.elim ty
def tBM (K:PySem.W.Frag) (T:String) (r:V->List V->Hp->VK->Prop) (to:TE) (t:TA):TE:=fun σ H Q=>to σ H fun x H1=>tyV K T x H1/\t σ H1 fun xs H2=>r x xs H2 Q
variable {o e:Expr} {es:List Expr} {to:TE} {t:TA} {name:Str} {apos cpos:Pos} {T id:String} {r:V->List V->Hp->VK->Prop}
theorem gZ (pa:PlainAttrs T) (slot:Slot T name id) (hty:typeOf (.builtin id)=pure (.type "method_descriptor")) (hm:MtR X id r) (ho:PE X o to) (ha:PA X (e::es) t)
  (hbase:attributeBase o name X.env (eval o X.env)=eval o X.env:=by rfl)
  (hfew:((backTo cpos (starEach (e::es) X.env)).all (fun x=>!x.1) && (backToKw cpos (keywordEach [] X.env)).all (fun x=>x.1.isSome)
   && decide ((e::es).length+([]:List Keyword).length+(if ([]:List Keyword).isEmpty then 0 else 1) < 30))=true:=by rfl)
  (hline:(apos.endLine==cpos.line)=true:=by rfl) (hs:starEach (e::es) X.env=(false,eval e X.env)::starEach es X.env:=by rfl) (hplain:(backTo cpos (starEach es X.env)).any (·.1)=false:=by rfl) :
  PE X (.Call (.Attribute o name apos) (e::es) [] cpos) (tBM X.K T r to t):=by
 intro pins s σ H Q I h
 refine wpAny_Call_method_late hbase hfew hline rfl (thn (ho pins s σ H _ I h) fun v s1 hx9=>?_)
 obtain ⟨x,H1,I1,r1,ty,q1⟩:=hx9
 obtain ⟨h1,h2⟩:=aD4 I1 r1 ty
 refine ⟨T,id,pa,slot,hty,h1,h2,?_⟩
 have hA:=ha cpos pins s1 σ H1 _ I1 q1
 rw [hs] at hA ⊢
 refine Calls.callWith_builtin (by show (false || (backTo cpos (starEach es X.env)).any (·.1))=false; rw [hplain] <;> rfl) (Calls.evalArgs_plain ?_)
 refine thn hA fun us s2 hx9=>?_
 obtain ⟨vs,H2,I2,r2,q2⟩:=hx9
 exact hm pins s2 σ H2 x vs v us Q I2 r1 r2 q2
/- xs.append(e),list.index on a module's tuple .. are MtR facts of 06m -/
end
def MtM (X:Cx) (id:String) (r:V->List V->Hp->VK->Prop):Prop :=
 ∀ (pins:List (Addr×Obj)) (s:Shared) (σ:St) (H:Hp) (x:V) (xs:List V) (v:Value) (us:List Value) (Q:VK),Inv X pins σ H s->bO x v->aY xs us->r x xs H Q ->
  wpAny (model X.prog X.w) X.A (call (.builtin id) (v::us)) (EP X pins σ Q) X.xe s
theorem aY.one {x:V} {us:List Value} (r:aY [x] us):∃ u,us = [u]/\bO x u:=gY r
theorem aY.two {x y:V} {us:List Value} (r:aY [x,y] us):∃ u v,us = [u,v]/\bO x u/\bO y v:=lD r
theorem aY.zero:∀ {us:List Value},aY [] us->us = []
 | _,.nil=>rfl
theorem aY.dropLast {xs:List V} {us:List Value} (h:aY xs us):aY xs.dropLast us.dropLast:=by
 induction h with
 | nil=>exact .nil
 | cons r t ih =>
  cases t with
  | nil=>exact .nil
  | cons q t'=>exact .cons r ih
theorem aY.eraseIdx:∀ {xs:List V} {us:List Value} (i:Nat),aY xs us->aY (xs.eraseIdx i) (us.eraseIdx i)
 | _,_,_,.nil=>.nil
 | _,_,0,.cons _ t=>t
 | _,_,i+1,.cons r t=>.cons r (aY.eraseIdx i t)
theorem aY.reverse {xs:List V} {us:List Value} (h:aY xs us):aY xs.reverse us.reverse:=by
 induction h with
 | nil=>exact .nil
 | cons r t ih=>rw [List.reverse_cons,List.reverse_cons]; exact aY.append ih (.cons r .nil)
theorem aY.rep {xs:List V} {us:List Value} (h:aY xs us):∀ k:Nat,aY (List.replicate k xs).flatten (List.replicate k us).flatten
 | 0=>.nil
 | k+1=>by
  rw [Xc,Xc,Xh,Xh]
  exact aY.append h (aY.rep h k)
theorem sS {α:Type}:∀ (l:List α) (i:Nat),(l.eraseIdx i).length<=l.length
 | [],_=>Qg _
 | _::_,0=>Yp _
 | _::r,i+1=>Yh (sS r i)
theorem lW (its:List Value):∀ (k:Nat) (acc:List Value),
  List.foldl (fun x1 x2=>x1++x2) acc.toArray (List.replicate k its.toArray)=(acc++(List.replicate k its).flatten).toArray
 | 0,acc=>by simp
 | k+1,acc=>by
  have e:acc.toArray++its.toArray=(acc++its).toArray:=by simp
  have e2:(acc++its)++(List.replicate k its).flatten=acc++(List.replicate (k+1) its).flatten:=by
   rw [Xc,Xh,Yd]
  rw [<- e2,<- lW its k (acc++its),<- e,Xc,List.foldl_cons]
section
variable {X:Cx} {pins:List (Addr×Obj)} {σ:St} {H:Hp} {s:Shared} {l b:Addr} {xs ys zs:List V}
theorem Inv.lset {its its':List Value} {n:Nat} {f:Array Value->Array Value} {t':Nat} (I:Inv X pins σ H s) (hH:H l=some (.lst xs))
  (e:s.heap.get? l=some { cls:=.type "list",data:=.seq its.toArray n }) (hf:f its.toArray=its'.toArray) (hv:aY ys its') (hz:ys.length<=sizeLine) :
  Inv X pins σ (upd H l (.lst ys)) { s with heap:=s.heap.update l (Obj.mapSeq f),toks:=t' }:=by
 have q:=PySem.IsL.update e f
 rw [hf] at q
 refine I.write (x:=l) (e:=l) (by rw [hH]; exact trivial) (.inl rfl) (fun b' u hb hu=>(Jm s.heap (Obj.mapSeq f) (Ne.symm hb)).trans hu) ⟨_,q⟩ ?_
 exact ⟨hz,its',_,hv,q⟩
theorem Inv.lnew {its:List Value} {t':Nat} (I:Inv X pins σ H s) (hv:aY ys its) (hz:ys.length<=sizeLine) :
  Inv X pins σ (upd H s.heap.objs.size (.lst ys)) { s with heap:=s.heap.push { cls:=.type "list",data:=.seq its.toArray },toks:=t' } :=
 I.laid (fun _ _ q=>Qa _ q) (Qg _) ⟨hz,its,0,hv,Qk _ rfl⟩
theorem Inv.fresh (I:Inv X pins σ H s):H s.heap.objs.size=none:=I.hok.fresh (Qg _)
theorem Inv.lstM (I:Inv X pins σ H s) (hH:H l=some (.lst xs)):xs.length<=sizeLine/\∃ (its:List Value) (n:Nat),aY xs its/\xs.length=its.length/\s.heap.get? l=some { cls:=.type "list",data:=.seq its.toArray n }:=by
 obtain ⟨z,its,n,r,e⟩:=I.hok l _ hH
 exact ⟨z,its,n,r,r.length,e⟩
theorem aBz {n:Nat} (h:n<=sizeLine):Builtin.List.listTooLong n=false:=by
 unfold Builtin.List.listTooLong
 exact decide_eq_false (by omega)
end
section
variable {X:Cx}
def pJ:V->List V->Hp->VK->Prop:=fun x vs H Q=>∃ l xs y,x=.ref l/\vs = [y]/\H l=some (.lst xs)/\xs.length < sizeLine/\Q .non (upd H l (.lst (xs++[y])))
theorem cC:MtM X "list.append" pJ:=by
 intro pins s σ H x vs v us Q I rx rv h
 obtain ⟨l,xs,y,rfl,rfl,hH,hz,q⟩:=h
 cases rx
 obtain ⟨u,rfl,ru⟩:=rv.one
 obtain ⟨z,its,n,r,hl,e⟩:=I.lstM hH
 refine call_meets F.slot_list_append ⟨_,e,rfl⟩ F.entry_list_append (F.args_list_append_2 _ _) (PySem.list_append l its.toArray n u (by rw [Ql]; omega)) ⟨e,?_⟩
 refine ⟨.non,_,I.lset (its':=its++[u]) hH e (by simp) (r.append (.cons ru .nil)) ?_,rfl,q⟩
 rw [Qe,List.length_singleton]
 omega
def aD5:V->List V->Hp->VK->Prop:=fun x vs H Q=>∃ l xs i k y,x=.ref l/\vs = [.int i]/\H l=some (.lst xs)/\-(2^63)<=i/\i < 2^63/\seqIndex? i xs.length=some k/\xs[k]?=some y/\Q y (upd H l (.lst (xs.eraseIdx k)))
theorem aBA:MtM X "list.pop" aD5:=by
 intro pins s σ H x vs v us Q I rx rv h
 obtain ⟨l,xs,i,k,y,rfl,rfl,hH,h1,h2,hk,hy,q⟩:=h
 cases rx
 obtain ⟨u,rfl,ru⟩:=rv.one
 obtain ⟨t,rfl⟩:=ru
 obtain ⟨z,its,n,r,hl,e⟩:=I.lstM hH
 obtain ⟨w,hw,rw'⟩:=r.get hy
 refine call_meets F.slot_list_pop ⟨_,e,rfl⟩ F.entry_list_pop (F.args_list_pop_2 _ _)
  (MeetsSeq.list_pop_at l its.toArray n i t k w (fitsIndex_both h1 h2) (by rw [Ql,<- hl]; exact hk) (by rw [<- Array.getElem?_toList]; exact hw) (by rw [Ql]; omega)) ⟨e,?_⟩
 refine ⟨y,_,I.lset (its':=its.eraseIdx k) hH e ?_ (r.eraseIdx k) ?_,rw',q⟩
 ·show its.toArray.eraseIdxIfInBounds k=(its.eraseIdx k).toArray
  rw [List.eraseIdxIfInBounds_toArray]
 ·have:=sS xs k
  omega
def aFu:R2:=fun x y H Q=>∃ l b xs zs,x=.ref l/\y=.ref b/\H l=some (.lst xs)/\H b=some (.lst zs)/\xs.length+zs.length<=sizeLine/\∀ p,H p=none->Q (.ref p) (upd H p (.lst (xs++zs)))
theorem lF:OpR X (binaryOp .Add) aFu:=by
 intro pins s σ H x y v u Q I rx ry h
 obtain ⟨l,b,xs,zs,rfl,rfl,hH,hB,hz,q⟩:=h
 cases rx
 cases ry
 obtain ⟨z,its,n,r,hl,e⟩:=I.lstM hH
 obtain ⟨z2,its2,n2,r2,hl2,e2⟩:=I.lstM hB
 refine PySem.P.add_list e e2 ?_ (by rw [Ql,Ql]; omega)
 have ea:its.toArray++its2.toArray=(its++its2).toArray:=by simp
 rw [ea]
 exact ⟨.ref _,_,I.lnew (t':=s.toks) (r.append r2) (by rw [Qe]; omega),rfl,q _ I.fresh⟩
def aFv:R2:=fun x y H Q=>∃ l k xs,x=.ref l/\y=.int k/\H l=some (.lst xs)/\-(2^63)<=k/\k < 2^63/\xs.length*k.toNat<=sizeLine /\
 ∀ p,H p=none->Q (.ref p) (upd H p (.lst (List.replicate k.toNat xs).flatten))
theorem uD {α:Type} (xs:List α) (k:Nat):(List.replicate k xs).flatten.length=k*xs.length:=by
 induction k with
 | zero=>simp
 | succ k ih=>rw [Xc,Xh,Qe,ih,Nat.succ_mul,Nat.add_comm]
theorem aD6:OpR X (binaryOp .Mult) aFv:=by
 intro pins s σ H x y v u Q I rx ry h
 obtain ⟨l,k,xs,rfl,rfl,hH,h1,h2,hz,q⟩:=h
 cases rx
 obtain ⟨t,rfl⟩:=ry
 obtain ⟨z,its,n,r,hl,e⟩:=I.lstM hH
 have hlen:its.toArray.size*k.toNat<=sizeLine:=by rw [Ql,<- hl]; exact hz
 have hcap:¬ its.toArray.size*k.toNat > (2^63 - 1) / 8:=by
  have:(sizeLine:Nat)<=(2^63 - 1) / 8:=by decide
  omega
 have hfit:¬ (!Builtin.List.listFitsIndex k)=true:=by
  rw [fitsIndex_both h1 h2]
  exact Qs
 have hlong:¬ Builtin.List.listTooLong (its.toArray.size*k.toNat)=true:=by
  rw [aBz hlen]
  exact Qs
 have hnew:List.foldl (fun x1 x2=>x1++x2) #[] (List.replicate (if its.toArray.isEmpty=true then 0 else k.toNat) its.toArray)=(List.replicate k.toNat its).flatten.toArray:=by
  have f0:∀ m:Nat,List.foldl (fun x1 x2=>x1++x2) #[] (List.replicate m its.toArray)=(List.replicate m its).flatten.toArray:=fun m=>by
   have:=lW its m []
   rw [Zb] at this
   exact this
  rw [f0]
  cases its with
  | nil=>simp
  | cons a r'=>rw [if_neg (by simp)]
 refine wpAny_binaryOp_repeat_ref (T := "list") (U := "int") (by decide) ⟨_,e,rfl⟩ (fun s'=>typeIs_int s' k t) noFill_list_mul F.fills_int_mul F.slot_int_rmul repeat_list F.slot_int_index.lookup
  (call_meets F.slot_int_rmul (typeIs_int s k t) F.entry_int_rmul (F.args_int_rmul_2 _ _) (int___rmul___int_list k t l its.toArray n)
   ⟨e,rfl,⟨_,e,rfl⟩,call_meets F.slot_list_mul ⟨_,e,rfl⟩ F.entry_list_mul (F.args_list_mul_2 _ _) (AutoListH.list___mul___list_int_3 l its.toArray n k t hfit hcap hlong) ⟨e,?_⟩⟩)
 rw [hnew]
 exact ⟨.ref _,_,I.lnew (t':=s.toks) (r.rep k.toNat) (by rw [uD,Nat.mul_comm]; exact hz),rfl,q _ I.fresh⟩
end
section
variable {prog:Program} {w:World} {A:Around} {E:Value->Shared->Prop} {s:Shared}
end
section
variable {X:Cx}
end
end L2
namespace Att
open PySem PySem.W PySem.Calls PyProof.Rows
theorem pF {P:Params} {h:Heap}:∀ (ns:List Int) (vs:List Value),WellAll P h vs (ns.map WData.int)->IntsAre vs ns:=by
 intro ns
 induction ns with
 | nil =>
  intro vs w
  rw [Yk] at w
  cases w
  exact .nil
 | cons n ns ih =>
  intro vs w
  rw [Jf] at w
  cases w with
  | cons a b =>
   cases a
   exact .cons _ _ (ih _ b)
theorem aAL {l:OpenLaw} {n:Nat} (hn:l.most=some n) {P:Params} {h:Heap} {args:List WData} {vals:List Value}
  (hpre:l.row.toRowW.claim.pre args=true) (hwl:WellAll P h vals args) :
  ∃ a vs ns,vals = [Value.ref a]/\args = [WData.list (ns.map WData.int)]/\h.get? a=some { cls:=.type "list",data:=.seq vs.toArray }/\IntsAre vs ns/\ns.length<=n:=by
 have hsh:WShape.hasAll [] args [.list .int]=true:=(pre_splitW hpre).1
 have hc:l.pre.holds [] { args:=args }=true:=(pre_splitW hpre).2
 obtain ⟨d,r,rfl,h1,h2⟩:=hasAllW_cons hsh
 obtain rfl:=hasAllW_nil h2
 obtain ⟨xs,rfl,h3⟩:=hasW_list h1
 obtain ⟨ns,rfl⟩:=items_int h3
 have hlen:ns.length<=n:=by
  unfold OpenLaw.pre at hc
  have h4:(WTm.not (.lt (.lit (.int (n:Int))) (.len (.arg 0)))).holds [] { args:=[.list (ns.map .int)] }=true:=by
   have h4:=(holds_andW hc).1
   rw [hn] at h4
   exact h4
  have h5:=condW_of h4 (w_not (w_lt w_lit (w_len_list (w_arg rfl))))
  rw [Qb] at h5
  refine Nat.le_of_not_lt fun q=>?_
  have q':(n:Int) < ((ns.length:Nat):Int):=by omega
  first
   | (rw [decide_eq_true q'] at h5; exact absurd h5 (by decide))
   | (simp at h5; omega)
 cases hwl with
 | cons w1 w2 =>
  cases w2
  cases w1 with
  | list ho hall=>exact ⟨_,_,ns,rfl,rfl,ho,pF ns _ hall,hlen⟩
theorem aAM (l:OpenLaw) (args:List WData):l.row.toRowW.claim.post args (.bool true) args=true :=
 postW_of (r:=l.row.toRowW) (X:=(true==true))
  (show WShape.has [] (.bool true) .bool=true by first | rfl | decide | simp [WShape.has,WShape.arms,WShape.armsAll])
  (show (WTm.eq .res (.lit (.bool true))).value [] { args:=args,res:=some (.bool true),after:=args }=some (.bool (true==true)) from w_eq_bool (w_res rfl) w_lit) rfl
theorem attach_call {l:OpenLaw} {n:Nat} {q:Program} {loose:List Str} {XP:(Str->Option Value)->Heap->Prop} {YP:World->Heap->Prop} {d:DefRec}
  (hn:l.most=some n) (hdf:d.params.defaults = [])
  (call:∀ (w:World) (s₀ s₁:Shared) (mg mb:Str->Option Value) (fa:Addr) (o:Obj) (pm cd doc:Value) (a:Addr) (vs:List Value) (ns:List Int),
   Ground q loose [] XP w s₀ mg mb s₁.heap->YP w s₁.heap ->
   s₁.heap.get? fa=some o->o.data=.func (docDef d.name d.params d.body d.scope pm cd doc)->s₁.heap.CodeRec cd d.name->mg d.name=some (.ref fa) ->
   s₁.heap.get? a=some { cls:=.type "list",data:=.seq vs.toArray }->IntsAre vs ns->ns.length<=n->s₁.gens = #[] ->
   codeAny (model l.prog w) callerA (.call (.ref fa) ⟨[.ref a],[]⟩) (fun r s'=>r=.ok (.ret (.bool true))/\OldK s₁.heap s'.heap/\s'.os=s₁.os/\AllBare s'.gens) s₁) :
  WalkO q loose XP YP l.row.toRowW d [] (fun f vs=>PySem.call f vs):=by
 intro w s₀ s₁ mg mb G Y fa o pm cd doc dV kV ho hd hcd hD hmg hg args vals as hpre hlay hrd hwl hlo
 obtain rfl:dV=.none:=Dflts.none hD hdf
 obtain rfl:kV=.none:=Dflts.noKw hD
 obtain ⟨a,vs,ns,rfl,rfl,hobj,hints,hlen⟩:=aAL hn hpre hwl
 refine enter_call (codeAny_mono (call w s₀ s₁ mg mb fa o pm cd doc a vs ns G Y ho (fd_plain hd) hcd hmg hobj hints hlen hg) fun r s' hq=>?_)
 obtain ⟨rfl,h2,h3,h4⟩:=hq
 exact ⟨.inl ⟨.bool true,.bool true,[],rfl,fun _=>rfl,.bool true,aAM l _,fun _=>⟨List.Pairwise.nil,fun _ hm=>(nomatch hm)⟩⟩,h2,h3,h4⟩
section
variable {prog:Program} {w:World} {A:Around} {E:Value->Shared->Prop} {s:Shared} {K:Frag}
end
end Att
namespace L2
open PySem PySem.Spec PyProof.Rows
theorem sT:∀ {vs:List Value} {ns:List Int},IntsAre vs ns->aY (ns.map V.int) vs
 := by
 intro vs ns h
 induction h with
 | nil=>exact .nil
 | cons n t h ih=>exact .cons ⟨t,rfl⟩ ih
def jM (s:Stmt):Arguments:=match s with
 | .FunctionDef _ a _ _ _ _ _ _ _ _=>a
 | _=>{ posonlyargs:=[],args:=[],vararg:=none,kwonlyargs:=[],kw_defaults:=[],kwarg:=none,defaults:=[] }
def hG (s:Stmt):List Stmt:=match s with
 | .FunctionDef _ _ b _ _ _ _ _ _ _=>b
 | _=>[]
def aI (s:Stmt):Scope:=match s with
 | .FunctionDef _ _ _ _ _ _ sc _ _ _=>sc
 | _=>{ kind:=.function,names:=[],isGenerator:=false,isCoroutine:=false }
abbrev CX0:CXT:=fun _ _ _ _ _ _=>False
abbrev E0:XK:=fun _ _ _=>False
theorem aET {X:Cx}:qC CX0 X E0:=fun _ _ _ _ _ _ _ h=>h.elim
structure Fun (K:PySem.W.Frag) (x qual:Str) (st:Stmt) (f:Addr) (fd:FuncData):Prop where
 ex:∃ (oc:Value) (od:Option Addr) (kV doc pm:Value) (an:Option Addr) (cdv ct:Value) (osl:Array (Option Value)),
  fd=PySem.W.fnOf x qual (jM st) (hG st) (aI st) .none kV doc pm an cdv ct/\K.lookup f=some ⟨oc,od,.func fd,osl⟩/\PySem.W.codeIn K cdv qual=true
 kp:PySem.W.keepIn K (.ref f)=true
section
variable {P:Program} {w:World} {K:PySem.W.Frag} {mg:Str->Option Value} {base:Heap}
theorem Fun.ok {x qual:Str} {st:Stmt} {f:Addr} {fd:FuncData} {N ps:List Str} {k:Nat} {sp:Sp} (F:Fun K x qual st f fd) (S:FnScope N ps (aI st)) (len:∀ vs H Q E,sp vs H Q E->vs.length=ps.length)
  (hbody:∀ (cdv:Value) (A:Around) (outer:List Env) (s:Shared) (H:Hp) (vs:List V) (Q:VK) (E:XK),Room k (A.deeper (envOfC qual (aI st) s.heap.objs.size f cdv))->sp vs H Q E ->
   ∃ t,PSs (nD CX0 P w K mg base N qual (aI st) f cdv A outer s H E).nox (hG st) t/\t { nx:=fun _ H'=>Q .non H',rt:=Q } (start N vs) H):FnOk P w K mg base CX0 (k+1) f fd ps sp:=by
 obtain ⟨oc,od,kV,doc,pm,an,cdv,ct,osl,rfl,lk,hcd⟩:=F.ex
 refine aBx lk hcd S len fun A outer s H vs Q E hr hsp=>?_
 obtain ⟨t,h,q⟩:=hbody cdv A outer s H vs Q E hr hsp
 exact ⟨t,h.nox,q⟩
theorem Fun.binds {x qual:Str} {st:Stmt} {f:Addr} {fd:FuncData} {ps:List Str} (F:Fun K x qual st f fd)
  (h:∀ (kV doc pm:Value) (an:Option Addr) (cdv ct:Value) (us:List Value),us.length=ps.length->bindArgs (PySem.W.fnOf x qual (jM st) (hG st) (aI st) .none kV doc pm an cdv ct) ⟨us,[]⟩=pure (ps.zip us)):oW K fd ps []:=by
 obtain ⟨oc,od,kV,doc,pm,an,cdv,ct,osl,rfl,lk,hcd⟩:=F.ex
 exact .all (h kV doc pm an cdv ct)
theorem aBB {x qual:Str} {st:Stmt} {f:Addr} {oc:Value} {od an:Option Addr} {osl:Array (Option Value)} {kV doc pm cdv ct:Value} (l:K.lookup f=some ⟨oc,od,.func (PySem.W.fnOf x qual (jM st) (hG st) (aI st) .none kV doc pm an cdv ct),osl⟩)
  (c:PySem.W.codeIn K cdv qual=true) (k:PySem.W.keepIn K (.ref f)=true):Fun K x qual st f (PySem.W.fnOf x qual (jM st) (hG st) (aI st) .none kV doc pm an cdv ct):=⟨⟨oc,od,kV,doc,pm,an,cdv,ct,osl,rfl,l,c⟩,k⟩
end
theorem qF {A:Around} {k:Nat} (hr:Room k A):A.units+1 < cLine:=Zu (Nat.add_le_add_left (by decide:1<=64) _) hr.units
theorem aAN {n:Nat} (h:n<=1000):n < sizeLine:=Zu h (by decide)
section
variable {X:Cx}
theorem pv (i:Nat) {x:Str} {pos:Pos} (hN:X.N[i]?=some x:=by rfl) (hv:Vis X.env.scope x:=by first | exact Or.inl rfl | exact Or.inr (Or.inl rfl) | exact Or.inr (Or.inr rfl)) (hd:(x==("__debug__" : Str))=false:=by decide)
  (hcd:(x==("__classdict__" : Str))=false:=by decide):PE X (.Name x pos) (gT i):=aBl hN hv hd hcd
end
theorem eO {A B:Prop} (h:B):if false=true then A else B:=by
 rw [if_neg Qs]
 exact h
theorem eP {A B:Prop} (h:A):if true=true then A else B:=by
 rw [if_pos rfl]
 exact h
theorem gE {c A B:Prop} [Decidable c] (h1:c->A) (h2:¬ c->B):if c then A else B:=by
 by_cases h:c
 ·rw [if_pos h]
  exact h1 h
 ·rw [if_neg h]
  exact h2 h
def aD (H H':Hp):Prop:=∀ b o,H b=some o->H' b=some o
theorem aD.refl (H:Hp):aD H H:=fun _ _ h=>h
theorem aD.trans {H H1 H2:Hp} (a:aD H H1) (b:aD H1 H2):aD H H2:=fun c o h=>b c o (a c o h)
theorem aD.free {H H':Hp} (e:aD H H') {l:Addr} (h:H' l=Option.none):H l=Option.none:=by
 cases q:H l with
 | none=>rfl
 | some o =>
  rw [e l o q] at h
  cases h
theorem aD.seq {K:PySem.W.Frag} {H H':Hp} {a:Addr} {xs:List V} (e:aD H H') (h:SqL K H a xs):SqL K H' a xs:=by
 rcases h with (h | ⟨o,h⟩) | h
 ·exact .inl (.inl (e _ _ h))
 ·exact .inl (.inr ⟨o,e _ _ h⟩)
 ·exact .inr h
def dY (env:Env):List (Str×NameKind)->List (Str×Addr)->List (Str×Addr)
 | [],acc=>acc
 | (n,k)::r,acc=>if k==.free then (match env.cells.lookup n with | some c=>dY env r ((n,c)::acc) | none=>dY env r acc) else dY env r acc
theorem wE {env:Env}:∀ (names:List (Str×NameKind)) (acc:List (Str×Addr)),(∀ y∈names,y.2=.free->∃ c,env.cells.lookup y.1=some c) ->
  (forIn names acc fun (x:Str×NameKind) (r:List (Str×Addr))=>(match x with
   | (name,kind)=>if (kind==NameKind.free)=true then (do let a<-cellOf env name; pure (ForInStep.yield ((name,a)::r))) else pure (ForInStep.yield r):Sem (ForInStep (List (Str×Addr)))))=(pure (dY env names acc):Sem _)
 | [],acc,_=>rfl
 | (n,k)::r,acc,h=>by
  have ih:=fun acc=>wE r acc fun y hy=>h y (Qq _ hy)
  rw [Xe]
  by_cases hk:(k==NameKind.free)=true
  ·obtain ⟨c,hc⟩:=h (n,k) Qt (by simpa using hk)
   have e1:dY env ((n,k)::r) acc=dY env r ((n,c)::acc):=by
    show (if k==.free then _ else _)=_
    rw [if_pos hk]; simp only at hc; rw [hc]
   simp only at hc
   rw [e1,<- ih]
   simp only [hk,if_true,cellOf,hc]
   rfl
  ·have e1:dY env ((n,k)::r) acc=dY env r acc:=by
    show (if k==.free then _ else _)=_
    rw [if_neg hk]
   rw [e1,<- ih]
   simp only [hk,if_false]
   rfl
theorem yD {env:Env} {scope:Scope} (h:∀ y∈scope.names,y.2=.free->∃ c,env.cells.lookup y.1=some c):closureFor scope env=pure (dY env scope.names []):=by
 unfold closureFor
 have e:=wE scope.names [] h
 show (forIn scope.names [] _ >>= _)=_
 exact (congrArg (fun z=>z >>= fun r=>pure r) e).trans rfl
theorem jE {env:Env}:∀ (names:List (Str×NameKind)) (acc:List (Str×Addr)) (n:Str) (c:Addr),(n,c)∈dY env names acc->(n,c)∈acc∨env.cells.lookup n=some c
 | [],_,_,_,h=>.inl h
 | (m,k)::r,acc,n,c,h=>by
  by_cases hk:(k==NameKind.free)=true
  ·rw [show dY env ((m,k)::r) acc=(match env.cells.lookup m with | some c=>dY env r ((m,c)::acc) | none=>dY env r acc) from if_pos hk] at h
   cases e:env.cells.lookup m with
   | none=>rw [e] at h; exact jE r acc n c h
   | some d =>
    rw [e] at h
    rcases jE r _ n c h with q | q
    ·rcases Qj.mp q with q | q
     ·cases q; exact .inr e
     ·exact .inl q
    ·exact .inr q
  ·rw [show dY env ((m,k)::r) acc=dY env r acc from if_neg hk] at h
   exact jE r acc n c h
theorem lG {env:Env}:∀ (names:List (Str×NameKind)) (acc:List (Str×Addr)) (n:Str),((∃ c,(n,c)∈acc)∨((n,NameKind.free)∈names/\∃ c,env.cells.lookup n=some c))->∃ c,(n,c)∈dY env names acc
 | [],_,_,h=>by
  rcases h with h | ⟨h,_⟩
  ·exact h
  ·cases h
 | (m,k)::r,acc,n,h=>by
  by_cases hk:(k==NameKind.free)=true
  ·rw [show dY env ((m,k)::r) acc=(match env.cells.lookup m with | some c=>dY env r ((m,c)::acc) | none=>dY env r acc) from if_pos hk]
   cases e:env.cells.lookup m with
   | none =>
    refine lG r acc n ?_
    rcases h with h | ⟨h,c,hc⟩
    ·exact .inl h
    ·rcases Qj.mp h with h | h
     ·cases h; rw [e] at hc; cases hc
     ·exact .inr ⟨h,c,hc⟩
   | some d =>
    refine lG r _ n ?_
    rcases h with ⟨c,h⟩ | ⟨h,c,hc⟩
    ·exact .inl ⟨c,Qq _ h⟩
    ·rcases Qj.mp h with h | h
     ·cases h; exact .inl ⟨d,Qt⟩
     ·exact .inr ⟨h,c,hc⟩
  ·rw [show dY env ((m,k)::r) acc=dY env r acc from if_neg hk]
   refine lG r acc n ?_
   rcases h with h | ⟨h,c,hc⟩
   ·exact .inl h
   ·rcases Qj.mp h with h | h
    ·cases h; exact absurd rfl hk
    ·exact .inr ⟨h,c,hc⟩
theorem gQ {β:Type}:∀ {l:List (Str×β)} {a:Str} {b:β},l.lookup a=some b->(a,b)∈l:=PySem.mem_of_lookup_some
theorem lH {β:Type}:∀ {l:List (Str×β)} {a:Str} {b:β},(a,b)∈l->∃ c,l.lookup a=some c
 | (k,v)::l,a,b,h=>by
  rw [Js]
  by_cases e:(a==k)=true
  ·rw [e]; exact ⟨v,rfl⟩
  ·have e':(a==k)=false:=by simpa using e
   rw [e']
   rcases Qj.mp h with h | h
   ·cases h; simp at e
   ·exact lH h
theorem jF {env:Env} (x:Str):∀ (names:List (Str×NameKind)),
  (names.map fun (n,k)=>if (k==NameKind.free && env.scope.kind==.function && env.kindOf n==some .cell) then (n,NameKind.cell) else (n,k)).lookup x =
   (names.lookup x).map fun k=>if (k==NameKind.free && env.scope.kind==.function && env.kindOf x==some .cell) then NameKind.cell else k
 | []=>rfl
 | (n,k)::r=>by
  have ih:=jF (env:=env) x r
  rw [Jf]
  by_cases e:(x==n)=true
  ·have en:x=n:=by simpa using e
   subst en
   dsimp only
   by_cases c:(k==NameKind.free && env.scope.kind==.function && env.kindOf x==some .cell)=true
   ·rw [if_pos c,Js,Js,e]
    simp only [Xf,c,if_true]
   ·rw [if_neg c,Js,Js,e]
    simp only [Xf,c]
    rfl
  ·have e':(x==n)=false:=by simpa using e
   dsimp only
   by_cases c:(k==NameKind.free && env.scope.kind==.function && env.kindOf n==some .cell)=true
   ·rw [if_pos c,Js,Js,e']; exact ih
   ·rw [if_neg c,Js,Js,e']; exact ih
def aP (X:Cx) (scope:Scope) (N:List Str) (C:Addr) (s0:Shared) (H0:Hp) (fp:List Addr):Cx where
 prog:=X.prog
 w:=X.w
 K:=X.K
 mg:=X.mg
 base:=X.base
 A:=X.A
 N:=N
 s₀:=s0
 H₀:=H0
 env:=compEnvC scope (dY X.env scope.names []) C X.env
 outer:=X.stack
 stack:=X.stack
 ex:=fp
 fn:=fun _=>false
 calm:=X.calm
 pn:=[]
 xe:=fun _ _=>False
def oH (sc scope:Scope) (own:List Str) (frn:List Str):Bool :=
 scope.kind==.function && scope.names.all (fun y=>y.2 !=.cell) && scope.names.all (fun y=>y.2 !=.local || scope.names.lookup y.1==some .local) &&
 scope.names.all (fun y=>y.2 !=.free || sc.names.lookup y.1==some .cell || sc.names.lookup y.1==some .free) && decide (own++frn).Nodup &&
 own.all (fun x=>scope.names.lookup x==some .local) && frn.all (fun x=>scope.names.lookup x==some .free)
def blk (own:Nat) (fr:List Nat) (σ:St):St:=List.replicate own none++fr.map fun j=>(σ[j]?).join
structure CompOk (X:Cx) (scope:Scope) (own:List Str) (fr:List Nat) (frn:List Str):Prop where
 ck:oH X.env.scope scope own frn=true
 ix:∀ (k:Nat) (x:Str),frn[k]?=some x->∃ j:Nat,fr[k]?=some j/\X.N[j]?=some x
 len:fr.length=frn.length
section
variable {X:Cx} {scope:Scope} {own frn:List Str} {fr:List Nat}
theorem CompOk.parts (S:CompOk X scope own fr frn):scope.kind=.function/\(∀ y∈scope.names,y.2≠.cell)/\(∀ y∈scope.names,y.2=.local->scope.names.lookup y.1=some .local) /\
  (∀ y∈scope.names,y.2=.free->X.env.scope.names.lookup y.1=some .cell∨X.env.scope.names.lookup y.1=some .free)/\(own++frn).Nodup/\(∀ x∈own,scope.names.lookup x=some .local)/\∀ x∈frn,scope.names.lookup x=some .free:=by
 have h:=S.ck
 unfold oH at h
 simp only [Jg,Jo,decide_eq_true_eq,Bool.or_eq_true,bne_iff_ne,ne_eq,beq_iff_eq] at h
 obtain ⟨⟨⟨⟨⟨⟨h1,h2⟩,h3⟩,h4⟩,h5⟩,h6⟩,h7⟩:=h
 refine ⟨h1,h2,fun y hy e=>?_,fun y hy e=>?_,h5,h6,h7⟩
 ·rcases h3 y hy with z | z
  ·exact absurd e z
  ·exact z
 ·rcases h4 y hy with (z | z) | z
  ·exact absurd e z
  ·exact .inl z
  ·exact .inr z
theorem yE (S:CompOk X scope own fr frn) (σ:St):(blk own.length fr σ).length=(own++frn).length:=by
 unfold blk
 rw [Qe,Qe,Jc,Qb,S.len]
theorem qG {pins:List (Addr×Obj)} {σ:St} {H:Hp} {s:Shared} {fp:List Addr} {h1:Heap} {tk:Nat} {C D:Addr} {oD:Obj} {m:Str->Option Value} (I:Inv X pins σ H s) (S:CompOk X scope own fr frn)
  (hfp:∀ b∈fp,lA X pins H b) (hlt:∀ b∈fp,b < s.heap.objs.size) (hC:s.heap.objs.size<=C) (hn:h1.Ns C m) (hk:∀ b o,s.heap.get? b=some o->h1.get? b=some o)
  (hD:s.heap.objs.size<=D) (hDC:D≠C) (hoD:h1.get? D=some oD) (hdD:∀ v,oD.data≠.cell v) :
  Inv (aP X scope (own++frn) C s H fp) [(D,oD)] (blk own.length fr σ) H { s with heap:=h1,toks:=tk }:=by
 obtain ⟨p1,p2,p3,p4,p5,p6,p7⟩:=S.parts
 have below:∀ b,b < s.heap.objs.size->b≠C:=fun b hb z=>Qy _ (Qo (z ▸ hb) hC)
 have clsub:∀ x c,(dY X.env scope.names []).lookup x=some c->X.env.cells.lookup x=some c:=fun x c e=>by
  rcases jE _ _ _ _ (gQ e) with q | q
  ·cases q
  ·exact q
 have clt:∀ x c,X.env.cells.lookup x=some c->c < s.heap.objs.size:=fun x c e=>by
  obtain ⟨v,q⟩:=I.cell x c e
  exact q.lt
 have nstk:∀ b∈fp,b∉frs X.stack:=fun b hb z=>by
  obtain ⟨_,f1,f2,_⟩:=hfp b hb
  rcases Qj.mp (I.stkSub b z) with e | e
  ·exact f1 e
  ·exact f2 e
 have Dfs:D∉frs X.stack:=fun z=>by
  have q:=I.stkSub D z
  rcases Qj.mp q with e | e
  ·exact Qy _ (Qo (e ▸ I.lt:D < _) hD)
  ·exact I.nofs hD e
 refine ⟨⟨I.ok.mod,p1,I.ok.glob,I.ok.blt,hC,fun x y c e1 e2=>I.ok.inj x y c (clsub x c e1) (clsub y c e2),fun x hx=>?_,fun x c e=>absurd e (by show ¬ (false=true); decide),I.ok.hd,I.ok.frames,.inl rfl,fun b hb=>?_,I.bs,Qw I.ok.bsz I.sz,fun b o e hb=>?_,nstk,I.stack,I.stkFree⟩,
  rfl,I.bare,Un.kept hk,⟨m,hn,fun i x v e1 e2 e3=>?_⟩,fun x c e=>?_,I.hok.fresh hC,fun x c e=>I.freeC x c (clsub x c e),fun p hp=>?_,I.hok.kept hk,yE S σ⟩
 ·-- has
  have hx':(relabel scope X.env).names.lookup x=some .cell∨(relabel scope X.env).names.lookup x=some .free:=hx
  have hl:(relabel scope X.env).names.lookup x=_:=jF (env:=X.env) x scope.names
  rw [hl] at hx'
  cases e:scope.names.lookup x with
  | none =>
   rw [e] at hx'
   rcases hx' with z | z <;> cases z
  | some k =>
   have hmem:=gQ e
   have hkf:k=.free:=by
    rw [e] at hx'
    simp only [Xf,Option.some.injEq] at hx'
    by_cases c:(k==NameKind.free && X.env.scope.kind==.function && X.env.kindOf x==some .cell)=true
    ·simp only [Jg,beq_iff_eq] at c
     exact c.1.1
    ·rw [if_neg c] at hx'
     rcases hx' with z | z
     ·exact absurd z (p2 _ hmem)
     ·exact z
   subst hkf
   obtain ⟨c,hc⟩:=I.ok.has x (p4 _ hmem rfl)
   obtain ⟨c',hc'⟩:=lG (env:=X.env) scope.names [] x (.inr ⟨hmem,c,hc⟩)
   exact lH hc'
 ·-- exf
  refine ⟨below b (hlt b hb),fun x c e=>?_⟩
  exact (hfp b hb).2.2.2.2.1 x c (clsub x c e)
 ·-- noex
  rcases (hfp b hb).2.2.2.1 with z | z
  ·exact I.ok.noex b o e z
  ·exact absurd (Qo (Qm (I.ok.bs b o e).1) z) (Qy _)
 ·-- loc
  show ∃ u,bO v u/\aEy _ _ _ x u
  have e1':(own++frn)[i]?=some x:=e1
  have e2':(blk own.length fr σ)[i]?=some (some v):=e2
  unfold blk at e2'
  by_cases hi:i < own.length
  ·rw [Qv (by simpa using hi),Xb] at e2'
   rw [if_pos hi] at e2'
   cases e2'
  ·rw [Jd (by simpa using hi)] at e2'
   rw [Jd (by omega)] at e1'
   rw [Jc,Qi] at e2'
   obtain ⟨j,hj1,hj2⟩:=S.ix _ _ e1'
   rw [hj1] at e2'
   simp only [Xf,Option.some.injEq] at e2'
   have hσ:σ[j]?=some (some v):=by
    cases q:σ[j]? with
    | none=>rw [q] at e2'; cases e2'
    | some w=>rw [q] at e2'; exact congrArg some e2'
   have hfree:=p7 x (Qh e1')
   have hmem:=gQ hfree
   have kx:=p4 _ hmem rfl
   have vis:Vis X.env.scope x:=by
    rcases kx with z | z
    ·exact .inr (.inl z)
    ·exact .inr (.inr z)
   obtain ⟨m0,hn0,hl0⟩:=I.loc
   obtain ⟨u,ru,lk⟩:=hl0 j x v hj2 hσ vis
   refine ⟨u,ru,.inr ⟨?_,?_⟩⟩
   ·show (relabel scope X.env).names.lookup x=some .cell∨(relabel scope X.env).names.lookup x=some .free
    have hl:(relabel scope X.env).names.lookup x=_:=jF (env:=X.env) x scope.names
    rw [hl,hfree]
    simp only [Xf,Option.some.injEq]
    by_cases c:(NameKind.free==NameKind.free && X.env.scope.kind==.function && X.env.kindOf x==some .cell)=true
    ·rw [if_pos c]; exact .inl rfl
    ·rw [if_neg c]; exact .inr rfl
   ·rcases lk with ⟨kl,_⟩ | ⟨_,c,hc,hcell⟩
    ·have kl':X.env.scope.names.lookup x=some .local:=kl
     rcases kx with z | z <;> (have z':X.env.scope.names.lookup x=_:=z; rw [kl'] at z'; cases z')
    ·obtain ⟨c',hc'⟩:=lG (env:=X.env) scope.names [] x (.inr ⟨hmem,c,hc⟩)
     obtain ⟨c2,hc2⟩:=lH hc'
     have ec:c2=c:=by
      have:=clsub x c2 hc2
      rw [hc] at this
      exact (Option.some.inj this).symm
     subst ec
     obtain ⟨oc,ho,hd⟩:=hcell
     exact ⟨c2,hc2,oc,hk _ _ ho,hd⟩
 ·obtain ⟨v,o,ho,hd⟩:=I.cell x c (clsub x c e)
  exact ⟨v,o,hk _ _ ho,hd⟩
 ·have hp':p∈([]:List (Addr×Obj))++[(D,oD)]:=hp
  simp only [Zb,Qp] at hp'
  subst hp'
  exact ⟨hoD,I.hok.fresh hD,hDC,Dfs,hdD⟩
end
theorem wF {prog:Program} {w:World} {A:Around} {R:Result->Shared->Prop} {s:Shared} {elt target iter:Expr} {ifs:List Expr} {scope:Scope} {pos:Pos} {it acc:Value} {env:Env} (I:Nat->Shared->Prop)
  (turn:∀ n s,I n s->wpAny (model prog w) A (pyNext it) (fun r s₁=>match r with
   | none=>R (.ok .next) s₁
   | some v=>wpAny (model prog w) A (letOwnedTupleGo target it v) (fun _ s₁'=>wpAny (model prog w) A (assign target env v) (fun _ s₂ =>
     wpAny (model prog w) A (forIn ifs true fun c r=>if r=true then do let ok<-isTrue c env (eval c env); pure (ForInStep.yield ok) else pure (ForInStep.yield r)) (fun ok s₃ =>
      if ok=true then wpAny (model prog w) A (eval elt env) (fun x s₄ =>
       wpAny (model prog w) A (call (.builtin "list.append") [acc,x]) (fun _ s₅=>∃ m,m < n/\I m s₅) (fun _ _=>False) s₄) (fun _ _=>False) s₃
      else ∃ m,m < n/\I m s₃) (fun _ _=>False) s₂) (fun _ _=>False) s₁') (fun _ _=>False) s₁) (fun _ _=>False) s)
  (n:Nat) (h:I n s) :
  codeAny (model prog w) A (.compLoop (.ListComp elt [⟨target,iter,ifs,0⟩] scope pos) 0 it acc env) R s:=by
 refine codeAny_loop rfl I (fun n s hI=>?_) n h
 show wpAny _ A ((compTurn (.ListComp elt [⟨target,iter,ifs,0⟩] scope pos) 0 it acc env).onRaise (fun x=>do noteFrame x env; theTreesLotGoes x)) _ _ s
 refine wpAny_noted ?_
 rw [compTurn_list]
 refine wpAny_bind (wpAny_standAt (wpAny_bind (wpAny_mono (turn n s hI) (fun r s₁ h₁=>?_) fun _ _ h'=>h'.elim)))
 cases r with
 | none=>exact wpAny_pure h₁
 | some v =>
  refine wpAny_bind (wpAny_mono h₁ (fun _ s₁' h₁'=>?_) fun _ _ h'=>h'.elim)
  refine wpAny_bind (wpAny_mono h₁' (fun _ s₂ h₂=>wpAny_bind (wpAny_mono h₂ (fun ok s₃ h₃=>?_) fun _ _ h'=>h'.elim)) fun _ _ h'=>h'.elim)
  cases ok with
  | false=>exact wpAny_pure ⟨rfl,h₃⟩
  | true =>
   exact wpAny_bind (wpAny_bind (wpAny_mono h₃ (fun x s₄ h₄=>wpAny_bind (wpAny_mono h₄ (fun _ s₅ h₅=>wpAny_pure (wpAny_pure ⟨rfl,h₅⟩)) fun _ _ h'=>h'.elim)) fun _ _ h'=>h'.elim))
def PF (X:Cx) (ifs:List Expr) (t:TT):Prop :=
 ∀ (pins:List (Addr×Obj)) (s:Shared) (σ:St) (H:Hp) (Q:Bool->Hp->Prop),Inv X pins σ H s->t σ H Q ->
  wpAny (model X.prog X.w) X.A (forIn ifs true fun c r=>if r=true then do let ok<-isTrue c X.env (eval c X.env); pure (ForInStep.yield ok) else pure (ForInStep.yield r)) (TP X pins σ Q) X.xe s
def wG:TT:=fun _ H Q=>Q true H
theorem cW {X:Cx}:PF X [] wG:=fun _ _ _ H _ I h=>wpAny_tests_nil ⟨H,I,h⟩
theorem aBC {X:Cx} {c:Expr} {t:TT} (h:PT X c t):PF X [c] t:=fun pins s σ H Q I hq=>wpAny_tests_one (h pins s σ H Q I hq)
def aDA (own:Nat) (fr:List Nat) (wi:TI) (g:TG) (tt:TT) (te:TE):TE:=fun σ H Q=>wi σ H fun J H1=>∃ W:Nat->Nat->List V->St->Hp->Prop,(∃ m,W 0 m [] (blk own fr σ) H1)/\∀ i m ys σ' H,W i m ys σ' H ->
 (J.stop i H/\∀ p,H p=none->Q (.ref p) (upd H p (.lst ys))) ∨
 (J.go i H/\∃ N:List V->St->Hp->Prop,(∀ ys' σ2 H2,N ys' σ2 H2->∃ m',m' < m/\W (i+1) m' ys' σ2 H2) /\
  ∀ x H',J.yld i H x H'->g x σ' H' fun σ2 H2=>tt σ2 H2 fun b H3=>if b=true then te σ2 H3 fun y H4=>ys.length < sizeLine/\N (ys++[y]) σ2 H4 else N ys σ2 H3)
section
variable {X:Cx} {scope:Scope} {own frn:List Str} {fr:List Nat} {elt tg iter:Expr} {ifs:List Expr} {pos:Pos} {wi:TI} {g:TG} {tt:TT} {te:TE}
theorem Inv.track {pins:List (Addr×Obj)} {σ:St} {H:Hp} {s:Shared} {D:Addr} {ys:List V} {its:Array Value} (I:Inv X pins σ H s) (hD:s.heap.PlainList D its) (hv:aY ys its.toList) (hz:ys.length<=sizeLine) (hn:H D=none) (hL:D≠X.env.locals)
  (h1:X.s₀.heap.objs.size<=D) (h2:∀ x c,X.env.cells.lookup x=some c->c≠D) (h3:∀ p∈X.pn++pins,p.1≠D):Inv X pins σ (upd H D (.lst ys)) s:=by
 have ne:∀ b u,H b=some u->b≠D:=fun b u e z=>by rw [z,hn] at e; cases e
 refine I.step (g':=s.gens) (d':=s.drawn) (t':=s.toks) (h':=s.heap) (ch:=[D]) (fun b hb=>?_) (fun b o _ _ _ e _=>e) (fun b o _ _ _ e _=>⟨o.slots,e⟩) (fun b o hc _ n=>?_) (fun b o _ e=>⟨o,e⟩)
  (fun b xs e=>by rw [aH (ne b _ e)]; exact e) (fun b o u e=>by rw [aH (ne b _ e)]; exact e) (fun b ps e=>⟨#[],by rw [aH (ne b _ e),e]; simp⟩) (fun _ h=>h) (fun b u e=>?_) I.bare
 ·have e:b=D:=by simpa using hb
  subst e
  exact ⟨.inr h1,hL,h2,h3⟩
 ·rw [aH (by simpa using hc)]; exact n
 ·by_cases hb:b=D
  ·subst hb
   rw [aC] at e; cases e
   obtain ⟨n,e⟩:=hD
   exact ⟨hz,its.toList,n,hv,by simpa using e⟩
  ·rw [aH hb] at e
   exact (I.hok b u e).stay (fun c v _ q=>q) (fun c q=>by rw [aH (ne c _ q)]; exact q) fun c xs q=>by rw [aH (ne c _ q)]; exact q
theorem qH {pins:List (Addr×Obj)} {σ:St} {H2:Hp} {s2:Shared} {it:Addr} {fp:List Addr} {tn:Nat->Heap->Prop} {J:It} {RR:Value->Addr->Result->Shared->Prop} {E:Value->Shared->Prop} {Q:Hp->List V->Prop}
  (S:CompOk X scope own fr frn) (hc:X.calm=true) (I2:Inv X pins σ H2 s2) (T:Turn X.prog X.w X.K tg J fp it tn) (st2:tn 0 s2.heap) (f2:∀ b∈fp,lA X pins H2 b)
  (hg:∀ C s0 H0 fp,PG (aP X scope (own++frn) C s0 H0 fp) tg g) (ht:∀ C s0 H0 fp,PF (aP X scope (own++frn) C s0 H0 fp) ifs tt) (he:∀ C s0 H0 fp,PE (aP X scope (own++frn) C s0 H0 fp) elt te)
  (w:∃ W:Nat->Nat->List V->St->Hp->Prop,(∃ m,W 0 m [] (blk own.length fr σ) H2)/\∀ i m ys σ' H,W i m ys σ' H ->
   (J.stop i H/\Q H ys) ∨
   (J.go i H/\∃ N:List V->St->Hp->Prop,(∀ ys' σ2 H2,N ys' σ2 H2->∃ m',m' < m/\W (i+1) m' ys' σ2 H2) /\
    ∀ x H',J.yld i H x H'->g x σ' H' fun σ2 H2=>tt σ2 H2 fun b H3=>if b=true then te σ2 H3 fun y H4=>ys.length < sizeLine/\N (ys++[y]) σ2 H4 else N ys σ2 H3))
  (hRR:∀ (C D:Addr) (s':Shared) (H':Hp) (ys:List V) (its:Array Value) (m:Str->Option Value),s2.heap.objs.size<=C->s2.heap.objs.size<=D->D≠C->s'.heap.Ns C m->H' C=none->H' D=none->s'.heap.PlainList D its->aY ys its.toList->ys.length<=sizeLine ->
   Inv X pins σ H' s'->Q H' ys->RR (.ref D) C (.ok .next) s') :
  wpAny (model X.prog X.w) X.A (newList []) (fun acc s₃=>wpAny (model X.prog X.w) X.A (newFunctionEnv scope X.env.globals (dY X.env scope.names []) [] X.env.qual none .none (some X.env)) (fun cenv s₄ =>
   codeAny (model X.prog X.w) X.A (.compStart (.ListComp elt [⟨tg,iter,ifs,0⟩] scope pos) 0 (.ref it) acc { cenv with scope:=relabel scope X.env }) (RR acc cenv.locals) s₄) E s₃) E s2:=by
 obtain ⟨p1,p2,p3,p4,p5,p6,p7⟩:=S.parts
 obtain ⟨W,⟨m0,w0⟩,turn⟩:=w
 refine wpAny_newObj_type (wpAny_newFunctionEnv p2 (by intro y hy; simp at hy) (fun h₁ hns₁ hsb₁=>?_) p1)
 dsimp only at hns₁ hsb₁ ⊢
 generalize hH2:s2.heap.push { cls:=.type "list",dict:=none,data:=.seq ([]:List Value).toArray }=HD at hns₁ hsb₁ ⊢
 have hCs:HD.objs.size=s2.heap.objs.size+1:=by rw [<- hH2,Je]
 have hDC:s2.heap.objs.size≠HD.objs.size:=by omega
 have hCle:s2.heap.objs.size<=HD.objs.size:=by omega
 have below:∀ b,b < s2.heap.objs.size->b≠HD.objs.size/\b≠s2.heap.objs.size:=fun b hb=>⟨by omega,by omega⟩
 have old:∀ b o,s2.heap.get? b=some o->h₁.get? b=some o:=fun b o e=>hsb₁.extBut b o (below b (Qm e)).1 (Qa _ (hH2 ▸ Qa _ e))
 have hacc:h₁.get? s2.heap.objs.size=some { cls:=.type "list",data:=.seq ([]:List Value).toArray }:=hsb₁.extBut _ _ hDC (Qa _ (hH2 ▸ Qk _ rfl))
 have flt:∀ b∈fp,b < s2.heap.objs.size:=fun b hb=>by
  obtain ⟨o,e,_⟩:=T.obj _ _ st2 b hb
  exact Qm e
 generalize hDg:s2.heap.objs.size=D at *
 generalize hCg:HD.objs.size=C at *
 have st3:tn 0 h₁:=T.keep _ _ _ st2 fun b _ o e=>old b o e
 -- facts of the block
 have clsub:∀ x c,(dY X.env scope.names []).lookup x=some c->X.env.cells.lookup x=some c:=fun x c e=>by
  rcases jE _ _ _ _ (gQ e) with q | q
  ·cases q
  ·exact q
 have cD:∀ x c,(dY X.env scope.names []).lookup x=some c->c≠D:=fun x c e z=>by
  obtain ⟨v,q⟩:=I2.cell x c (clsub x c e)
  exact Qy _ (Qo q.lt (by rw [hDg,z]; exact Qg _))
 have loop:∀ s₃:Shared,s₃={ s2 with heap:=h₁,toks:=s2.toks+([]:List (Str×Value)).length } ->
   codeAny (model X.prog X.w) X.A (.compLoop (.ListComp elt [⟨tg,iter,ifs,0⟩] scope pos) 0 (.ref it) (.ref D) (compEnvC scope (dY X.env scope.names []) C X.env)) (RR (.ref D) C) s₃:=by
  rintro s₃ rfl
  have I3:Inv (aP X scope (own++frn) C s2 H2 fp) [(D,_)] (blk own.length fr σ) H2 { s2 with heap:=h₁,toks:=s2.toks+([]:List (Str×Value)).length } :=
   qG (m:=fun _=>none) I2 S f2 (by rw [hDg]; exact flt) (by rw [hDg]; exact hCle) (hns₁:h₁.Ns C _) old (by rw [hDg]; exact Qg _) hDC hacc (fun v z=>by cases z)
  have stat:∀ {H':Hp} {pl:List (Addr×Obj)},(∀ p∈pl,p.1=D)->(∀ b∈fp,H' b=none)->∀ b∈fp,lA (aP X scope (own++frn) C s2 H2 fp) pl H' b:=fun {H' pl} hpl hn b hb=>by
   refine ⟨hn b hb,(below b (flt b hb)).1,fun z=>?_,.inl hb,fun x c e=>(f2 b hb).2.2.2.2.1 x c (clsub x c e),fun p hp=>?_⟩
   ·have z':b∈frs X.stack:=z
    rcases Qj.mp (I2.stkSub b z') with e | e
    ·exact (f2 b hb).2.1 e
    ·exact (f2 b hb).2.2.1 e
   ·have hp':p∈pl:=by simpa [aP] using hp
    rw [hpl p hp']
    exact Ne.symm (below b (flt b hb)).2
  refine wF (env:=compEnvC scope (dY X.env scope.names []) C X.env) (fun n s'=>∃ i σ' H' ys its o,Inv (aP X scope (own++frn) C s2 H2 fp) [(D,o)] σ' H' s'/\s'.heap.PlainList D its/\aY ys its.toList/\ys.length<=sizeLine/\tn i s'.heap/\(∀ b∈fp,H' b=none)/\W i n ys σ' H') ?_ m0
   ⟨0,_,H2,[],#[],_,I3,⟨_,hacc⟩,.nil,Jh _,st3,fun b hb=>(f2 b hb).1,w0⟩
  rintro n s5 ⟨i,σ5,H5,ys,its,o,I5,pl5,v5,z5,st5,fr5,w5⟩
  have one:∀ {o:Obj},∀ p∈[(D,o)],p.1=D:=fun p hp=>by
   have e:=Qp.mp hp
   rw [e]
  rcases turn i n ys σ5 H5 w5 with ⟨stop,qn⟩ | ⟨go,N,hN,step⟩
  ·refine wpAny_mono (T.done (aP X scope (own++frn) C s2 H2 fp) rfl rfl rfl hc i _ s5 σ5 H5 (fun _ _=>False) I5 (stat one fr5) st5 stop) (fun r s6 hx9=>?_) fun _ _ z=>z
   obtain ⟨hr,I6⟩:=hx9
   subst hr
   obtain ⟨m6,hn6,_⟩:=I6.loc
   have p6:=I6.pin (D,o) (by simp [aP])
   have p5':=I5.pin (D,o) (by simp [aP])
   have pl6:s6.heap.PlainList D its:=by
    obtain ⟨k,e⟩:=pl5
    have e1:o=_:=Option.some.inj (p5'.1.symm.trans e)
    exact ⟨k,by rw [p6.1]; exact congrArg some e1⟩
   have IX:Inv X pins σ H5 s6:=I2.call' (ch:=fp) I6.os I6.base I6.hok I6.bare fun b hb=>⟨(f2 b hb).2.2.2.1,(f2 b hb).2.1,(f2 b hb).2.2.2.2.1,(f2 b hb).2.2.2.2.2⟩
   exact hRR C D s6 H5 ys its m6 hCle (Qg _) hDC hn6 I6.free p6.2.1 pl6 v5 z5 IX qn
  ·refine wpAny_mono (T.item (aP X scope (own++frn) C s2 H2 fp) rfl rfl rfl hc i _ s5 σ5 H5 (fun _ _=>False) I5 (stat one fr5) st5 go) (fun r s6 hx9=>?_) fun _ _ z=>z
   obtain ⟨u,hr,h6⟩:=hx9
   subst hr
   refine wpAny_mono h6 (fun _ s7 hx9=>?_) fun _ _ z=>z
   obtain ⟨x,H7,I7,r7,y7,st7,fr7⟩:=hx9
   have I7':=I7.pinned (stat one fr7) (T.obj _ _ st7)
   refine wpAny_mono (hg C s2 H2 fp _ s7 σ5 H7 x u _ I7' r7 (step x H7 y7)) (fun _ s8 hx9=>?_) fun _ _ z=>z
   obtain ⟨σ8,H8,I8,q8⟩:=hx9
   refine wpAny_mono (ht C s2 H2 fp _ s8 σ8 H8 _ I8 q8) (fun b s9 hx9=>?_) fun _ _ z=>z
   obtain ⟨H9,I9,q9⟩:=hx9
   -- what stands of the iterator and of the gathered list behind the tests,behind the item
   have keepT:∀ {H':Hp} {s':Shared} {σ':St},Inv (aP X scope (own++frn) C s2 H2 fp) ([(D,o)]++lB fp s7.heap) σ' H' s'->tn (i+1) s'.heap/\(∀ b∈fp,H' b=none)/\s'.heap.PlainList D its/\H' D=none:=fun {H' s' σ'} I'=>by
    refine ⟨T.keep _ _ _ st7 fun b hb o e=>(I'.pin (b,o) (Qr _ (Qr _ (dQ hb e)))).1,fun b hb=>?_,?_,?_⟩
    ·obtain ⟨o,e,d⟩:=T.obj _ _ st7 b hb
     exact (I'.pin (b,o) (Qr _ (Qr _ (dQ hb e)))).2.1
    ·have p':=I'.pin (D,o) (by simp [aP])
     have p5':=I5.pin (D,o) (by simp [aP])
     obtain ⟨k,e⟩:=pl5
     have e1:o=_:=Option.some.inj (p5'.1.symm.trans e)
     exact ⟨k,by rw [p'.1]; exact congrArg some e1⟩
    ·exact (I'.pin (D,o) (by simp [aP])).2.1
   cases b with
   | false =>
    rw [if_neg Qs] at q9
    rw [if_neg Qs]
    obtain ⟨m',hm,w'⟩:=hN ys σ8 H9 q9
    obtain ⟨t9,fr9,pl9,_⟩:=keepT I9
    exact ⟨m',hm,i+1,σ8,H9,ys,its,o,I9.unpinned,pl9,v5,z5,t9,fr9,w'⟩
   | true =>
    rw [if_pos rfl] at q9
    rw [if_pos rfl]
    refine wpAny_mono (he C s2 H2 fp _ s9 σ8 H9 _ I9 q9) (fun y s10 hx9=>?_) fun _ _ z=>z
    obtain ⟨yv,H10,I10,r10,lt10,q10⟩:=hx9
    obtain ⟨t10,fr10,pl10,hD10⟩:=keepT I10
    have hl:=v5.length
    refine wpAny_list_append_plain pl10 (fun h11 pl11 sb11=>?_) (by rw [<- Array.length_toList,<- hl]; exact Xr lt10)
    obtain ⟨m',hm,w'⟩:=hN _ σ8 H10 q10
    have I10':Inv (aP X scope (own++frn) C s2 H2 fp) [] σ8 H10 s10:=I10.pins_of fun p hp=>by cases hp
    have I11:Inv (aP X scope (own++frn) C s2 H2 fp) [] σ8 H10 { s10 with heap:=h11 } :=
     I10'.turned (t':=s10.toks) (it:=D) (fun b o hb e=>(sb11.2 b hb).trans e) hD10 hDC (.inr (by show s2.heap.objs.size<=D; rw [hDg]; exact Qg _)) cD (fun p hp=>by simp [aP] at hp)
    obtain ⟨k11,e11⟩:=id pl11
    have DfsX:D∉frs X.stack:=fun z=>by
     rcases Qj.mp (I2.stkSub D z) with e | e
     ·exact Qy _ (Qo I2.lt (by rw [hDg,e]; exact Qg _))
     ·exact I2.nofs (by rw [hDg]; exact Qg _) e
    refine ⟨m',hm,i+1,σ8,H10,ys++[yv],its.push y,{ cls:=.type "list",data:=.seq (its.push y) k11 },I11.pins_of fun p hp=>?_,pl11,?_,by rw [Qe]; show ys.length+1<=_; omega,T.keep _ _ _ t10 fun b hb o e=>(sb11.2 b (below b (flt b hb)).2).trans e,fr10,w'⟩
    ·have e:=Qp.mp hp
     subst e
     exact ⟨e11,hD10,hDC,DfsX,fun v z=>by cases z⟩
    ·rw [Array.toList_push]
     exact v5.append (.cons r10 .nil)
 exact codeAny_compStart_list (loop _ rfl) (T.self X.A 0 _ _ _ st3 (loop _ rfl))
theorem CompOk.clo {pins:List (Addr×Obj)} {σ:St} {H:Hp} {s:Shared} (S:CompOk X scope own fr frn) (I:Inv X pins σ H s):closureFor scope X.env=pure (dY X.env scope.names []):=by
 obtain ⟨p1,p2,p3,p4,p5,p6,p7⟩:=S.parts
 exact yD fun y hy e=>I.ok.has y.1 (p4 y hy e)
theorem cM (S:CompOk X scope own fr frn) (hc:X.calm=true) (hi:PI X tg iter wi) (hg:∀ C s0 H0 fp,PG (aP X scope (own++frn) C s0 H0 fp) tg g) (ht:∀ C s0 H0 fp,PF (aP X scope (own++frn) C s0 H0 fp) ifs tt)
  (he:∀ C s0 H0 fp,PE (aP X scope (own++frn) C s0 H0 fp) elt te) (hs:∀ x,foldedSetIterable iter X.env x=pure x:=by intro _; rfl) :
  PE X (.ListComp elt [⟨tg,iter,ifs,0⟩] scope pos) (aDA own.length fr wi g tt te):=by
 intro pins s σ H Q I h
 obtain ⟨p1,p2,p3,p4,p5,p6,p7⟩:=S.parts
 rw [eval_ListComp]
 refine wpAny_comprehension_free (use:=none) rfl hs (S.clo I) p1 p3 (thn (hi pins s σ H _ I h) fun v s1 h1=>thn h1 fun itv s2 h2=>?_)
 obtain ⟨it,fp,tn,J,H2,e,I2,T,st2,f2,hw⟩:=h2
 subst e
 refine qH (RR:=fun acc C=>compPost (model X.prog X.w) X.A X.xe none (EP X pins σ Q) acc C) (Q:=fun H ys=>∀ p,H p=none->Q (.ref p) (upd H p (.lst ys))) S hc I2 T st2 f2 hg ht he hw ?_
 intro C D s' H' ys its m hC hD hDC hns hHC hHD pl v z IX q
 have cne:∀ a,s2.heap.objs.size<=a->∀ x c,X.env.cells.lookup x=some c->c≠a:=fun a ha x c e z=>by
  obtain ⟨v,w⟩:=I2.cell x c e
  exact Qy _ (Qo w.lt (by rw [z]; exact ha))
 have pne:∀ a,s2.heap.objs.size<=a->∀ p∈X.pn++pins,p.1≠a:=fun a ha p hp z=>Qy _ (Qo (Qm (I2.pin p hp).1) (by rw [z]; exact ha))
 have lne:∀ a,s2.heap.objs.size<=a->a≠X.env.locals:=fun a ha z=>Qy _ (Qo I2.lt (by rw [<- z]; exact ha))
 refine ⟨m,hns,fun h' hs'=>⟨.ref D,upd H' D (.lst ys),?_,rfl,q D hHD⟩⟩
 have IT:Inv X pins σ (upd H' D (.lst ys)) s':=IX.track pl v z hHD (lne D hD) (Qw I2.sz hD) (cne D hD) (pne D hD)
 exact IT.turned (t':=s'.toks) (it:=C) (fun b o hb e=>(hs'.2 b hb).trans e) (by rw [aH (Ne.symm hDC)]; exact hHC) (lne C hC) (.inr (Qw I2.sz hC)) (cne C hC) (pne C hC)
theorem mM {i:Nat} {y:Str} {py spos:Pos} (S:CompOk X scope own fr frn) (hc:X.calm=true) (hN:X.N.Nodup) (hyi:X.N[i]?=some y) (hx:X.env.scope.names.lookup y=some .local)
  (hsw:swapsWith (.ListComp elt [⟨tg,iter,ifs,0⟩] scope pos) (some (.Name y py)) spos.line X.env=pure true)
  (hi:PI X tg iter wi) (hg:∀ C s0 H0 fp,PG (aP X scope (own++frn) C s0 H0 fp) tg g) (ht:∀ C s0 H0 fp,PF (aP X scope (own++frn) C s0 H0 fp) ifs tt)
  (he:∀ C s0 H0 fp,PE (aP X scope (own++frn) C s0 H0 fp) elt te) (hs:∀ x,foldedSetIterable iter X.env x=pure x:=by intro _; rfl) :
  PS X (.Assign [.Name y py] (.ListComp elt [⟨tg,iter,ifs,0⟩] scope pos) spos) (aBq (aDA own.length fr wi g tt te) (jL i)):=by
 intro pins s σ H D I h
 obtain ⟨p1,p2,p3,p4,p5,p6,p7⟩:=S.parts
 rw [exec_Assign_Name_used _ _ _ _ hsw]
 refine wpAny_bind (wpAny_standAt (wpAny_bind ?_))
 show wpAny _ X.A (do let _<-comprehension (.ListComp elt [⟨tg,iter,ifs,0⟩] scope pos) scope X.env _ (newList []) false (eval iter X.env) (some (assign (.Name y py) X.env))) _ _ s
 refine wpAny_bind (wpAny_mono (wpAny_comprehension_free (use:=some (assign (.Name y py) X.env)) (Q:=fun _ s'=>SP X pins D .next s') rfl hs (S.clo I) p1 p3 (thn (hi pins s σ H _ I h) fun v s1 h1=>thn h1 fun itv s2 h2=>?_))
  (fun _ s' hq=>wpAny_pure (wpAny_pure hq)) fun _ _ e=>e)
 obtain ⟨it,fp,tn,J,H2,e,I2,T,st2,f2,hw⟩:=h2
 subst e
 refine qH (RR:=fun acc C=>compPost (model X.prog X.w) X.A X.xe (some (assign (.Name y py) X.env)) (fun _ s'=>SP X pins D .next s') acc C) (Q:=fun H ys=>∀ p,H p=none->D.nx (σ.set i (some (.ref p))) (upd H p (.lst ys))) S hc I2 T st2 f2 hg ht he hw ?_
 intro C L s' H' ys its m hC hL hLC hns hHC hHL pl v z IX q
 have cne:∀ a,s2.heap.objs.size<=a->∀ x c,X.env.cells.lookup x=some c->c≠a:=fun a ha x c e z=>by
  obtain ⟨v,w⟩:=I2.cell x c e
  exact Qy _ (Qo w.lt (by rw [z]; exact ha))
 have pne:∀ a,s2.heap.objs.size<=a->∀ p∈X.pn++pins,p.1≠a:=fun a ha p hp z=>Qy _ (Qo (Qm (I2.pin p hp).1) (by rw [z]; exact ha))
 have lne:∀ a,s2.heap.objs.size<=a->a≠X.env.locals:=fun a ha z=>Qy _ (Qo I2.lt (by rw [<- z]; exact ha))
 have IT:Inv X pins σ (upd H' L (.lst ys)) s':=IX.track pl v z hHL (lne L hL) (Qw I2.sz hL) (cne L hL) (pne L hL)
 show wpAny _ _ (assign (.Name y py) X.env (.ref L)) _ _ s'
 refine wpAny_assign_Name (oF IT hN hyi (.inl hx) (v:=.ref L) rfl (fun s'' I'' hch=>?_) (.inr hx))
 obtain ⟨a,sb,ha⟩:=hch
 have hCa:C≠a:=by
  rcases ha with e | e
  ·rw [e]; exact lne C hC
  ·exact Ne.symm (cne C hC y a e)
 refine ⟨m,hns.sameBut sb hCa,fun h' hs'=>⟨σ.set i (some (.ref L)),upd H' L (.lst ys),?_,q L hHL⟩⟩
 exact I''.turned (t':=s''.toks) (it:=C) (fun b o hb e=>(hs'.2 b hb).trans e) (by rw [aH (Ne.symm hLC)]; exact hHC) (lne C hC) (.inr (Qw I2.sz hC)) (cne C hC) (pne C hC)
end
inductive Kd where
 | int | bl | non | str | tup | lst | dct
 deriving DecidableEq
def KdV (K:PySem.W.Frag) (H:Hp):V->Kd->Prop
 | .int _,k=>k=.int
 | .bl _,k=>k=.bl
 | .non,k=>k=.non
 | .str _,k=>k=.str
 | .ref p,k=>(k=.lst/\∃ xs,SqL K H p xs)∨(k=.tup/\∃ xs,SqT K H p xs)∨(k=.dct/\∃ kvs,H p=some (.dK kvs))
 | _,_=>False
section
variable {X:Cx}
theorem yF {pins:List (Addr×Obj)} {σ:St} {H:Hp} {s:Shared} {p:Addr} {kvs:List (Key×V)} (I:Inv X pins σ H s) (h:H p=some (.dK kvs)):∃ o,s.heap.get? p=some o/\o.cls=.type "dict" := by
 obtain ⟨_,_,vs,_,o,es,ep,e,ex,_⟩:=I.hok p _ h
 exact ⟨o,e,ex.1⟩
theorem uE:eJ X (.builtin "isinstance") (fun xs H Q=>∃ x k,xs = [x,.ty "int"]/\KdV X.K H x k/\Q (.bl (decide (k=.int∨k=.bl))) H):=by
 intro pins s σ H xs us Q I r h
 obtain ⟨x,k,rfl,hk,q⟩:=h
 obtain ⟨u,t,rfl,rx,rt⟩:=lD r
 cases rt
 cases x with
 | int i=>cases hk; obtain ⟨t,rfl⟩:=rx; exact IsiPair.int_int ⟨.bl true,H,I,rfl,q⟩
 | bl b=>cases hk; cases rx; exact IsiPair.bool_int ⟨.bl true,H,I,rfl,q⟩
 | non=>cases hk; cases rx; exact IsiPair.NoneType_int ⟨.bl false,H,I.tok _,rfl,q⟩
 | str y=>cases hk; obtain ⟨t,rfl⟩:=rx; exact IsiPair.str_int ⟨.bl false,H,I.tok _,rfl,q⟩
 | ref p =>
  cases rx
  rcases hk with ⟨rfl,xs,hx⟩ | ⟨rfl,xs,hx⟩ | ⟨rfl,kvs,hx⟩
  ·obtain ⟨its,r',pl,hz⟩:=I.list hx; exact IsiPair.isList_int pl.isList (fun _ _ e=>e) ⟨.bl false,H,I.tok _,rfl,q⟩
  ·obtain ⟨its,r',pl,hz⟩:=I.tuple hx; exact IsiPair.isTuple_int pl (fun _ _ e=>e) ⟨.bl false,H,I.tok _,rfl,q⟩
  ·obtain ⟨o,e,c⟩:=yF I hx; exact IsiPair.dict_int e c ⟨.bl false,H,I.tok _,rfl,q⟩
 | _=>exact hk.elim
theorem rZ:eJ X (.builtin "isinstance") (fun xs H Q=>∃ x k,xs = [x,.ty "bool"]/\KdV X.K H x k/\Q (.bl (decide (k=.bl))) H):=by
 intro pins s σ H xs us Q I r h
 obtain ⟨x,k,rfl,hk,q⟩:=h
 obtain ⟨u,t,rfl,rx,rt⟩:=lD r
 cases rt
 cases x with
 | int i=>cases hk; obtain ⟨t,rfl⟩:=rx; exact IsiPair.int_bool ⟨.bl false,H,I.tok _,rfl,q⟩
 | bl b=>cases hk; cases rx; exact IsiPair.bool_bool ⟨.bl true,H,I,rfl,q⟩
 | non=>cases hk; cases rx; exact IsiPair.NoneType_bool ⟨.bl false,H,I.tok _,rfl,q⟩
 | str y=>cases hk; obtain ⟨t,rfl⟩:=rx; exact IsiPair.str_bool ⟨.bl false,H,I.tok _,rfl,q⟩
 | ref p =>
  cases rx
  rcases hk with ⟨rfl,xs,hx⟩ | ⟨rfl,xs,hx⟩ | ⟨rfl,kvs,hx⟩
  ·obtain ⟨its,r',pl,hz⟩:=I.list hx; exact IsiPair.isList_bool pl.isList (fun _ _ e=>e) ⟨.bl false,H,I.tok _,rfl,q⟩
  ·obtain ⟨its,r',pl,hz⟩:=I.tuple hx; exact IsiPair.isTuple_bool pl (fun _ _ e=>e) ⟨.bl false,H,I.tok _,rfl,q⟩
  ·obtain ⟨o,e,c⟩:=yF I hx; exact IsiPair.dict_bool e c ⟨.bl false,H,I.tok _,rfl,q⟩
 | _=>exact hk.elim
theorem cH:eJ X (.builtin "isinstance") (fun xs H Q=>∃ x k,xs = [x,.ty "tuple"]/\KdV X.K H x k/\Q (.bl (decide (k=.tup))) H):=by
 intro pins s σ H xs us Q I r h
 obtain ⟨x,k,rfl,hk,q⟩:=h
 obtain ⟨u,t,rfl,rx,rt⟩:=lD r
 cases rt
 cases x with
 | int i=>cases hk; obtain ⟨t,rfl⟩:=rx; exact IsiPair.int_tuple ⟨.bl false,H,I.tok _,rfl,q⟩
 | bl b=>cases hk; cases rx; exact IsiPair.bool_tuple ⟨.bl false,H,I.tok _,rfl,q⟩
 | non=>cases hk; cases rx; exact IsiPair.NoneType_tuple ⟨.bl false,H,I.tok _,rfl,q⟩
 | str y=>cases hk; obtain ⟨t,rfl⟩:=rx; exact IsiPair.str_tuple ⟨.bl false,H,I.tok _,rfl,q⟩
 | ref p =>
  cases rx
  rcases hk with ⟨rfl,xs,hx⟩ | ⟨rfl,xs,hx⟩ | ⟨rfl,kvs,hx⟩
  ·obtain ⟨its,r',pl,hz⟩:=I.list hx; exact IsiPair.isList_tuple pl.isList (fun _ _ e=>e) ⟨.bl false,H,I.tok _,rfl,q⟩
  ·obtain ⟨its,r',pl,hz⟩:=I.tuple hx; exact IsiPair.isTuple_tuple pl (fun _ _ e=>e) ⟨.bl true,H,I,rfl,q⟩
  ·obtain ⟨o,e,c⟩:=yF I hx; exact IsiPair.dict_tuple e c ⟨.bl false,H,I.tok _,rfl,q⟩
 | _=>exact hk.elim
theorem aAO (bs:List Bool) (tr:Nat->Bool) (h:∀ i b,bs[i]?=some b->tr i=b):(List.range bs.length).all tr=bs.all id:=by
 rw [Xs,Jo,Jo]
 constructor
 ·intro q b hb
  obtain ⟨i,hi⟩:=List.getElem?_of_mem hb
  have:=q i (Zz.mpr (Qd.mp hi).1)
  rw [h i b hi] at this
  exact this
 ·intro q i hi
  have hi':=Zz.mp hi
  have e:bs[i]?=some bs[i]:=Qc hi'
  rw [h i _ e]
  exact q _ (Xg hi')
theorem eY (hc:X.calm=true):eJ X (.builtin "all") (fun xs H Q=>∃ (p:Addr) (bs:List Bool),xs = [.ref p]/\SqL X.K H p (bs.map V.bl)/\Q (.bl (bs.all id)) H):=by
 intro pins s σ H xs us Q I r h
 obtain ⟨p,bs,rfl,hx,q⟩:=h
 obtain ⟨u,rfl,rx⟩:=gY r
 cases rx
 obtain ⟨its,rv,pl,hz⟩:=I.list hx
 have hl:=rv.length
 rw [Qb] at hl
 have hlt:p < s.heap.objs.size:=by obtain ⟨o,n,e,_⟩:=pl; exact Qm e
 refine call_all_walk (wpAny_pyIter_list pl.isList ?_)
 refine ⟨s.heap.objs.size,_,_,_,_,_,fun i=>(bs[i]?).getD false,rfl,Walks.list (A:=X.A.in1) (I.ok.hd hc) s.heap.objs.size p (Jb hlt) its.toArray,⟨⟨_,Qk _ rfl,rfl,rfl⟩,pl.isList.push _⟩,?_,fun h' tk hk=>?_⟩
 ·intro i v s' Q' E' hP hQ'
  have hP':its[i]?=some v:=by simpa using hP
  have hi:i < bs.length:=by rw [hl]; exact (Qd.mp hP').1
  obtain ⟨w,hw,rw'⟩:=rv.get (i:=i) (x:=.bl bs[i]) (by rw [Qi,Qc hi]; rfl)
  rw [hw] at hP'
  cases hP'
  cases rw'
  have e:(bs[i]?).getD false=bs[i]:=by rw [Qc hi]; rfl
  rw [<- e]
  exact wpAny_truthy_bool hQ'
 ·have e:(List.range its.toArray.size).all (fun i=>(bs[i]?).getD false)=bs.all id:=by
   rw [Ql,<- hl]
   exact aAO bs _ fun i b hb=>by rw [hb]; rfl
  rw [e]
  refine ⟨.bl _,H,I.kept (h':=h') fun b o e=>hk b o ?_ (Qa _ e),rfl,q⟩
  intro z
  have z':b=s.heap.objs.size:=by simpa using z
  exact Qy _ (z' ▸ Qm e)
def gR (ns:List Int):Int:=ns.foldr (· + ·) 0
theorem iM (ns:List Int) (val:Nat->Int) (h:∀ (i:Nat) (v:Int),ns[i]?=some v->val i=v):∀ j,j<=ns.length->preSum val j=gR (ns.take j)
 | 0,_=>rfl
 | j+1,hj=>by
  have ih:=iM ns val h j (by omega)
  have e:ns[j]?=some ns[j]:=Qc (by omega)
  show preSum val j+val j=_
  rw [ih,h j _ e,Jn,e]
  unfold gR
  rw [List.foldr_append]
  simp only [Option.toList_some,List.foldr_cons,List.foldr_nil,Int.add_zero]
  generalize ns[j]=v
  induction (List.take j ns) with
  | nil=>simp
  | cons a l ih2=>simp only [List.foldr_cons]; omega
theorem aBD (hc:X.calm=true):eJ X (.builtin "sum") (fun xs H Q=>∃ (p:Addr) (ns:List Int),xs = [.ref p]/\SqL X.K H p (ns.map V.int)/\(∀ n∈ns,0<=n/\n < 1000000)/\ns.length<=1000000/\Q (.int (gR ns)) H):=by
 intro pins s σ H xs us Q I r h
 obtain ⟨p,ns,rfl,hx,hb,hlen,q⟩:=h
 obtain ⟨u,rfl,rx⟩:=gY r
 cases rx
 obtain ⟨its,rv,pl,hz⟩:=I.list hx
 have hl:=rv.length
 rw [Qb] at hl
 have hlt:p < s.heap.objs.size:=by obtain ⟨o,n,e,_⟩:=pl; exact Qm e
 have hval:∀ (i:Nat) (v:Int),ns[i]?=some v->(ns[i]?).getD 0=v:=fun i v e=>by rw [e]; rfl
 have bnd:∀ (ms:List Int),(∀ n∈ms,0<=n/\n < 1000000)->0<=gR ms/\gR ms<=ms.length*1000000:=fun ms=>by
  induction ms with
  | nil=>intro _; exact ⟨Zq _,Zq _⟩
  | cons a l ih =>
   intro hh
   have h1:=hh a Qt
   have h2:=ih fun n hn=>hh n (Qq _ hn)
   have e:gR (a::l)=a+gR l:=rfl
   rw [e,Jt]
   rw [Int.natCast_add]
   omega
 refine call_sum_walk (wpAny_pyIter_list pl.isList ?_)
 refine ⟨s.heap.objs.size,_,_,_,_,_,fun i=>(ns[i]?).getD 0,rfl,Walks.list (A:=X.A.in1) (I.ok.hd hc) s.heap.objs.size p (Jb hlt) its.toArray,⟨⟨_,Qk _ rfl,rfl,rfl⟩,pl.isList.push _⟩,?_,?_,?_,fun h' tk t' hk=>?_⟩
 ·intro b hb'
  rw [Je]
  rcases Qj.mp hb' with e | e
  ·rw [e]; exact Xx _
  ·have e':b=p:=by simpa using e
   rw [e']; exact Jy hlt
 ·intro i v hP
  have hP':its[i]?=some v:=by simpa using hP
  have hi:i < ns.length:=by rw [hl]; exact (Qd.mp hP').1
  obtain ⟨w,hw,rw'⟩:=rv.get (i:=i) (x:=.int ns[i]) (by rw [Qi,Qc hi]; rfl)
  rw [hw] at hP'
  cases hP'
  obtain ⟨t,rfl⟩:=rw'
  exact ⟨t,by show Value.int ns[i] t=Value.int ((ns[i]?).getD 0) t; rw [Qc hi]; rfl⟩
 ·intro j hj
  have hj':j < ns.length:=by rw [hl]; simpa using hj
  have e:ns[j]?=some ns[j]:=Qc hj'
  have h1:=hb _ (Xg hj')
  have h2:=bnd (ns.take (j+1)) fun n hn=>hb n (Jq hn)
  rw [iM ns _ hval (j+1) (by omega)]
  have h3:(ns.take (j+1)).length<=1000000:=by rw [Qu]; omega
  unfold InLong
  have e5:(fun i:Nat=>(ns[i]?).getD 0) j=ns[j]:=by show (ns[j]?).getD 0=_; rw [e]; rfl
  rw [e5]
  have h4:((ns.take (j+1)).length:Int)*1000000<=1000000*1000000:=by omega
  omega
 ·have e:preSum (fun i=>(ns[i]?).getD 0) its.toArray.size=gR ns:=by
   rw [Ql,<- hl,iM ns _ hval ns.length (Qg _),Ju]
  rw [e]
  refine ⟨.int _,H,I.kept (h':=h') fun b o e=>hk b o ?_ (Qa _ e),⟨_,rfl⟩,q⟩
  intro z
  have z':b=s.heap.objs.size:=by simpa using z
  exact Qy _ (z' ▸ Qm e)
end
mutual
def Den (K:PySem.W.Frag) (H:Hp):PyData->V->Prop
 | .none,v=>v=.non
 | .bool b,v=>v=.bl b
 | .int i,v=>v=.int i
 | .str x,v=>v=.str x
 | .list ds,v=>∃ a xs,v=.ref a/\SqL K H a xs/\aU K H ds xs
 | .tuple ds,v=>∃ a xs,v=.ref a/\SqT K H a xs/\aU K H ds xs
 | .dict kvs,v=>kvs = []/\∃ a,v=.ref a/\H a=some (.dK [])
def aU (K:PySem.W.Frag) (H:Hp):List PyData->List V->Prop
 | [],xs=>xs = []
 | d::ds,xs=>∃ x r,xs=x::r/\Den K H d x/\aU K H ds r
end
theorem aD.rd {H H':Hp} {a:Addr} {u:HO} (e:aD H H') (h:Rd H a u):Rd H' a u:=by
 rcases h with h | ⟨o,h⟩
 ·exact .inl (e a u h)
 ·exact .inr ⟨o,e a _ h⟩
theorem aD.seqL {K:PySem.W.Frag} {H H':Hp} {a:Addr} {xs:List V} (e:aD H H') (h:SqL K H a xs):SqL K H' a xs:=by
 rcases h with h | h
 ·exact .inl (e.rd h)
 ·exact .inr h
theorem aD.seqT {K:PySem.W.Frag} {H H':Hp} {a:Addr} {xs:List V} (e:aD H H') (h:SqT K H a xs):SqT K H' a xs:=by
 rcases h with h | h
 ·exact .inl (e.rd h)
 ·exact .inr h
theorem aD.new {H:Hp} {p:Addr} {o:HO} (h:H p=none):aD H (upd H p o):=fun b u e=>by rw [aH (iD e h)]; exact e
mutual
theorem aD.den {K:PySem.W.Frag} {H H':Hp} (e:aD H H'):∀ (d:PyData) (v:V),Den K H d v->Den K H' d v
 | .none,v,h=>by unfold Den at h ⊢; exact h
 | .bool b,v,h=>by unfold Den at h ⊢; exact h
 | .int i,v,h=>by unfold Den at h ⊢; exact h
 | .str x,v,h=>by unfold Den at h ⊢; exact h
 | .list ds,v,h=>by unfold Den at h ⊢; obtain ⟨a,xs,h1,h2,h3⟩:=h; exact ⟨a,xs,h1,e.seqL h2,aD.denAll e ds xs h3⟩
 | .tuple ds,v,h=>by unfold Den at h ⊢; obtain ⟨a,xs,h1,h2,h3⟩:=h; exact ⟨a,xs,h1,e.seqT h2,aD.denAll e ds xs h3⟩
 | .dict kvs,v,h=>by unfold Den at h ⊢; obtain ⟨h1,a,h2,h3⟩:=h; exact ⟨h1,a,h2,e a _ h3⟩
theorem aD.denAll {K:PySem.W.Frag} {H H':Hp} (e:aD H H'):∀ (ds:List PyData) (xs:List V),aU K H ds xs->aU K H' ds xs
 | [],xs,h=>by unfold aU at h ⊢; exact h
 | d::ds,xs,h=>by unfold aU at h ⊢; obtain ⟨x,r,h1,h2,h3⟩:=h; exact ⟨x,r,h1,aD.den e d x h2,aD.denAll e ds r h3⟩
end
section
variable {K:PySem.W.Frag} {H:Hp}
theorem bV {i:Int} {v:V}:Den K H (.int i) v↔v=.int i:=by unfold Den; exact Iff.rfl
theorem jG {b:Bool} {v:V}:Den K H (.bool b) v↔v=.bl b:=by unfold Den; exact Iff.rfl
theorem iN {v:V}:Den K H .none v↔v=.non:=by unfold Den; exact Iff.rfl
theorem iZ {x:Str} {v:V}:Den K H (.str x) v↔v=.str x:=by unfold Den; exact Iff.rfl
theorem gF {ds:List PyData} {v:V}:Den K H (.list ds) v↔∃ a xs,v=.ref a/\SqL K H a xs/\aU K H ds xs:=by
 constructor
 ·intro h; unfold Den at h; exact h
 ·intro h; unfold Den; exact h
theorem aO {ds:List PyData} {v:V}:Den K H (.tuple ds) v↔∃ a xs,v=.ref a/\SqT K H a xs/\aU K H ds xs:=by
 constructor
 ·intro h; unfold Den at h; exact h
 ·intro h; unfold Den; exact h
theorem aBE {kvs:List (PyData×PyData)} {v:V}:Den K H (.dict kvs) v↔kvs = []/\∃ a,v=.ref a/\H a=some (.dK []):=by
 constructor
 ·intro h; unfold Den at h; exact h
 ·intro h; unfold Den; exact h
theorem aN {xs:List V}:aU K H [] xs↔xs = []:=by unfold aU; exact Iff.rfl
theorem aM {d:PyData} {ds:List PyData} {xs:List V}:aU K H (d::ds) xs↔∃ x r,xs=x::r/\Den K H d x/\aU K H ds r:=by
 constructor
 ·intro h; unfold aU at h; exact h
 ·intro h; unfold aU; exact h
theorem aJ:∀ {ds:List PyData} {xs:List V},aU K H ds xs->xs.length=ds.length
 | [],xs,h=>by rw [aN.mp h]; rfl
 | d::ds,xs,h=>by
  obtain ⟨x,r,rfl,_,h3⟩:=aM.mp h
  rw [Jt,Jt,aJ h3]
theorem kG:∀ {ds:List PyData} {xs:List V} {i:Nat} {d:PyData},aU K H ds xs->ds[i]?=some d->∃ x,xs[i]?=some x/\Den K H d x
 | [],_,_,_,_,e=>by simp at e
 | d::ds,xs,0,d',h,e=>by
  obtain ⟨x,r,rfl,h2,_⟩:=aM.mp h
  simp at e; subst e
  exact ⟨x,rfl,h2⟩
 | d::ds,xs,i+1,d',h,e=>by
  obtain ⟨x,r,rfl,_,h3⟩:=aM.mp h
  obtain ⟨y,h4,h5⟩:=kG (i:=i) (d:=d') h3 (by simpa using e)
  exact ⟨y,by simpa using h4,h5⟩
theorem cI {ds:List PyData} {xs:List V} {i:Nat} {x:V} (h:aU K H ds xs) (e:xs[i]?=some x):∃ d,ds[i]?=some d/\Den K H d x:=by
 have hl:=aJ h
 have hi:i < ds.length:=by rw [<- hl]; exact (Qd.mp e).1
 obtain ⟨y,h1,h2⟩:=kG h (Qc hi)
 rw [e] at h1; cases h1
 exact ⟨_,Qc hi,h2⟩
theorem bC:∀ {ds es:List PyData} {xs ys:List V},aU K H ds xs->aU K H es ys->aU K H (ds++es) (xs++ys)
 | [],es,xs,ys,h,h'=>by rw [aN.mp h]; exact h'
 | d::ds,es,xs,ys,h,h'=>by
  obtain ⟨x,r,rfl,h2,h3⟩:=aM.mp h
  exact aM.mpr ⟨x,r++ys,rfl,h2,bC h3 h'⟩
theorem eZ:∀ {ds:List PyData} {xs:List V} (n:Nat),aU K H ds xs->aU K H (ds.take n) (xs.take n)
 | _,_,0,_=>by rw [Zk,Zk]; exact aN.mpr rfl
 | [],xs,n+1,h=>by rw [aN.mp h]; exact aN.mpr rfl
 | d::ds,xs,n+1,h=>by
  obtain ⟨x,r,rfl,h2,h3⟩:=aM.mp h
  exact aM.mpr ⟨x,r.take n,rfl,h2,eZ n h3⟩
theorem jN:∀ {ds:List PyData} {xs:List V} (n:Nat),aU K H ds xs->aU K H (ds.drop n) (xs.drop n)
 | _,_,0,h=>h
 | [],xs,n+1,h=>by rw [aN.mp h]; exact aN.mpr rfl
 | d::ds,xs,n+1,h=>by
  obtain ⟨x,r,rfl,h2,h3⟩:=aM.mp h
  exact jN n h3
theorem bQ:∀ {ns:List Int} {xs:List V},aU K H (ns.map PyData.int) xs↔xs=ns.map V.int
 | [],xs=>aN
 | n::ns,xs=>by
  rw [Jf,aM]
  constructor
  ·rintro ⟨x,r,rfl,h2,h3⟩
   rw [bV.mp h2,bQ.mp h3]
   rfl
  ·intro e
   exact ⟨_,_,e,bV.mpr rfl,bQ.mpr rfl⟩
theorem aR {ns:List Int} {v:V}:Den K H (.tuple (ns.map .int)) v↔∃ a,v=.ref a/\SqT K H a (ns.map V.int):=by
 rw [aO]
 constructor
 ·rintro ⟨a,xs,rfl,h1,h2⟩
  rw [bQ.mp h2] at h1
  exact ⟨a,rfl,h1⟩
 ·rintro ⟨a,rfl,h⟩
  exact ⟨a,_,rfl,h,bQ.mpr rfl⟩
theorem sU {ns:List Int} {v:V}:Den K H (.list (ns.map .int)) v↔∃ a,v=.ref a/\SqL K H a (ns.map V.int):=by
 rw [gF]
 constructor
 ·rintro ⟨a,xs,rfl,h1,h2⟩
  rw [bQ.mp h2] at h1
  exact ⟨a,rfl,h1⟩
 ·rintro ⟨a,rfl,h⟩
  exact ⟨a,_,rfl,h,bQ.mpr rfl⟩
def jY:PyData->Kd
 | .none=>.non | .bool _=>.bl | .int _=>.int | .str _=>.str | .list _=>.lst | .tuple _=>.tup | .dict _=>.dct
theorem Den.kd {d:PyData} {v:V} (h:Den K H d v):KdV K H v (jY d):=by
 cases d with
 | none=>rw [iN.mp h]; rfl
 | bool b=>rw [jG.mp h]; rfl
 | int i=>rw [bV.mp h]; rfl
 | str x=>rw [iZ.mp h]; rfl
 | list ds=>obtain ⟨a,xs,rfl,h1,_⟩:=gF.mp h; exact .inl ⟨rfl,xs,h1⟩
 | tuple ds=>obtain ⟨a,xs,rfl,h1,_⟩:=aO.mp h; exact .inr (.inl ⟨rfl,xs,h1⟩)
 | dict kvs=>obtain ⟨_,a,rfl,h1⟩:=aBE.mp h; exact .inr (.inr ⟨rfl,[],h1⟩)
end
section
variable {X:Cx} {pins:List (Addr×Obj)} {σ:St} {H:Hp} {s:Shared}
mutual
def gC:PyData->Bool
 | .dict _=>false
 | .list ds=>kH ds
 | .tuple ds=>kH ds
 | _=>true
def kH:List PyData->Bool
 | []=>true
 | d::ds=>gC d && kH ds
end
mutual
theorem Den.reads (I:Inv X pins σ H s):∀ (d:PyData) (v:V) (u:Value),gC d=true->Den X.K H d v->bO v u->∃ as,Reads s.heap u d as
 | .none,v,u,_,h,r=>by rw [iN.mp h] at r; cases r; exact ⟨_,.none⟩
 | .bool b,v,u,_,h,r=>by rw [jG.mp h] at r; cases r; exact ⟨_,.bool b⟩
 | .int i,v,u,_,h,r=>by rw [bV.mp h] at r; obtain ⟨t,rfl⟩:=r; exact ⟨_,.int i t⟩
 | .str x,v,u,_,h,r=>by rw [iZ.mp h] at r; obtain ⟨t,rfl⟩:=r; exact ⟨_,.str x t⟩
 | .list ds,v,u,hn,h,r=>by
  obtain ⟨a,xs,rfl,h1,h2⟩:=gF.mp h
  cases r
  obtain ⟨its,rv,⟨o,n,e,c,_,d⟩,_⟩:=I.list h1
  obtain ⟨as,ra⟩:=aU.reads I ds xs its (by unfold gC at hn; exact hn) h2 rv
  exact ⟨_,.list e c d (by simpa using ra)⟩
 | .tuple ds,v,u,hn,h,r=>by
  obtain ⟨a,xs,rfl,h1,h2⟩:=aO.mp h
  cases r
  obtain ⟨its,rv,⟨o,e,c,n,d⟩,_⟩:=I.tuple h1
  obtain ⟨as,ra⟩:=aU.reads I ds xs its (by unfold gC at hn; exact hn) h2 rv
  exact ⟨_,.tuple e c d (by simpa using ra)⟩
 | .dict kvs,v,u,hn,_,_=>by unfold gC at hn; cases hn
theorem aU.reads (I:Inv X pins σ H s):∀ (ds:List PyData) (xs:List V) (us:List Value),kH ds=true->aU X.K H ds xs->aY xs us->∃ as,ReadsAll s.heap us ds as
 | [],xs,us,_,h,r=>by rw [aN.mp h] at r; cases r; exact ⟨_,.nil⟩
 | d::ds,xs,us,hn,h,r=>by
  obtain ⟨x,rr,rfl,h2,h3⟩:=aM.mp h
  unfold kH at hn
  rw [Jg] at hn
  cases r with
  | cons r1 r2 =>
   obtain ⟨as,ra⟩:=Den.reads I d x _ hn.1 h2 r1
   obtain ⟨bs,rb⟩:=aU.reads I ds rr _ hn.2 h3 r2
   exact ⟨_,.cons ra rb⟩
end
theorem aD7 (hu:X.A.units+64 < cLine):OpR X (compareOp .Eq) (fun x y H Q=>∃ d e,Den X.K H d x/\Den X.K H e y/\gC d=true/\gC e=true/\SeqAt.shaped d=true/\SeqAt.shaped e=true/\Q (.bl (PyData.eqv d e)) H):=by
 intro pins s σ H x y v u Q I rx ry h
 obtain ⟨d,e,hd,he,n1,n2,s1,s2,q⟩:=h
 obtain ⟨as,ra⟩:=Den.reads I d x v n1 hd rx
 obtain ⟨bs,rb⟩:=Den.reads I e y u n2 he ry
 exact eq_dataH ra rb s1 s2 hu ⟨.bl _,H,I,rfl,q⟩
theorem uF (hu:X.A.units+64 < cLine):OpR X (compareOp .NotEq) (fun x y H Q=>∃ d e,Den X.K H d x/\Den X.K H e y/\gC d=true/\gC e=true/\SeqAt.shaped d=true/\SeqAt.shaped e=true/\Q (.bl (!PyData.eqv d e)) H):=by
 intro pins s σ H x y v u Q I rx ry h
 obtain ⟨d,e,hd,he,n1,n2,s1,s2,q⟩:=h
 obtain ⟨as,ra⟩:=Den.reads I d x v n1 hd rx
 obtain ⟨bs,rb⟩:=Den.reads I e y u n2 he ry
 exact ne_dataH ra rb s1 s2 hu ⟨.bl _,H,I,rfl,q⟩
theorem aAP:MtR X "tuple.count" (fun x vs H Q=>∃ (a:Addr) (ns:List Int) (n:Int),x=.ref a/\vs = [.int n]/\SqT X.K H a (ns.map V.int)/\Q (.int (ns.count n:Nat)) H):=by
 intro pins s σ H x v vs us Q I rx r h
 obtain ⟨a,ns,n,rfl,rfl,ha,q⟩:=h
 obtain ⟨u,rfl,t,rfl⟩:=gY r
 cases rx
 obtain ⟨its,rv,⟨⟨cls,dd,data,sl⟩,ho,hc,k,hd⟩,hzz⟩:=I.tuple ha
 simp only at hc hd
 subst hc hd
 have hi:IntsAre its ns:=jD rv
 refine call_meets PySem.F.slot_tuple_count ⟨_,ho,rfl⟩ PySem.F.entry_tuple_count (PySem.F.args_tuple_count_2 _ _) (SeqAt.tuple_countAt a its.toArray k dd sl (.int n t) (isInt n)) ⟨ho,fun y hy=>(eq_isInt n t hi y (by simpa using hy)).at _ _,?_⟩
 have e:(its.toArray.toList.countP (isInt n))=ns.count n:=by
  simp only [Zr]
  clear q r ha rv ho hzz
  induction hi with
  | nil=>rfl
  | cons m t' _ ih =>
   rw [List.countP_cons,List.count_cons,ih]
   rfl
 rw [e]
 exact ⟨.int _,H,I.tok _,⟨_,rfl⟩,q⟩
end
section
variable {prog:Program} {w:World} {A:Around} {E:Value->Shared->Prop} {s:Shared}
theorem aAQ {x:Value} {ns:List Int} {Q:Value->Shared->Prop} (h64:ns.length < 64)
  (hc:∀ Q':List Value->Shared->Prop,(∀ h' tk vs,(∀ b o,s.heap.get? b=some o->h'.get? b=some o)->IntsAre vs ns->Q' vs { s with heap:=h',toks:=tk })->wpAny (model prog w) A.in1 (collect x) Q' E s)
  (h:∀ (h1 h':Heap) tk out ns',(∀ b o,s.heap.get? b=some o->h1.get? b=some o)->(∀ b o,h1.get? b=some o->h'.get? b=some o)->h'.PlainList h1.objs.size out->IntsAre out.toList ns'->ns'.Perm ns->ns'.Pairwise (·<=·)->Q (.ref h1.objs.size) { s with heap:=h',toks:=tk }) :
  wpAny (model prog w) A (call (.builtin "sorted") [x]) Q E s:=by
 refine Calls.call_function_entry kind_sorted plain_sorted entry_sorted (args_sorted1 _) ?_
 unfold Builtin.«sorted»
 refine wpAny_bind (m:=checkCount "sorted" 1 1 _) (wpAny_pure ?_)
 refine wpAny_bind (hc _ fun h1 tk vs kp hi=>?_)
 have hlen:=hi.length
 refine wpAny_bind (wpAny_newList ?_ (by rw [sizeLine_eq]; omega))
 have hoL:(h1.push (seqObj "list" vs.toArray 0)).get? h1.objs.size=some (seqObj "list" vs.toArray 0):=Qk _ rfl
 refine wpAny_bind (wpAny_holding (wpAny_call_entry slot_list_sort ⟨_,hoL,rfl⟩ entry_list_sort (list_sort_tree hoL hi (by omega) fun out ns' a1 a2 a3=>⟨_,rfl,?_⟩) (args_list_sort _)))
 refine wpAny_pure ⟨_,rfl,?_⟩
 obtain ⟨e,he⟩:=sortedHeap_at (out:=out) hoL
 refine h h1 _ tk out ns' kp (fun b o q=>?_) ⟨e,he⟩ a1 a2 a3
 rw [sortedHeap_old (Jb (Qm q)) (by rw [size_push']; exact Jy (Qm q))]
 exact Qa _ q
end
section
variable {X:Cx}
def yG (n:Nat):List Int:=(List.range n).map fun (i:Nat)=>(i:Int)
theorem wH:eJ X (.builtin "sorted") (fun xs H Q=>∃ (a:Addr) (ns:List Int),xs = [.ref a]/\(SqL X.K H a (ns.map V.int)∨SqT X.K H a (ns.map V.int))/\ns.length < 64 /\
  ∀ (p:Addr) (ms:List Int),H p=none->ms.Perm ns->ms.Pairwise (·<=·)->Q (.ref p) (upd H p (.lst (ms.map V.int)))):=by
 intro pins s σ H xs us Q I r h
 obtain ⟨a,ns,rfl,ha,h64,q⟩:=h
 obtain ⟨u,rfl,rx⟩:=gY r
 cases rx
 refine aAQ h64 (fun Q' hQ'=>?_) fun h1 h' tk out ns' k1 k2 pl hi hp ho=>?_
 ·rcases ha with ha | ha
  ·obtain ⟨its,rv,⟨o,n,e,c,_,d⟩,hz⟩:=I.list ha
   have hl:=rv.length
   exact wpAny_collect_seq a (.inl rfl) e c d (fun h' kp=>hQ' h' s.toks _ kp (by simpa using jD rv)) (by rw [Ql,<- hl]; exact hz)
  ·obtain ⟨its,rv,⟨o,e,c,n,d⟩,hz⟩:=I.tuple ha
   have hl:=rv.length
   exact wpAny_collect_seq a (.inr rfl) e c d (fun h' kp=>hQ' h' s.toks _ kp (by simpa using jD rv)) (by rw [Ql,<- hl]; exact hz)
 ·have I1:Inv X pins σ H { s with heap:=h1,toks:=tk }:=I.kept k1
  have hf:=I1.hok.fresh (Qg _)
  have hl:=hp.length_eq
  obtain ⟨n,e⟩:=pl
  have I2:Inv X pins σ (upd H h1.objs.size (.lst (ns'.map V.int))) { s with heap:=h',toks:=tk } :=
   I1.laid (t':=tk) k2 (Qg _) (show bX X.prog X.w _ _ _ (.lst _) from ⟨by rw [Qb,hl,sizeLine_eq]; omega,out.toList,n,sT hi,by simpa using e⟩)
  exact ⟨.ref h1.objs.size,_,I2,rfl,q _ ns' hf hp ho⟩
end
def tab (L:Bool) (ns:List Nat):SetTable:={ mask:=7,place:=ns.toArray,dummies:=#[],finger:=0,led:=L,moves:=0,plain:=true }
def aFw (l:List (Nat×Tok)):Array (Int×Value):=(l.map fun p=>((p.1:Int),Value.int (p.1:Int) p.2)).toArray
def SX (L:Bool) (h:Heap) (a:Addr) (l:List (Nat×Tok)):Prop:=∃ o ep,h.get? a=some o/\o.ExactSet/\o.data=.set (aFw l) ep (tab L (l.map (·.1)))
section
variable {prog:Program} {w:World} {A:Around} {E:Value->Shared->Prop} {s:Shared} {L:Bool} {a:Addr}
end
section
variable {prog:Program} {w:World} {A:Around} {E:Value->Shared->Prop} {s:Shared}
abbrev Led (w:World):Bool:=!(w.params.followText "set-order")
def two (a b:Nat) (t u:Tok):List (Nat×Tok):=if a=b then [(a,t)] else if a < b then [(a,t),(b,u)] else [(b,u),(a,t)]
theorem SX.keep {L:Bool} {h h':Heap} {a:Addr} {l:List (Nat×Tok)} (x:SX L h a l) (k:∀ o,h.get? a=some o->h'.get? a=some o):SX L h' a l:=by
 obtain ⟨o,ep,e,r⟩:=x
 exact ⟨o,ep,k o e,r⟩
end
section
variable {prog:Program} {w:World} {A:Around} {E:Value->Shared->Prop} {s:Shared} {S:Addr} {o:Obj} {ep:Nat} {l:List (Nat×Tok)}
end
def aFx (w:World) (p:Addr) (a b:Nat):HO:=.ext fun h=>∃ t u,SX (Led w) h p (two a b t u)
section
variable {X:Cx}
end
structure Sub (prog:Program) (w:World) (i l:Addr) (n:Nat) (P:Nat->Value->Prop) (st:Nat->Heap->Prop):Prop where
 keep:∀ k h h',st k h->(∀ b,b=i∨b=l->∀ o,h.get? b=some o->h'.get? b=some o)->st k h'
 obj:∀ k h,st k h->(∃ o,h.get? i=some o/\∀ v,o.data≠.cell v)/\∃ o,h.get? l=some o
 item:∀ (A:Around) k (s:Shared) (Q:Value->Shared->Prop) (E:Value->Shared->Prop),k < n->st k s.heap->(∀ v h',P k v->st (k+1) h'->Heap.SameBut i s.heap h'->Q v { s with heap:=h' })->wpAny (model prog w) A (Builtin.SmallTypes.nextOf (.ref i)) Q E s
 done:∀ (A:Around) (s:Shared) (Q:Value->Shared->Prop) (E:Value->Shared->Prop),A.handled=none->st n s.heap->(∀ h' e,Heap.ExtBut i s.heap h'->(∃ o,h'.get? e=some o/\o.cls=.type "StopIteration")->E (.ref e) { s with heap:=h' }) ->
  wpAny (model prog w) A (Builtin.SmallTypes.nextOf (.ref i)) Q E s
theorem aBF (prog:Program) (w:World) (i l:Addr) (items:Array Value) (hne:l≠i):Sub prog w i l items.size (fun k v=>items[k]?=some v) (fun k h=>h.IsListIter i l k/\h.IsList l items) where
 keep:=fun k h h' st kp=>⟨st.1.at fun o e=>kp i (.inl rfl) o e,st.2.at fun o e=>kp l (.inr rfl) o e⟩
 obj:=fun k h st=>by
  obtain ⟨⟨o,e,_,d⟩,⟨o2,e2,_⟩⟩:=st
  exact ⟨⟨o,e,fun v z=>by rw [d] at z; cases z⟩,o2,e2⟩
 item:=fun A k s Q E hk st hQ=>wpAny_nextOf_list_item st.1 st.2 (Array.getElem?_eq_getElem hk) fun h' a b=>hQ _ h' (Array.getElem?_eq_getElem hk) ⟨a,st.2.at fun o e=>b.extBut l o hne e⟩ b
 done:=fun A s Q E hh st hE=>wpAny_nextOf_list_end hh st.1 st.2 (Array.getElem?_eq_none (Qg _)) hE
theorem nF {prog:Program} {w:World} {A:Around} {E:Value->Shared->Prop} {s:Shared} {it t:Addr} {i:Nat} {items:Array Value} {x:Value} {Q:Value->Shared->Prop} (hit:s.heap.IsTupleIter it t i) (ht:s.heap.IsTuple t items) (hx:items[i]?=some x)
  (hQ:∀ h',h'.IsTupleIter it t (i+1)->Heap.SameBut it s.heap h'->Q x { s with heap:=h' }):wpAny (model prog w) A (Builtin.SmallTypes.nextOf (.ref it)) Q E s:=by
 obtain ⟨o,ho,hc,hd⟩:=id hit
 obtain ⟨ol,hol,_,nl,hdl⟩:=ht
 have hT:=hit.typeIs
 unfold Builtin.SmallTypes.nextOf
 refine wpAny_bind (wpAny_callSpecial?_slot (name:=Str.ofString "__next__") hT PySem.F.slot_tuple_iterator_next (wpAny_call_entry PySem.F.slot_tuple_iterator_next hT PySem.F.entry_tuple_iterator_next ?_ (PySem.F.args_tuple_iterator_next_1 _)))
 refine wpAny_bind (m:=field (.ref it) 0) (wpAny_field ho hd (x:=.ref t) rfl ?_)
 have hno:¬ ((Value.ref t==Value.none)=true):=Qs
 show wpAny _ _ (if (Value.ref t==Value.none)=true then _ else _) _ _ s
 rw [if_neg hno]
 refine wpAny_bind (m:=field (.ref it) 1) (wpAny_field ho hd (x:=.int i 0) rfl ?_)
 refine wpAny_bind (m:=seqItems? (.ref t)) (wpAny_seqItems hol hdl ?_)
 simp only [Zg,hx]
 refine wpAny_bind (wpAny_setField ho hd (by simp) (wpAny_pure ⟨x,rfl,wpAny_pure (hQ _ ?_ (Heap.SameBut.update ..))⟩))
 refine ⟨_,Xj _ ho (Obj.isFreed_of_fields (Obj.data_mapFields hd _)),(Obj.cls_mapFields ..).trans hc,?_⟩
 rw [Obj.data_mapFields hd]
 simp [rawInt]
theorem oI {prog:Program} {w:World} {A:Around} {E:Value->Shared->Prop} {s:Shared} {it t:Addr} {i:Nat} {items:Array Value} {Q:Value->Shared->Prop} (hh:A.handled=none) (hit:s.heap.IsTupleIter it t i) (ht:s.heap.IsTuple t items) (hx:items[i]?=none)
  (hE:∀ h' e,Heap.ExtBut it s.heap h'->(∃ o,h'.get? e=some o/\o.cls=.type "StopIteration")->E (.ref e) { s with heap:=h' }):wpAny (model prog w) A (Builtin.SmallTypes.nextOf (.ref it)) Q E s:=by
 obtain ⟨o,ho,hc,hd⟩:=id hit
 obtain ⟨ol,hol,_,nl,hdl⟩:=ht
 have hT:=hit.typeIs
 unfold Builtin.SmallTypes.nextOf
 refine wpAny_bind (wpAny_callSpecial?_slot (name:=Str.ofString "__next__") hT PySem.F.slot_tuple_iterator_next (wpAny_call_entry PySem.F.slot_tuple_iterator_next hT PySem.F.entry_tuple_iterator_next ?_ (PySem.F.args_tuple_iterator_next_1 _)))
 refine wpAny_bind (m:=field (.ref it) 0) (wpAny_field ho hd (x:=.ref t) rfl ?_)
 have hno:¬ ((Value.ref t==Value.none)=true):=Qs
 show wpAny _ _ (if (Value.ref t==Value.none)=true then _ else _) _ _ s
 rw [if_neg hno]
 refine wpAny_bind (m:=field (.ref it) 1) (wpAny_field ho hd (x:=.int i 0) rfl ?_)
 refine wpAny_bind (m:=seqItems? (.ref t)) (wpAny_seqItems hol hdl ?_)
 simp only [Zg,hx]
 refine wpAny_bind (wpAny_rule (wpAny_bind (wpAny_setField ho hd (by simp) ?_)))
 refine wpAny_bind (m:=newExc (.type "StopIteration") []) ?_
 simp only [newExc,newTuple]
 refine wpAny_bind (wpAny_newObj_type ?_ (by size_fits))
 refine wpAny_bind (m:=firstArgMember _ _) (wpAny_of_eq (a:=Value.none) (by first | rfl | (simp only [firstArgMember]; rfl)) ?_)
 refine wpAny_newObj_type ?_ (by size_fits)
 simp only [raiseNew]
 refine wpAny_bind (wpAny_handled ?_)
 first | rw [show A.in1.handled=none from hh] | rw [hh]
 refine wpAny_bind (wpAny_pure (wpAny_throw ?_))
 exact hE _ _ (((Heap.SameBut.update ..).extBut.push _).push _) ⟨_,Qk _ rfl,rfl⟩
theorem aAR (prog:Program) (w:World) (i l:Addr) (items:Array Value) (hne:l≠i):Sub prog w i l items.size (fun k v=>items[k]?=some v) (fun k h=>h.IsTupleIter i l k/\h.IsTuple l items) where
 keep:=fun k h h' st kp=>⟨st.1.at fun o e=>kp i (.inl rfl) o e,by obtain ⟨o,e,r⟩:=st.2; exact ⟨o,kp l (.inr rfl) o e,r⟩⟩
 obj:=fun k h st=>by
  obtain ⟨⟨o,e,_,d⟩,⟨o2,e2,_⟩⟩:=st
  exact ⟨⟨o,e,fun v z=>by rw [d] at z; cases z⟩,o2,e2⟩
 item:=fun A k s Q E hk st hQ=>nF st.1 st.2 (Array.getElem?_eq_getElem hk) fun h' a b=>hQ _ h' (Array.getElem?_eq_getElem hk) ⟨a,by obtain ⟨o,e,r⟩:=st.2; exact ⟨o,b.extBut l o hne e,r⟩⟩ b
 done:=fun A s Q E hh st hE=>oI hh st.1 st.2 (Array.getElem?_eq_none (Qg _)) hE
section
variable {prog:Program} {w:World} {A:Around} {E:Value->Shared->Prop} {s:Shared} {z TI TO i1 i2 l1 l2:Addr} {n1 n2:Nat} {P1 P2:Nat->Value->Prop} {st1 st2:Nat->Heap->Prop}
theorem aCV {k:Nat} {a b:Value} {Q:Value->Shared->Prop} (D:ZipApart z TI TO i1 i2 l1 l2) (S1:Sub prog w i1 l1 n1 P1 st1) (S2:Sub prog w i2 l2 n2 P2 st2)
  (hz:IsZip s.heap z TI TO .none) (hTI:IsPair s.heap TI (.ref i1) (.ref i2)) (hTO:IsPair s.heap TO a b) (h1:st1 k s.heap) (h2:st2 k s.heap) (k1:k < n1) (k2:k < n2)
  (hQ:∀ h' x y,P1 k x->P2 k y->IsZip h' z TI TO (rawInt s.heap.objs.size)->IsPair h' TO x y->st1 (k+1) h'->st2 (k+1) h'->IsPair h' s.heap.objs.size x y ->
   (∀ c o,c≠z->c≠TO->c≠i1->c≠i2->s.heap.get? c=some o->h'.get? c=some o)->Q (.ref s.heap.objs.size) { s with heap:=h' }) :
  wpAny (model prog w) A (Builtin.«zip.__next__» ⟨[.ref z],[]⟩) (fun fin s'=>∃ v,fin=.done (.ret v)/\Q v s') E s:=by
 refine wpAny_bind (m:=field (.ref z) 2) (wpAny_field hz rfl (x:=.bool false) rfl ?_)
 refine wpAny_bind (m:=field (.ref z) 3) (wpAny_field hz rfl (x:=.ref TI) rfl ?_)
 refine wpAny_bind (wpAny_seqItems hTI rfl ?_)
 refine wpAny_bind (m:=Builtin.SmallTypes.ownedTupleIsFree (.ref z)) ?_
 unfold Builtin.SmallTypes.ownedTupleIsFree
 refine wpAny_bind (wpAny_field hz rfl (x:=.none) rfl (wpAny_pure ?_))
 simp only [if_true]
 refine wpAny_bind (wpAny_rule ?_)
 refine wpAny_bind (wpAny_field hz rfl (x:=.ref TO) rfl ?_)
 refine wpAny_bind (wpAny_setField_rec hz (by simp) fun g1 hz1 b1=>?_)
 have hz1':IsZip g1 z TI TO .ellipsis:=hz1
 refine wpAny_bind ?_
 simp only [Xn,Xu,Xe,Xk]
 -- the first one
 have s1:st1 k g1:=S1.keep _ _ _ h1 fun c hc o e=>b1.extBut c o (by rcases hc with r | r <;> rw [r]; exact D.i1z; exact D.l1z) e
 refine wpAny_bind (wpAny_bind (wpAny_onRaise ?_))
 refine wpAny_bind (m:=Builtin.SmallTypes.nextOf (.ref i1)) (S1.item _ k _ _ _ k1 s1 fun x g2 px t1 b2=>wpAny_pure ?_)
 have o2:IsPair g2 TO a b:=b2.extBut _ _ D.TOi1 (b1.extBut _ _ D.TOz hTO)
 refine wpAny_bind (wpAny_seqItems o2 rfl ?_)
 refine wpAny_bind (wpAny_updateSeq_pair o2 fun g3 o3 b3=>?_)
 have o3':IsPair g3 TO x b:=o3
 refine wpAny_bind (wpAny_letGo (wpAny_pure ?_))
 -- the second one
 have s2:st2 k g3:=S2.keep _ _ _ h2 fun c hc o e=>by
  rcases hc with r | r
  ·rw [r] at e ⊢; exact b3.extBut _ _ D.TOi2.symm (b2.extBut _ _ D.i12.symm (b1.extBut _ _ D.i2z e))
  ·rw [r] at e ⊢; exact b3.extBut _ _ D.l2TO (b2.extBut _ _ D.l2i1 (b1.extBut _ _ D.l2z e))
 refine wpAny_bind (wpAny_bind (wpAny_onRaise ?_))
 refine wpAny_bind (m:=Builtin.SmallTypes.nextOf (.ref i2)) (S2.item _ k _ _ _ k2 s2 fun y g4 py t2 b4=>wpAny_pure ?_)
 have o4:IsPair g4 TO x b:=b4.extBut _ _ D.TOi2 o3'
 refine wpAny_bind (wpAny_seqItems o4 rfl ?_)
 refine wpAny_bind (wpAny_updateSeq_pair o4 fun g5 o5 b5=>?_)
 have o5':IsPair g5 TO x y:=o5
 refine wpAny_bind (wpAny_letGo (wpAny_pure (wpAny_pure ?_)))
 refine wpAny_bind (wpAny_seqItems o5' rfl ?_)
 refine wpAny_bind (wpAny_newTuple ?_)
 have sz:g5.objs.size=s.heap.objs.size:=by rw [b5.1,b4.1,b3.1,b2.1,b1.1]
 have z5:IsZip g5 z TI TO .ellipsis:=b5.extBut _ _ D.TOz.symm (b4.extBut _ _ D.i2z.symm (b3.extBut _ _ D.TOz.symm (b2.extBut _ _ D.i1z.symm hz1')))
 have kp5:∀ c o,c≠z->c≠TO->c≠i1->c≠i2->s.heap.get? c=some o->g5.get? c=some o:=fun c o c1 c2 c3 c4 e =>
  b5.extBut _ _ c2 (b4.extBut _ _ c4 (b3.extBut _ _ c2 (b2.extBut _ _ c3 (b1.extBut _ _ c1 e))))
 have t1':st1 (k+1) g5:=S1.keep _ _ _ t1 fun c hc o e=>by
  rcases hc with r | r
  ·rw [r] at e ⊢; exact b5.extBut _ _ D.TOi1.symm (b4.extBut _ _ D.i12 (b3.extBut _ _ D.TOi1.symm e))
  ·rw [r] at e ⊢; exact b5.extBut _ _ D.l1TO (b4.extBut _ _ D.l1i2 (b3.extBut _ _ D.l1TO e))
 have t2':st2 (k+1) g5:=S2.keep _ _ _ t2 fun c hc o e=>by
  rcases hc with r | r
  ·rw [r] at e ⊢; exact b5.extBut _ _ D.TOi2.symm e
  ·rw [r] at e ⊢; exact b5.extBut _ _ D.l2TO e
 have zlt:g5.objs.size≠z:=Xd (Qm z5)
 refine wpAny_bind (m:=Builtin.SmallTypes.ownedTupleHandOut (.ref z) (.ref g5.objs.size)) ?_
 unfold Builtin.SmallTypes.ownedTupleHandOut
 have z6:IsZip (g5.push { cls:=.type "tuple",data:=.seq #[x,y] }) z TI TO .ellipsis:=Qa _ z5
 refine wpAny_bind (wpAny_setField_rec z6 (by simp) fun g7 z7 b7=>?_)
 have z7':IsZip g7 z TI TO (rawInt g5.objs.size):=z7
 refine wpAny_setField_rec z7' (by simp) fun g8 z8 b8=>?_
 have z8':IsZip g8 z TI TO (rawInt g5.objs.size):=z8
 have up:∀ c o,c≠z->g5.get? c=some o->g8.get? c=some o:=fun c o c1 e=>b8.extBut _ _ c1 (b7.extBut _ _ c1 (Qa _ e))
 have T8:IsPair g8 g5.objs.size x y:=b8.extBut _ _ zlt (b7.extBut _ _ zlt (Qk _ rfl))
 rw [sz] at z8' T8
 refine wpAny_pure ⟨_,rfl,?_⟩
 show Q (.ref g5.objs.size) _
 rw [sz]
 refine hQ g8 x y px py z8' (up _ _ D.TOz o5') (S1.keep _ _ _ t1' fun c hc o e=>up c o (by rcases hc with r | r <;> rw [r]; exact D.i1z; exact D.l1z) e) (S2.keep _ _ _ t2' fun c hc o e=>up c o (by rcases hc with r | r <;> rw [r]; exact D.i2z; exact D.l2z) e) T8 fun c o c1 c2 c3 c4 e=>up c o c1 (kp5 c o c1 c2 c3 c4 e)
theorem aD8 {k:Nat} {a b:Value} {Q:Fin->Shared->Prop} (hh:A.handled=none) (D:ZipApart z TI TO i1 i2 l1 l2) (S1:Sub prog w i1 l1 n1 P1 st1) (S2:Sub prog w i2 l2 n2 P2 st2)
  (hz:IsZip s.heap z TI TO .none) (hTI:IsPair s.heap TI (.ref i1) (.ref i2)) (hTO:IsPair s.heap TO a b) (h1:st1 k s.heap) (h2:st2 k s.heap) (hend:k=n1/\k<=n2∨k=n2/\k < n1)
  (hE:∀ h' e,(∀ c o,c≠z->c≠TO->c≠i1->c≠i2->s.heap.get? c=some o->h'.get? c=some o)->(∃ o,h'.get? e=some o/\o.cls=.type "StopIteration")->E (.ref e) { s with heap:=h' }) :
  wpAny (model prog w) A (Builtin.«zip.__next__» ⟨[.ref z],[]⟩) Q E s:=by
 refine wpAny_bind (m:=field (.ref z) 2) (wpAny_field hz rfl (x:=.bool false) rfl ?_)
 refine wpAny_bind (m:=field (.ref z) 3) (wpAny_field hz rfl (x:=.ref TI) rfl ?_)
 refine wpAny_bind (wpAny_seqItems hTI rfl ?_)
 refine wpAny_bind (m:=Builtin.SmallTypes.ownedTupleIsFree (.ref z)) ?_
 unfold Builtin.SmallTypes.ownedTupleIsFree
 refine wpAny_bind (wpAny_field hz rfl (x:=.none) rfl (wpAny_pure ?_))
 simp only [if_true]
 refine wpAny_bind (wpAny_rule ?_)
 refine wpAny_bind (wpAny_field hz rfl (x:=.ref TO) rfl ?_)
 refine wpAny_bind (wpAny_setField_rec hz (by simp) fun g1 hz1 b1=>?_)
 have hz1':IsZip g1 z TI TO .ellipsis:=hz1
 refine wpAny_bind ?_
 simp only [Xn,Xu,Xe,Xk]
 have s1:st1 k g1:=S1.keep _ _ _ h1 fun c hc o e=>b1.extBut c o (by rcases hc with r | r <;> rw [r]; exact D.i1z; exact D.l1z) e
 refine wpAny_bind (wpAny_bind (wpAny_onRaise ?_))
 have fin:∀ (g:Heap) (e:Addr) (g0:Heap),(∃ o,g.get? e=some o/\o.cls=.type "StopIteration")->IsZip g z TI TO .ellipsis->(∀ c o,c≠z->c≠TO->c≠i1->c≠i2->s.heap.get? c=some o->g.get? c=some o) ->
   wpAny (model prog w) A (setField (.ref z) 0 .none) (fun _ s'=>E (.ref e) s') E { s with heap:=g }:=fun g e g0 ⟨oe,hoe,hce⟩ hzz kp=>by
  have hez:e≠z:=fun q=>by rw [q,hzz] at hoe; cases hoe; simp at hce
  exact wpAny_setField_rec hzz (by simp) fun g' _ b'=>hE g' e (fun c o c1 c2 c3 c4 q=>b'.extBut _ _ c1 (kp c o c1 c2 c3 c4 q)) ⟨oe,b'.extBut _ _ hez hoe,hce⟩
 rcases hend with ⟨e1,_⟩ | ⟨e2,k1⟩
 ·rw [e1] at s1
  refine wpAny_bind (m:=Builtin.SmallTypes.nextOf (.ref i1)) (S1.done _ _ _ _ hh s1 fun g2 e b2 he=>?_)
  exact fin g2 e g1 he (b2 _ _ D.i1z.symm hz1') fun c o c1 _ c3 _ q=>b2 _ _ c3 (b1.extBut _ _ c1 q)
 ·refine wpAny_bind (m:=Builtin.SmallTypes.nextOf (.ref i1)) (S1.item _ k _ _ _ k1 s1 fun x g2 px t1 b2=>wpAny_pure ?_)
  have o2:IsPair g2 TO a b:=b2.extBut _ _ D.TOi1 (b1.extBut _ _ D.TOz hTO)
  refine wpAny_bind (wpAny_seqItems o2 rfl ?_)
  refine wpAny_bind (wpAny_updateSeq_pair o2 fun g3 o3 b3=>?_)
  refine wpAny_bind (wpAny_letGo (wpAny_pure ?_))
  have s2:st2 n2 g3:=by
   rw [<- e2]
   exact S2.keep _ _ _ h2 fun c hc o e=>by
    rcases hc with r | r
    ·rw [r] at e ⊢; exact b3.extBut _ _ D.TOi2.symm (b2.extBut _ _ D.i12.symm (b1.extBut _ _ D.i2z e))
    ·rw [r] at e ⊢; exact b3.extBut _ _ D.l2TO (b2.extBut _ _ D.l2i1 (b1.extBut _ _ D.l2z e))
  refine wpAny_bind (wpAny_bind (wpAny_onRaise ?_))
  refine wpAny_bind (m:=Builtin.SmallTypes.nextOf (.ref i2)) (S2.done _ _ _ _ hh s2 fun g4 e b4 he=>?_)
  exact fin g4 e g3 he (b4 _ _ D.i2z.symm (b3.extBut _ _ D.TOz.symm (b2.extBut _ _ D.i1z.symm hz1'))) fun c o c1 c2 c3 c4 q=>b4 _ _ c4 (b3.extBut _ _ c2 (b2.extBut _ _ c3 (b1.extBut _ _ c1 q)))
end
inductive Sk where
 | l | t
def SqK (k:Sk) (K:PySem.W.Frag) (H:Hp) (a:Addr) (xs:List V):Prop:=match k with | .l=>SqL K H a xs | .t=>SqT K H a xs
def AtK (k:Sk) (h:Heap) (a:Addr) (its:Array Value):Prop:=match k with | .l=>h.IsList a its | .t=>h.IsTuple a its
def ItK (k:Sk) (h:Heap) (i a:Addr) (n:Nat):Prop:=match k with | .l=>h.IsListIter i a n | .t=>h.IsTupleIter i a n
def itK (k:Sk) (a:Addr):Obj:=match k with | .l=>{ cls:=.type "list_iterator",data:=.fields #[.ref a,.int 0 0] } | .t=>{ cls:=.type "tuple_iterator",data:=.fields #[.ref a,.int 0 0] }
theorem ItK.new (k:Sk) (h:Heap) (a:Addr):ItK k (h.push (itK k a)) h.objs.size a 0:=by
 cases k
 ·exact ⟨_,Qk _ rfl,rfl,rfl⟩
 ·exact ⟨_,Qk _ rfl,rfl,rfl⟩
theorem ItK.obj {k:Sk} {h:Heap} {i a:Addr} {n:Nat} (x:ItK k h i a n):∃ o,h.get? i=some o/\∀ v,o.data≠.cell v:=by
 cases k
 ·obtain ⟨o,e,_,d⟩:=x; exact ⟨o,e,fun v z=>by rw [d] at z; cases z⟩
 ·obtain ⟨o,e,_,d⟩:=x; exact ⟨o,e,fun v z=>by rw [d] at z; cases z⟩
theorem ItK.at {k:Sk} {h h':Heap} {i a:Addr} {n:Nat} (x:ItK k h i a n) (kp:∀ o,h.get? i=some o->h'.get? i=some o):ItK k h' i a n:=by
 cases k
 ·exact Heap.IsListIter.at x kp
 ·exact Heap.IsTupleIter.at x kp
theorem AtK.at {k:Sk} {h h':Heap} {a:Addr} {its:Array Value} (x:AtK k h a its) (kp:∀ o,h.get? a=some o->h'.get? a=some o):AtK k h' a its:=by
 cases k
 ·exact Heap.IsList.at x kp
 ·obtain ⟨o,e,r⟩:=x; exact ⟨o,kp o e,r⟩
theorem nG (k:Sk) (prog:Program) (w:World) (i l:Addr) (items:Array Value) (hne:l≠i):Sub prog w i l items.size (fun j v=>items[j]?=some v) (fun j h=>ItK k h i l j/\AtK k h l items):=by
 cases k
 ·exact aBF prog w i l items hne
 ·exact aAR prog w i l items hne
theorem oX {prog:Program} {w:World} {A:Around} {E:Value->Shared->Prop} {s:Shared} {k:Sk} {a:Addr} {its:Array Value} {Q:Value->Shared->Prop} (h:AtK k s.heap a its) (hQ:Q (.ref s.heap.objs.size) { s with heap:=s.heap.push (itK k a) }):wpAny (model prog w) A (pyIter (.ref a)) Q E s:=by
 cases k
 ·exact wpAny_pyIter_list h hQ
 ·exact wpAny_pyIter_tuple h hQ
section
variable {X:Cx} {pins:List (Addr×Obj)} {σ:St} {H:Hp} {s:Shared}
theorem Inv.seqK (I:Inv X pins σ H s) {k:Sk} {a:Addr} {xs:List V} (h:SqK k X.K H a xs):∃ its:List Value,aY xs its/\AtK k s.heap a its.toArray:=by
 cases k
 ·obtain ⟨its,r,p,_⟩:=I.list h; exact ⟨its,r,p.isList⟩
 ·obtain ⟨its,r,p,_⟩:=I.tuple h; exact ⟨its,r,p⟩
theorem Inv.seqK_inj (I:Inv X pins σ H s) {k:Sk} {a:Addr} {xs ys:List V} (h:SqK k X.K H a xs) (h':SqK k X.K H a ys):xs=ys:=by
 cases k
 ·exact I.list_inj h h'
 ·exact I.tuple_inj h h'
theorem Inv.seq_ne (I:Inv X pins σ H s) {k:Sk} {a b:Addr} {xs:List V} (h:SqK k X.K H a xs) (f:lA X pins H b):a≠b:=by
 have rd:∀ {u:HO},Rd H a u->a≠b:=fun {u} r z=>by
  rcases r with r | ⟨o,r⟩ <;> (rw [z,f.1] at r; cases r)
 have kk:∀ {o:Obj},X.K.lookup a=some o->a≠b:=fun {o} e z=>by
  have e1:=I.ok.mod.kin a o e
  rcases f.2.2.2.1 with q | q
  ·exact I.ok.noex a o e1 (z ▸ q)
  ·exact Qy _ (Qo (Qm (I.ok.bs a o e1).1) (z ▸ q))
 cases k
 ·rcases h with h | ⟨o,_,_,e,_⟩
  ·exact rd h
  ·exact kk e
 ·rcases h with h | ⟨o,_,_,e,_⟩
  ·exact rd h
  ·exact kk e
theorem Inv.turnedL {h':Heap} {t':Nat} (ch:List Addr) (I:Inv X pins σ H s) (k:∀ b o,b∉ch->s.heap.get? b=some o->h'.get? b=some o) (f:∀ b∈ch,lA X pins H b):Inv X pins σ H { s with heap:=h',toks:=t' }:=by
 have nit:∀ b u,H b=some u->b∉ch:=fun b u e z=>by rw [(f b z).1] at e; cases e
 have nL:X.env.locals∉ch:=fun z=>(f _ z).2.1 rfl
 refine I.step (g':=s.gens) (d':=s.drawn) (ch:=ch) (fun b hb=>⟨(f b hb).2.2.2.1,(f b hb).2.1,(f b hb).2.2.2.2.1,(f b hb).2.2.2.2.2⟩) (fun b o _ _ hc e _=>k b o hc e) (fun b o _ _ hc e _=>⟨o.slots,k b o hc e⟩) (fun _ _ _ _ n=>n)
  (fun b o hc e=>⟨o,k b o hc e⟩) (fun _ _ e=>e) (fun _ _ _ e=>e) (fun b ps e=>⟨#[],by rw [e]; simp⟩) (fun m hm=>?_) (fun b u e=>?_) I.bare
 ·obtain ⟨o,es,ep,ho,r⟩:=hm
  exact ⟨o,es,ep,k _ o nL ho,r⟩
 ·refine (I.hok b u e).stay (fun c v hc q=>k c v ?_ q) (fun _ q=>q) fun _ _ q=>q
  rcases hc with z | z
  ·rw [z]; exact nit b u e
  ·exact nit c _ z
theorem Inv.trackO {D:Addr} {u:HO} (I:Inv X pins σ H s) (new:bX X.prog X.w (upd H D u) s.heap D u) (hn:H D=none) (hL:D≠X.env.locals)
  (h1:X.s₀.heap.objs.size<=D) (h2:∀ x c,X.env.cells.lookup x=some c->c≠D) (h3:∀ p∈X.pn++pins,p.1≠D):Inv X pins σ (upd H D u) s:=by
 have ne:∀ b v,H b=some v->b≠D:=fun b v e z=>by rw [z,hn] at e; cases e
 refine I.step (g':=s.gens) (d':=s.drawn) (t':=s.toks) (h':=s.heap) (ch:=[D]) (fun b hb=>?_) (fun b o _ _ _ e _=>e) (fun b o _ _ _ e _=>⟨o.slots,e⟩) (fun b o hc _ n=>?_) (fun b o _ e=>⟨o,e⟩)
  (fun b xs e=>by rw [aH (ne b _ e)]; exact e) (fun b o v e=>by rw [aH (ne b _ e)]; exact e) (fun b ps e=>⟨#[],by rw [aH (ne b _ e),e]; simp⟩) (fun _ h=>h) (fun b v e=>?_) I.bare
 ·have e:b=D:=by simpa using hb
  subst e
  exact ⟨.inr h1,hL,h2,h3⟩
 ·rw [aH (by simpa using hc)]; exact n
 ·by_cases hb:b=D
  ·subst hb
   rw [aC] at e; cases e
   exact new
  ·rw [aH hb] at e
   exact (I.hok b v e).stay (fun c v _ q=>q) (fun c q=>by rw [aH (ne c _ q)]; exact q) fun c xs q=>by rw [aH (ne c _ q)]; exact q
end
def Itz (K:PySem.W.Frag) (k1 k2:Sk) (a b:Addr):It :=
 ⟨fun i H => ∃ xs ys x y, SqK k1 K H a xs /\ SqK k2 K H b ys /\ xs[i]? = some x /\ ys[i]? = some y,
  fun i H v H'=>∃ p,H p=none/\v=.ref p/\∀ xs ys,SqK k1 K H a xs->SqK k2 K H b ys->∃ x y,xs[i]?=some x/\ys[i]?=some y/\H'=upd H p (.tup [x,y]),
  fun i H=>∃ xs ys,SqK k1 K H a xs/\SqK k2 K H b ys/\min xs.length ys.length=i⟩
theorem aBG {P:Program} {w:World} {K:PySem.W.Frag} {es:List Expr} {x1} {pos:Pos} (k1 k2:Sk) (a b z TI TO i1 i2:Addr) (D:∀ l1 l2:Addr,(∀ c∈[z,TI,TO,i1,i2],l1≠c)->(∀ c∈[z,TI,TO,i1,i2],l2≠c)->ZipApart z TI TO i1 i2 l1 l2) :
  Turn P w K (.Tuple es x1 pos) (Itz K k1 k2 a b) [z,TI,TO,i1,i2] z (fun i h=>IsZip h z TI TO .none/\IsPair h TI (.ref i1) (.ref i2)/\(∃ x y,IsPair h TO x y)/\ItK k1 h i1 a i/\ItK k2 h i2 b i) where
 mem:=by simp
 obj:=fun i h st c hc=>by
  obtain ⟨hz,hTI,⟨x,y,hTO⟩,h1,h2⟩:=st
  simp only [Qj,Qn,or_false] at hc
  rcases hc with rfl | rfl | rfl | rfl | rfl
  ·exact ⟨_,hz,fun v q=>by cases q⟩
  ·exact ⟨_,hTI,fun v q=>by cases q⟩
  ·exact ⟨_,hTO,fun v q=>by cases q⟩
  ·exact h1.obj
  ·exact h2.obj
 keep:=fun i h h' st k=>by
  obtain ⟨hz,hTI,⟨x,y,hTO⟩,h1,h2⟩:=st
  exact ⟨k z (by simp) _ hz,k TI (by simp) _ hTI,⟨x,y,k TO (by simp) _ hTO⟩,h1.at fun o e=>k i1 (by simp) o e,h2.at fun o e=>k i2 (by simp) o e⟩
 item:=by
  intro X hP hw hK hc i pins s σ H E I hf st hg
  subst hP hw hK
  obtain ⟨hz,hTI,⟨x0,y0,hTO⟩,h1,h2⟩:=st
  obtain ⟨xs,ys,x,y,ha,hb,hx,hy⟩:=hg
  obtain ⟨its,rv,pa⟩:=I.seqK ha
  obtain ⟨jts,rw',pb⟩:=I.seqK hb
  obtain ⟨u,hu,ru⟩:=rv.get hx
  obtain ⟨v,hv,rv2⟩:=rw'.get hy
  have na:∀ c∈[z,TI,TO,i1,i2],a≠c:=fun c hc'=>I.seq_ne ha (hf c hc')
  have nb:∀ c∈[z,TI,TO,i1,i2],b≠c:=fun c hc'=>I.seq_ne hb (hf c hc')
  have DD:=D a b na nb
  have hT:s.TypeIs (.ref z) "zip" := ⟨_,hz,rfl⟩
  have hi1:i < its.toArray.size:=by rw [Ql]; exact (Qd.mp hu).1
  have hi2:i < jts.toArray.size:=by rw [Ql]; exact (Qd.mp hv).1
  unfold pyNext
  refine wpAny_bind (wpAny_attempt (wpAny_callSpecial?_slot (name:=Str.ofString "__next__") hT PySem.F.slot_zip_next (wpAny_call_entry PySem.F.slot_zip_next hT PySem.F.entry_zip_next
   (aCV DD (nG k1 X.prog X.w i1 a its.toArray (na i1 (by simp))) (nG k2 X.prog X.w i2 b jts.toArray (nb i2 (by simp))) hz hTI hTO ⟨h1,pa⟩ ⟨h2,pb⟩ hi1 hi2 fun h' u' v' pu pv hz' hTO' s1 s2 hT' kp=>wpAny_pure ?_) (PySem.F.args_zip_next_1 _))))
  have eu:u'=u:=by
   have q:its[i]?=some u':=by simpa using pu
   rw [hu] at q
   exact (Option.some.inj q).symm
  have ev:v'=v:=by
   have q:jts[i]?=some v':=by simpa using pv
   rw [hv] at q
   exact (Option.some.inj q).symm
  subst eu ev
  refine ⟨_,rfl,wpAny_letOwnedTupleGo_zip hz' fun h2 hz2 sb2=>?_⟩
  have Tz:s.heap.objs.size≠z:=Xd (Qm hz)
  have hT2:IsPair h2 s.heap.objs.size u' v':=sb2.extBut _ _ Tz hT'
  have hf0:=I.hok.fresh (Qg s.heap.objs.size)
  have fz:=I.fpOk (Qg s.heap.objs.size) hf0
  have I2:Inv X pins σ H { s with heap:=h2 }:=by
   refine I.turnedL (t':=s.toks) [z,TO,i1,i2] (fun c o hc' e=>?_) (fun c hc'=>hf c ?_)
   ·simp only [Qj,Qn,or_false,not_or] at hc'
    exact sb2.extBut _ _ hc'.1 (kp c o hc'.1 hc'.2.1 hc'.2.2.1 hc'.2.2.2 e)
   ·simp only [Qj,Qn,or_false] at hc' ⊢
    rcases hc' with r | r | r | r
    ·exact .inl r
    ·exact .inr (.inr (.inl r))
    ·exact .inr (.inr (.inr (.inl r)))
    ·exact .inr (.inr (.inr (.inr r)))
  have I3:Inv X pins σ (upd H s.heap.objs.size (.tup [x,y])) { s with heap:=h2 }:=by
   refine I2.trackO (show bX X.prog X.w _ _ _ (.tup [x,y]) from ⟨by show 2<=sizeLine; rw [sizeLine_eq]; decide,[u',v'],0,.cons ru (.cons rv2 .nil),hT2⟩) hf0 fz.2.1 I.sz fz.2.2.2.2.1 fz.2.2.2.2.2
  refine ⟨.ref s.heap.objs.size,_,I3,rfl,⟨s.heap.objs.size,hf0,rfl,fun xs' ys' ha' hb'=>?_⟩,⟨hz2,sb2.extBut _ _ DD.TIz (kp _ _ DD.TIz DD.TITO DD.TIi1 DD.TIi2 hTI),⟨_,_,sb2.extBut _ _ DD.TOz hTO'⟩,s1.1.at fun o e=>sb2.extBut _ _ DD.i1z e,s2.1.at fun o e=>sb2.extBut _ _ DD.i2z e⟩,fun c hc'=>?_⟩
  ·rw [I.seqK_inj ha' ha,I.seqK_inj hb' hb]
   exact ⟨x,y,hx,hy,rfl⟩
  ·have cl:c≠s.heap.objs.size:=by
    obtain ⟨o,e⟩:∃ o,s.heap.get? c=some o:=by
     simp only [Qj,Qn,or_false] at hc'
     rcases hc' with rfl | rfl | rfl | rfl | rfl
     ·exact ⟨_,hz⟩
     ·exact ⟨_,hTI⟩
     ·exact ⟨_,hTO⟩
     ·obtain ⟨o,e,_⟩:=h1.obj; exact ⟨o,e⟩
     ·obtain ⟨o,e,_⟩:=h2.obj; exact ⟨o,e⟩
    exact Jb (Qm e)
   rw [aH cl]
   exact (hf c hc').1
 done:=by
  intro X hP hw hK hc i pins s σ H E I hf st hg
  subst hP hw hK
  obtain ⟨hz,hTI,⟨x0,y0,hTO⟩,h1,h2⟩:=st
  obtain ⟨xs,ys,ha,hb,hmin⟩:=hg
  obtain ⟨its,rv,pa⟩:=I.seqK ha
  obtain ⟨jts,rw',pb⟩:=I.seqK hb
  have la:=rv.length
  have lb:=rw'.length
  have na:∀ c∈[z,TI,TO,i1,i2],a≠c:=fun c hc'=>I.seq_ne ha (hf c hc')
  have nb:∀ c∈[z,TI,TO,i1,i2],b≠c:=fun c hc'=>I.seq_ne hb (hf c hc')
  have DD:=D a b na nb
  have hT:s.TypeIs (.ref z) "zip" := ⟨_,hz,rfl⟩
  unfold pyNext
  refine wpAny_bind (wpAny_attempt (wpAny_callSpecial?_slot (name:=Str.ofString "__next__") hT PySem.F.slot_zip_next (wpAny_call_entry PySem.F.slot_zip_next hT PySem.F.entry_zip_next
   (aD8 (I.ok.hd hc) DD (nG k1 X.prog X.w i1 a its.toArray (na i1 (by simp))) (nG k2 X.prog X.w i2 b jts.toArray (nb i2 (by simp))) hz hTI hTO ⟨h1,pa⟩ ⟨h2,pb⟩ (by rw [Ql,Ql]; omega) fun h' e kp he=>?_) (PySem.F.args_zip_next_1 _))))
  obtain ⟨oe,hoe,hce⟩:=he
  refine wpAny_bind (wpAny_isInstance (T := "StopIteration") (b:=true) ⟨oe,hoe,hce⟩ isSubtype_stop (wpAny_pure ⟨rfl,?_⟩))
  refine I.turnedL (t':=s.toks) [z,TO,i1,i2] (fun c o hc' e=>?_) (fun c hc'=>hf c ?_)
  ·simp only [Qj,Qn,or_false,not_or] at hc'
   exact kp c o hc'.1 hc'.2.1 hc'.2.2.1 hc'.2.2.2 e
  ·simp only [Qj,Qn,or_false] at hc' ⊢
   rcases hc' with r | r | r | r
   ·exact .inl r
   ·exact .inr (.inr (.inl r))
   ·exact .inr (.inr (.inr (.inl r)))
   ·exact .inr (.inr (.inr (.inr r)))
 self:=fun _ _ _ _ _ st h=>wpAny_pyIter_zip st.1 h
abbrev zh1 (k1:Sk) (h:Heap) (a:Addr):Heap:=h.push (itK k1 a)
abbrev zh2 (k1 k2:Sk) (h:Heap) (a b:Addr):Heap:=(zh1 k1 h a).push (itK k2 b)
abbrev zh3 (k1 k2:Sk) (h:Heap) (a b:Addr):Heap:=(zh2 k1 k2 h a b).push { cls:=.type "tuple",data:=.seq #[.ref h.objs.size,.ref (zh1 k1 h a).objs.size] }
abbrev zh4 (k1 k2:Sk) (h:Heap) (a b:Addr):Heap:=(zh3 k1 k2 h a b).push { cls:=.type "tuple",data:=.seq #[.none,.none] }
abbrev zh5 (k1 k2:Sk) (h:Heap) (a b:Addr):Heap:=(zh4 k1 k2 h a b).push { cls:=.type "zip",data:=.fields #[.none,.bool false,.bool false,.ref (zh2 k1 k2 h a b).objs.size,.ref (zh3 k1 k2 h a b).objs.size] }
theorem wI (k1 k2:Sk) (a b:Addr) (xs ys:Array Value) :
  Meets (Builtin.«zip.__new__» ⟨[.type "zip",.ref a,.ref b],[]⟩) (fun _ R s=>AtK k1 s.heap a xs/\AtK k2 s.heap b ys/\R (.ok (.ret (.ref (zh4 k1 k2 s.heap a b).objs.size))) { s with heap:=zh5 k1 k2 s.heap a b }) :=
 .of_wp fun prog w A R s h=>by
  obtain ⟨hp,g,d,tk,os⟩:=s
  obtain ⟨hl1,hl2,h⟩:=h
  have hsub:=sub_zip
  have hA:AtK k1 (Shared.heap ⟨hp,g,d,tk,os⟩) a xs:=hl1
  have hB:AtK k2 (Shared.heap ⟨hp.push (itK k1 a),g,d,tk,os⟩) b ys:=AtK.at hl2 fun o e=>Qa _ e
  wp_walk using oX hA,oX hB
  exact ⟨_,rfl,h⟩
section
variable {X:Cx} {es:List Expr} {x1:Nat} {tpos:Pos}
def aFy (K:PySem.W.Frag) (k1 k2:Sk) (ta:TA):TI:=fun σ H R=>ta σ H fun vs H1=>∃ a b xs ys,vs = [.ref a,.ref b]/\SqK k1 K H1 a xs/\SqK k2 K H1 b ys/\R (Itz K k1 k2 a b) H1
theorem oJ (k1 k2:Sk) {a b:Expr} {ta:TA} {p pos:Pos} (hg:Gl X "zip") (hm:X.mg "zip" = none) (ha:PA X [a,b] ta) (hs:starEach [a,b] X.env = [(false,eval a X.env),(false,eval b X.env)]:=by rfl) (hs2:starEach [b] X.env = [(false,eval b X.env)]:=by rfl) :
  PI X (.Tuple es x1 tpos) (.Call (.Name "zip" p) [a,b] [] pos) (aFy X.K k1 k2 ta):=by
 intro pins s σ H R I h
 refine Call_ (jB (u:=.type "zip") I hg hm (by decide +kernel) (PyProof.Rows.callWith_type1 (thn (ha pos pins s σ H _ I h) fun us s1 hx9=>?_) (by rw [hs,hs2]) (by rw [hs2]; rfl)))
 obtain ⟨vs,H1,I1,r1,q1⟩:=hx9
 obtain ⟨l1,l2,xs,ys,rfl,hA,hB,q⟩:=q1
 obtain ⟨u1,u2,rfl,r1',r2'⟩:=lD r1
 cases r1'
 cases r2'
 obtain ⟨its,rv,pa⟩:=I1.seqK hA
 obtain ⟨jts,rw',pb⟩:=I1.seqK hB
 refine callType_new PySem.F.called_zip (by decide) (PySem.F.typeCall_zip_2 _ _) (PySem.F.newCall_zip_2 _ _) (fun obj=>PySem.F.args_object_init_3 obj _ _) PySem.F.entry_zip_new (wI k1 k2 l1 l2 its.toArray jts.toArray) ⟨pa,pb,?_⟩
 have n1:(zh1 k1 s1.heap l1).objs.size=s1.heap.objs.size+1:=Je ..
 have n2:(zh2 k1 k2 s1.heap l1 l2).objs.size=s1.heap.objs.size+2:=by rw [Je,n1]
 have n3:(zh3 k1 k2 s1.heap l1 l2).objs.size=s1.heap.objs.size+3:=by rw [Je,n2]
 have n4:(zh4 k1 k2 s1.heap l1 l2).objs.size=s1.heap.objs.size+4:=by rw [Je,n3]
 have g5:IsZip (zh5 k1 k2 s1.heap l1 l2) (zh4 k1 k2 s1.heap l1 l2).objs.size (zh2 k1 k2 s1.heap l1 l2).objs.size (zh3 k1 k2 s1.heap l1 l2).objs.size .none:=Qk _ rfl
 have g4:IsPair (zh5 k1 k2 s1.heap l1 l2) (zh3 k1 k2 s1.heap l1 l2).objs.size .none .none:=Qa _ (Qk _ rfl)
 have g3:IsPair (zh5 k1 k2 s1.heap l1 l2) (zh2 k1 k2 s1.heap l1 l2).objs.size (.ref s1.heap.objs.size) (.ref (zh1 k1 s1.heap l1).objs.size):=Qa _ (Qa _ (Qk _ rfl))
 have g2:ItK k2 (zh5 k1 k2 s1.heap l1 l2) (zh1 k1 s1.heap l1).objs.size l2 0:=(ItK.new k2 (zh1 k1 s1.heap l1) l2).at fun o e=>Qa _ (Qa _ (Qa _ e))
 have g1:ItK k1 (zh5 k1 k2 s1.heap l1 l2) s1.heap.objs.size l1 0:=(ItK.new k1 s1.heap l1).at fun o e=>Qa _ (Qa _ (Qa _ (Qa _ e)))
 have kp:∀ c o,s1.heap.get? c=some o->(zh5 k1 k2 s1.heap l1 l2).get? c=some o:=fun c o e=>Qa _ (Qa _ (Qa _ (Qa _ (Qa _ e))))
 refine ⟨⟨_,g5,rfl⟩,wpAny_pyIter_zip (f0:=.none) g5 ?_⟩
 rw [n1,n2,n3,n4] at *
 have I2:Inv X pins σ H1 { s1 with heap:=zh5 k1 k2 s1.heap l1 l2 }:=I1.kept (t':=s1.toks) kp
 refine ⟨s1.heap.objs.size+4,[s1.heap.objs.size+4,s1.heap.objs.size+2,s1.heap.objs.size+3,s1.heap.objs.size,s1.heap.objs.size+1],_,_,H1,rfl,I2,aBG k1 k2 l1 l2 _ _ _ _ _ ?_,⟨g5,g3,⟨_,_,g4⟩,g1,g2⟩,fun c hc=>?_,q⟩
 ·intro m1 m2 h1 h2
  have d:∀ i j:Nat,i≠j->s1.heap.objs.size+i≠s1.heap.objs.size+j:=fun i j h=>by omega
  exact ⟨d 2 4 (by decide),d 3 4 (by decide),d 0 4 (by decide),d 1 4 (by decide),d 2 3 (by decide),d 2 0 (by decide),d 2 1 (by decide),d 3 0 (by decide),d 3 1 (by decide),d 0 1 (by decide),
   h1 _ (by simp),h1 _ (by simp),h1 _ (by simp),h1 _ (by simp),h2 _ (by simp),h2 _ (by simp),h2 _ (by simp),h2 _ (by simp)⟩
 ·have hc':s1.heap.objs.size<=c:=by
   simp only [Qj,Qn,or_false] at hc
   rcases hc with r | r | r | r | r
   ·rw [r]; exact Jp _ _
   ·rw [r]; exact Jp _ _
   ·rw [r]; exact Jp _ _
   ·rw [r]; exact Qg _
   ·rw [r]; exact Jp _ _
  exact I1.fpOk hc' (I1.hok.fresh hc')
end
open PySem.AutoSeq1 (wpAny_loadPart')
theorem sA (l b:Addr) (items items2:Array Value) (n n2:Nat) (dd dd2:Option Addr) (sl sl2:Array (Option Value)) (hc0:items.isEmpty=true) :
  Meets (Builtin.«tuple.__add__» ⟨[.ref l,.ref b],[]⟩) (fun _ R s=>s.heap.get? l=some { cls:=.type "tuple",dict:=dd,data:=.seq items n,slots:=sl }/\s.heap.get? b=some { cls:=.type "tuple",dict:=dd2,data:=.seq items2 n2,slots:=sl2 }/\R (.ok (.ret (Value.ref b))) s) :=
 .of_wp fun prog w A R s h=>by
  obtain ⟨hp,g,d,tk,os⟩:=s
  obtain ⟨hl,hb,h⟩:=h
  have f1:=AutoSeq1.idx_int
  have f2:=AutoSeq1.sub_tuple_tuple
  wp_walk using wpAny_loadPart' hl,wpAny_loadPart' hb
  exact ⟨_,rfl,h⟩
section
variable {X:Cx}
theorem aCW:OpR X (binaryOp .Add) (fun x y H Q=>∃ a b xs ys,x=.ref a/\y=.ref b/\SqT X.K H a xs/\SqT X.K H b ys/\xs.length+ys.length<=sizeLine/\∀ p H',aD H H'->SqT X.K H' p (xs++ys)->Q (.ref p) H'):=by
 intro pins s σ H x y v u Q I rx ry h
 obtain ⟨a,b,xs,ys,rfl,rfl,ha,hb,hz,q⟩:=h
 by_cases hx:xs = []
 ·subst hx
  cases rx
  cases ry
  obtain ⟨its,r1,⟨⟨cls,dd,data,sl⟩,ho,hc,n,hd⟩,_⟩:=I.tuple ha
  obtain ⟨its2,r2,⟨⟨cls2,dd2,data2,sl2⟩,ho2,hc2,n2,hd2⟩,_⟩:=I.tuple hb
  simp only at hc hd hc2 hd2
  subst hc hd hc2 hd2
  cases r1
  exact concat_meets ⟨_,ho,rfl⟩ ⟨_,ho2,rfl⟩ noFill_tuple_add seq_tuple_add PySem.F.slot_tuple_add PySem.F.entry_tuple_add (PySem.F.args_tuple_add_2 _ _)
   (sA a b _ _ n n2 dd dd2 sl sl2 rfl) ⟨ho,ho2,⟨.ref b,H,I,rfl,q b H (aD.refl H) hb⟩⟩
 ·refine aCT pins s σ H _ _ v u Q I rx ry ⟨a,b,xs,ys,rfl,rfl,ha,hb,hx,hz,fun e=>?_,fun e p hp=>?_⟩
  ·subst e
   exact q a H (aD.refl H) (by rw [Za]; exact ha)
  ·exact q p _ (aD.new hp) (SqT.of aC)
theorem mJ {prog:Program} {w:World} {A:Around} {E:Value->Shared->Prop} {s:Shared} {t sl:Addr} {items:Array Value} {vl vu:Value} {lo hi:Option Int} {Q:Value->Shared->Prop} (ht:IsTup s.heap t items) (hs:s.heap.IsSliceOf sl vl vu .none) (pl:IsPart vl lo) (pu:IsPart vu hi)
  (hw:HT.sIx items.size 0 lo=0/\HT.sIx items.size items.size hi=items.size) (h:Q (.ref t) s):wpAny (model prog w) A (getItem (.ref t) (.ref sl)) Q E s:=by
 obtain ⟨os,hos,hcs,hds⟩:=id hs
 have hTs:s.TypeIs (.ref sl) "slice" := ⟨os,hos,hcs⟩
 unfold getItem
 try with_reducible refine wpAny_holding ?_
 first | refine wpAny_bind (wpAny_pure ?_) | skip
 refine wpAny_bind (wpAny_sequenceKey ht.typeIs (by decide) ?_)
 refine wpAny_bind (wpAny_callSpecial?_slot (name:=Str.ofString "__getitem__") ht.typeIs PyProof.Rows.slot_tuple_getitem
  (wpAny_call_entry PyProof.Rows.slot_tuple_getitem ht.typeIs entry_tuple_getitem ?_ (args_tuple_getitem _ _)))
 refine wpAny_bind (m:=Builtin.Tuple.tupleItemsOf (.ref t)) (tupleItemsOf_ ht ?_)
 refine wpAny_bind (wpAny_typeOf hTs ?_)
 rw [if_pos (by decide)]
 refine wpAny_bind (HT.sliceApplied_gen hs pl pu ?_)
 have hyes:(((HT.sIx items.size 0 lo:Nat):Int)==0 && (1:Int)==1 && (HT.sIx items.size items.size hi - HT.sIx items.size 0 lo)==items.size)=true:=by
  rw [hw.1,hw.2]; simp
 show wpAny _ _ (if (((HT.sIx items.size 0 lo:Nat):Int)==0 && (1:Int)==1 && (HT.sIx items.size items.size hi - HT.sIx items.size 0 lo)==items.size)=true then _ else _) _ _ s
 rw [if_pos hyes]
 unfold Builtin.Tuple.tupleIsExact
 refine wpAny_bind (wpAny_bind (wpAny_typeOf ht.typeIs (wpAny_pure ?_)))
 refine wpAny_ite_split (fun _=>wpAny_bind (wpAny_rule (wpAny_pure ⟨_,rfl,wpAny_pure h⟩))) (fun hab=>absurd (by rfl) hab)
theorem pK:SlR X (fun x lo hi H Q=>∃ a xs,x=.ref a/\SqT X.K H a xs/\∀ p H',aD H H'->SqT X.K H' p (iY xs lo hi)->Q (.ref p) H'):=by
 intro pins s σ H x v vl vu lo hi sl Q I rx hs pl pu h
 obtain ⟨a,xs,rfl,hx,q⟩:=h
 by_cases hw:HT.sIx xs.length 0 lo=0/\HT.sIx xs.length xs.length hi=xs.length
 ·cases rx
  obtain ⟨its,r,ht,hz⟩:=I.tuple hx
  have hlen:its.toArray.size=xs.length:=by rw [Ql]; exact r.length.symm
  refine ⟨"tuple",_,PyProof.Rows.slot_tuple_getitem.lookup,ht.typeIs,?_⟩
  refine mJ ht hs pl pu (by rw [hlen]; exact hw) ⟨.ref a,H,I,rfl,q a H (aD.refl H) ?_⟩
  have e:iY xs lo hi=xs:=by
   unfold iY
   rw [hw.1,hw.2,Ya,Wa,Ju]
  rw [e]; exact hx
 ·exact aD1 pins s σ H _ v vl vu lo hi sl Q I rx hs pl pu ⟨a,xs,rfl,hx,hw,fun p hp=>q p _ (aD.new hp) (SqT.of aC)⟩
theorem kI (xs:List V) (k:Nat):iY xs none (some (k:Int))=xs.take k:=by
 unfold iY
 rw [HT.sIx_none,HT.sIx_nat,Ya,Wa]
 by_cases h:k<=xs.length
 ·rw [Zd h]
 ·rw [Nat.min_eq_right (by omega),Jj (Qg _),Jj (by omega)]
theorem eW (xs:List V) (k:Nat):iY xs (some (k:Int)) none=xs.drop k:=by
 unfold iY
 rw [HT.sIx_none,HT.sIx_nat]
 by_cases h:k<=xs.length
 ·rw [Zd h,Jj (by rw [Ja]; exact Qg _)]
 ·rw [Nat.min_eq_right (by omega),Yj (Qg _),Yj (by omega),List.take_nil]
end
def zU (N frn:List Str) (fr:List Nat):Bool:=frn.length==fr.length && (frn.zip fr).all fun y=>N[y.2]?==some y.1
theorem bA {X:Cx} {scope:Scope} {own frn:List Str} {fr:List Nat} (sc:Scope) (N:List Str) (h1:X.env.scope=sc) (h2:X.N=N) (h:(oH sc scope own frn && zU N frn fr)=true):CompOk X scope own fr frn:=by
 rw [Jg] at h
 obtain ⟨ha,hb⟩:=h
 unfold zU at hb
 simp only [Jg,beq_iff_eq,Jo] at hb
 refine ⟨by rw [h1]; exact ha,fun k x hk=>?_,hb.1.symm⟩
 have hlt:k < fr.length:=by rw [<- hb.1]; exact (Qd.mp hk).1
 refine ⟨fr[k],Qc hlt,?_⟩
 have hm:(x,fr[k])∈frn.zip fr:=by
  refine Qh (i:=k) ?_
  rw [Jl]
  exact ⟨hk,Qc hlt⟩
 rw [h2]
 exact hb.2 _ hm
section
variable {J:It} {own:Nat} {fr:List Nat} {g:TG} {tt:TT} {te:TE} {σ:St} {H:Hp} {Q:Hp->List V->Prop}
theorem nH (n:Nat) (hn:n<=sizeLine) (SH:St->Prop) (Pv:Nat->List V->Hp->Prop) (hσ:SH (blk own fr σ)) (h0:Pv 0 [] H) (hlen:∀ i ys H,Pv i ys H->ys.length<=i)
  (hstop:∀ ys H,Pv n ys H->J.stop n H) (hgo:∀ i ys H,i < n->Pv i ys H->J.go i H)
  (hs:∀ i ys σ x H H',i < n->SH σ->Pv i ys H->J.yld i H x H'->ys.length < sizeLine->g x σ H' fun σ2 H2=>tt σ2 H2 fun b H3=>if b=true then te σ2 H3 fun y H4=>ys.length < sizeLine/\SH σ2/\Pv (i+1) (ys++[y]) H4 else SH σ2/\Pv (i+1) ys H3)
  (hd:∀ ys H,Pv n ys H->Q H ys) :
  ∃ W:Nat->Nat->List V->St->Hp->Prop,(∃ m,W 0 m [] (blk own fr σ) H)/\∀ i m ys σ' H,W i m ys σ' H ->
   (J.stop i H/\Q H ys) ∨
   (J.go i H/\∃ N:List V->St->Hp->Prop,(∀ ys' σ2 H2,N ys' σ2 H2->∃ m',m' < m/\W (i+1) m' ys' σ2 H2) /\
    ∀ x H',J.yld i H x H'->g x σ' H' fun σ2 H2=>tt σ2 H2 fun b H3=>if b=true then te σ2 H3 fun y H4=>ys.length < sizeLine/\N (ys++[y]) σ2 H4 else N ys σ2 H3):=by
 refine ⟨fun i m ys σ' H=>m=n - i/\i<=n/\SH σ'/\Pv i ys H,⟨n,by simp,Jh _,hσ,h0⟩,?_⟩
 rintro i m ys σ' H ⟨rfl,hi,sh,p⟩
 by_cases hlt:i < n
 ·refine .inr ⟨hgo i ys H hlt p,fun ys' σ2 H2=>SH σ2/\Pv (i+1) ys' H2,fun ys' σ2 H2 ⟨e,q⟩=>⟨n - (i+1),by omega,rfl,hlt,e,q⟩,fun x H' y=>?_⟩
  exact hs i ys σ' x H H' hlt sh p y (by have:=hlen i ys H p; omega)
 ·have e:i=n:=by omega
  subst e
  exact .inl ⟨hstop ys H p,hd ys H p⟩
theorem nI {K:PySem.W.Frag} {a:Addr} {xs:List V} (SH:St->Prop) (Pv:Nat->List V->Hp->Prop) (hn:xs.length<=sizeLine) (hσ:SH (blk own fr σ)) (h0:Pv 0 [] H) (hlen:∀ i ys H,Pv i ys H->ys.length<=i) (hl:∀ i ys H,Pv i ys H->SqT K H a xs)
  (hs:∀ i ys σ x H,xs[i]?=some x->SH σ->Pv i ys H->ys.length < sizeLine->g x σ H fun σ2 H2=>tt σ2 H2 fun b H3=>if b=true then te σ2 H3 fun y H4=>ys.length < sizeLine/\SH σ2/\Pv (i+1) (ys++[y]) H4 else SH σ2/\Pv (i+1) ys H3)
  (hd:∀ ys H,Pv xs.length ys H->Q H ys) :
  ∃ W:Nat->Nat->List V->St->Hp->Prop,(∃ m,W 0 m [] (blk own fr σ) H)/\∀ i m ys σ' H,W i m ys σ' H ->
   ((Itt K a).stop i H/\Q H ys) ∨
   ((Itt K a).go i H/\∃ N:List V->St->Hp->Prop,(∀ ys' σ2 H2,N ys' σ2 H2->∃ m',m' < m/\W (i+1) m' ys' σ2 H2) /\
    ∀ x H',(Itt K a).yld i H x H'->g x σ' H' fun σ2 H2=>tt σ2 H2 fun b H3=>if b=true then te σ2 H3 fun y H4=>ys.length < sizeLine/\N (ys++[y]) σ2 H4 else N ys σ2 H3):=by
 refine nH xs.length hn SH Pv hσ h0 hlen (fun ys H p=>⟨xs,hl _ _ _ p,Qg _⟩) (fun i ys H hi p=>⟨xs,xs[i],hl _ _ _ p,Qc hi⟩) (fun i ys σ x H H' hi sh p y hz=>?_) hd
 obtain ⟨e,y⟩:=y
 subst e
 exact hs i ys σ x _ (y xs (hl _ _ _ p)) sh p hz
theorem iE {lo:Int} {n:Nat} (SH:St->Prop) (Pv:Nat->List V->Hp->Prop) (hn:n<=sizeLine) (hσ:SH (blk own fr σ)) (h0:Pv 0 [] H) (hlen:∀ i ys H,Pv i ys H->ys.length<=i)
  (hs:∀ i ys σ H,i < n->SH σ->Pv i ys H->ys.length < sizeLine->g (.int (lo+i)) σ H fun σ2 H2=>tt σ2 H2 fun b H3=>if b=true then te σ2 H3 fun y H4=>ys.length < sizeLine/\SH σ2/\Pv (i+1) (ys++[y]) H4 else SH σ2/\Pv (i+1) ys H3)
  (hd:∀ ys H,Pv n ys H->Q H ys) :
  ∃ W:Nat->Nat->List V->St->Hp->Prop,(∃ m,W 0 m [] (blk own fr σ) H)/\∀ i m ys σ' H,W i m ys σ' H ->
   ((Itr lo n).stop i H/\Q H ys) ∨
   ((Itr lo n).go i H/\∃ N:List V->St->Hp->Prop,(∀ ys' σ2 H2,N ys' σ2 H2->∃ m',m' < m/\W (i+1) m' ys' σ2 H2) /\
    ∀ x H',(Itr lo n).yld i H x H'->g x σ' H' fun σ2 H2=>tt σ2 H2 fun b H3=>if b=true then te σ2 H3 fun y H4=>ys.length < sizeLine/\N (ys++[y]) σ2 H4 else N ys σ2 H3):=by
 refine nH n hn SH Pv hσ h0 hlen (fun ys H p=>Qg _) (fun i ys H hi p=>hi) (fun i ys σ x H H' hi sh p y hz=>?_) hd
 obtain ⟨e,y⟩:=y
 subst e y
 exact hs i ys σ _ hi sh p hz
theorem qI {K:PySem.W.Frag} {k1 k2:Sk} {a b:Addr} {xs ys:List V} (SH:St->Prop) (Pv:Nat->List V->Hp->Prop) (hn:xs.length<=sizeLine) (heq:xs.length=ys.length) (hσ:SH (blk own fr σ)) (h0:Pv 0 [] H) (hlen:∀ i zs H,Pv i zs H->zs.length<=i) (hl:∀ i zs H,Pv i zs H->SqK k1 K H a xs/\SqK k2 K H b ys)
  (hs:∀ i zs σ x y p H,xs[i]?=some x->ys[i]?=some y->SH σ->Pv i zs H->H p=none->zs.length < sizeLine->g (.ref p) σ (upd H p (.tup [x,y])) fun σ2 H2=>tt σ2 H2 fun c H3=>if c=true then te σ2 H3 fun y H4=>zs.length < sizeLine/\SH σ2/\Pv (i+1) (zs++[y]) H4 else SH σ2/\Pv (i+1) zs H3)
  (hd:∀ zs H,Pv xs.length zs H->Q H zs) :
  ∃ W:Nat->Nat->List V->St->Hp->Prop,(∃ m,W 0 m [] (blk own fr σ) H)/\∀ i m ys σ' H,W i m ys σ' H ->
   ((Itz K k1 k2 a b).stop i H/\Q H ys) ∨
   ((Itz K k1 k2 a b).go i H/\∃ N:List V->St->Hp->Prop,(∀ ys' σ2 H2,N ys' σ2 H2->∃ m',m' < m/\W (i+1) m' ys' σ2 H2) /\
    ∀ x H',(Itz K k1 k2 a b).yld i H x H'->g x σ' H' fun σ2 H2=>tt σ2 H2 fun b H3=>if b=true then te σ2 H3 fun y H4=>ys.length < sizeLine/\N (ys++[y]) σ2 H4 else N ys σ2 H3):=by
 refine nH xs.length hn SH Pv hσ h0 hlen (fun zs H p=>⟨xs,ys,(hl _ _ _ p).1,(hl _ _ _ p).2,by rw [<- heq,Nat.min_self]⟩) (fun i zs H hi p=>⟨xs,ys,xs[i],ys[i]'(by omega),(hl _ _ _ p).1,(hl _ _ _ p).2,Qc hi,Qc (by omega)⟩) (fun i zs σ v H H' hi sh p y hz=>?_) hd
 obtain ⟨q,hq,rfl,hy⟩:=y
 obtain ⟨x,y,h1,h2,rfl⟩:=hy xs ys (hl _ _ _ p).1 (hl _ _ _ p).2
 exact hs i zs σ x y q H h1 h2 sh p hq hz
end
section
variable {X:Cx}
def aEU (i j:Int):Prop:=0 < j/\j < 1267650600228229401496703205376
theorem aBH:OpR X (binaryOp .FloorDiv) (rI aEU fun i j=>.int (i / j)):=opI fun i j _ _ _ _ _ hc q=>by
 have h1:(0:Int) < j:=hc.1
 have h2:j < 1267650600228229401496703205376:=hc.2
 refine floordiv_int (by omega) (by rw [Zt i (by omega)]; exact q) (.inl (PyProof.noPylong_of_log2 ?_))
 have h3:j.natAbs.log2 < 100:=(Nat.log2_lt (by omega)).mpr (by omega)
 omega
theorem oK {prog:Program} {w:World} {A:Around} {E:Value->Shared->Prop} {s:Shared} {sl:Addr} {tk:Tok} {n:Nat} {Q:Int×Int×Nat->Shared->Prop} (hs:s.heap.IsSliceOf sl .none .none (.int (-1) tk))
  (h:Q ((n:Int) - 1,-1,n) s):wpAny (model prog w) A (Builtin.Slice.sliceApplied (.ref sl) (pure (n:Int))) Q E s:=by
 obtain ⟨os,hos,hcs,hds⟩:=id hs
 unfold Builtin.Slice.sliceApplied Builtin.Slice.sliceFields
 refine wpAny_bind (wpAny_bind (wpAny_field hos hds (x:=.none) rfl (wpAny_bind (wpAny_field hos hds (x:=.none) rfl (wpAny_bind (wpAny_field hos hds (x:=.int (-1) tk) rfl (wpAny_pure ?_)))))))
 refine wpAny_bind (HT.slicePart_ (.int (-1) tk) ?_)
 show wpAny _ _ (if ((-1:Int)==0)=true then _ else _) _ _ s
 rw [if_neg (by decide)]
 refine wpAny_bind (HT.slicePart_ .none (wpAny_bind (HT.slicePart_ .none (wpAny_bind (wpAny_pure ?_)))))
 show wpAny _ _ (match Builtin.Slice.sliceAdjust none none (-1) (n:Int) with | (lo,hi)=>pure (lo,(-1:Int),Builtin.Slice.slicePlaces lo hi (-1))) _ _ s
 have e:Builtin.Slice.sliceAdjust none none (-1) (n:Int)=((n:Int) - 1,-1):=by simp [Builtin.Slice.sliceAdjust]
 rw [e]
 have e2:Builtin.Slice.slicePlaces ((n:Int) - 1) (-1) (-1)=n:=by
  unfold Builtin.Slice.slicePlaces
  rw [if_neg (by decide)]
  by_cases h0:n=0
  ·subst h0; decide
  ·rw [if_pos (by omega)]
   have:((n:Int) - 1 - -1 - 1) / (- -1)+1=n:=by rw [show (- -1:Int)=1 from rfl,Yz]; omega
   rw [this]; simp
 show wpAny _ _ (pure ((n:Int) - 1,(-1:Int),Builtin.Slice.slicePlaces ((n:Int) - 1) (-1) (-1))) _ _ s
 rw [e2]
 exact wpAny_pure h
theorem wJ {α β:Type} {f g:α->Option β}:∀ {l:List α},(∀ x∈l,f x=g x)->l.filterMap f=l.filterMap g
 | [],_=>rfl
 | x::r,h=>by rw [Jx,Jx,h x (Qt ..),wJ fun y hy=>h y (Qq _ hy)]
theorem wK (xs:Array Value):((List.range xs.size).filterMap fun (k:Nat)=>xs[((xs.size:Int) - 1+(k:Int)*(-1)).toNat]?).toArray=xs.toList.reverse.toArray:=by
 have h:=HT.pick_gen xs.toList.reverse.toArray 0 xs.size
 have e:(List.range xs.size).filterMap (fun (k:Nat)=>xs[((xs.size:Int) - 1+(k:Int)*(-1)).toNat]?)=(List.range xs.size).filterMap (fun (m:Nat)=>xs.toList.reverse.toArray[(((0:Nat):Int)+(m:Int)*1).toNat]?):=by
  refine wJ fun k hk=>?_
  have hk':=Zz.mp hk
  have h1:((xs.size:Int) - 1+(k:Int)*(-1)).toNat=xs.size - 1 - k:=by omega
  have h2:(((0:Nat):Int)+(k:Int)*1).toNat=k:=by omega
  rw [h1,h2]
  simp only [List.getElem?_toArray]
  rw [List.getElem?_reverse (by simpa using hk')]
  simp
 rw [e,h]
 congr 1
 rw [Ya,Jj (by simp)]
theorem nJ {prog:Program} {w:World} {A:Around} {E:Value->Shared->Prop} {s:Shared} {t sl:Addr} {items:Array Value} {tk:Tok} {Q:Value->Shared->Prop} (ht:IsTup s.heap t items) (hs:s.heap.IsSliceOf sl .none .none (.int (-1) tk))
  (h:Q (.ref s.heap.objs.size) { s with heap:=s.heap.push { cls:=.type "tuple",data:=.seq items.toList.reverse.toArray } }) (hsz:items.size<=sizeLine):wpAny (model prog w) A (getItem (.ref t) (.ref sl)) Q E s:=by
 have htake:sizeOk (.seq items.toList.reverse.toArray):=by
  show items.toList.reverse.toArray.size<=sizeLine
  rw [Ql,Zs,Array.length_toList]
  exact hsz
 obtain ⟨os,hos,hcs,hds⟩:=id hs
 have hTs:s.TypeIs (.ref sl) "slice" := ⟨os,hos,hcs⟩
 unfold getItem
 try with_reducible refine wpAny_holding ?_
 first | refine wpAny_bind (wpAny_pure ?_) | skip
 refine wpAny_bind (wpAny_sequenceKey ht.typeIs (by decide) ?_)
 refine wpAny_bind (wpAny_callSpecial?_slot (name:=Str.ofString "__getitem__") ht.typeIs PyProof.Rows.slot_tuple_getitem
  (wpAny_call_entry PyProof.Rows.slot_tuple_getitem ht.typeIs entry_tuple_getitem ?_ (args_tuple_getitem _ _)))
 refine wpAny_bind (m:=Builtin.Tuple.tupleItemsOf (.ref t)) (tupleItemsOf_ ht ?_)
 refine wpAny_bind (wpAny_typeOf hTs ?_)
 rw [if_pos (by decide)]
 refine wpAny_bind (oK hs ?_)
 have hno:¬ ((((items.size:Int) - 1)==0 && (-1:Int)==1 && items.size==items.size)=true):=by simp
 show wpAny _ _ (if (((items.size:Int) - 1)==0 && (-1:Int)==1 && items.size==items.size)=true then _ else _) _ _ s
 rw [if_neg hno,wK]
 first
  | exact wpAny_bind (m:=Builtin.Tuple.tupleExact _) (wpAny_newObj_type (wpAny_pure ⟨_,rfl,wpAny_pure h⟩) htake)
  | exact wpAny_bind (m:=Builtin.Tuple.tupleExact _) (wpAny_newObj_type (wpAny_bind (wpAny_pure (wpAny_pure ⟨_,rfl,wpAny_pure h⟩))) htake)
  | exact wpAny_bind (wpAny_bind (m:=Builtin.Tuple.tupleExact _) (wpAny_newObj_type (wpAny_pure (wpAny_pure ⟨_,rfl,wpAny_pure h⟩)) htake))
  | exact wpAny_bind (wpAny_bind (m:=Builtin.Tuple.tupleExact _) (wpAny_newObj_type (wpAny_pure ⟨_,rfl,wpAny_pure h⟩) htake))
def aEV (K:PySem.W.Frag) (te ts:TE):TE:=fun σ H Q=>te σ H fun x H1=>ts σ H1 fun y H2=>y=.int (-1)/\∃ a xs,x=.ref a/\SqT K H2 a xs/\∀ p,H2 p=none->Q (.ref p) (upd H2 p (.tup xs.reverse))
theorem aD9 {e st:Expr} {te ts:TE} {pos p2:Pos} (he:PE X e te) (hst:PE X st ts):PE X (.Subscript e (.Slice none none (some st) p2) pos) (aEV X.K te ts):=by
 intro pins s σ H Q I h
 refine Subscript_ (thn (he pins s σ H _ I h) fun v s1 hx9=>?_)
 obtain ⟨x,H1,I1,r1,q1⟩:=hx9
 refine wpAny_Slice ?_
 rw [evalPart_none]
 refine wpAny_pure ?_
 show wpAny _ _ (evalPart none X.env) _ _ s1
 rw [evalPart_none]
 refine wpAny_pure ?_
 show wpAny _ _ (evalPart (some st) X.env) _ _ s1
 rw [evalPart_some]
 refine thn (hst pins s1 σ H1 _ I1 q1) fun vst s3 hx9=>?_
 obtain ⟨y,H3,I3,r3,q3⟩:=hx9
 obtain ⟨rfl,a,xs,rfl,hx,q⟩:=q3
 obtain ⟨tk,rfl⟩:=r3
 cases r1
 have I4:Inv X pins σ H3 { s3 with heap:=s3.heap.push { cls:=.type "slice",data:=.fields #[.none,.none,.int (-1) tk] } }:=I3.kept (t':=s3.toks) fun b ob q=>Qa _ q
 obtain ⟨its,r,ht,hz⟩:=I4.tuple hx
 have hlen:=r.length
 have hg:wpAny (model X.prog X.w) X.A (getItem (.ref a) (.ref s3.heap.objs.size)) (EP X pins σ Q) X.xe { s3 with heap:=s3.heap.push { cls:=.type "slice",data:=.fields #[.none,.none,.int (-1) tk] } }:=by
  refine nJ ht (Heap.IsSliceOf.new ..) ?_ (by rw [Ql]; omega)
  refine ⟨.ref _,_,I4.laid (t':=s3.toks) (o:=.tup xs.reverse) (fun b ob q=>Qa _ q) (Qg _) ?_,rfl,q _ (I4.hok.fresh (Qg _))⟩
  exact ⟨by rw [Zs]; exact hz,its.reverse,0,r.reverse,Qk _ rfl⟩
 show wpAny (model X.prog X.w) X.A (subscriptTail e (.Slice none none (some st) p2) (.ref a) (.ref s3.heap.objs.size)) (EP X pins σ Q) X.xe { s3 with heap:=s3.heap.push { cls:=.type "slice",data:=.fields #[.none,.none,.int (-1) tk] } }
 exact tail_any (ops:=[.ref a,.ref s3.heap.objs.size]) ht.typeIs PyProof.Rows.slot_tuple_getitem.lookup hg (by with_unfolding_all rfl)
end
def Vw (S:List Addr) (H:Hp):Hp:=fun b=>if b∈S then none else H b
theorem Vw.out {S:List Addr} {H:Hp} {b:Addr} (n:b∉S):Vw S H b=H b:=by unfold Vw; rw [if_neg n]
theorem Vw.sub {S:List Addr} {H:Hp}:aD (Vw S H) H:=fun b o h=>by
 by_cases z:b∈S
 ·unfold Vw at h; rw [if_pos z] at h; cases h
 ·rw [Vw.out z] at h; exact h
theorem Vw.keep {S:List Addr} {H H':Hp} (e:∀ b o,b∉S->H b=some o->H' b=some o):aD (Vw S H) (Vw S H'):=fun b o h=>by
 by_cases z:b∈S
 ·unfold Vw at h; rw [if_pos z] at h; cases h
 ·rw [Vw.out z] at h ⊢; exact e b o z h
theorem Vw.same {S:List Addr} {H H':Hp} (e:aD H H'):aD (Vw S H) (Vw S H'):=Vw.keep fun b o _ h=>e b o h
def Fx (S:List Addr) (H:Hp):Prop:=∀ b∈S,∃ xs,H b=some (.lst xs)
theorem Fx.same {S:List Addr} {H H':Hp} (f:Fx S H) (e:aD H H'):Fx S H':=fun b hb=>let ⟨xs,h⟩:=f b hb; ⟨xs,e b _ h⟩
theorem Fx.new {S:List Addr} {H:Hp} {p:Addr} (f:Fx S H) (h:H p=none):p∉S:=fun z=>by
 obtain ⟨xs,q⟩:=f p z
 rw [q] at h; cases h
theorem Fx.nil {H:Hp}:Fx [] H:=fun _ h=>(Qn h).elim
section
variable {K:PySem.W.Frag} {S:List Addr} {H H' H0:Hp}
theorem Fx.seqT {a:Addr} {xs:List V} (f:Fx S H) (h:SqT K H a xs):SqT K (Vw S H) a xs:=by
 rcases h with (h | ⟨o,h⟩) | h
 ·exact .inl (.inl (by rw [Vw.out fun z=>by obtain ⟨ys,q⟩:=f a z; rw [q] at h; cases h]; exact h))
 ·exact .inl (.inr ⟨o,by rw [Vw.out fun z=>by obtain ⟨ys,q⟩:=f a z; rw [q] at h; cases h]; exact h⟩)
 ·exact .inr h
theorem Vw.at {p:Addr} {o:HO} (f:Fx S H) (h:H p=none):Vw S (upd H p o) p=some o:=by rw [Vw.out (f.new h)]; exact aC
def Dn (K:PySem.W.Frag) (S:List Addr) (H:Hp) (x:V):Prop:=∃ d,Den K (Vw S H) d x
def DT (K:PySem.W.Frag) (S:List Addr) (n:Nat) (H:Hp) (x:V):Prop:=∃ a xs,x=.ref a/\SqT K (Vw S H) a xs/\xs.length<=n/\∀ y∈xs,Dn K S H y
def II (_:Hp) (x:V):Prop:=∃ i,x=.int i
class Mo (R:Hp->V->Prop):Prop where
 mo:∀ {H H':Hp} {v:V},aD H H'->R H v->R H' v
theorem Dn.keep {x:V} (h:Dn K S H x) (e:aD (Vw S H) (Vw S H')):Dn K S H' x:=let ⟨d,h⟩:=h; ⟨d,e.den _ _ h⟩
theorem Dn.same {x:V} (h:Dn K S H x) (e:aD H H'):Dn K S H' x:=h.keep (Vw.same e)
theorem DT.keep {n:Nat} {x:V} (h:DT K S n H x) (e:aD (Vw S H) (Vw S H')):DT K S n H' x:=let ⟨a,xs,h1,h2,h3,h4⟩:=h; ⟨a,xs,h1,e.seqT h2,h3,fun y hy=>(h4 y hy).keep e⟩
theorem DT.same {n:Nat} {x:V} (h:DT K S n H x) (e:aD H H'):DT K S n H' x:=h.keep (Vw.same e)
instance:Mo (Dn K S):=⟨fun e h=>Dn.same h e⟩
instance {n:Nat}:Mo (DT K S n):=⟨fun e h=>DT.same h e⟩
instance:Mo II:=⟨fun _ h=>h⟩
theorem aBI (i:Int):Dn K S H (.int i):=⟨.int i,bV.mpr rfl⟩
theorem II.dn {x:V} (h:II H x):Dn K S H x:=let ⟨i,h⟩:=h; h ▸ aBI i
theorem aBJ:∀ {xs:List V},(∀ x∈xs,Dn K S H x)->∃ ds,aU K (Vw S H) ds xs
 | [],_=>⟨[],aN.mpr rfl⟩
 | x::r,h=>by
  obtain ⟨d,hd⟩:=h x (Qt ..)
  obtain ⟨ds,hds⟩:=aBJ (xs:=r) fun y hy=>h y (Qq _ hy)
  exact ⟨d::ds,aM.mpr ⟨x,r,rfl,hd,hds⟩⟩
theorem DT.dn {n:Nat} {x:V} (h:DT K S n H x):Dn K S H x:=by
 obtain ⟨a,xs,rfl,h2,_,h4⟩:=h
 obtain ⟨ds,hds⟩:=aBJ h4
 exact ⟨.tuple ds,aO.mpr ⟨a,xs,rfl,h2,hds⟩⟩
theorem aCX {l:List Int}:∀ x∈l.map V.int,Dn K S H x:=fun x hx=>by
 obtain ⟨i,_,rfl⟩:=Jw.mp hx
 exact aBI i
theorem DT.ints {a:Addr} {l:List Int} {n:Nat} (f:Fx S H) (h:SqT K H a (l.map V.int)) (hn:l.length<=n):DT K S n H (.ref a):=⟨a,_,rfl,f.seqT h,by rw [Qb]; exact hn,aCX⟩
def Al (H0:Hp) (S:List Addr) (te:TE) (σ:St) (R:Hp->V->Prop):Prop:=∀ H,aD H0 H->Fx S H->∀ Q:VK,(∀ v H',aD H H'->R H' v->Q v H')->te σ H Q
variable {σ:St} {R R':Hp->V->Prop} {te ta tb ts:TE} {t tr:TA} {tl th:TO}
theorem yH {i:Nat} {v:V} [m:Mo R] (h:σ[i]?=some (some v)) (r:R H0 v):Al H0 S (gT i) σ R:=fun H s _ Q k=>⟨v,h,k v H (aD.refl H) (m.mo s r)⟩
theorem sB {v:V} [m:Mo R] (r:R H0 v):Al H0 S (tC v) σ R:=fun H s _ Q k=>k v H (aD.refl H) (m.mo s r)
theorem Al.mono (h:Al H0 S te σ R) (m:∀ H v,R H v->R' H v):Al H0 S te σ R':=fun H s f Q k=>h H s f Q fun v H' s' r=>k v H' s' (m H' v r)
theorem Al.i (h:Al H0 S te σ II):Al H0 S te σ (Dn K S):=h.mono fun _ _ r=>r.dn
theorem Al.d {n:Nat} (h:Al H0 S te σ (DT K S n)):Al H0 S te σ (Dn K S):=h.mono fun _ _ r=>r.dn
def kX (K:PySem.W.Frag):R2:=fun x y H Q=>∃ a b xs ys,x=.ref a/\y=.ref b/\SqT K H a xs/\SqT K H b ys/\xs.length+ys.length<=sizeLine/\∀ p H',aD H H'->SqT K H' p (xs++ys)->Q (.ref p) H'
theorem bF {X:Cx} (hK:X.K=K):OpR X (binaryOp .Add) (kX K):=by subst hK; exact aCW
def pG (K:PySem.W.Frag):V->Option Int->Option Int->Hp->VK->Prop:=fun x lo hi H Q=>∃ a xs,x=.ref a/\SqT K H a xs/\∀ p H',aD H H'->SqT K H' p (iY xs lo hi)->Q (.ref p) H'
theorem bH {X:Cx} (hK:X.K=K):SlR X (pG K):=by subst hK; exact pK
def uG (K:PySem.W.Frag):List V->Hp->VK->Prop:=fun xs H Q=>∃ p ys,xs = [.ref p]/\(SqL K H p ys∨SqT K H p ys)/\∀ l,H l=none->Q (.ref l) (upd H l (.lst ys))
theorem iK {X:Cx} (hK:X.K=K):eJ X (.type "list") (uG K):=by subst hK; exact uC
theorem aBK {xs:List V} {lo hi:Option Int} {x:V} (h:x∈iY xs lo hi):x∈xs:=Zn (Jq h)
instance {a:Addr} {xs:List V}:Mo (fun H v=>v=.ref a/\SqT K H a xs):=⟨fun e h=>⟨h.1,e.seqT h.2⟩⟩
instance {x:V}:Mo (fun _ v=>v=x):=⟨fun _ h=>h⟩
theorem zV {Q:VK} (f:Fx S H) (h:Al H S te σ R) (k:∀ v H',aD H H'->R H' v->Q v H'):te σ H Q:=h H (aD.refl H) f Q k
end
open PySem.AutoSeq1 (wpAny_loadPart')
theorem nf {b:Bool} (h:b=false):decide (b=true)=false:=by rw [h]; rfl
theorem nt {b:Bool} (h:b=true):decide (b=true)=true:=by rw [h]; rfl
theorem qJ (l:Addr) (items:Array Value) (n:Nat) (dd:Option Addr) (sl:Array (Option Value)) (x:Int) (u:Tok) (h1:1 < x) (h2:x<=1000) (hne:items.isEmpty=false) (hz:items.size<=1000) :
  Meets (Builtin.«tuple.__mul__» ⟨[.ref l,.int x u],[]⟩) (fun _ R s=>s.heap.get? l=some { cls:=.type "tuple",dict:=dd,data:=.seq items n,slots:=sl }/\R (.ok (.ret (Value.ref s.heap.objs.size))) { s with heap:=s.heap.push { cls:=Value.type "tuple",data:=Data.seq (List.foldl (fun x1 x2=>x1++x2) #[] (List.replicate x.toNat items)) },toks:=s.toks }) :=
 .of_wp fun prog w A R s h=>by
  obtain ⟨hp,g,d,tk,os⟩:=s
  obtain ⟨hl,h⟩:=h
  have f1:=AutoSeq1.idx_int
  have f2:=AutoSeq1.sub_tuple_tuple
  wp_walk using wpAny_loadPart' hl
  refine wpAny_ite_false (nf (show (decide (x < -2^63) || decide (x≥2^63))=false from by rw [decide_eq_false (show ¬ x < -2^63 by omega),decide_eq_false (show ¬ x≥2^63 by omega)]; rfl)) ?_
  wp_walk using wpAny_loadPart' hl
  refine wpAny_ite_false (nf (show (items.isEmpty || x==1)=false from by rw [hne,beq_eq_false_iff_ne.mpr (show x≠1 by omega)]; rfl)) ?_
  wp_walk using wpAny_loadPart' hl
  refine wpAny_ite_false (nf (show (decide (x<=0) || items.isEmpty)=false from by rw [hne,decide_eq_false (show ¬ x<=0 by omega)]; rfl)) ?_
  wp_walk using wpAny_loadPart' hl
  have hm:(items.size:Int)*x<=1000*1000:=Int.mul_le_mul (by omega) h2 (by omega) (by omega)
  refine wpAny_ite_false (decide_eq_false (show ¬ (items.size:Int)*x > (2^63 - 1) / 8 by omega)) ?_
  wp_walk using wpAny_loadPart' hl
  refine wpAny_ite_false (nf (show decide ((items.size:Int)*x > (sizeLine:Int))=false from decide_eq_false (by rw [sizeLine_eq]; omega))) ?_
  have hsz:¬ (List.foldl (fun x1 x2=>x1++x2) #[] (List.replicate x.toNat items)).size > sizeLine:=by
   have e:=lW items.toList x.toNat []
   rw [Zb] at e
   have e2:List.foldl (fun x1 x2=>x1++x2) #[] (List.replicate x.toNat items)=(List.replicate x.toNat items.toList).flatten.toArray:=e
   rw [e2,Ql,uD,Array.length_toList,sizeLine_eq]
   have:x.toNat*items.size<=1000*1000:=Nat.mul_le_mul (by omega) hz
   omega
  wp_walk using wpAny_loadPart' hl
  exact ⟨_,rfl,h⟩
theorem qK (l:Addr) (items:Array Value) (n:Nat) (dd:Option Addr) (sl:Array (Option Value)) (x:Int) (u:Tok) (h1:1 < x) (h2:x<=1000) (hne:items.isEmpty=true) :
  Meets (Builtin.«tuple.__mul__» ⟨[.ref l,.int x u],[]⟩) (fun _ R s=>s.heap.get? l=some { cls:=.type "tuple",dict:=dd,data:=.seq items n,slots:=sl }/\R (.ok (.ret (Value.ref l))) s) :=
 .of_wp fun prog w A R s h=>by
  obtain ⟨hp,g,d,tk,os⟩:=s
  obtain ⟨hl,h⟩:=h
  have f1:=AutoSeq1.idx_int
  have f2:=AutoSeq1.sub_tuple_tuple
  wp_walk using wpAny_loadPart' hl
  refine wpAny_ite_false (nf (show (decide (x < -2^63) || decide (x≥2^63))=false from by rw [decide_eq_false (show ¬ x < -2^63 by omega),decide_eq_false (show ¬ x≥2^63 by omega)]; rfl)) ?_
  wp_walk using wpAny_loadPart' hl
  exact ⟨_,rfl,h⟩
theorem jZ:fillsNumberSlot (.type "tuple") "mul" = pure false :=
 PySem.fillsNumberSlot_seq (id := "tuple.__mul__") (r:=some (.builtin "tuple.__rmul__")) PySem.F.slot_tuple_mul.lookup (by decide +kernel) PySem.F.slot_tuple_rmul.lookup (by decide +kernel)
theorem nK:seqRepeat? (.type "tuple")=pure (some (.builtin "tuple.__mul__")):=by
 unfold seqRepeat?
 rw [PySem.seqSlot_of (T := "tuple") (name := "__mul__") (id := "tuple.__mul__") PySem.F.slot_tuple_mul.lookup (by decide +kernel),PySem.seqSlot_of (T := "tuple") (name := "__rmul__") (id := "tuple.__rmul__") PySem.F.slot_tuple_rmul.lookup (by decide +kernel)]
 rfl
theorem lI (a:Int) (t:Tok) (l:Addr) (items:Array Value) (n:Nat) (dd:Option Addr) (sl:Array (Option Value)) :
  Meets (Builtin.«int.__rmul__» ⟨[.int a t,.ref l],[]⟩) (fun _ R s=>s.heap.get? l=some { cls:=.type "tuple",dict:=dd,data:=.seq items n,slots:=sl }/\R (.ok (.ret Value.notImplemented)) s) :=
 .of_wp fun prog w A R s h=>by
  obtain ⟨hp,g,d,tk,os⟩:=s
  obtain ⟨hl,h⟩:=h
  wp_walk using wpAny_loadPart' hl
  exact ⟨_,rfl,h⟩
def aEW (K:PySem.W.Frag):R2:=fun x y H Q=>∃ a k xs,x=.ref a/\y=.int k/\SqT K H a xs/\1 < k/\k<=1000/\xs.length<=1000/\∀ p H',aD H H'->SqT K H' p (List.replicate k.toNat xs).flatten->Q (.ref p) H'
theorem aCY {X:Cx} {K:PySem.W.Frag} (hK:X.K=K):OpR X (binaryOp .Mult) (aEW K):=by
 subst hK
 intro pins s σ H x y v u Q I rx ry h
 obtain ⟨a,k,xs,rfl,rfl,ha,h1,h2,hz,q⟩:=h
 cases rx
 obtain ⟨t,rfl⟩:=ry
 obtain ⟨its,r,⟨⟨cls,dd,data,sl⟩,ho,hc,n,hd⟩,hzz⟩:=I.tuple ha
 simp only at hc hd
 subst hc hd
 have hl:=r.length
 refine wpAny_binaryOp_repeat_ref (T := "tuple") (U := "int") (by decide) ⟨_,ho,rfl⟩ (fun s'=>typeIs_int s' k t) jZ PySem.F.fills_int_mul PySem.F.slot_int_rmul nK PySem.F.slot_int_index.lookup
  (call_meets PySem.F.slot_int_rmul (typeIs_int s k t) PySem.F.entry_int_rmul (PySem.F.args_int_rmul_2 _ _) (lI k t a its.toArray n dd sl) ⟨ho,rfl,⟨_,ho,rfl⟩,?_⟩)
 by_cases hx:xs = []
 ·subst hx
  cases r
  refine call_meets PySem.F.slot_tuple_mul ⟨_,ho,rfl⟩ PySem.F.entry_tuple_mul (PySem.F.args_tuple_mul_2 _ _) (qK a _ n dd sl k t h1 h2 rfl) ⟨ho,?_⟩
  exact ⟨.ref a,H,I,rfl,q a H (aD.refl H) (by rw [List.flatten_replicate_nil]; exact ha)⟩
 ·have hne:its.toArray.isEmpty=false:=by
   cases its with
   | nil=>cases r; exact absurd rfl hx
   | cons _ _=>rfl
  refine call_meets PySem.F.slot_tuple_mul ⟨_,ho,rfl⟩ PySem.F.entry_tuple_mul (PySem.F.args_tuple_mul_2 _ _) (qJ a its.toArray n dd sl k t h1 h2 hne (by rw [Ql]; omega)) ⟨ho,?_⟩
  have hnew:List.foldl (fun x1 x2=>x1++x2) #[] (List.replicate k.toNat its.toArray)=(List.replicate k.toNat its).flatten.toArray:=by
   have:=lW its k.toNat []
   rw [Zb] at this
   exact this
  rw [hnew]
  have hlen:(List.replicate k.toNat xs).flatten.length<=sizeLine:=by
   rw [uD,sizeLine_eq]
   have:k.toNat*xs.length<=1000*1000:=Nat.mul_le_mul (by omega) hz
   omega
  refine ⟨.ref _,_,I.laid (t':=s.toks) (o:=.tup (List.replicate k.toNat xs).flatten) (fun b ob q=>Qa _ q) (Qg _) ?_,rfl,q _ _ (aD.new (I.hok.fresh (Qg _))) (SqT.of aC)⟩
  exact ⟨hlen,(List.replicate k.toNat its).flatten,0,r.rep k.toNat,Qk _ rfl⟩
section
variable {X:Cx} {pins:List (Addr×Obj)} {σ:St} {H:Hp} {s:Shared}
end
section
variable {K:PySem.W.Frag} {S:List Addr} {H H' H0:Hp} {E E':Hp->V->Prop}
def DTe (K:PySem.W.Frag) (S:List Addr) (E:Hp->V->Prop) (n:Nat) (H:Hp) (x:V):Prop:=∃ a xs,x=.ref a/\SqT K (Vw S H) a xs/\xs.length<=n/\∀ y∈xs,E H y
def LTe (S:List Addr) (E:Hp->V->Prop) (n:Nat) (H:Hp) (x:V):Prop:=∃ a xs,x=.ref a/\Vw S H a=some (.lst xs)/\xs.length<=n/\∀ y∈xs,E H y
instance {n:Nat} [m:Mo E]:Mo (DTe K S E n):=⟨fun e ⟨a,xs,h1,h2,h3,h4⟩=>⟨a,xs,h1,(Vw.same e).seqT h2,h3,fun y hy=>m.mo e (h4 y hy)⟩⟩
instance {n:Nat} [m:Mo E]:Mo (LTe S E n):=⟨fun e ⟨a,xs,h1,h2,h3,h4⟩=>⟨a,xs,h1,Vw.same e _ _ h2,h3,fun y hy=>m.mo e (h4 y hy)⟩⟩
def AlE (H0:Hp) (S:List Addr) (E:Hp->V->Prop) (n:Nat) (t:TA) (σ:St):Prop:=∀ H,aD H0 H->Fx S H->∀ Q:List V->Hp->Prop,(∀ vs H',aD H H'->vs.length=n->(∀ v∈vs,E H' v)->Q vs H')->t σ H Q
variable {σ:St} {te ta tb ts:TE} {t tr:TA} {tl th:TO}
theorem lX:AlE H0 S E 0 jK σ:=fun H _ _ Q k=>k [] H (aD.refl H) rfl (fun _ h=>(Qn h).elim)
theorem aZ {n:Nat} [m:Mo E] (h:Al H0 S te σ E) (r:AlE H0 S E n tr σ):AlE H0 S E (n+1) (gD te tr) σ:=fun H s f Q k=>h H s f _ fun v H1 s1 d1=>r H1 (s.trans s1) (f.same s1) _ fun vs H2 s2 l d2 =>
 k (v::vs) H2 (s1.trans s2) (by rw [Jt,l]) fun x hx=>by
  rcases Qj.mp hx with rfl | hx
  ·exact m.mo s2 d1
  ·exact d2 x hx
theorem Al.weak {R R':Hp->V->Prop} (h:Al H0 S te σ R) (m:∀ H v,R H v->R' H v):Al H0 S te σ R':=fun H s f Q k=>h H s f Q fun v H' s' r=>k v H' s' (m H' v r)
end
section
variable {env:Env} {kY es:List Expr} {k:Nat} {pos:Pos} {a b c:Expr}
end
def qL (sc scope:Scope) (z0:Str) (own:List Str) (frn:List Str):Bool :=
 scope.kind==.function && scope.names.all (fun y=>y.2 !=.cell || y.1==z0) && scope.names.all (fun y=>y.2 !=.local || scope.names.lookup y.1==some .local) &&
 scope.names.all (fun y=>y.2 !=.free || sc.names.lookup y.1==some .cell || sc.names.lookup y.1==some .free) && decide (own++frn).Nodup &&
 frn.all (fun x=>scope.names.lookup x==some .free) && scope.names.lookup z0==some .cell && scope.names.all (fun y=>y.2 !=.free || y.1 !=z0)
structure CompOk1 (X:Cx) (scope:Scope) (z0:Str) (own:List Str) (fr:List Nat) (frn:List Str):Prop where
 ck:qL X.env.scope scope z0 own frn=true
 ix:∀ (k:Nat) (x:Str),frn[k]?=some x->∃ j:Nat,fr[k]?=some j/\X.N[j]?=some x
 len:fr.length=frn.length
 cf:∀ (n:Nat) (cl:List (Str×Addr)),cellsFrom n scope.names cl=(z0,n)::cl
 pc:∀ h:Heap,pushCells h scope.names=h.push { cls:=.type "cell",data:=.cell none }
section
variable {X:Cx} {scope:Scope} {z0:Str} {own frn:List Str} {fr:List Nat}
theorem CompOk1.parts (S:CompOk1 X scope z0 own fr frn):scope.kind=.function/\(∀ y∈scope.names,y.2=.cell->y.1=z0)/\(∀ y∈scope.names,y.2=.local->scope.names.lookup y.1=some .local) /\
  (∀ y∈scope.names,y.2=.free->X.env.scope.names.lookup y.1=some .cell∨X.env.scope.names.lookup y.1=some .free)/\(own++frn).Nodup/\(∀ x∈frn,scope.names.lookup x=some .free)/\scope.names.lookup z0=some .cell/\∀ y∈scope.names,y.2=.free->y.1≠z0:=by
 have h:=S.ck
 unfold qL at h
 simp only [Jg,Jo,decide_eq_true_eq,Bool.or_eq_true,bne_iff_ne,ne_eq,beq_iff_eq] at h
 obtain ⟨⟨⟨⟨⟨⟨⟨h1,h2⟩,h3⟩,h4⟩,h5⟩,h7⟩,h8⟩,h9⟩:=h
 refine ⟨h1,fun y hy e=>?_,fun y hy e=>?_,fun y hy e=>?_,h5,h7,h8,fun y hy e=>?_⟩
 ·rcases h2 y hy with z | z
  ·exact absurd e z
  ·exact z
 ·rcases h3 y hy with z | z
  ·exact absurd e z
  ·exact z
 ·rcases h4 y hy with (z | z) | z
  ·exact absurd e z
  ·exact .inl z
  ·exact .inr z
 ·rcases h9 y hy with z | z
  ·exact absurd e z
  ·exact z
end
section
variable {X:Cx} {scope:Scope} {z0:Str} {own frn:List Str} {fr:List Nat} {elt tg iter:Expr} {ifs:List Expr} {pos:Pos} {wi:TI} {g:TG} {tt:TT} {te:TE}
theorem CompOk1.clo {pins:List (Addr×Obj)} {σ:St} {H:Hp} {s:Shared} (S:CompOk1 X scope z0 own fr frn) (I:Inv X pins σ H s):closureFor scope X.env=pure (dY X.env scope.names []):=by
 obtain ⟨p1,p2,p3,p4,p5,p7,p8,p9⟩:=S.parts
 exact yD fun y hy e=>I.ok.has y.1 (p4 y hy e)
end
def aFz (scope sc:Scope):Scope:={ scope with names:=scope.names.map fun (n,k)=>if (k==NameKind.free && sc.kind==.function && sc.names.lookup n==some .cell) then (n,NameKind.cell) else (n,k) }
section
variable {X:Cx}
theorem aAS (hc:X.calm=true):eJ X (.builtin "min") (fun xs H Q=>∃ (p:Addr) (ns:List Int),xs = [.ref p]/\SqL X.K H p (ns.map V.int)/\0 < ns.length/\∀ M,M∈ns->(∀ a∈ns,M<=a)->Q (.int M) H):=by
 intro pins s σ H xs us Q I r h
 obtain ⟨p,ns,rfl,hx,hne,q⟩:=h
 obtain ⟨u,rfl,rx⟩:=gY r
 cases rx
 obtain ⟨its,rv,pl,hz⟩:=I.list hx
 have hi:IntsAre its ns:=jD rv
 obtain ⟨xs,e⟩:=hi.allInts.items
 have hns:ns=xs.toList.map (·.1):=by
  rw [<- hi.numsOf,<- nums_intItems,<- e]
 have hsz:0 < xs.size:=by
  have h3:=hne; rw [hns,Qb,Array.length_toList] at h3; exact h3
 have hl:=pl.isList
 rw [e] at hl
 refine min_intList (I.ok.hd hc) hl hsz fun v h' tk hv hk=>?_
 obtain ⟨t,rfl⟩:=intItems_at hv
 obtain ⟨h1,h2⟩:=argBest_lt (numAt xs) (xs.size - 1)
 refine ⟨.int _,H,I.kept hk,⟨_,rfl⟩,q _ ?_ fun a ha=>?_⟩
 ·rw [hns,numAt_eq]; exact getD_mem (by rw [Qb,Array.length_toList]; omega)
 ·rw [hns] at ha
  obtain ⟨j,hj,rfl⟩:=mem_getD ha
  rw [Qb,Array.length_toList] at hj
  rw [<- numAt_eq]; exact h2 j (by omega)
end
theorem aDB:bootBuiltins "min" = some (.builtin "min"):=by decide +kernel
theorem bX.isThere {P:Program} {w:World} {H:Hp} {h:Heap} {a:Addr} {o:HO} (x:bX P w H h a o):∃ ob,h.get? a=some ob:=by
 cases o with
 | lst xs=>obtain ⟨_,_,_,_,e⟩:=x; exact ⟨_,e⟩
 | tup xs=>obtain ⟨_,_,_,_,e⟩:=x; exact ⟨_,e⟩
 | dK kvs=>obtain ⟨_,_,_,_,o,_,_,e,_⟩:=x; exact ⟨_,e⟩
 | dT kvs=>obtain ⟨_,_,_,_,o,_,_,e,_⟩:=x; exact ⟨_,e⟩
 | set S n=>obtain ⟨o,_,_,_,e,_⟩:=x; exact ⟨_,e⟩
 | ins C dx fs=>obtain ⟨_,_,_,e,_⟩:=x; exact ⟨_,e⟩
 | own y=>obtain ⟨_,e⟩:=x; exact ⟨_,e⟩
 | xd fs=>obtain ⟨_,⟨_,_,_,e,_⟩,_⟩:=x; exact ⟨_,e⟩
 | rng lo hi=>obtain ⟨_,_,_,e⟩:=x; exact ⟨_,e⟩
 | frz ob u=>obtain ⟨e,_⟩:=x; exact ⟨_,e⟩
 | tbl ps=>exact ⟨_,(show h.get? a=some _ from x)⟩
 | tab q=>obtain ⟨_,e,_⟩:=x; exact ⟨_,e⟩
 | met f y=>exact ⟨_,(show h.get? a=some _ from x)⟩
 | ext φ=>obtain ⟨_,⟨_,e⟩,_⟩:=x; exact ⟨_,e⟩
def zW (h:Heap) (a:Addr) (cls:Value) (T:Addr):Prop :=
 ∃ oe vs oT ts,h.get? a=some oe/\oe.cls=cls/\oe.data=.fields vs/\vs[1]?=some (.ref T)/\T≠a/\h.get? T=some oT/\oT.data=.fields ts/\ts[3]?=some .none
def CX1 (P:Program) (w:World):CXT:=fun outer H s E e s'=>∃ (a T C:Addr) (H':Hp),e=.ref a/\s'.os=s.os/\AllBare s'.gens/\Un (frs outer) [] H H' s.heap s'.heap/\HOk P w H' s'.heap/\zW s'.heap a (.ref C) T /\
 s.heap.get? a=none/\s.heap.get? T=none/\H' a=none/\H' T=none/\E (.ref C) none H'
theorem gG {h b1 b2:Heap}:∀ {l:List Env},h.FunFrames b1 l->(∀ L∈frs l,b2.get? L=none)->h.FunFrames b2 l
 | [],_,_=>trivial
 | env::kY,⟨hk,⟨L,o,hf,hn,ho,hd⟩,hr⟩,hb=>⟨hk,⟨L,o,hf,hb L (by unfold frs; rw [Jx,hf]; exact Qt ..),ho,hd⟩,gG hr fun M hM=>hb M (by
   unfold frs at hM ⊢
   rw [Jx,hf]
   exact Qq _ hM)⟩
theorem qM {base h h':Heap} {l:List Env} {a:Addr} {cls:Value} {hid:List Addr} (hb:base=PySem.W.hideAll h hid) (hl:h.FunFrames base l) (x:Heap.Left base l a cls h h') (ha:a∈hid) :
  (∀ b o,b∉hid->h.get? b=some o->h'.get? b=some o)/\(∀ b o,b∈frs l->h.get? b=some o->∃ sl,h'.get? b=some { o with slots:=sl })/\∃ T,zW h' a cls T/\T∉frs l/\(T∈hid∨h.get? T=none):=by
 obtain ⟨x1,x2,⟨oe,vs,T,oT,ts,e1,e2,e3,e4,e5,e6,e7,e8,e9⟩,x4⟩:=x
 refine ⟨fun b o nb e=>x1 b o (by rw [hb]; exact PySem.W.hideAll_get _ e nb),fun b o hbf e=>?_,T,⟨oe,vs,oT,ts,e1,e2,e3,e4,e6,e7,e8,e9⟩,fun z=>?_,?_⟩
 ·obtain ⟨_,o',ho',hd'⟩:=hl.mem hbf
  have eo:o'=o:=Option.some.inj (ho'.symm.trans e)
  subst eo
  exact x4 b o' ho' hd'
 ·obtain ⟨_,o',ho',hd'⟩:=x2.mem z
  have eo:o'=oT:=Option.some.inj (ho'.symm.trans e7)
  subst eo
  exact hd' ts e8
 ·by_cases hT:T∈hid
  ·exact .inl hT
  ·refine .inr ?_
   cases q:h.get? T with
   | none=>rfl
   | some o =>
    have:=PySem.W.hideAll_get hid q hT
    rw [<- hb,e5] at this
    cases this
section
variable {P:Program} {w:World} {K:PySem.W.Frag} {mg:Str->Option Value} {base:Heap} {N:List Str} {qual:Str} {scope:Scope} {f:Addr} {cd:Value} {A:Around} {outer:List Env} {s0:Shared} {H0:Hp} {E:XK}
theorem zX {pins:List (Addr×Obj)} {σ:St} {H:Hp} {s:Shared} {h':Heap} {a C:Addr} {hid:List Addr} {bs:Heap} (I:Inv (nD (CX1 P w) P w K mg base N qual scope f cd A outer s0 H0 E) pins σ H s)
  (hb:bs=PySem.W.hideAll s.heap hid) (hl:s.heap.FunFrames bs (envOfC qual scope s0.heap.objs.size f cd::outer)) (x:Heap.Left bs (envOfC qual scope s0.heap.objs.size f cd::outer) a (.ref C) s.heap h') (ha:a∈hid)
  (hh:∀ b∈hid,b∈frs (envOfC qual scope s0.heap.objs.size f cd::outer)∨(s0.heap.get? b=none/\H b=none)) (hE:E (.ref C) none H) (ha0:s0.heap.get? a=none) (hHa:H a=none) :
  CX1 P w outer H0 s0 E (.ref a) { s with heap:=h' }:=by
 obtain ⟨k1,k2,T,fl,nT,hT⟩:=qM hb hl x ha
 have Lne:∀ b o,s0.heap.get? b=some o->b≠s0.heap.objs.size:=fun b o e z=>Qy _ (z ▸ Qm e)
 have fs:∀ b,b∈frs (envOfC qual scope s0.heap.objs.size f cd::outer)↔b=s0.heap.objs.size∨b∈frs outer:=fun b=>by
  unfold frs
  rw [Jx]
  exact Qj
 have un:Un (frs outer) [] H0 H s0.heap s.heap:=I.base
 have nh:∀ b o,s0.heap.get? b=some o->b∉frs outer->b∉hid:=fun b o e nb z=>by
  rcases hh b z with q | q
  ·rcases (fs b).mp q with q | q
   ·exact Lne b o e q
   ·exact nb q
  ·rw [q.1] at e; cases e
 have trk:∀ b u,H b=some u->b∉hid:=fun b u e z=>by
  rcases hh b z with q | q
  ·rw [I.stkFree b q] at e; cases e
  ·rw [q.2] at e; cases e
 have T0:s0.heap.get? T=none/\H T=none:=by
  rcases hT with z | z
  ·rcases hh T z with q | q
   ·exact absurd q nT
   ·exact q
  ·refine ⟨?_,?_⟩
   ·cases q:s0.heap.get? T with
    | none=>rfl
    | some o =>
     obtain ⟨o',e⟩:=un.there T o q (by simp)
     rw [z] at e; cases e
   ·cases q:H T with
    | none=>rfl
    | some u =>
     obtain ⟨o',e⟩:=(I.hok T u q).isThere
     rw [show s.heap.get? T=none from z] at e; cases e
 refine ⟨a,T,C,H,rfl,I.os,I.bare,⟨fun b o e n nb _=>?_,fun b o e n hb' _=>?_,un.free,fun b o e _=>?_,un.tups,un.frzs,un.tbls⟩,fun b u e=>?_,fl,ha0,T0.1,hHa,T0.2,hE⟩
 ·exact k1 b o (nh b o e nb) (un.keep b o e n nb (by simp))
 ·obtain ⟨sl,q⟩:=un.slot b o e n hb' (by simp)
  obtain ⟨sl',q'⟩:=k2 b _ ((fs b).mpr (.inr hb')) q
  exact ⟨sl',q'⟩
 ·obtain ⟨o',q⟩:=un.there b o e (by simp)
  by_cases hb':b∈frs outer
  ·obtain ⟨sl,q'⟩:=k2 b _ ((fs b).mpr (.inr hb')) q
   exact ⟨_,q'⟩
  ·exact ⟨o',k1 b o' (nh b o e hb') q⟩
 ·refine (I.hok b u e).stay (fun c v hc q=>k1 c v ?_ q) (fun _ q=>q) fun _ _ q=>q
  rcases hc with z | z
  ·rw [z]; exact trk b u e
  ·exact trk c _ z
theorem nM:qC (CX1 P w) (nD (CX1 P w) P w K mg base N qual scope f cd A outer s0 H0 E) E:=by
 intro pins σ H s e s' I h
 obtain ⟨a,T,C,H',rfl,os,bare,un,hok,fl,na,nT,hHa,hHT,hE⟩:=h
 have I3:Inv (nD (CX1 P w) P w K mg base N qual scope f cd A outer s0 H0 E) pins σ H' s':=I.call' (ch:=[]) os un hok bare (fun b z=>absurd z (by simp))
 have un0:Un (frs outer) [] H0 H s0.heap s.heap:=I.base
 have n0:∀ b,s.heap.get? b=none->s0.heap.get? b=none:=fun b z=>by
  cases q:s0.heap.get? b with
  | none=>rfl
  | some o =>
   obtain ⟨o',e⟩:=un0.there b o q (by simp)
   rw [z] at e; cases e
 have hl:s'.heap.FunFrames (PySem.W.hideAll s'.heap (a::T::frs (envOfC qual scope s0.heap.objs.size f cd::outer))) (envOfC qual scope s0.heap.objs.size f cd::outer) :=
  gG I3.stack fun L hL=>PySem.W.hideAll_none _ (Qq _ (Qq _ hL))
 obtain ⟨oe,vs,oT,ts,e1,e2,e3,e4,e6,e7,e8,e9⟩:=fl
 show wpAny (model P w) (A.deeper (envOfC qual scope s0.heap.objs.size f cd)) (leaving (envOfC qual scope s0.heap.objs.size f cd) (.ref a)) _ _ s'
 refine wpAny_leaving_next (base:=PySem.W.hideAll s'.heap (a::T::frs (envOfC qual scope s0.heap.objs.size f cd::outer))) (cls:=.ref C) I3.ok.frames hl rfl
  ⟨oe,vs,T,oT,ts,e1,e2,e3,e4,PySem.W.hideAll_none _ (by simp),e6,e7,e8,e9⟩ (fun b o q=>PySem.W.of_hideAll _ q) (PySem.W.hideAll_none _ (by simp)) fun h' lf=>?_
 refine zX I3 rfl hl lf (by simp) (fun b hb=>?_) hE (n0 a na) hHa
 rcases Qj.mp hb with z | hb
 ·rw [z]; exact .inr ⟨n0 a na,hHa⟩
 rcases Qj.mp hb with z | hb
 ·rw [z]; exact .inr ⟨n0 T nT,hHT⟩
 ·exact .inl hb
theorem uH {pins:List (Addr×Obj)} {σ:St} {H:Hp} {s:Shared} {h':Heap} {a C:Addr} {vs:List Value} (I:Inv (nD (CX1 P w) P w K mg base N qual scope f cd A outer s0 H0 E) pins σ H s) (m:Heap.MadeExcOf s.heap h' a (.ref C) vs) (hE:E (.ref C) none H) :
  (nD (CX1 P w) P w K mg base N qual scope f cd A outer s0 H0 E).xe (.ref a) { s with heap:=h' }:=by
 obtain ⟨t,e1,_,_⟩:=m.there
 have I3:Inv (nD (CX1 P w) P w K mg base N qual scope f cd A outer s0 H0 E) pins σ H { s with heap:=h' }:=I.kept (t':=s.toks) m.keeps
 have un0:Un (frs outer) [] H0 H s0.heap s.heap:=I.base
 have a0:s0.heap.get? a=none:=by
  cases q:s0.heap.get? a with
  | none=>rfl
  | some o =>
   obtain ⟨o',e⟩:=un0.there a o q (by simp)
   rw [m.new] at e; cases e
 have hHa:H a=none:=by
  cases q:H a with
  | none=>rfl
  | some u =>
   obtain ⟨o',e⟩:=(I.hok a u q).isThere
   rw [m.new] at e; cases e
 have hl:h'.FunFrames (PySem.W.hideAll h' (a::frs (envOfC qual scope s0.heap.objs.size f cd::outer))) (envOfC qual scope s0.heap.objs.size f cd::outer) :=
  gG I3.stack fun L hL=>PySem.W.hideAll_none _ (Qq _ hL)
 show wpAny (model P w) (A.deeper (envOfC qual scope s0.heap.objs.size f cd)) (leaving (envOfC qual scope s0.heap.objs.size f cd) (.ref a)) _ _ { s with heap:=h' }
 refine wpAny_leaving_first (base:=PySem.W.hideAll h' (a::frs (envOfC qual scope s0.heap.objs.size f cd::outer))) I3.ok.frames hl rfl e1 (fun b o q=>PySem.W.of_hideAll _ q) (PySem.W.hideAll_none _ (by simp)) rfl rfl fun h2 lf=>?_
 refine zX (s:={ s with heap:=h' }) I3 rfl hl lf (by simp) (fun b hb=>?_) hE a0 hHa
 rcases Qj.mp hb with z | hb
 ·rw [z]; exact .inr ⟨a0,hHa⟩
 ·exact .inl hb
theorem Fun.okX {x qual:Str} {st:Stmt} {f:Addr} {fd:FuncData} {N ps:List Str} {k:Nat} {sp:Sp} (F:Fun K x qual st f fd) (S:FnScope N ps (aI st)) (len:∀ vs H Q E,sp vs H Q E->vs.length=ps.length)
  (hbody:∀ (cdv:Value) (A:Around) (outer:List Env) (s:Shared) (H:Hp) (vs:List V) (Q:VK) (E:XK),Room k (A.deeper (envOfC qual (aI st) s.heap.objs.size f cdv))->sp vs H Q E ->
   ∃ t,PSs (nD (CX1 P w) P w K mg base N qual (aI st) f cdv A outer s H E) (hG st) t/\t { nx:=fun _ H'=>Q .non H',rt:=Q } (start N vs) H):FnOk P w K mg base (CX1 P w) (k+1) f fd ps sp:=by
 obtain ⟨oc,od,kV,doc,pm,an,cdv,ct,osl,rfl,lk,hcd⟩:=F.ex
 exact aBx lk hcd S len fun A outer s H vs Q E hr hsp=>hbody cdv A outer s H vs Q E hr hsp
end
abbrev vbm:List Value:=[.type "ValueError",.type "Exception",.type "BaseException",.type "object"]
def qns:List Str:=["__init__", "__getattribute__", "__getattr__", "__class__"]
inductive TailN (h:Heap) (bmB:List Value):List Value->Prop
 | base:TailN h bmB bmB
 | own {A:Addr} {c0:Value} {dd:Option Addr} {cd:ClassData} {sl:Array (Option Value)} {mA:Str->Option Value} {tl:List Value} :
   h.get? A=some { cls:=c0,dict:=dd,data:=.cls cd,slots:=sl }->h.Ns cd.ns mA->(∀ n∈qns,mA n=none)->TailN h bmB tl->TailN h bmB (.ref A::tl)
theorem TailN.tail {h:Heap} {bmB tl:List Value} (T:TailN h bmB tl):OwnTail h bmB tl:=by
 induction T with
 | base=>exact .base
 | own hA hN hq _ ih=>exact .own hA hN (hq _ (.head _)) ih
theorem TailN.keeps {h h':Heap} {bmB tl:List Value} (T:TailN h bmB tl) (hk:∀ b o,h.get? b=some o->h'.get? b=some o):TailN h' bmB tl:=by
 induction T with
 | base=>exact .base
 | own hA hN hq _ ih=>exact .own (hk _ _ hA) (hN.keeps hk) hq ih
def EcH (h:Heap) (C:Addr) (bm:List Value):Prop:=∃ N nm q bs hdct sn sub ab col dd k0 k1 k2 k3 k5 mN,h.get? C=some (excClassObj nm q C N bs bm hdct sn sub ab col dd k0 k1 k2 k3 k5 "ValueError.__new__")/\h.Ns N mN/\(∀ n∈qns,mN n=none)/\TailN h vbm bm
theorem EcH.keeps {h h':Heap} {C:Addr} {bm:List Value} (x:EcH h C bm) (hk:∀ b o,h.get? b=some o->h'.get? b=some o):EcH h' C bm:=by
 obtain ⟨N,nm,q,bs,hdct,sn,sub,ab,col,dd,k0,k1,k2,k3,k5,mN,hC,hN,hq,T⟩:=x
 exact ⟨N,nm,q,bs,hdct,sn,sub,ab,col,dd,k0,k1,k2,k3,k5,mN,hk _ _ hC,hN.keeps hk,hq,T.keeps hk⟩
section
variable {M:Model} {prog:Program} {w:World} {A:Around} {E:Value->Shared->Prop} {h:Heap} {g:Array GenState} {d:Drawn} {t:Nat} {os:OsState} {a C:Addr} {o:Obj} {bm:List Value}
theorem aCZ {bmB tl:List Value} {n:Str} {y:Option Value} {Q:Option Value->Shared->Prop} (hn:n∈qns) (T:TailN h bmB tl) (hrest:lookupAlong bmB n=pure y) (hq:Q y ⟨h,g,d,t,os⟩) :
  wpAny M A (lookupAlong tl n) Q E ⟨h,g,d,t,os⟩:=by
 induction T with
 | base=>rw [hrest]; exact wpAny_pure hq
 | own hA hN hni _ ih =>
  rw [lookupAlong_cons]
  refine wpAny_bind (wpAny_classOwn_cls hA hN ?_)
  rw [hni n hn]
  exact ih
theorem yI {n:Str} {y:Option Value} {Q:Option Value->Shared->Prop} (hn:n∈qns) (x:EcH h C bm) (hB:typeLookup (.type "ValueError") n=pure y) (hq:Q y ⟨h,g,d,t,os⟩):wpAny M A (typeLookup (.ref C) n) Q E ⟨h,g,d,t,os⟩:=by
 obtain ⟨N,nm,q,bs,hdct,sn,sub,ab,col,dd,k0,k1,k2,k3,k5,mN,hC,hN,hmN,T⟩:=x
 have hrest:lookupAlong vbm n=pure y:=by rw [typeLookup_eq,PySem.F.excBase_ValueError.mroIs] at hB; exact hB
 rw [typeLookup_eq]
 refine wpAny_bind (wpAny_mroOf_exc hC ?_)
 rw [lookupAlong_cons]
 refine wpAny_bind (wpAny_classOwn_exc hC hN ?_)
 rw [hmN n hn]
 exact aCZ hn T hrest hq
theorem wL:typeLookup (.type "ValueError") "__class__" = pure (some (.builtin "object.__class__")):=by rw [typeLookup_type,builtinLookup_eq_fast]; kernel_rfl
theorem qN {base:Value} {Q:Bool->Shared->Prop} (x:EcH h C bm) (hq:Q ((Value.ref C::bm).contains base) ⟨h,g,d,t,os⟩):wpAny M A (isSubtype (.ref C) base) Q E ⟨h,g,d,t,os⟩:=by
 obtain ⟨N,nm,q,bs,hdct,sn,sub,ab,col,dd,k0,k1,k2,k3,k5,mN,hC,hN,hmN,T⟩:=x
 exact wpAny_isSubtype_exc hC hq
theorem EcH.has {T:String} (x:EcH h C bm) (hb:vbm.contains (.type T)=true):(Value.ref C::bm).contains (.type T)=true:=by
 obtain ⟨N,nm,q,bs,hdct,sn,sub,ab,col,dd,k0,k1,k2,k3,k5,mN,hC,hN,hmN,TT⟩:=x
 rw [Zv,TT.tail.hasType hb,Bool.or_true]
theorem wM {R:Result->Shared->Prop} (x:EcH h C bm) (hx:h.get? a=some o) (hc:o.cls=.ref C) (hq:R (.ok (.ret (.ref C))) ⟨h,g,d,t,os⟩) :
  codeAny (model prog w) A (.call (.builtin "getset_descriptor.__get__") ⟨[.builtin "object.__class__",.ref a,.ref C],[]⟩) R ⟨h,g,d,t,os⟩:=by
 have hT5:(⟨h,g,d,t,os⟩:Shared).TypeIs (.builtin "object.__class__") "getset_descriptor" := PySem.F.typeOf_object_class
 have hcB:(Value.ref C::bm).contains (.type (".".intercalate ("object.__class__".cutAt '.').dropLast))=true:=by
  rw [PySem.F.owner_object_class]; exact x.has (by decide +kernel)
 refine codeAny_call_builtin PySem.F.slot_gs_get.plain PySem.F.entry_gs_get (PySem.F.slot_gs_get.check _ _ _ _ _ _ _ _ hT5 (PySem.F.args_gs_get _ _ _) ?_)
 repeat (any_goals (first | assumption | (with_reducible refine wpAny_loadPart_at hx ?_; rw [hc]) | (with_reducible refine qN x ?_; rw [hcB]) | wp_step))
 refine ⟨Code.quiet_builtin _ (by decide +kernel),codeAny_builtin PySem.F.entry_object_class ?_⟩
 repeat (any_goals (first | assumption | (with_reducible refine wpAny_loadPart_at hx ?_; rw [hc]) | wp_step))
theorem sC {tk:Tok} {Q:PySem.Fin->Shared->Prop} (x:EcH h C bm) (hx:h.get? a=some o) (hc:o.cls=.ref C) (hq:Q (.done (.ret (.ref C))) ⟨h,g,d,t,os⟩) :
  wpAny (model prog w) A (Builtin.«object.__getattribute__» ⟨[.ref a,.str "__class__" tk],[]⟩) Q E ⟨h,g,d,t,os⟩:=by
 have hT5:(⟨h,g,d,t,os⟩:Shared).TypeIs (.builtin "object.__class__") "getset_descriptor" := PySem.F.typeOf_object_class
 have f5:=PySem.F.typeOf_object_class
 have f6:=PySem.F.slot_gs_get.lookup
 have f7:=PySem.F.slot_gs_set.lookup
 have hm:("__class__" : Str)∈qns:=.tail _ (.tail _ (.tail _ (.head _)))
 repeat (any_goals (first | assumption | (with_reducible refine wpAny_loadPart_at hx ?_; rw [hc]) | with_reducible refine yI hm x wL ?_ | wp_step))
 refine wM x hx hc ?_
 repeat (any_goals (first | assumption | wp_step))
theorem yJ {nameV:Value} {Q:Unit->Shared->Prop} (x:EcH h C bm) (hx:h.get? a=some o) (hc:o.cls=.ref C) (hq:Q () ⟨h,g,d,t,os⟩):wpAny M A (checkBuiltinCall "BaseException.__getattribute__" ⟨[.ref a,nameV],[]⟩) Q E ⟨h,g,d,t,os⟩:=by
 have hk:builtinKind "BaseException.__getattribute__" = some .slot:=by decide +kernel
 have hsplit:splitId "BaseException.__getattribute__" = some ("BaseException", "__getattribute__"):=by decide +kernel
 have hcB:(Value.ref C::bm).contains (.type "BaseException")=true:=x.has (by decide +kernel)
 have ha:=PySem.F.args_bexc_ga (.ref a) nameV
 simp only [checkBuiltinCall,hk,hsplit]
 refine wpAny_bind ?_
 ·unfold isInstance
  repeat (first | (with_reducible refine wpAny_loadPart_at hx ?_; rw [hc]) | (with_reducible refine qN x ?_; rw [hcB]) | wp_step)
  exact hq
theorem yK {tk:Tok} {Q:Value->Shared->Prop} (x:EcH h C bm) (hx:h.get? a=some o) (hc:o.cls=.ref C) (hq:Q (.ref C) ⟨h,g,d,t,os⟩):wpAny (model prog w) A (getAttrBy (.ref a) (.str "__class__" tk) false) Q E ⟨h,g,d,t,os⟩:=by
 have FB:=PySem.F.attrBase_ValueError
 have f3:=FB.ga.bind (.ref a)
 have hx2:(Value.builtin "BaseException.__getattribute__" == Value.builtin "object.__getattribute__")=false:=by decide +kernel
 have hx1:(onTheHeap (Value.ref C) && Value.builtin "BaseException.__getattribute__" == Value.builtin "object.__getattribute__")=false:=by rw [hx2]; rfl
 have hm1:("__getattribute__" : Str)∈qns:=.tail _ (.head _)
 have hm2:("__getattr__" : Str)∈qns:=.tail _ (.tail _ (.head _))
 repeat (any_goals (first | assumption | (with_reducible refine wpAny_loadPart_at hx ?_; rw [hc]) | with_reducible refine yI hm1 x FB.ga.lookup ?_ | with_reducible refine yI hm2 x FB.noGetattr ?_ | wp_step))
 refine codeAny_call_builtin FB.ga.plain PySem.F.entry_bexc_ga (yJ x hx hc (sC x hx hc ?_))
 repeat (any_goals (first | assumption | wp_step))
theorem uI {Q:Option Value->Shared->Prop} (x:EcH h C bm) (hx:h.get? a=some o) (hc:o.cls=.ref C) (hq:Q (some (.ref C)) ⟨h,g,d,t+1,os⟩):wpAny (model prog w) A (getAttr? (.ref a) "__class__") Q E ⟨h,g,d,t,os⟩:=by
 unfold getAttr? getAttrBy?
 repeat (any_goals (first | assumption | with_reducible apply yK x hx hc | wp_step))
theorem aC0 {C':Addr} {dd':Option Addr} {cd':ClassData} {sl':Array (Option Value)} {Q:Value->Shared->Prop} (x:EcH h C bm) (hx:h.get? a=some o) (hc:o.cls=.ref C) (hC':h.get? C'=some { cls:=.type "type",dict:=dd',data:=.cls cd',slots:=sl' })
  (hq:∀ t',Q (.bool ((Value.ref C::bm).contains (.ref C'))) ⟨h,g,d,t',os⟩):wpAny (model prog w) A (call (.builtin "isinstance") [.ref a,.ref C']) Q E ⟨h,g,d,t,os⟩:=by
 have f3:=tc_sub
 have hT':(⟨h,g,d,t,os⟩:Shared).TypeIs (.ref C') "type" := ⟨_,hC',rfl⟩
 obtain ⟨N,nm,q,bs,hdct,sn,sub,ab,col,dd,k0,k1,k2,k3,k5,mN,hC,_⟩:=id x
 refine PyProof.Rows.call_isinstance_of ?_ (by intro e; cases e)
 by_cases e:C=C'
 ·subst e
  have hb:(Value.ref C::bm).contains (.ref C)=true:=by simp
  rw [hb] at hq
  unfold Builtin.«isinstance.nested»
  repeat (any_goals (first | assumption | (with_reducible refine wpAny_loadPart_at hx ?_; rw [hc]) | wp_step))
  exact hq _
 ·have hne:(Value.ref C==Value.ref C')=false:=by simp [e]
  cases hb:(Value.ref C::bm).contains (.ref C') with
  | true =>
   rw [hb] at hq
   unfold Builtin.«isinstance.nested»
   repeat (any_goals (first | assumption | (with_reducible refine wpAny_loadPart_at hx ?_; rw [hc]) | (with_reducible refine wpAny_loadPart_at hC' ?_) | (with_reducible refine qN x ?_; rw [hb]) | wp_step))
   exact hq _
  | false =>
   rw [hb] at hq
   have hTC:∀ t',(⟨h,g,d,t',os⟩:Shared).TypeIs (.ref C) "type" := fun _=>⟨_,hC,rfl⟩
   unfold Builtin.«isinstance.nested»
   repeat (any_goals (first | assumption | (with_reducible refine wpAny_loadPart_at hx ?_; rw [hc]) | (with_reducible refine wpAny_loadPart_at hC' ?_) | (with_reducible refine qN x ?_; rw [hb]) | with_reducible refine uI x hx hc ?_ | (with_reducible refine wpAny_loadPart_at hC ?_) | wp_step))
   exact hq _
theorem aEa {Q:Value->Shared->Prop} (x:EcH h C bm) (hx:h.get? a=some o) (hc:o.cls=.ref C)
  (hq:∀ t',Q (.bool true) ⟨h,g,d,t',os⟩):wpAny (model prog w) A (call (.builtin "isinstance") [.ref a,.type "ValueError"]) Q E ⟨h,g,d,t,os⟩:=by
 have f3:=tc_sub
 have hty:typeOf (.type "ValueError")=pure (.type "type"):=by kernel_rfl
 have hne:(Value.ref C==Value.type "ValueError")=false:=by rfl
 have hb:(Value.ref C::bm).contains (.type "ValueError")=true:=x.has (by decide +kernel)
 refine PyProof.Rows.call_isinstance_of ?_ (by intro e; cases e)
 unfold Builtin.«isinstance.nested»
 repeat (any_goals (first | assumption | (with_reducible refine wpAny_loadPart_at hx ?_; rw [hc]) | (with_reducible refine qN x ?_; rw [hb]) | wp_step))
 exact hq _
end
def ExO (C a:Addr):HO:=.ext fun h=>∃ o,h.get? a=some o/\o.cls=.ref C
section
variable {X:Cx}
theorem Inv.exo {pins:List (Addr×Obj)} {σ:St} {H:Hp} {s:Shared} {a C:Addr} (I:Inv X pins σ H s) (h:H a=some (ExO C a)):∃ o,s.heap.get? a=some o/\o.cls=.ref C:=(I.hok a _ h).1
theorem nN {K:PySem.W.Frag} {C':Addr} (hK:X.K=K) (hC':∀ h:Heap,K.In h->∃ dd cd sl,h.get? C'=some { cls:=.type "type",dict:=dd,data:=.cls cd,slots:=sl }) :
  eJ X (.builtin "isinstance") (fun xs H Q=>∃ a C bm,xs = [.ref a,.ref C']/\H a=some (ExO C a)/\(∀ h:Heap,K.In h->EcH h C bm)/\Q (.bl ((Value.ref C::bm).contains (.ref C'))) H):=by
 subst hK
 intro pins s σ H xs us Q I r h
 obtain ⟨a,C,bm,rfl,hH,hE,q⟩:=h
 obtain ⟨u,t,rfl,rx,rt⟩:=lD r
 cases rx
 cases rt
 obtain ⟨o,ho,hc⟩:=I.exo hH
 obtain ⟨dd,cd,sl,h2⟩:=hC' _ I.kIn
 obtain ⟨hh,g,d,tk,os⟩:=s
 exact aC0 (hE _ I.kIn) ho hc h2 fun t'=>⟨.bl _,H,I.tok _,rfl,q⟩
theorem wN {K:PySem.W.Frag} (hK:X.K=K) :
  eJ X (.builtin "isinstance") (fun xs H Q=>∃ a C bm,xs = [.ref a,.ty "ValueError"]/\H a=some (ExO C a)/\(∀ h:Heap,K.In h->EcH h C bm)/\Q (.bl true) H):=by
 subst hK
 intro pins s σ H xs us Q I r h
 obtain ⟨a,C,bm,rfl,hH,hE,q⟩:=h
 obtain ⟨u,t,rfl,rx,rt⟩:=lD r
 cases rx
 cases rt
 obtain ⟨o,ho,hc⟩:=I.exo hH
 obtain ⟨hh,g,d,tk,os⟩:=s
 exact aEa (hE _ I.kIn) ho hc fun t'=>⟨.bl _,H,I.tok _,rfl,q⟩
def aEb (C:Addr) (E:XK):TS:=fun _ _ H=>E (.ref C) none H
theorem qO {x txt:Str} {np cpos pos p2:Pos} {k:Nat} {C:Addr} {bm:List Value} {E:XK} (hEc:∀ h:Heap,X.K.In h->EcH h C bm) (hg:Gl X x) (hm:X.mg x=some (.ref C)) (hc:X.calm=true)
  (hR:∀ (pins:List (Addr×Obj)) (σ:St) (H:Hp) (s:Shared) (h':Heap) (a:Addr) (vs:List Value),Inv X pins σ H s->Heap.MadeExcOf s.heap h' a (.ref C) vs->E (.ref C) none H->X.xe (.ref a) { s with heap:=h' })
  (hdb:(x==("__debug__" : Str))=false:=by decide) :
  PS X (.Raise (some (.Call (.Name x np) [.Constant (.str txt) k p2] [] cpos)) none pos) (aEb C E):=by
 intro pins s σ H D I h
 obtain ⟨N,nm,q,bs,hdct,sn,sub,ab,col,dd,k0,k1,k2,k3,k5,mN,hC,hN,hq,T⟩:=hEc _ I.ok.mod.kin
 refine wpAny_Raise_call_subU (C:=C) (nm:=nm) (q:=q) (N:=N) (bs:=bs) (bm:=bm) (hdct:=hdct) (sn:=sn) (sub:=sub) (ab:=ab) (col:=col) (dd:=dd) (k0:=k0) (k1:=k1) (k2:=k2) (k3:=k3) (k5:=k5) (mN:=mN)
  PySem.F.excBase_ValueError (by decide +kernel) PySem.F.excBase_ValueError (T.tail.hasType (by decide +kernel)) (I.ok.hd hc) rfl (hq _ (.head _)) ?_
 refine nC I hg hm ⟨rfl,?_⟩ hdb
 have ha:PA X [.Constant (.str txt) k p2] (gD (tC (.str txt)) jK):=aA gB aB
 refine Calls.evalArgs_plain (wpAny_mono (ha cpos pins s σ H (fun xs H1=>xs.length=1/\E (.ref C) none H1) I ⟨rfl,h⟩) (fun vs s₂ hx9=>?_) fun _ _ y=>y)
 obtain ⟨xs,H1,I1,r,z1,z⟩:=hx9
 have hkk:∀ b o,X.base.get? b=some o->s₂.heap.get? b=some o:=I1.bk
 have hl:=r.length
 refine ⟨rfl,?_,hkk _ _ hC,hN.keeps hkk,T.tail.keeps hkk,fun h' a' m=>hR pins σ H1 s₂ h' a' _ I1 m z⟩
 show vs.length<=_
 rw [sizeLine_eq]
 omega
end
section
variable {P:Program} {w:World} {l:List Env} {H H':Hp} {s s':Shared} {E:XK} {a T C:Addr}
theorem wO {h' bs:Heap} (un:Un (frs l) [] H H' s.heap s'.heap) (os:s'.os=s.os) (bare:AllBare s'.gens) (hok:HOk P w H' s'.heap) (na:s.heap.get? a=none) (nT:s.heap.get? T=none) (hHa:H' a=none) (hHT:H' T=none) (hE:E (.ref C) none H')
  (hb:bs=PySem.W.hideAll s'.heap (a::T::frs l)) (hl:s'.heap.FunFrames bs l) (frf:∀ b∈frs l,H' b=none) (x:Heap.Left bs l a (.ref C) s'.heap h'):CX1 P w l H s E (.ref a) { s' with heap:=h' }:=by
 obtain ⟨k1,k2,T',fl,nT',hT'⟩:=qM hb hl x (by simp)
 have nh:∀ b o,s.heap.get? b=some o->b∉frs l->b∉a::T::frs l:=fun b o e nb z=>by
  rcases Qj.mp z with q | z
  ·rw [q,na] at e; cases e
  rcases Qj.mp z with q | z
  ·rw [q,nT] at e; cases e
  ·exact nb z
 have trk:∀ b u,H' b=some u->b∉a::T::frs l:=fun b u e z=>by
  rcases Qj.mp z with q | z
  ·rw [q,hHa] at e; cases e
  rcases Qj.mp z with q | z
  ·rw [q,hHT] at e; cases e
  ·rw [frf b z] at e; cases e
 have T0:s.heap.get? T'=none/\H' T'=none:=by
  rcases hT' with z | z
  ·rcases Qj.mp z with q | z
   ·rw [q]; exact ⟨na,hHa⟩
   rcases Qj.mp z with q | z
   ·rw [q]; exact ⟨nT,hHT⟩
   ·exact absurd z nT'
  ·refine ⟨?_,?_⟩
   ·cases q:s.heap.get? T' with
    | none=>rfl
    | some o =>
     obtain ⟨o',e⟩:=un.there T' o q (by simp)
     rw [z] at e; cases e
   ·cases q:H' T' with
    | none=>rfl
    | some u =>
     obtain ⟨o',e⟩:=(hok T' u q).isThere
     rw [show s'.heap.get? T'=none from z] at e; cases e
 refine ⟨a,T',C,H',rfl,os,bare,⟨fun b o e n nb _=>?_,fun b o e n hb' _=>?_,un.free,fun b o e _=>?_,un.tups,un.frzs,un.tbls⟩,fun b u e=>?_,fl,na,T0.1,hHa,T0.2,hE⟩
 ·exact k1 b o (nh b o e nb) (un.keep b o e n nb (by simp))
 ·obtain ⟨sl,q⟩:=un.slot b o e n hb' (by simp)
  obtain ⟨sl',q'⟩:=k2 b _ hb' q
  exact ⟨sl',q'⟩
 ·obtain ⟨o',q⟩:=un.there b o e (by simp)
  by_cases hb':b∈frs l
  ·obtain ⟨sl,q'⟩:=k2 b _ hb' q
   exact ⟨_,q'⟩
  ·exact ⟨o',k1 b o' (nh b o e hb') q⟩
 ·refine (hok b u e).stay (fun c v hc q=>k1 c v ?_ q) (fun _ q=>q) fun _ _ q=>q
  rcases hc with z | z
  ·rw [z]; exact trk b u e
  ·exact trk c _ z
theorem zW.traced {h bs:Heap} {cls:Value} (fl:zW h a cls T) (hT:bs.get? T=none):∃ a0,h.TracedW bs a cls a0:=by
 obtain ⟨oe,vs,oT,ts,e1,e2,e3,e4,e6,e7,e8,e9⟩:=fl
 have hs:1 < vs.size:=(Array.getElem?_eq_some_iff.mp e4).1
 exact ⟨vs[0]'(by omega),oe,vs,T,oT,ts,e1,⟨e2,Array.getElem?_eq_getElem _⟩,e3,e4,hT,e6,e7,e8,e9⟩
end
section
variable {X:Cx} {pins:List (Addr×Obj)} {σ:St} {H:Hp} {s s':Shared} {E:XK} {e:Value} {M:Model} {A:Around} {F:Value->Shared->Prop} {L:Addr}
theorem Inv.caught (I:Inv X pins σ H s) (h:CX1 X.prog X.w X.stack H s E e s'):∃ (a C:Addr) (H':Hp),e=.ref a/\Inv X pins σ H' s'/\s.heap.get? a=none/\H' a=none/\E (.ref C) none H'/\∃ o,s'.heap.get? a=some o/\o.cls=.ref C:=by
 obtain ⟨a,T,C,H',rfl,os,bare,un,hok,⟨oe,vs,oT,ts,e1,e2,_⟩,na,nT,hHa,hHT,hE⟩:=h
 exact ⟨a,C,H',rfl,I.call' (ch:=[]) os un hok bare (fun b z=>absurd z (by simp)),na,hHa,hE,oe,e1,e2⟩
theorem aBL (hst:X.stack=X.env::X.outer) (hf:X.env.frame=some L) (hfr:A.frames=some X.stack) (I:Inv X pins σ H s) (h:CX1 X.prog X.w X.stack H s E e s') :
  wpAny M A (noteFrame e X.env) (fun _ s2=>wpAny M A (setFlight e none) (fun _ s3=>CX1 X.prog X.w X.stack H s E e s3) F s2) F s':=by
 obtain ⟨a,T,C,H',rfl,os,bare,un,hok,fl,na,nT,hHa,hHT,hE⟩:=h
 have I3:Inv X pins σ H' s':=I.call' (ch:=[]) os un hok bare (fun b z=>absurd z (by simp))
 have hl:s'.heap.FunFrames (PySem.W.hideAll s'.heap (a::T::frs X.stack)) X.stack :=
  gG I3.stack fun L hL=>PySem.W.hideAll_none _ (Qq _ (Qq _ hL))
 obtain ⟨a0,tr⟩:=fl.traced (bs:=PySem.W.hideAll s'.heap (a::T::frs X.stack)) (PySem.W.hideAll_none _ (by simp))
 have fin:=fun (h':Heap)=>wO (P:=X.prog) (w:=X.w) (h':=h') un os bare hok na nT hHa hHT hE rfl hl I3.stkFree
 generalize hbs:PySem.W.hideAll s'.heap (a::T::frs X.stack)=bs at *
 have kb:bs.StaysIn s'.heap:=fun b o q=>by rw [<- hbs] at q; exact PySem.W.of_hideAll _ q
 have en:bs.get? a=none:=by rw [<- hbs]; exact PySem.W.hideAll_none _ (by simp)
 have hl2:=hl
 rw [hst] at hl2
 refine wpAny_looks_onW (base:=bs) (outer:=X.outer) (by rw [<- hst]; exact hfr) hf ⟨kb,en,hl2,tr⟩ fun h1 held up1=>?_
 refine wpAny_landsW held fun h2 fly up2=>?_
 obtain ⟨f1,f2,f3,f4⟩:=fly.flying
 exact fin h2 ⟨f1,by rw [hst]; exact f3,f4,up1.trans up2⟩
theorem aC1 (I:Inv X pins σ H s) (h:CX1 X.prog X.w X.stack H s E e s'):wpAny M A (setFlight e none) (fun _ s3=>CX1 X.prog X.w X.stack H s E e s3) F s':=by
 obtain ⟨a,T,C,H',rfl,os,bare,un,hok,fl,na,nT,hHa,hHT,hE⟩:=h
 have I3:Inv X pins σ H' s':=I.call' (ch:=[]) os un hok bare (fun b z=>absurd z (by simp))
 have hl:s'.heap.FunFrames (PySem.W.hideAll s'.heap (a::T::frs X.stack)) X.stack :=
  gG I3.stack fun L hL=>PySem.W.hideAll_none _ (Qq _ (Qq _ hL))
 obtain ⟨a0,tr⟩:=fl.traced (bs:=PySem.W.hideAll s'.heap (a::T::frs X.stack)) (PySem.W.hideAll_none _ (by simp))
 have fin:=fun (h':Heap)=>wO (P:=X.prog) (w:=X.w) (h':=h') un os bare hok na nT hHa hHT hE rfl hl I3.stkFree
 generalize hbs:PySem.W.hideAll s'.heap (a::T::frs X.stack)=bs at *
 have kb:bs.StaysIn s'.heap:=fun b o q=>by rw [<- hbs] at q; exact PySem.W.of_hideAll _ q
 refine wpAny_setFlight_noneW kb hl tr.at fun h1 k1 k2 k3 k4=>fin h1 ⟨k1,k2,?_,fun b o q n=>⟨o.slots,k4 b o q n⟩⟩
 obtain ⟨oe,vs,T,oT,ts,he,hc,r⟩:=k3
 exact ⟨oe,vs,T,oT,ts,he,hc.1,r⟩
theorem Inv.trackN {D:Addr} {u:HO} (I:Inv X pins σ H s) (new:bX X.prog X.w (upd H D u) s.heap D u) (hn:H D=none) (hL:D≠X.env.locals)
  (h1:X.s₀.heap.get? D=none) (h2:∀ x c,X.env.cells.lookup x=some c->c≠D) (h3:∀ p∈X.pn++pins,p.1≠D):Inv X pins σ (upd H D u) s:=by
 have ne:∀ b v,H b=some v->b≠D:=fun b v e z=>by rw [z,hn] at e; cases e
 refine ⟨I.ok,I.os,I.bare,⟨I.base.keep,I.base.slot,fun b o q n hx=>?_,I.base.there,fun b xs q=>?_,fun b o v q=>?_,fun b ps q=>?_⟩,I.loc,I.cell,?_,fun x c q=>?_,fun p hp=>?_,fun b v q=>?_,I.len⟩
 ·rw [aH (fun z=>by rw [z,h1] at q; cases q)]; exact I.base.free b o q n hx
 ·have:=I.base.tups b xs q
  rw [aH (ne b _ this)]; exact this
 ·have:=I.base.frzs b o v q
  rw [aH (ne b _ this)]; exact this
 ·obtain ⟨more,this⟩:=I.base.tbls b ps q
  exact ⟨more,by rw [aH (ne b _ this)]; exact this⟩
 ·rw [aH (Ne.symm hL)]; exact I.free
 ·rw [aH (h2 x c q)]; exact I.freeC x c q
 ·obtain ⟨p1,p2,p3⟩:=I.pin p hp
  exact ⟨p1,by rw [aH (h3 p hp)]; exact p2,p3⟩
 ·by_cases hb:b=D
  ·subst hb
   rw [aC] at q; cases q
   exact new
  ·rw [aH hb] at q
   exact (I.hok b v q).stay (fun c v _ q=>q) (fun c q=>by rw [aH (ne c _ q)]; exact q) fun c xs q=>by rw [aH (ne c _ q)]; exact q
theorem aC2 {i:Nat} {x:Str} {pos:Pos} {Q:Unit->Shared->Prop} (I:Inv X pins σ H s) (hN:X.N.Nodup) (hi:X.N[i]?=some x) (hk:X.env.scope.names.lookup x=some .local)
  (h:∀ s',Inv X pins (σ.set i none) H s'->Q () s'):wpAny M A (do bindName X.env x .none; unbindBehindTheSuite X.env x pos) Q F s:=by
 obtain ⟨m,hn,hl⟩:=id I.loc
 have hcls:(X.env.scope.kind==.class || (X.env.scope.kind==.module && X.env.locals !=X.env.globals))=false:=by rw [I.ok.kind]; rfl
 have hiσ:i < σ.length:=by rw [I.len]; exact (Qd.mp hi).1
 have cne:=I.cne
 obtain ⟨oL,_,_,hoL,_⟩:=id hn
 refine wpAny_nameGoes_keeps hk hn hcls fun h' v hn' hs=>?_
 refine h _ ⟨I.ok,I.os,I.bare,⟨fun b o e n hb hx=>?_,fun b o e n hb hx=>?_,I.base.free,fun b o e hx=>?_,I.base.tups,I.base.frzs,I.base.tbls⟩,⟨_,hn',fun j y v' e1 e2 e3=>?_⟩,fun y c e=>?_,I.free,I.freeC,fun p hp=>?_,fun b ob e=>?_,by simpa using I.len⟩
 ·exact (hs.2 b (Jb (Qo (Qm e) I.ok.above))).trans (I.base.keep b o e n hb hx)
 ·obtain ⟨sl,e1⟩:=I.base.slot b o e n hb hx
  exact ⟨sl,(hs.2 b (Jb (Qo (Qm e) I.ok.above))).trans e1⟩
 ·obtain ⟨o',e1⟩:=I.base.there b o e hx
  exact ⟨o',(hs.2 b (Jb (Qo (Qm e) I.ok.above))).trans e1⟩
 ·by_cases hj:j=i
  ·subst hj
   rw [Xp hiσ] at e2
   cases e2
  ·rw [Zm (Ne.symm hj)] at e2
   obtain ⟨u',r',q⟩:=hl j y v' e1 e2 e3
   refine ⟨u',r',?_⟩
   rcases q with ⟨k,e⟩ | ⟨k,c,e,z⟩
   ·refine .inl ⟨k,?_⟩
    have:y≠x:=fun e=>hj (pS hN e1 (e ▸ hi))
    simp [this,e]
   ·exact .inr ⟨k,c,e,z.sameBut hs (cne _ _ e)⟩
 ·obtain ⟨v',z⟩:=I.cell y c e
  exact ⟨v',z.sameBut hs (cne _ _ e)⟩
 ·obtain ⟨p1,p2,p3,p4⟩:=I.pin p hp
  exact ⟨(hs.2 _ p3).trans p1,p2,p3,p4⟩
 ·refine (I.hok b ob e).stay (fun c w' hc q=>(hs.2 c ?_).trans q) (fun _ q=>q) fun _ _ q=>q
  rintro rfl
  rcases hc with z | hc
  ·rw [<- z,I.free] at e; cases e
  ·rw [I.free] at hc; cases hc
end
section
variable {M:Model} {A:Around} {E:Value->Shared->Prop} {h:Heap} {g:Array GenState} {d:Drawn} {t:Nat} {os:OsState} {a C C':Addr} {oe:Obj} {bm bm':List Value}
theorem aEX {Q:Bool->Shared->Prop} (x:EcH h C bm) (x':EcH h C' bm') (he:h.get? a=some oe) (hc:oe.cls=.ref C) (hb:(Value.ref C::bm).contains (.ref C')=true)
  (hq:Q true ⟨h,g,d,t,os⟩):wpAny M A (excMatches (.ref a) (.ref C')) Q E ⟨h,g,d,t,os⟩:=by
 have hcB:(Value.ref C'::bm').contains (.type "BaseException")=true:=x'.has (by decide +kernel)
 have f:=tc_notTuple
 obtain ⟨N,nm,q,bs,hdct,sn,sub,ab,col,dd,k0,k1,k2,k3,k5,mN,hC',_⟩:=id x'
 unfold excMatches
 repeat (first | (with_reducible refine wpAny_loadPart_at he ?_; rw [hc]) | with_reducible refine wpAny_loadPart_at hC' ?_ | (with_reducible refine qN x' ?_; rw [hcB]) | (with_reducible refine qN x ?_; rw [hb]) | wp_step)
 exact hq
end
abbrev TB:=Ends->XK->St->Hp->Prop
def FX (X:Cx) (pins:List (Addr×Obj)) (σ:St) (EX:XK) (e:Value) (s':Shared):Prop:=∃ (H0:Hp) (s1:Shared),Inv X pins σ H0 s1/\CX1 X.prog X.w X.stack H0 s1 EX e s'
def PB (X:Cx) (st:List Stmt) (t:TB):Prop :=
 ∀ (pins:List (Addr×Obj)) (s:Shared) (σ:St) (H:Hp) (D:Ends) (EX:XK),Inv X pins σ H s->t D EX σ H->wpAny (model X.prog X.w) X.A (execs st X.env) (SP X pins D) (FX X pins σ EX) s
section
variable {X:Cx} {k:Nat} {f:Addr} {fd:FuncData} {ps:List Str} {sp:Sp} {dvs:List V} {ds:List Value} {x:Str} {p pos apos:Pos} {e:Expr} {es:List Expr} {t:TA}
theorem aC3 {pins:List (Addr×Obj)} {σ:St} {H:Hp} {s:Shared} {Q:VK} {EX:XK} (F:FnOk X.prog X.w X.K X.mg X.base (CX1 X.prog X.w) k f fd ps sp) (hr:Room k X.A) (hg:Gl X x) (hm:X.mg x=some (.ref f)) (hk:PySem.W.keepIn X.K (.ref f)=true) (hb:oW X.K fd ps ds) (hd:aY dvs ds)
  (ha:PA X.nox (e::es) t) (hdb:(x==("__debug__" : Str))=false) (he:starEach (e::es) X.env=(false,eval e X.env)::starEach es X.env) (hpl:(backTo pos (starEach es X.env)).any (·.1)=false)
  (I:Inv X pins σ H s) (h:wB sp dvs EX t σ H Q):wpAny (model X.prog X.w) X.A (eval (.Call (.Name x p) (e::es) [] pos) X.env) (EP X pins σ Q) (FX X pins σ EX) s:=by
 refine wpAny_Call_Name_kw (nC I hg hm ?_ hdb)
 refine PySem.W.callWith_K (h₀:=X.base) I.ok.mod.kin hk (wpAny_mono (ha pos pins s σ H _ (I.wish _) h) (fun us s1 ⟨vs,H1,I1',r,q⟩=>⟨I1'.kIn,?_⟩) fun _ _ z=>False.elim z) he hpl
 have I1:Inv X pins σ H1 s1:=I1'.unwish
 have r2:aY (vs++dvs) (us++ds):=r.append hd
 have hl:(us++ds).length=ps.length:=by rw [<- r2.length]; exact F.len _ _ _ _ q
 refine wpAny_call (codeAny_mono (F.run X.A X.stack s1 H1 ⟨us,[]⟩ (us++ds) (vs++dvs) Q EX hr I1.env0 (hb s1 us I1.kIn hl) r2 q) fun r s' hq=>?_)
 cases r with
 | error e=>exact ⟨H1,s1,I1,hq⟩
 | ok fl =>
  cases fl with
  | ret u=>exact I1.after hq
  | next=>exact False.elim hq
  | brk=>exact False.elim hq
  | cont=>exact False.elim hq
def aEc (sp:Sp) (dvs:List V) (t:TA):TB:=fun D EX σ H=>wB sp dvs EX t σ H fun _ H2=>D.nx σ H2
def aFA (tt:TT) (a b:TB):TB:=fun D EX σ H=>tt σ H fun c H1=>if c=true then a D EX σ H1 else b D EX σ H1
theorem uJ {pos':Pos} (F:FnOk X.prog X.w X.K X.mg X.base (CX1 X.prog X.w) k f fd ps sp) (hr:Room k X.A) (hg:Gl X x) (hm:X.mg x=some (.ref f)) (hk:PySem.W.keepIn X.K (.ref f)=true) (hb:oW X.K fd ps ds) (hd:aY dvs ds)
  (ha:PA X.nox (e::es) t) (hdb:(x==("__debug__" : Str))=false:=by decide) (he:starEach (e::es) X.env=(false,eval e X.env)::starEach es X.env:=by rfl) (hpl:(backTo pos (starEach es X.env)).any (·.1)=false:=by rfl)
  (hs:swapsWith (.Call (.Name x p) (e::es) [] pos) none pos'.line X.env=pure false:=by rfl):PB X [.Expr (.Call (.Name x p) (e::es) [] pos) pos'] (aEc sp dvs t):=by
 intro pins s σ H D EX I h
 refine wpAny_execs_cons (wpAny_Expr_any (thn (aC3 F hr hg hm hk hb hd ha hdb he hpl I h) fun v s1 hx9=>?_) I.quiet hs)
 obtain ⟨x,H1,I1,r1,q1⟩:=hx9
 exact wpAny_execs_nil ⟨σ,H1,I1,q1⟩
theorem aDC {c:Expr} {a b:List Stmt} {tt:TT} {ta tb:TB} (hc:PT X.nox c tt) (ha:PB X a ta) (hb:PB X b tb):PB X [.If c a b pos] (aFA tt ta tb):=by
 intro pins s σ H D EX I h
 refine wpAny_execs_cons (wpAny_If (wpAny_mono (hc pins s σ H _ (I.wish _) h) (fun d s1 hx9=>?_) fun _ _ z=>False.elim z))
 obtain ⟨H1,I1',q1⟩:=hx9
 have I1:Inv X pins σ H1 s1:=I1'.unwish
 have fin:∀ (l:List Stmt),(wpAny (model X.prog X.w) X.A (execs l X.env) (SP X pins D) (FX X pins σ EX) s1)->wpAny (model X.prog X.w) X.A (execs l X.env) (fun f s₁=>match f with | .next=>wpAny (model X.prog X.w) X.A (execs [] X.env) (SP X pins D) (FX X pins σ EX) s₁ | f=>SP X pins D f s₁) (FX X pins σ EX) s1:=fun l z =>
  thn z fun f s2 q=>by
   cases f with
   | next=>exact wpAny_execs_nil q
   | ret v=>exact q
   | brk=>exact q
   | cont=>exact q
 cases d with
 | true=>exact fin a (ha pins s1 σ H1 D EX I1 q1)
 | false=>exact fin b (hb pins s1 σ H1 D EX I1 q1)
def aFB (X:Cx) (C':Addr) (i j:Nat) (tb:TB):TS:=fun D σ H=>tb D (fun cls _ H2=>∃ C bm,cls=.ref C/\(∀ h:Heap,X.K.In h->EcH h C bm)/\(Value.ref C::bm).contains (.ref C')=true/\∀ a,H2 a=none->D.nx ((σ.set i (some (.ref a))).set j none) (upd H2 a (ExO C a))) σ H
theorem aEd {st:List Stmt} {tb:TB} {dn en cn:Str} {p1 p2 p3 p4 p5 p6:Pos} {i j:Nat} {C' L:Addr} {bm':List Value} (hb:PB X st tb) (hst:X.stack=X.env::X.outer) (hf:X.env.frame=some L) (hex:X.ex = [])
  (hg:Gl X dn) (hm:X.mg dn=some (.ref C')) (hC':∀ h:Heap,X.K.In h->EcH h C' bm') (hN:X.N.Nodup) (hi:X.N[i]?=some cn) (hj:X.N[j]?=some en) (hij:i≠j) (hlc:X.env.scope.names.lookup cn=some .local) (hle:X.env.scope.names.lookup en=some .local)
  (hdb:(dn==("__debug__" : Str))=false:=by decide) (hd2:(en==("__debug__" : Str))=false:=by decide) (hcd:(en==("__classdict__" : Str))=false:=by decide)
  (hs:swapsWith (.Name en p3) (some (.Name cn p2)) p4.line X.env=pure false:=by rfl) :
  PS X (.Try st [.ExceptHandler (some (.Name dn p1)) (some en) [.Assign [.Name cn p2] (.Name en p3) p4] p5] [] [] p6) (aFB X C' i j tb):=by
 intro pins s σ H D I h
 refine wpAny_Try_except (wpAny_mono (hb pins s σ H D _ I h) (fun f s1 q=>?_) fun e s1 q=>?_)
 ·cases f with
  | next=>exact wpAny_execs_nil q
  | ret v=>exact q
  | brk=>exact q
  | cont=>exact q
 obtain ⟨H0,s0,I0,q⟩:=q
 refine wpAny_mono (aBL (F:=X.xe) hst hf I.ok.frames I0 q) (fun _ s2 q2=>wpAny_mono q2 (fun _ s3 q3=>?_) fun _ _ z=>z) fun _ _ z=>z
 obtain ⟨a,_,_,rfl,_⟩:=I0.caught q3
 -- the clause is looked at with the exception held
 have okY:({ X with A:=X.A.mark (some (.ref a)),calm:=false,xe:=fun _ _=>False }:Cx).Ok :=
  ⟨I.ok.mod,I.ok.kind,I.ok.glob,I.ok.blt,I.ok.above,I.ok.inj,I.ok.has,I.ok.cab,fun z=>Bool.noConfusion (show false=true from z),I.ok.frames,I.ok.stk,I.ok.exf,I.ok.bs,I.ok.bsz,I.ok.noex,I.ok.exfs,I.ok.funs,I.ok.frf⟩
 have toY:∀ {σ':St} {H':Hp} {s':Shared},Inv X pins σ' H' s'->Inv { X with A:=X.A.mark (some (.ref a)),calm:=false,xe:=fun _ _=>False } pins σ' H' s':=fun J=>⟨okY,J.os,J.bare,J.base,J.loc,J.cell,J.free,J.freeC,J.pin,J.hok,J.len⟩
 have ofY:∀ {σ':St} {H':Hp} {s':Shared},Inv { X with A:=X.A.mark (some (.ref a)),calm:=false,xe:=fun _ _=>False } pins σ' H' s'->Inv X pins σ' H' s':=fun J=>⟨I.ok,J.os,J.bare,J.base,J.loc,J.cell,J.free,J.freeC,J.pin,J.hok,J.len⟩
 refine wpAny_handleBy_cons (codeAny_handlers_test ?_) (by intro q; cases q)
 obtain ⟨a',C,H3,ea,I3,na,hHa,⟨C1,bm,eC,hEc,hcon,_⟩,o,ho,hc⟩:=I0.caught q3
 cases ea
 cases eC
 refine nC (X:={ X with A:=X.A.mark (some (.ref a)),calm:=false,xe:=fun _ _=>False }) (toY I3) hg hm ?_ hdb
 obtain ⟨hh,gg,dd,tt,oo⟩:=s3
 refine aEX (hEc _ I3.kIn) (hC' _ I3.kIn) ho hc hcon ?_
 show codeAny _ _ _ _ _
 refine codeAny_handlers_suite_as ?_
 refine wpAny_mono (aC1 (F:=fun _ _=>False) I0 q3) (fun _ s4 q4=>?_) fun _ _ z=>False.elim z
 obtain ⟨a',C,H4,ea,I4,na,hHa,⟨C1,bm,eC,hEc,hcon,hnx⟩,o,ho,hc⟩:=I0.caught q4
 cases ea
 cases eC
 have old:∀ b o,s0.heap.get? b=some o->b≠a:=fun b o e z=>by rw [z,na] at e; cases e
 have I5:Inv X pins σ (upd H4 a (ExO C a)) s4:=by
  refine I4.trackN ⟨⟨o,ho,hc⟩,⟨o,ho⟩,fun h1 h2 ⟨o1,e1,c1⟩ k=>⟨o1,k o1 e1,c1⟩⟩ hHa ?_ ?_ (fun y c e=>?_) fun p hp=>?_
  ·obtain ⟨m,⟨oL,_,_,hoL,_⟩,_⟩:=I0.loc
   exact Ne.symm (old _ _ hoL)
  ·cases z:X.s₀.heap.get? a with
   | none=>rfl
   | some o' =>
    obtain ⟨o2,e⟩:=I0.base.there a o' z (by rw [hex]; simp)
    exact absurd rfl (old _ _ e)
  ·obtain ⟨v,oc,hoc,_⟩:=I0.cell y c e
   exact old _ _ hoc
  ·exact old _ _ (I0.pin p hp).1
 refine oF (i:=j) (v:=.ref a) I5 hN hj (.inl hle) rfl (fun s5 I6 _=>?_) (.inr hle)
 have P1:PSs { X with A:=X.A.mark (some (.ref a)),calm:=false,xe:=fun _ _=>False } [.Assign [.Name cn p2] (.Name en p3) p4] (aBq (gT j) (jL i)):=aF (aS hN hi (.inl hlc) (aBl hj (.inl hle) hd2 hcd) hs (.inr hlc))
 have jl:j < σ.length:=by rw [I4.len]; exact (Qd.mp hj).1
 refine wpAny_mono (P1 pins s5 _ _ { nx:=fun σ' H'=>σ'=(σ.set j (some (.ref a))).set i (some (.ref a))/\H'=upd H4 a (ExO C a),rt:=fun _ _=>False } (toY I6) ⟨.ref a,Xp jl,rfl,rfl⟩) (fun fl s6 q6=>?_) fun _ _ z=>False.elim z
 cases fl with
 | next =>
  obtain ⟨σ',H',I7,rfl,rfl⟩:=q6
  refine aC2 (ofY I7) hN hj hle fun s8 I8=>⟨_,_,I8,?_⟩
  have:=hnx a hHa
  rw [List.set_comm _ _ hij.symm,List.set_set]
  exact this
 | ret v=>obtain ⟨_,_,_,_,_,z⟩:=q6; exact z.elim
 | brk=>obtain ⟨_,_,_,z⟩:=q6; exact z.elim
 | cont=>obtain ⟨_,_,_,z⟩:=q6; exact z.elim
end
theorem sV {bs:List Bool}:∀ {us:List Value},aY (bs.map V.bl) us->us=bs.map Value.bool:=by
 induction bs with
 | nil=>intro us r; rw [Yk] at r; cases r; rfl
 | cons b bs ih =>
  intro us r
  rw [Jf] at r
  cases r with
  | cons r1 r2 =>
   have e:_=Value.bool b:=r1
   rw [Jf,<- ih r2,e]
theorem wP {bs:List Bool} {k:Bool} {y:Value} (hy:y∈bs.map Value.bool) (A:Around) (s:Shared):SeqAt.EqAt A s y (.bool k) (isBoolOf k y):=by
 obtain ⟨b,_,rfl⟩:=Jw.mp hy
 exact SeqAt.EqAt.bool_bool b k
section
variable {X:Cx} {K:PySem.W.Frag}
theorem yL (hK:X.K=K):MtR X "list.count" (fun x vs H Q=>∃ (a:Addr) (bs:List Bool) (k:Bool),x=.ref a/\vs = [.bl k]/\SqL K H a (bs.map V.bl)/\Q (.int (bs.count k:Nat)) H):=by
 subst hK
 intro pins s σ H x xs v us Q I rx r h
 obtain ⟨a,bs,k,rfl,rfl,ha,q⟩:=h
 obtain ⟨u,rfl,e⟩:=gY r
 cases e
 cases rx
 obtain ⟨its,rv,⟨⟨cls,dd,data,sl⟩,n,ho,hc,hdd,hd⟩,hzz⟩:=I.list ha
 simp only at hc hd
 subst hc hd
 obtain rfl:=sV rv
 refine call_meets PySem.F.slot_list_count ⟨_,ho,rfl⟩ PySem.F.entry_list_count (PySem.F.args_list_count_2 _ _) (SeqAt.list_countAt a (bs.map Value.bool).toArray n dd sl (.bool k) (isBoolOf k)) ⟨ho,fun y hy=>wP (by simpa using hy) _ _,?_⟩
 have e:((bs.map Value.bool).toArray.toList.countP (isBoolOf k))=bs.count k:=by
  rw [Zr,List.countP_map]
  rfl
 rw [e]
 exact ⟨.int _,H,I.tok _,⟨_,rfl⟩,q⟩
theorem yM (hK:X.K=K):MtR X "list.index" (fun x vs H Q=>∃ (a:Addr) (bs:List Bool) (k:Bool) (j:Nat),x=.ref a/\vs = [.bl k]/\SqL K H a (bs.map V.bl)/\bs[j]?=some k/\(∀ m,m < j->bs[m]?≠some k)/\Q (.int (j:Nat)) H):=by
 subst hK
 intro pins s σ H x xs v us Q I rx r h
 obtain ⟨a,bs,k,j,rfl,rfl,ha,hj,hno,q⟩:=h
 obtain ⟨u,rfl,e⟩:=gY r
 cases e
 cases rx
 obtain ⟨its,rv,⟨⟨cls,dd,data,sl⟩,n,ho,hc,hdd,hd⟩,hzz⟩:=I.list ha
 simp only at hc hd
 subst hc hd
 obtain rfl:=sV rv
 have hjl:j < bs.length:=(Qd.mp hj).1
 have hzl:bs.length<=sizeLine:=by rw [Qb] at hzz; exact hzz
 have val:∀ m (hm:m < (bs.map Value.bool).toArray.size),isBoolOf k (bs.map Value.bool).toArray[m]=decide (bs[m]?=some k):=fun m hm=>by
  have hmn:m < bs.length:=by simpa using hm
  have e:(bs.map Value.bool).toArray[m]=Value.bool bs[m]:=by simp
  rw [e,Qc hmn]
  unfold isBoolOf
  by_cases z:bs[m]=k
  ·simp [z]
  ·simp [z]
 refine call_meets PySem.F.slot_list_index ⟨_,ho,rfl⟩ PySem.F.entry_list_index (PySem.F.args_list_index_2 _ _) (SeqAt.list_indexAt a (bs.map Value.bool).toArray n dd sl (.bool k) (isBoolOf k) j (by simp; omega) (by rw [sizeLine_eq] at hzl; omega) ?_ ?_) ⟨ho,fun y hy=>wP (by simpa using hy) _ _,?_⟩
 ·rw [val,hj]; simp
 ·intro m hm hlt
  rw [val]
  exact decide_eq_false (hno m hlt)
 ·exact ⟨.int _,H,I.tok _,⟨_,rfl⟩,q⟩
end
structure PEo (X:Cx) (e:Expr) (t:TE):Prop where
 go:PE X e t
structure PAo (X:Cx) (es:List Expr) (t:TA):Prop where
 go:PA X es t
structure PSo (X:Cx) (st:Stmt) (t:TS):Prop where
 go:PS X st t
structure PSso (X:Cx) (sts:List Stmt) (t:TS):Prop where
 go:PSs X sts t
section
variable {X:Cx} {pos:Pos} {e a b:Expr} {es:List Expr} {te ta tb:TE} {t:TA} {st:Stmt} {kY:List Stmt} {ts us:TS}
theorem aBM (h:PSo X st ts):PSso X [st] ts:=⟨aF h.go⟩
theorem kA (h:PSo X st ts) (r:PSso X kY us):PSso X (st::kY) (aBo ts us):=⟨aE h.go r.go⟩
end
def tDt (K:PySem.W.Frag) (Z:List Addr) (S:St->Prop) (d:PyData):TE:=fun σ H Q=>S σ/\Fx Z H/\∀ v H',aD H H'->Den K (Vw Z H') d v->Q v H'
def tDA (K:PySem.W.Frag) (Z:List Addr) (S:St->Prop) (ds:List PyData):TA:=fun σ H Q=>S σ/\Fx Z H/\∀ vs H',aD H H'->aU K (Vw Z H') ds vs->Q vs H'
structure Dt (X:Cx) (K:PySem.W.Frag) (Z:List Addr) (S:St->Prop) (e:Expr) (d:PyData):Prop where
 go:PE X e (tDt K Z S d)
structure DA (X:Cx) (K:PySem.W.Frag) (Z:List Addr) (S:St->Prop) (es:List Expr) (ds:List PyData):Prop where
 go:PA X es (tDA K Z S ds)
section
variable {X:Cx} {K:PySem.W.Frag} {Z:List Addr} {S:St->Prop} {te:TE} {pos:Pos} {e a b:Expr} {es:List Expr} {d:PyData} {ds:List PyData}
theorem qP {H:Hp} {xs:List V} (h:aU K H ds xs):∀ n,aU K H (List.replicate n ds).flatten (List.replicate n xs).flatten
 | 0=>aN.mpr rfl
 | n+1=>by
  rw [Xc,Xc,Xh,Xh]
  exact bC h (qP h n)
theorem PSso.ex {sts:List Stmt} {t:TS} {R:TS->Prop} (h:PSso X sts t) (r:R t):∃ t,PSs X sts t/\R t:=⟨t,h.go,r⟩
end
section
variable {X:Cx} {tg l:Expr} {body:List Stmt} {tl:TE} {g:TG} {tb:TS} {pos:Pos}
end
def wQ (e:DictEntry):Bool:=match e.key with
 | .str _ _=>true
 | _=>false
def ecB (K:PySem.W.Frag) (C:Addr) (bm:List Value):Bool:=match K.lookup C with
 | some ⟨.type "type", _, .cls cd, sl⟩ => (match sl.toList with
   | [_, _, _, _, some (.builtin n), _] => n == "ValueError.__new__" && cd.mro == .ref C :: bm && !cd.hasDel && (match K.lookup cd.ns with
     | some ⟨_,_,.dict es _,_⟩=>es.toList.all wQ && qns.all (fun n=>(es.toList.find? (·.key.isStr n)).isNone)
     | _=>false)
   | _=>false)
 | _=>false
theorem aBN {K:PySem.W.Frag} {h:Heap} {C:Addr} {bm:List Value} (X:K.In h) (q:ecB K C bm=true):∃ N nm qn bs hdct sn sub ab col dd k0 k1 k2 k3 k5 mN,
  h.get? C=some (excClassObj nm qn C N bs bm hdct sn sub ab col dd k0 k1 k2 k3 k5 "ValueError.__new__")/\h.Ns N mN/\∀ n∈qns,mN n=none:=by
 unfold ecB at q
 split at q
 ·rename_i dd cd sl ho
  split at q
  ·rename_i k0 k1 k2 k3 n k5 hs
   split at q
   ·rename_i c1 d1 es ep s1 hN
    simp only [Jg,beq_iff_eq,Bool.not_eq_true',Jo,Option.isNone_iff_eq_none] at q
    obtain ⟨⟨⟨rfl,hm⟩,hdel⟩,hk,hq⟩:=q
    obtain ⟨nm,bs,mro,ns,qn,hd,sn,sub,ab,col,del⟩:=cd
    dsimp only at hm hdel hN
    subst hm hdel
    have hsl:sl = #[k0,k1,k2,k3,some (.builtin "ValueError.__new__"),k5]:=by
     obtain ⟨l⟩:=sl
     simp only at hs
     rw [hs]
    subst hsl
    refine ⟨ns,nm,qn,bs,hd,sn,sub,ab,col,dd,k0,k1,k2,k3,k5,nsFind es,X _ _ ho,⟨_,es,ep,X _ _ hN,rfl,fun e he=>?_,fun _=>rfl⟩,fun n hn=>?_⟩
    ·have:=hk e (Array.mem_toList_iff.mpr he)
     unfold wQ at this
     split at this
     ·rename_i a b e; exact ⟨a,b,e⟩
     ·cases this
    ·have:=hq n hn
     unfold nsFind findBy
     rw [<- Array.find?_toList,this]
     rfl
   ·simp at q
  ·cases q
 ·cases q
theorem aBO {K:PySem.W.Frag} {C:Addr} (q:ecB K C vbm=true) (h:Heap) (X:K.In h):EcH h C vbm:=by
 obtain ⟨N,nm,qn,bs,hdct,sn,sub,ab,col,dd,k0,k1,k2,k3,k5,mN,h1,h2,h3⟩:=aBN X q
 exact ⟨N,nm,qn,bs,hdct,sn,sub,ab,col,dd,k0,k1,k2,k3,k5,mN,h1,h2,h3,.base⟩
theorem hJ {K:PySem.W.Frag} {C D:Addr} (qD:ecB K D vbm=true) (q:ecB K C (.ref D::vbm)=true) (h:Heap) (X:K.In h):EcH h C (.ref D::vbm):=by
 obtain ⟨N,nm,qn,bs,hdct,sn,sub,ab,col,dd,k0,k1,k2,k3,k5,mN,h1,h2,h3⟩:=aBN X q
 obtain ⟨_,_,_,_,_,_,_,_,_,_,_,_,_,_,_,mD,e1,e2,e3⟩:=aBN X qD
 exact ⟨N,nm,qn,bs,hdct,sn,sub,ab,col,dd,k0,k1,k2,k3,k5,mN,h1,h2,h3,.own e1 e2 e3 .base⟩
section
variable {prog:Program} {w:World} {A:Around} {E:Value->Shared->Prop} {s:Shared}
end
section
variable {X:Cx}
end
section
variable {prog:Program} {w:World} {A:Around} {E:Value->Shared->Prop} {s:Shared} {e it l:Addr} {n:Nat} {P:Nat->Value->Prop} {st:Nat->Heap->Prop}
theorem aBP {i:Nat} {old:Value} {Q:Value->Shared->Prop} (S:Sub prog w it l n P st) (hei:e≠it) (hel:l≠e) (he:IsEnum s.heap e it i old) (h1:st i s.heap) (hi:i < n)
  (hQ:∀ h' x tk,P i x->IsEnumOut h' e it ((i:Int)+1) x s.heap.objs.size->st (i+1) h'->h'.get? s.heap.objs.size=some { cls:=.type "tuple",data:=.seq #[.int i tk,x] } ->
   (∀ c o,c≠e->c≠it->s.heap.get? c=some o->h'.get? c=some o)->Q (.ref s.heap.objs.size) { s with heap:=h',toks:=s.toks+1 }) :
  wpAny (model prog w) A (Builtin.«enumerate.__next__» ⟨[.ref e],[]⟩) (fun fin s'=>∃ v,fin=.done (.ret v)/\Q v s') E s:=by
 refine wpAny_bind (m:=field (.ref e) 2) (wpAny_field he rfl (x:=.ref it) rfl ?_)
 refine wpAny_bind (m:=Builtin.SmallTypes.nextOf (.ref it)) (S.item _ i _ _ _ hi h1 fun x g1 px t1 b1=>?_)
 have e1:IsEnum g1 e it i old:=b1.extBut _ _ hei he
 refine wpAny_bind (m:=field (.ref e) 3) (wpAny_field e1 rfl (x:=rawInt i) rfl ?_)
 refine wpAny_bind (m:=field (.ref e) 4) (wpAny_field e1 rfl (x:=.none) rfl ?_)
 refine wpAny_bind (m:=mkInt i) (wpAny_mkInt ?_)
 refine wpAny_bind (m:=setField (.ref e) 3 (rawInt ((i:Int)+1))) (wpAny_setField_rec e1 (by simp) fun g2 e2 b2=>?_)
 have e2':IsEnum g2 e it ((i:Int)+1) old:=e2
 refine wpAny_bind (m:=setField (.ref e) 4 .none) (wpAny_setField_rec e2' (by simp) fun g3 e3 b3=>?_)
 have e3':IsEnum g3 e it ((i:Int)+1) old:=e3
 refine wpAny_bind (m:=newTuple [.int i s.toks,x]) (wpAny_newTuple ?_)
 have sz:g3.objs.size=s.heap.objs.size:=by rw [b3.1,b2.1,b1.1]
 have e4:IsEnum (g3.push { cls:=.type "tuple",data:=.seq #[.int i s.toks,x] }) e it ((i:Int)+1) old:=Qa _ e3'
 have T4:(g3.push { cls:=.type "tuple",data:=.seq #[.int i s.toks,x] }).get? s.heap.objs.size=some { cls:=.type "tuple",data:=.seq #[.int i s.toks,x] }:=by rw [<- sz]; exact Qk _ rfl
 have kp4:∀ c o,c≠e->c≠it->s.heap.get? c=some o->(g3.push { cls:=.type "tuple",data:=.seq #[.int i s.toks,x] }).get? c=some o:=fun c o c1 c2 q =>
  Qa _ (b3.extBut _ _ c1 (b2.extBut _ _ c1 (b1.extBut _ _ c2 q)))
 have t4:st (i+1) (g3.push { cls:=.type "tuple",data:=.seq #[.int i s.toks,x] }):=S.keep _ _ _ t1 fun c hc o q=>by
  have c1:c≠e:=by rcases hc with r | r <;> rw [r]; exact Ne.symm hei; exact hel
  exact Qa _ (b3.extBut _ _ c1 (b2.extBut _ _ c1 q))
 have elt:s.heap.objs.size≠e:=Xd (Qm he)
 rw [sz]
 generalize g3.push { cls:=.type "tuple",data:=.seq #[.int i s.toks,x] }=g4 at e4 T4 kp4 t4 ⊢
 refine wpAny_bind (m:=Builtin.SmallTypes.ownedTupleIsFree (.ref e)) ?_
 unfold Builtin.SmallTypes.ownedTupleIsFree
 refine wpAny_bind (wpAny_field e4 rfl (x:=.none) rfl (wpAny_pure ?_))
 simp only [if_true]
 refine wpAny_bind (wpAny_rule ?_)
 refine wpAny_bind (wpAny_field e4 rfl (x:=old) rfl ?_)
 refine wpAny_bind (wpAny_setField_rec e4 (by simp) fun g5 e5 b5=>?_)
 have e5':IsEnum g5 e it ((i:Int)+1) x:=e5
 refine wpAny_bind (m:=Builtin.SmallTypes.ownedTupleHandOut (.ref e) (.ref s.heap.objs.size)) ?_
 unfold Builtin.SmallTypes.ownedTupleHandOut
 refine wpAny_bind (wpAny_setField_rec e5' (by simp) fun g6 e6 b6=>?_)
 have e6':IsEnumOut g6 e it ((i:Int)+1) x s.heap.objs.size:=e6
 refine wpAny_setField_rec e6' (by simp) fun g7 e7 b7=>?_
 have e7':IsEnumOut g7 e it ((i:Int)+1) x s.heap.objs.size:=e7
 have up:∀ c o,c≠e->g4.get? c=some o->g7.get? c=some o:=fun c o c1 q=>b7.extBut _ _ c1 (b6.extBut _ _ c1 (b5.extBut _ _ c1 q))
 refine wpAny_bind (wpAny_letGo (wpAny_pure ⟨_,rfl,hQ g7 x s.toks px e7' ?_ (up _ _ elt T4) fun c o c1 c2 q=>up c o c1 (kp4 c o c1 c2 q)⟩))
 exact S.keep _ _ _ t4 fun c hc o q=>up c o (by rcases hc with r | r <;> rw [r]; exact Ne.symm hei; exact hel) q
theorem aC4 {old:Value} {Q:Fin->Shared->Prop} (hh:A.handled=none) (S:Sub prog w it l n P st) (he:IsEnum s.heap e it n old) (h1:st n s.heap)
  (hE:∀ h' x,Heap.ExtBut it s.heap h'->(∃ o,h'.get? x=some o/\o.cls=.type "StopIteration")->E (.ref x) { s with heap:=h' }) :
  wpAny (model prog w) A (Builtin.«enumerate.__next__» ⟨[.ref e],[]⟩) Q E s:=by
 refine wpAny_bind (m:=field (.ref e) 2) (wpAny_field he rfl (x:=.ref it) rfl ?_)
 exact wpAny_bind (m:=Builtin.SmallTypes.nextOf (.ref it)) (S.done _ _ _ _ hh h1 hE)
end
def Ite (K:PySem.W.Frag) (k:Sk) (a:Addr):It :=
 ⟨fun i H => ∃ xs x, SqK k K H a xs /\ xs[i]? = some x,
  fun i H v H'=>∃ p,H p=none/\v=.ref p/\∀ xs,SqK k K H a xs->∃ x,xs[i]?=some x/\H'=upd H p (.tup [.int (i:Nat),x]),
  fun i H=>∃ xs,SqK k K H a xs/\xs.length=i⟩
theorem aAT {P:Program} {w:World} {K:PySem.W.Frag} {es:List Expr} {x1} {pos:Pos} (k:Sk) (a e it:Addr) (hei:e≠it) :
  Turn P w K (.Tuple es x1 pos) (Ite K k a) [e,it] e (fun i h=>(∃ old,IsEnum h e it i old)/\ItK k h it a i) where
 mem:=by simp
 obj:=fun i h st c hc=>by
  obtain ⟨⟨old,he⟩,h1⟩:=st
  simp only [Qj,Qn,or_false] at hc
  rcases hc with rfl | rfl
  ·exact ⟨_,he,fun v q=>by cases q⟩
  ·exact h1.obj
 keep:=fun i h h' st kp=>by
  obtain ⟨⟨old,he⟩,h1⟩:=st
  exact ⟨⟨old,kp e (by simp) _ he⟩,h1.at fun o q=>kp it (by simp) o q⟩
 item:=by
  intro X hP hw hK hc i pins s σ H E I hf st hg
  subst hP hw hK
  obtain ⟨⟨old,he⟩,h1⟩:=st
  obtain ⟨xs,x,ha,hx⟩:=hg
  obtain ⟨its,rv,pa⟩:=I.seqK ha
  obtain ⟨u,hu,ru⟩:=rv.get hx
  have na:∀ c∈[e,it],a≠c:=fun c hc'=>I.seq_ne ha (hf c hc')
  have hT:s.TypeIs (.ref e) "enumerate" := ⟨_,he,rfl⟩
  have hi1:i < its.toArray.size:=by rw [Ql]; exact (Qd.mp hu).1
  unfold pyNext
  refine wpAny_bind (wpAny_attempt (wpAny_callSpecial?_slot (name:=Str.ofString "__next__") hT PySem.F.slot_enumerate_next (wpAny_call_entry PySem.F.slot_enumerate_next hT PySem.F.entry_enumerate_next
   (aBP (nG k X.prog X.w it a its.toArray (na it (by simp))) hei (na e (by simp)) he ⟨h1,pa⟩ hi1 fun h' u' tk pu he' s1 hT' kp=>wpAny_pure ?_) (PySem.F.args_enumerate_next_1 _))))
  have eu:u'=u:=by
   have q:its[i]?=some u':=by simpa using pu
   rw [hu] at q
   exact (Option.some.inj q).symm
  subst eu
  refine ⟨_,rfl,wpAny_letOwnedTupleGo_enum he' fun h2 he2 sb2=>?_⟩
  have Te:s.heap.objs.size≠e:=Xd (Qm he)
  have hT2:h2.get? s.heap.objs.size=some { cls:=.type "tuple",data:=.seq #[.int i tk,u'] }:=sb2.extBut _ _ Te hT'
  have hf0:=I.hok.fresh (Qg s.heap.objs.size)
  have fz:=I.fpOk (Qg s.heap.objs.size) hf0
  have I2:Inv X pins σ H { s with heap:=h2,toks:=s.toks+1 }:=by
   refine I.turnedL (t':=s.toks+1) [e,it] (fun c o hc' q=>?_) hf
   simp only [Qj,Qn,or_false,not_or] at hc'
   exact sb2.extBut _ _ hc'.1 (kp c o hc'.1 hc'.2 q)
  have I3:Inv X pins σ (upd H s.heap.objs.size (.tup [.int (i:Nat),x])) { s with heap:=h2,toks:=s.toks+1 }:=by
   refine I2.trackO (show bX X.prog X.w _ _ _ (.tup [.int (i:Nat),x]) from ⟨by show 2<=sizeLine; rw [sizeLine_eq]; decide,[.int i tk,u'],0,.cons ⟨tk,rfl⟩ (.cons ru .nil),hT2⟩) hf0 fz.2.1 I.sz fz.2.2.2.2.1 fz.2.2.2.2.2
  refine ⟨.ref s.heap.objs.size,_,I3,rfl,⟨s.heap.objs.size,hf0,rfl,fun xs' ha'=>?_⟩,⟨⟨_,by simpa using he2⟩,s1.1.at fun o q=>sb2.extBut _ _ (Ne.symm hei) q⟩,fun c hc'=>?_⟩
  ·rw [I.seqK_inj ha' ha]
   exact ⟨x,hx,rfl⟩
  ·have cl:c≠s.heap.objs.size:=by
    obtain ⟨o,q⟩:∃ o,s.heap.get? c=some o:=by
     simp only [Qj,Qn,or_false] at hc'
     rcases hc' with rfl | rfl
     ·exact ⟨_,he⟩
     ·obtain ⟨o,q,_⟩:=h1.obj; exact ⟨o,q⟩
    exact Jb (Qm q)
   rw [aH cl]
   exact (hf c hc').1
 done:=by
  intro X hP hw hK hc i pins s σ H E I hf st hg
  subst hP hw hK
  obtain ⟨⟨old,he⟩,h1⟩:=st
  obtain ⟨xs,ha,hlen⟩:=hg
  obtain ⟨its,rv,pa⟩:=I.seqK ha
  have la:=rv.length
  have na:∀ c∈[e,it],a≠c:=fun c hc'=>I.seq_ne ha (hf c hc')
  have hT:s.TypeIs (.ref e) "enumerate" := ⟨_,he,rfl⟩
  have ei:i=its.toArray.size:=by rw [Ql]; omega
  subst ei
  unfold pyNext
  refine wpAny_bind (wpAny_attempt (wpAny_callSpecial?_slot (name:=Str.ofString "__next__") hT PySem.F.slot_enumerate_next (wpAny_call_entry PySem.F.slot_enumerate_next hT PySem.F.entry_enumerate_next
   (aC4 (I.ok.hd hc) (nG k X.prog X.w it a its.toArray (na it (by simp))) he ⟨h1,pa⟩ fun h' x kp hx=>?_) (PySem.F.args_enumerate_next_1 _))))
  obtain ⟨oe,hoe,hce⟩:=hx
  refine wpAny_bind (wpAny_isInstance (T := "StopIteration") (b:=true) ⟨oe,hoe,hce⟩ isSubtype_stop (wpAny_pure ⟨rfl,?_⟩))
  refine I.turnedL (t':=s.toks) [e,it] (fun c o hc' q=>?_) hf
  simp only [Qj,Qn,or_false,not_or] at hc'
  exact kp c o hc'.2 q
 self:=fun _ _ _ _ _ st h=>by
  obtain ⟨⟨old,he⟩,_⟩:=st
  exact wpAny_pyIter_enum he h
theorem aAU (k:Sk) (a:Addr) (xs:Array Value) :
  Meets (Builtin.«enumerate.__new__» ⟨[.type "enumerate",.ref a],[]⟩) (fun _ R s=>AtK k s.heap a xs /\
   R (.ok (.ret (.ref (s.heap.push (itK k a)).objs.size))) { s with heap:=(s.heap.push (itK k a)).push { cls:=.type "enumerate",data:=.fields #[.none,.bool false,.ref s.heap.objs.size,rawInt 0,.none,.none] } }) :=
 .of_wp fun prog w A R s h=>by
  obtain ⟨hp,g,d,tk,os⟩:=s
  obtain ⟨hl,h⟩:=h
  have hsub:=sub_enumerate
  have hA:AtK k (Shared.heap ⟨hp,g,d,tk,os⟩) a xs:=hl
  obtain ⟨o,ho,hc⟩:∃ o,hp.get? a=some o/\(o.cls=.type "list" ∨ o.cls=.type "tuple"):=by
   cases k
   ·obtain ⟨o,e,c,_⟩:=hl; exact ⟨o,e,.inl c⟩
   ·obtain ⟨o,e,c,_⟩:=hl; exact ⟨o,e,.inr c⟩
  have hoL:(Shared.heap ⟨hp,g,d,tk,os⟩).get? a=some o:=ho
  wp_walk using AutoSeq1.wpAny_loadPart' hoL
  refine wpAny_stack_any fun st=>wpAny_pure ?_
  split
  ·rename_i c _ _ _ _ _
   cases (c==Value.type "enumerate")
   ·wp_walk using AutoSeq1.wpAny_loadPart' hoL,oX hA
    exact ⟨_,rfl,h⟩
   ·wp_walk using AutoSeq1.wpAny_loadPart' hoL,oX hA
    exact ⟨_,rfl,h⟩
  ·wp_walk using AutoSeq1.wpAny_loadPart' hoL,oX hA
   exact ⟨_,rfl,h⟩
section
variable {X:Cx} {es:List Expr} {x1:Nat} {tpos:Pos}
def aEY (K:PySem.W.Frag) (k:Sk) (ta:TA):TI:=fun σ H R=>ta σ H fun vs H1=>∃ a xs,vs = [.ref a]/\SqK k K H1 a xs/\R (Ite K k a) H1
theorem aC5 (k:Sk) {a:Expr} {ta:TA} {p pos:Pos} (hg:Gl X "enumerate") (hm:X.mg "enumerate" = none) (ha:PA X [a] ta) (hs:starEach [a] X.env = [(false,eval a X.env)]:=by rfl) :
  PI X (.Tuple es x1 tpos) (.Call (.Name "enumerate" p) [a] [] pos) (aEY X.K k ta):=by
 intro pins s σ H R I h
 refine Call_ (jB (u:=.type "enumerate") I hg hm (by decide +kernel) (PyProof.Rows.callWith_type1 (thn (ha pos pins s σ H _ I h) fun us s1 hx9=>?_) hs rfl))
 obtain ⟨vs,H1,I1,r1,q1⟩:=hx9
 obtain ⟨l,xs,rfl,hA,q⟩:=q1
 obtain ⟨u1,rfl,r1'⟩:=gY r1
 cases r1'
 obtain ⟨its,rv,pa⟩:=I1.seqK hA
 refine callType_new PySem.F.called_enumerate (by decide) (PySem.F.typeCall_enumerate_1 _) (PySem.F.newCall_enumerate_1 _) (fun obj=>PySem.F.args_object_init_2 obj _) PySem.F.entry_enumerate_new (aAU k l its.toArray) ⟨pa,?_⟩
 have n1:(s1.heap.push (itK k l)).objs.size=s1.heap.objs.size+1:=Je ..
 have g2:IsEnum ((s1.heap.push (itK k l)).push { cls:=.type "enumerate",data:=.fields #[.none,.bool false,.ref s1.heap.objs.size,rawInt 0,.none,.none] }) (s1.heap.push (itK k l)).objs.size s1.heap.objs.size 0 .none:=Qk _ rfl
 have g1:ItK k ((s1.heap.push (itK k l)).push { cls:=.type "enumerate",data:=.fields #[.none,.bool false,.ref s1.heap.objs.size,rawInt 0,.none,.none] }) s1.heap.objs.size l 0:=(ItK.new k s1.heap l).at fun o e=>Qa _ e
 have kp:∀ c o,s1.heap.get? c=some o->((s1.heap.push (itK k l)).push { cls:=.type "enumerate",data:=.fields #[.none,.bool false,.ref s1.heap.objs.size,rawInt 0,.none,.none] }).get? c=some o:=fun c o e=>Qa _ (Qa _ e)
 generalize (s1.heap.push (itK k l)).push { cls:=.type "enumerate",data:=.fields #[.none,.bool false,.ref s1.heap.objs.size,rawInt 0,.none,.none] }=h2 at g1 g2 kp ⊢
 refine ⟨⟨_,g2,rfl⟩,wpAny_pyIter_enum g2 ?_⟩
 rw [n1] at *
 have I2:Inv X pins σ H1 { s1 with heap:=h2 }:=I1.kept (t':=s1.toks) kp
 refine ⟨s1.heap.objs.size+1,[s1.heap.objs.size+1,s1.heap.objs.size],_,_,H1,rfl,I2,aAT k l (s1.heap.objs.size+1) s1.heap.objs.size (Nat.succ_ne_self _),⟨⟨_,g2⟩,g1⟩,fun c hc=>?_,q⟩
 have hc':s1.heap.objs.size<=c:=by
  simp only [Qj,Qn,or_false] at hc
  rcases hc with r | r
  ·rw [r]; exact Jp _ _
  ·rw [r]; exact Qg _
 exact I1.fpOk hc' (I1.hok.fresh hc')
end
theorem aBQ {K:PySem.W.Frag} {k:Sk} {a:Addr} {xs:List V} {g:TG} {tb:TS} {D:Ends} {σ:St} {H:Hp} (Pv:Nat->St->Hp->Prop) (h0:Pv 0 σ H) (hl:∀ i σ H,i<=xs.length->Pv i σ H->SqK k K H a xs)
  (hs:∀ i x p σ H,xs[i]?=some x->Pv i σ H->H p=none->g (.ref p) σ (upd H p (.tup [.int (i:Nat),x])) fun σ2 H2=>tb { D with nx:=Pv (i+1),ct:=Pv (i+1),bk:=D.nx } σ2 H2) (hd:∀ σ H,Pv xs.length σ H->D.nx σ H) :
  ∃ W:Nat->Nat->St->Hp->Prop,(∃ m,W 0 m σ H)/\∀ i m σ H,W i m σ H ->
   ((Ite K k a).stop i H/\D.nx σ H)∨((Ite K k a).go i H/\∃ N:St->Hp->Prop,(∀ σ' H',N σ' H'->∃ m',m' < m/\W (i+1) m' σ' H')/\∀ x H',(Ite K k a).yld i H x H'->g x σ H' fun σ2 H2=>tb { D with nx:=N,ct:=N,bk:=D.nx } σ2 H2):=by
 refine ⟨fun i m σ H=>m=xs.length - i/\i<=xs.length/\Pv i σ H,⟨xs.length,by simp,Jh _,h0⟩,?_⟩
 rintro i m σ H ⟨rfl,hi,p⟩
 have q:=hl i σ H hi p
 by_cases hlt:i < xs.length
 ·refine .inr ⟨⟨xs,xs[i],q,Qc hlt⟩,Pv (i+1),fun σ' H' p'=>⟨xs.length - (i+1),by omega,rfl,hlt,p'⟩,fun x H' y=>?_⟩
  obtain ⟨p1,hp1,rfl,y⟩:=y
  obtain ⟨v,hv,rfl⟩:=y xs q
  exact hs i v p1 σ H hv p hp1
 ·have e:i=xs.length:=by omega
  subst e
  exact .inl ⟨⟨xs,q,rfl⟩,hd σ H p⟩
theorem aBR {n:Nat} (h:n<=1000):n<=sizeLine:=by rw [sizeLine_eq]; omega
section
variable {own:Nat} {fr:List Nat} {g:TG} {te:TE} {σ:St} {H:Hp} {Qf:Hp->List V->Prop} {K:PySem.W.Frag}
theorem aC6 {vs:List V} {i:Nat} {v:V} (h:vs[i]?=some v):vs.take (i+1)=vs.take i++[v]:=by rw [Jn,h]; rfl
theorem pL {J:It} {n:Nat} {vs:List V} (SH:St->Prop) (hn:n<=1000) (hl:vs.length=n) (hσ:SH (blk own fr σ)) (hstop:∀ H',aD H H'->J.stop n H') (hgo:∀ i H',i < n->aD H H'->J.go i H')
  (hs:∀ i v x σ H1 H2,i < n->vs[i]?=some v->SH σ->aD H H1->J.yld i H1 x H2->∀ Q:V->St->Hp->Prop,(∀ σ2 H4,SH σ2->aD H1 H4->Q v σ2 H4)->g x σ H2 fun σ2 H3=>te σ2 H3 fun y H4=>Q y σ2 H4)
  (hd:∀ H',aD H H'->Qf H' vs) :
  ∃ W:Nat->Nat->List V->St->Hp->Prop,(∃ m,W 0 m [] (blk own fr σ) H)/\∀ i m ys σ' H,W i m ys σ' H ->
   (J.stop i H/\Qf H ys) ∨
   (J.go i H/\∃ N:List V->St->Hp->Prop,(∀ ys' σ2 H2,N ys' σ2 H2->∃ m',m' < m/\W (i+1) m' ys' σ2 H2) /\
    ∀ x H',J.yld i H x H'->g x σ' H' fun σ2 H2=>wG σ2 H2 fun b H3=>if b=true then te σ2 H3 fun y H4=>ys.length < sizeLine/\N (ys++[y]) σ2 H4 else N ys σ2 H3):=by
 refine nH n (aBR hn) SH (fun i ys H'=>ys=vs.take i/\aD H H') hσ ⟨rfl,aD.refl H⟩ (fun i ys H' p=>by rw [p.1,Qu]; omega) (fun ys H' p=>hstop H' p.2) (fun i ys H' hi p=>hgo i H' hi p.2) ?_ (fun ys H' p=>?_)
 ·rintro i ys σ' x H1 H2 hi sh ⟨rfl,s1⟩ hy hz
  have hv:vs[i]?=some vs[i]:=Qc (by omega)
  have h:=hs i vs[i] x σ' H1 H2 hi hv sh s1 hy (fun y σ2 H4=>(vs.take i).length < sizeLine/\SH σ2/\(vs.take i++[y]=vs.take (i+1)/\aD H H4)) fun σ2 H4 sh2 s4=>⟨hz,sh2,(aC6 hv).symm,s1.trans s4⟩
  exact h
 ·obtain ⟨rfl,s1⟩:=p
  rw [Jj (by omega)]
  exact hd H' s1
theorem aBS {a:Addr} {xs vs:List V} (SH:St->Prop) (hn:xs.length<=1000) (hl:vs.length=xs.length) (ha:SqL K H a xs) (hσ:SH (blk own fr σ))
  (hs:∀ (i:Nat) x v σ H1,xs[i]?=some x->vs[i]?=some v->SH σ->aD H H1->∀ Q:V->St->Hp->Prop,(∀ σ2 H4,SH σ2->aD H1 H4->Q v σ2 H4)->g x σ H1 fun σ2 H2=>te σ2 H2 fun y H4=>Q y σ2 H4)
  (hd:∀ H',aD H H'->Qf H' vs) :
  ∃ W:Nat->Nat->List V->St->Hp->Prop,(∃ m,W 0 m [] (blk own fr σ) H)/\∀ i m ys σ' H,W i m ys σ' H ->
   ((Itl K a).stop i H/\Qf H ys) ∨
   ((Itl K a).go i H/\∃ N:List V->St->Hp->Prop,(∀ ys' σ2 H2,N ys' σ2 H2->∃ m',m' < m/\W (i+1) m' ys' σ2 H2) /\
    ∀ x H',(Itl K a).yld i H x H'->g x σ' H' fun σ2 H2=>wG σ2 H2 fun b H3=>if b=true then te σ2 H3 fun y H4=>ys.length < sizeLine/\N (ys++[y]) σ2 H4 else N ys σ2 H3):=by
 refine pL SH hn hl hσ (fun H' s=>⟨xs,s.seqL ha,Qg _⟩) (fun i H' hi s=>⟨xs,xs[i],s.seqL ha,Qc hi⟩) (fun i v x σ H1 H2 hi hv sh s y Q k=>?_) hd
 obtain ⟨e,y⟩:=y
 subst e
 exact hs i x v σ _ (y xs (s.seqL ha)) hv sh s Q k
theorem lJ {a:Addr} {xs vs:List V} (SH:St->Prop) (hn:xs.length<=1000) (hl:vs.length=xs.length) (ha:SqT K H a xs) (hσ:SH (blk own fr σ))
  (hs:∀ (i:Nat) x v σ H1,xs[i]?=some x->vs[i]?=some v->SH σ->aD H H1->∀ Q:V->St->Hp->Prop,(∀ σ2 H4,SH σ2->aD H1 H4->Q v σ2 H4)->g x σ H1 fun σ2 H2=>te σ2 H2 fun y H4=>Q y σ2 H4)
  (hd:∀ H',aD H H'->Qf H' vs) :
  ∃ W:Nat->Nat->List V->St->Hp->Prop,(∃ m,W 0 m [] (blk own fr σ) H)/\∀ i m ys σ' H,W i m ys σ' H ->
   ((Itt K a).stop i H/\Qf H ys) ∨
   ((Itt K a).go i H/\∃ N:List V->St->Hp->Prop,(∀ ys' σ2 H2,N ys' σ2 H2->∃ m',m' < m/\W (i+1) m' ys' σ2 H2) /\
    ∀ x H',(Itt K a).yld i H x H'->g x σ' H' fun σ2 H2=>wG σ2 H2 fun b H3=>if b=true then te σ2 H3 fun y H4=>ys.length < sizeLine/\N (ys++[y]) σ2 H4 else N ys σ2 H3):=by
 refine pL SH hn hl hσ (fun H' s=>⟨xs,s.seqT ha,Qg _⟩) (fun i H' hi s=>⟨xs,xs[i],s.seqT ha,Qc hi⟩) (fun i v x σ H1 H2 hi hv sh s y Q k=>?_) hd
 obtain ⟨e,y⟩:=y
 subst e
 exact hs i x v σ _ (y xs (s.seqT ha)) hv sh s Q k
end
section
variable {X:Cx} {st:Stmt} {kY:List Stmt} {t u:TS} {e:Expr} {te:TE} {tt:TT}
end
section
variable {X:Cx} {K:PySem.W.Frag}
theorem aC7 (hK:X.K=K) (hu:X.A.units+64 < cLine):OpR X (compareOp .NotEq) (fun x y H Q=>∃ d e,Den K H d x/\Den K H e y/\gC d=true/\gC e=true/\SeqAt.shaped d=true/\SeqAt.shaped e=true/\Q (.bl (!PyData.eqv d e)) H):=by subst hK; exact uF hu
theorem aBT (hK:X.K=K):IxR X (aER K):=by subst hK; exact iJ
end
theorem sD (xs:Array Value):slicePick xs none none (some (-1))=xs.toList.reverse.toArray:=by
 unfold slicePick
 have e1:sliceBounds none none (some (-1)) xs.size=((xs.size:Int) - 1,-1,-1):=by simp [sliceBounds]
 rw [e1,<- wK xs]
 congr 1
 show List.filterMap (fun x=>xs[x]?) (sliceRange ((xs.size:Int) - 1) (-1) (-1))=_
 have e2:sliceRange ((xs.size:Int) - 1) (-1) (-1)=(List.range xs.size).map fun (k:Nat)=>((xs.size:Int) - 1+(k:Int)*(-1)).toNat:=by
  unfold sliceRange
  rw [if_neg (by decide)]
  have e3:(if (xs.size:Int) - 1 > -1 then ((xs.size:Int) - 1 - -1 - -1 - 1) / (- -1) else 0).toNat=xs.size:=by
   by_cases h0:xs.size=0
   ·rw [h0]; decide
   ·rw [if_pos (by omega),show (- -1:Int)=1 from rfl,Yz]; omega
  show (List.range (if (xs.size:Int) - 1 > -1 then ((xs.size:Int) - 1 - -1 - -1 - 1) / (- -1) else 0).toNat).map _=_
  rw [e3]
  refine List.map_congr_left fun k _=>?_
  congr 1
  omega
 rw [e2,Yu]
 rfl
section
variable {X:Cx}
def aEZ (K:PySem.W.Frag) (te ts:TE):TE:=fun σ H Q=>te σ H fun x H1=>ts σ H1 fun y H2=>y=.int (-1)/\∃ a xs,x=.ref a/\SqL K H2 a xs/\∀ p,H2 p=none->Q (.ref p) (upd H2 p (.lst xs.reverse))
theorem aC8 {e st:Expr} {te ts:TE} {pos p2:Pos} (he:PE X e te) (hst:PE X st ts):PE X (.Subscript e (.Slice none none (some st) p2) pos) (aEZ X.K te ts):=by
 intro pins s σ H Q I h
 refine Subscript_ (thn (he pins s σ H _ I h) fun v s1 hx9=>?_)
 obtain ⟨x,H1,I1,r1,q1⟩:=hx9
 refine wpAny_Slice ?_
 rw [evalPart_none]
 refine wpAny_pure ?_
 show wpAny _ _ (evalPart none X.env) _ _ s1
 rw [evalPart_none]
 refine wpAny_pure ?_
 show wpAny _ _ (evalPart (some st) X.env) _ _ s1
 rw [evalPart_some]
 refine thn (hst pins s1 σ H1 _ I1 q1) fun vst s3 hx9=>?_
 obtain ⟨y,H3,I3,r3,q3⟩:=hx9
 obtain ⟨rfl,a,xs,rfl,hx,q⟩:=q3
 obtain ⟨tk,rfl⟩:=r3
 cases r1
 have I4:Inv X pins σ H3 { s3 with heap:=s3.heap.push { cls:=.type "slice",data:=.fields #[.none,.none,.int (-1) tk] } }:=I3.kept (t':=s3.toks) fun b ob q=>Qa _ q
 obtain ⟨its,r,ht,hz⟩:=I4.list hx
 have hlen:=r.length
 have hg:wpAny (model X.prog X.w) X.A (getItem (.ref a) (.ref s3.heap.objs.size)) (EP X pins σ Q) X.xe { s3 with heap:=s3.heap.push { cls:=.type "slice",data:=.fields #[.none,.none,.int (-1) tk] } }:=by
  refine wpAny_getItem_list_slice ht.isList (Heap.IsSliceOf.new ..) .none .none (.int (-1) tk) (by decide) ?_ (by rw [Ql]; omega)
  rw [sD]
  refine ⟨.ref _,_,I4.laid (t':=s3.toks) (o:=.lst xs.reverse) (fun b ob q=>Qa _ q) (Qg _) ?_,rfl,q _ (I4.hok.fresh (Qg _))⟩
  exact ⟨by rw [Zs]; exact hz,its.reverse,0,r.reverse,Qk _ rfl⟩
 show wpAny (model X.prog X.w) X.A (subscriptTail e (.Slice none none (some st) p2) (.ref a) (.ref s3.heap.objs.size)) (EP X pins σ Q) X.xe { s3 with heap:=s3.heap.push { cls:=.type "slice",data:=.fields #[.none,.none,.int (-1) tk] } }
 exact tail_any (ops:=[.ref a,.ref s3.heap.objs.size]) ht.isList.typeIs slot_list_getitem.lookup hg (by with_unfolding_all rfl)
end
section
variable {K:PySem.W.Frag} {S:List Addr} {H H' H0:Hp} {E E':Hp->V->Prop} {σ:St} {te ta tb ts:TE} {t tr:TA} {tl th:TO}
instance {a:Addr} {xs:List V}:Mo (fun H v=>v=.ref a/\SqT K (Vw S H) a xs):=⟨fun e h=>⟨h.1,(Vw.same e).seqT h.2⟩⟩
end
section
variable {prog:Program} {w:World} {A:Around} {R:Result->Shared->Prop} {s:Shared} {elt tg iter tg2 iter2:Expr} {scope:Scope} {pos:Pos} {it acc:Value} {env:Env}
theorem sE:compTurn (.ListComp elt [⟨tg,iter,[],0⟩,⟨tg2,iter2,[],0⟩] scope pos) 0 it acc env=(standAt iter.pos >>= fun _=>pyNext it >>= fun r=>match r with
   | none=>pure (.done .next)
   | some v=>letOwnedTupleGo tg it v >>= fun _=>assign tg env v >>= fun _ =>
    (eval iter2 env >>= fun x=>standAt iter2.pos >>= fun _=>foldedSetIterable iter2 env x >>= fun x=>holding [x] (pyIter x) >>= fun i =>
     runOwn (.compStart (.ListComp elt [⟨tg,iter,[],0⟩,⟨tg2,iter2,[],0⟩] scope pos) 1 i acc env) env >>= fun _ =>
     again (.compLoop (.ListComp elt [⟨tg,iter,[],0⟩,⟨tg2,iter2,[],0⟩] scope pos) 0 it acc env))):=by rfl
theorem sF:compTurn (.ListComp elt [⟨tg,iter,[],0⟩,⟨tg2,iter2,[],0⟩] scope pos) 1 it acc env=(standAt iter2.pos >>= fun _=>pyNext it >>= fun r=>match r with
   | none=>pure (.done .next)
   | some v=>letOwnedTupleGo tg2 it v >>= fun _=>assign tg2 env v >>= fun _ =>
    (eval elt env >>= fun x=>call (.builtin "list.append") [acc,x] >>= fun _=>pure ()) >>= fun _ =>
     again (.compLoop (.ListComp elt [⟨tg,iter,[],0⟩,⟨tg2,iter2,[],0⟩] scope pos) 1 it acc env)):=by rfl
theorem kZ
  (h0:codeAny (model prog w) A (.compLoop (.ListComp elt [⟨tg,iter,[],0⟩,⟨tg2,iter2,[],0⟩] scope pos) 1 it acc env) R s)
  (h:wpAny (model prog w) A (pyIter it) (fun it' s'=>codeAny (model prog w) A (.compLoop (.ListComp elt [⟨tg,iter,[],0⟩,⟨tg2,iter2,[],0⟩] scope pos) 1 it' acc env) R s')
   (notedBy (model prog w) A env fun x s'=>R (.error x) s') s) :
  codeAny (model prog w) A (.compStart (.ListComp elt [⟨tg,iter,[],0⟩,⟨tg2,iter2,[],0⟩] scope pos) 1 it acc env) R s:=by
 refine codeAny_of_tree ?_
 show wpAny _ _ ((compStart (.ListComp elt [⟨tg,iter,[],0⟩,⟨tg2,iter2,[],0⟩] scope pos) 1 it acc env).onRaise (fun x=>do noteFrame x env; standAt theWindowsPlace)) _ _ s
 refine wpAny_notedAt ?_
 unfold compStart
 show wpAny _ _ (ask >>= _) _ _ s
 refine wpAny_bind (wpAny_askSetting (wpAny_ite ?_))
 split
 ·first
   | exact wpAny_bind (wpAny_pure (wpAny_pure (And.intro rfl h0)))
   | exact wpAny_pure (And.intro rfl h0)
 ·first
   | exact wpAny_bind (wpAny_rule (wpAny_bind (wpAny_standAt (wpAny_bind (wpAny_mono h (fun it' s' h'=>wpAny_pure (And.intro rfl h')) fun _ _ x=>x)))))
   | (refine wpAny_bind (wpAny_rule ?_); show wpAny _ _ (standAt iter2.pos >>= _) _ _ s; exact wpAny_bind (wpAny_standAt (wpAny_bind (wpAny_mono h (fun it' s' h'=>wpAny_pure (And.intro rfl h')) fun _ _ x=>x))))
theorem wR (I:Nat->Shared->Prop)
  (turn:∀ n s,I n s->wpAny (model prog w) A (pyNext it) (fun r s₁=>match r with
   | none=>R (.ok .next) s₁
   | some v=>wpAny (model prog w) A (letOwnedTupleGo tg2 it v) (fun _ s₁'=>wpAny (model prog w) A (assign tg2 env v) (fun _ s₂ =>
     wpAny (model prog w) A (eval elt env) (fun x s₄ =>
       wpAny (model prog w) A (call (.builtin "list.append") [acc,x]) (fun _ s₅=>∃ m,m < n/\I m s₅) (fun _ _=>False) s₄) (fun _ _=>False) s₂) (fun _ _=>False) s₁') (fun _ _=>False) s₁) (fun _ _=>False) s)
  (n:Nat) (h:I n s) :
  codeAny (model prog w) A (.compLoop (.ListComp elt [⟨tg,iter,[],0⟩,⟨tg2,iter2,[],0⟩] scope pos) 1 it acc env) R s:=by
 refine codeAny_loop rfl I (fun n s hI=>?_) n h
 show wpAny _ A ((compTurn (.ListComp elt [⟨tg,iter,[],0⟩,⟨tg2,iter2,[],0⟩] scope pos) 1 it acc env).onRaise (fun x=>do noteFrame x env; theTreesLotGoes x)) _ _ s
 refine wpAny_noted ?_
 rw [sF]
 refine wpAny_bind (wpAny_standAt (wpAny_bind (wpAny_mono (turn n s hI) (fun r s₁ h₁=>?_) fun _ _ h'=>h'.elim)))
 cases r with
 | none=>exact wpAny_pure h₁
 | some v =>
  refine wpAny_bind (wpAny_mono h₁ (fun _ s₁' h₁'=>?_) fun _ _ h'=>h'.elim)
  refine wpAny_bind (wpAny_mono h₁' (fun _ s₂ h₂=>?_) fun _ _ h'=>h'.elim)
  exact wpAny_bind (wpAny_bind (wpAny_mono h₂ (fun x s₄ h₄=>wpAny_bind (wpAny_mono h₄ (fun _ s₅ h₅=>wpAny_pure (wpAny_pure ⟨rfl,h₅⟩)) fun _ _ h'=>h'.elim)) fun _ _ h'=>h'.elim))
theorem uK (hs2:∀ x,foldedSetIterable iter2 env x=pure x) (I:Nat->Shared->Prop)
  (turn:∀ n s,I n s->wpAny (model prog w) A (pyNext it) (fun r s₁=>match r with
   | none=>R (.ok .next) s₁
   | some v=>wpAny (model prog w) A (letOwnedTupleGo tg it v) (fun _ s₁'=>wpAny (model prog w) A (assign tg env v) (fun _ s₂ =>
     wpAny (model prog w) A (eval iter2 env) (fun x s₃=>wpAny (model prog w) A (pyIter x) (fun i s₄ =>
       codeAny (model prog w) A (.compStart (.ListComp elt [⟨tg,iter,[],0⟩,⟨tg2,iter2,[],0⟩] scope pos) 1 i acc env) (fun r s₅=>match r with
        | .ok _=>∃ m,m < n/\I m s₅
        | .error _=>False) s₄) (fun _ _=>False) s₃) (fun _ _=>False) s₂) (fun _ _=>False) s₁') (fun _ _=>False) s₁) (fun _ _=>False) s)
  (n:Nat) (h:I n s) :
  codeAny (model prog w) A (.compLoop (.ListComp elt [⟨tg,iter,[],0⟩,⟨tg2,iter2,[],0⟩] scope pos) 0 it acc env) R s:=by
 refine codeAny_loop rfl I (fun n s hI=>?_) n h
 show wpAny _ A ((compTurn (.ListComp elt [⟨tg,iter,[],0⟩,⟨tg2,iter2,[],0⟩] scope pos) 0 it acc env).onRaise (fun x=>do noteFrame x env; theTreesLotGoes x)) _ _ s
 refine wpAny_noted ?_
 rw [sE]
 refine wpAny_bind (wpAny_standAt (wpAny_bind (wpAny_mono (turn n s hI) (fun r s₁ h₁=>?_) fun _ _ h'=>h'.elim)))
 cases r with
 | none=>exact wpAny_pure h₁
 | some v =>
  refine wpAny_bind (wpAny_mono h₁ (fun _ s₁' h₁'=>?_) fun _ _ h'=>h'.elim)
  refine wpAny_bind (wpAny_mono h₁' (fun _ s₂ h₂=>?_) fun _ _ h'=>h'.elim)
  refine wpAny_bind (wpAny_mono h₂ (fun x s₃ h₃=>?_) fun _ _ h'=>h'.elim)
  refine wpAny_bind (wpAny_standAt (wpAny_bind (wpAny_of_eq (hs2 x) (wpAny_bind (wpAny_holding (wpAny_mono h₃ (fun i s₄ h₄=>?_) fun _ _ h'=>h'.elim))))))
  refine wpAny_bind (wpAny_runOwn (codeAny_mono h₄ fun r s₅ h₅=>?_))
  cases r with
  | ok f=>exact wpAny_pure ⟨rfl,h₅⟩
  | error e=>exact False.elim h₅
end
theorem yN {Y:Cx} {elt tg iter tg2 iter2:Expr} {scope:Scope} {pos:Pos} {it2 D:Addr} {fp2:List Addr} {tn2:Nat->Heap->Prop} {J2:It} {g2:TG} {te:TE} {ps:List (Addr×Obj)} {σ:St} {H:Hp} {s:Shared} {zs:List V} {its:Array Value} {o:Obj} {F:List V->St->Hp->Prop} {R:Result->Shared->Prop}
  (hx:∀ v s',¬ Y.xe v s') (hc:Y.calm=true) (T:Turn Y.prog Y.w Y.K tg2 J2 fp2 it2 tn2) (hg:PG Y tg2 g2) (he:PE Y elt te)
  (hDL:D≠Y.env.locals) (hD1:D∈Y.ex∨Y.s₀.heap.objs.size<=D) (hDc:∀ x c,Y.env.cells.lookup x=some c->c≠D) (hDp:∀ p∈Y.pn,p.1≠D) (hDfs:D∉Y.fs) (hps:∀ p∈ps,p.1≠D)
  (I0:Inv Y ((D,o)::ps) σ H s) (pl0:s.heap.PlainList D its) (v0:aY zs its.toList) (z0:zs.length<=sizeLine) (st0:tn2 0 s.heap) (f0:∀ b∈fp2,lA Y ((D,o)::ps) H b)
  (w:∃ W2:Nat->Nat->List V->St->Hp->Prop,(∃ m2,W2 0 m2 zs σ H)/\∀ j m2 zs σ3 H4,W2 j m2 zs σ3 H4->(J2.stop j H4/\F zs σ3 H4)∨(J2.go j H4/\∃ N2:List V->St->Hp->Prop,(∀ zs' σ4 H5,N2 zs' σ4 H5->∃ m3,m3 < m2/\W2 (j+1) m3 zs' σ4 H5) /\
   ∀ x H',J2.yld j H4 x H'->g2 x σ3 H' fun σ4 H5=>te σ4 H5 fun y H6=>zs.length < sizeLine/\N2 (zs++[y]) σ4 H6))
  (hR:∀ (s':Shared) (σ':St) (H':Hp) (zs':List V) (its':Array Value) (o':Obj),Inv Y ((D,o')::ps) σ' H' s'->s'.heap.PlainList D its'->aY zs' its'.toList->zs'.length<=sizeLine->F zs' σ' H'->R (.ok .next) s') :
  codeAny (model Y.prog Y.w) Y.A (.compStart (.ListComp elt [⟨tg,iter,[],0⟩,⟨tg2,iter2,[],0⟩] scope pos) 1 (.ref it2) (.ref D) Y.env) R s:=by
 obtain ⟨W2,⟨m0,w0⟩,turn⟩:=w
 have stat:∀ {H':Hp} {o':Obj},(∀ b∈fp2,H' b=none)->∀ b∈fp2,lA Y ((D,o')::ps) H' b:=fun {H' o'} hn b hb=>by
  obtain ⟨_,q1,q2,q3,q4,q5⟩:=f0 b hb
  refine ⟨hn b hb,q1,q2,q3,q4,fun p hp=>?_⟩
  rcases Qx.mp hp with h | h
  ·exact q5 p (Ji _ h)
  ·rcases Qj.mp h with h | h
   ·rw [h]; exact q5 (D,o) (Qr _ (Qt ..))
   ·exact q5 p (Qr _ (Qq _ h))
 have loop:codeAny (model Y.prog Y.w) Y.A (.compLoop (.ListComp elt [⟨tg,iter,[],0⟩,⟨tg2,iter2,[],0⟩] scope pos) 1 (.ref it2) (.ref D) Y.env) R s:=by
  refine wR (fun n s'=>∃ j σ' H' ys its o,Inv Y ((D,o)::ps) σ' H' s'/\s'.heap.PlainList D its/\aY ys its.toList/\ys.length<=sizeLine/\tn2 j s'.heap/\(∀ b∈fp2,H' b=none)/\W2 j n ys σ' H') ?_ m0
   ⟨0,σ,H,zs,its,o,I0,pl0,v0,z0,st0,fun b hb=>(f0 b hb).1,w0⟩
  rintro n s5 ⟨i,σ5,H5,ys,its,o,I5,pl5,v5,z5,st5,fr5,w5⟩
  have p5':=I5.pin (D,o) (Qr _ (Qt ..))
  rcases turn i n ys σ5 H5 w5 with ⟨stop,qn⟩ | ⟨go,N,hN,step⟩
  ·refine wpAny_mono (T.done Y rfl rfl rfl hc i _ s5 σ5 H5 (fun _ _=>False) I5 (stat fr5) st5 stop) (fun r s6 hx9=>?_) fun _ _ z=>z
   obtain ⟨hr,I6⟩:=hx9
   subst hr
   have p6:=I6.pin (D,o) (Qr _ (Qt ..))
   have pl6:s6.heap.PlainList D its:=by
    obtain ⟨k,e⟩:=pl5
    have e1:o=_:=Option.some.inj (p5'.1.symm.trans e)
    exact ⟨k,by rw [p6.1]; exact congrArg some e1⟩
   exact hR s6 σ5 H5 ys its o I6 pl6 v5 z5 qn
  ·refine wpAny_mono (T.item Y rfl rfl rfl hc i _ s5 σ5 H5 (fun _ _=>False) I5 (stat fr5) st5 go) (fun r s6 hx9=>?_) fun _ _ z=>z
   obtain ⟨u,hr,h6⟩:=hx9
   subst hr
   refine wpAny_mono h6 (fun _ s7 hx9=>?_) fun _ _ z=>z
   obtain ⟨x,H7,I7,r7,y7,st7,fr7⟩:=hx9
   have I7':=I7.pinned (stat fr7) (T.obj _ _ st7)
   refine wpAny_mono (hg _ s7 σ5 H7 x u _ I7' r7 (step x H7 y7)) (fun _ s8 hx9=>?_) fun v s' z=>hx v s' z
   obtain ⟨σ8,H8,I8,q8⟩:=hx9
   have keepT:∀ {H':Hp} {s':Shared} {σ':St},Inv Y (((D,o)::ps)++lB fp2 s7.heap) σ' H' s'->tn2 (i+1) s'.heap/\(∀ b∈fp2,H' b=none)/\s'.heap.PlainList D its/\H' D=none:=fun {H' s' σ'} I'=>by
    refine ⟨T.keep _ _ _ st7 fun b hb o e=>(I'.pin (b,o) (Qr _ (Qr _ (dQ hb e)))).1,fun b hb=>?_,?_,?_⟩
    ·obtain ⟨o,e,d⟩:=T.obj _ _ st7 b hb
     exact (I'.pin (b,o) (Qr _ (Qr _ (dQ hb e)))).2.1
    ·have p':=I'.pin (D,o) (Qr _ (Ji _ (Qt ..)))
     obtain ⟨k,e⟩:=pl5
     have e1:o=_:=Option.some.inj (p5'.1.symm.trans e)
     exact ⟨k,by rw [p'.1]; exact congrArg some e1⟩
    ·exact (I'.pin (D,o) (Qr _ (Ji _ (Qt ..)))).2.1
   refine wpAny_mono (he _ s8 σ8 H8 _ I8 q8) (fun y s10 hx9=>?_) fun v s' z=>hx v s' z
   obtain ⟨yv,H10,I10,r10,lt10,q10⟩:=hx9
   obtain ⟨t10,fr10,pl10,hD10⟩:=keepT I10
   have hl:=v5.length
   refine wpAny_list_append_plain pl10 (fun h11 pl11 sb11=>?_) (by rw [<- Array.length_toList,<- hl]; exact Xr lt10)
   obtain ⟨m',hm,w'⟩:=hN _ σ8 H10 q10
   have I10':Inv Y [] σ8 H10 s10:=I10.pins_of fun p hp=>by cases hp
   have I11:Inv Y [] σ8 H10 { s10 with heap:=h11 } :=
    I10'.turned (t':=s10.toks) (it:=D) (fun b o hb e=>(sb11.2 b hb).trans e) hD10 hDL hD1 hDc (fun p hp=>by rw [Za] at hp; exact hDp p hp)
   obtain ⟨k11,e11⟩:=id pl11
   refine ⟨m',hm,i+1,σ8,H10,ys++[yv],its.push y,{ cls:=.type "list",data:=.seq (its.push y) k11 },I11.pins_of fun p hp=>?_,pl11,?_,by rw [Qe]; show ys.length+1<=_; omega,T.keep _ _ _ t10 fun b hb o e=>(sb11.2 b (fun z=>?_)).trans e,fr10,w'⟩
   ·rcases Qj.mp hp with h | h
    ·subst h
     exact ⟨e11,hD10,hDL,hDfs,fun v z=>by cases z⟩
    ·obtain ⟨a1,a2,a3,a4,a5⟩:=I10.pin p (Qr _ (Ji _ (Qq _ h)))
     exact ⟨(sb11.2 p.1 (hps p h)).trans a1,a2,a3,a4,a5⟩
   ·rw [Array.toList_push]
    exact v5.append (.cons r10 .nil)
   ·exact (f0 b hb).2.2.2.2.2 (D,_) (Qr _ (Qt ..)) z.symm
 exact kZ loop (T.self Y.A 0 _ _ _ st0 loop)
def aEe (own:Nat) (fr:List Nat) (wi:TI) (g:TG) (wi2:TI) (g2:TG) (te:TE):TE:=fun σ H Q=>wi σ H fun J H1=>∃ W:Nat->Nat->List V->St->Hp->Prop,(∃ m,W 0 m [] (blk own fr σ) H1)/\∀ i m ys σ' H,W i m ys σ' H ->
   (J.stop i H/\∀ p,H p=none->Q (.ref p) (upd H p (.lst ys))) ∨
   (J.go i H/\∃ N:List V->St->Hp->Prop,(∀ ys' σ2 H2,N ys' σ2 H2->∃ m',m' < m/\W (i+1) m' ys' σ2 H2) /\
    ∀ x H',J.yld i H x H'->g x σ' H' fun σ2 H2=>wi2 σ2 H2 fun J2 H3=>∃ W2:Nat->Nat->List V->St->Hp->Prop,(∃ m2,W2 0 m2 ys σ2 H3)/\∀ j m2 zs σ3 H4,W2 j m2 zs σ3 H4->(J2.stop j H4/\N zs σ3 H4)∨(J2.go j H4/\∃ N2:List V->St->Hp->Prop,(∀ zs' σ4 H5,N2 zs' σ4 H5->∃ m3,m3 < m2/\W2 (j+1) m3 zs' σ4 H5) /\
     ∀ x H',J2.yld j H4 x H'->g2 x σ3 H' fun σ4 H5=>te σ4 H5 fun y H6=>zs.length < sizeLine/\N2 (zs++[y]) σ4 H6))
section
variable {X:Cx} {scope:Scope} {own frn:List Str} {fr:List Nat} {elt tg iter tg2 iter2:Expr} {pos:Pos} {wi wi2:TI} {g g2:TG} {te:TE}
theorem wS {pins:List (Addr×Obj)} {σ:St} {H2:Hp} {s2:Shared} {it:Addr} {fp:List Addr} {tn:Nat->Heap->Prop} {J:It} {RR:Value->Addr->Result->Shared->Prop} {E:Value->Shared->Prop} {Q:Hp->List V->Prop}
  (S:CompOk X scope own fr frn) (hc:X.calm=true) (I2:Inv X pins σ H2 s2) (T:Turn X.prog X.w X.K tg J fp it tn) (st2:tn 0 s2.heap) (f2:∀ b∈fp,lA X pins H2 b)
  (hg:∀ C s0 H0 fp,PG (aP X scope (own++frn) C s0 H0 fp) tg g) (hi2:∀ C s0 H0 fp,PI (aP X scope (own++frn) C s0 H0 fp) tg2 iter2 wi2) (hg2:∀ C s0 H0 fp,PG (aP X scope (own++frn) C s0 H0 fp) tg2 g2) (he:∀ C s0 H0 fp,PE (aP X scope (own++frn) C s0 H0 fp) elt te) (hs2:∀ C x,foldedSetIterable iter2 (compEnvC scope (dY X.env scope.names []) C X.env) x=pure x)
  (w:∃ W:Nat->Nat->List V->St->Hp->Prop,(∃ m,W 0 m [] (blk own.length fr σ) H2)/\∀ i m ys σ' H,W i m ys σ' H ->
   (J.stop i H/\Q H ys) ∨
   (J.go i H/\∃ N:List V->St->Hp->Prop,(∀ ys' σ2 H2,N ys' σ2 H2->∃ m',m' < m/\W (i+1) m' ys' σ2 H2) /\
    ∀ x H',J.yld i H x H'->g x σ' H' fun σ2 H2=>wi2 σ2 H2 fun J2 H3=>∃ W2:Nat->Nat->List V->St->Hp->Prop,(∃ m2,W2 0 m2 ys σ2 H3)/\∀ j m2 zs σ3 H4,W2 j m2 zs σ3 H4->(J2.stop j H4/\N zs σ3 H4)∨(J2.go j H4/\∃ N2:List V->St->Hp->Prop,(∀ zs' σ4 H5,N2 zs' σ4 H5->∃ m3,m3 < m2/\W2 (j+1) m3 zs' σ4 H5) /\
     ∀ x H',J2.yld j H4 x H'->g2 x σ3 H' fun σ4 H5=>te σ4 H5 fun y H6=>zs.length < sizeLine/\N2 (zs++[y]) σ4 H6)))
  (hRR:∀ (C D:Addr) (s':Shared) (H':Hp) (ys:List V) (its:Array Value) (m:Str->Option Value),s2.heap.objs.size<=C->s2.heap.objs.size<=D->D≠C->s'.heap.Ns C m->H' C=none->H' D=none->s'.heap.PlainList D its->aY ys its.toList->ys.length<=sizeLine ->
   Inv X pins σ H' s'->Q H' ys->RR (.ref D) C (.ok .next) s') :
  wpAny (model X.prog X.w) X.A (newList []) (fun acc s₃=>wpAny (model X.prog X.w) X.A (newFunctionEnv scope X.env.globals (dY X.env scope.names []) [] X.env.qual none .none (some X.env)) (fun cenv s₄ =>
   codeAny (model X.prog X.w) X.A (.compStart (.ListComp elt [⟨tg,iter,[],0⟩,⟨tg2,iter2,[],0⟩] scope pos) 0 (.ref it) acc { cenv with scope:=relabel scope X.env }) (RR acc cenv.locals) s₄) E s₃) E s2:=by
 obtain ⟨p1,p2,p3,p4,p5,p6,p7⟩:=S.parts
 obtain ⟨W,⟨m0,w0⟩,turn⟩:=w
 refine wpAny_newObj_type (wpAny_newFunctionEnv p2 (by intro y hy; simp at hy) (fun h₁ hns₁ hsb₁=>?_) p1)
 dsimp only at hns₁ hsb₁ ⊢
 generalize hH2:s2.heap.push { cls:=.type "list",dict:=none,data:=.seq ([]:List Value).toArray }=HD at hns₁ hsb₁ ⊢
 have hCs:HD.objs.size=s2.heap.objs.size+1:=by rw [<- hH2,Je]
 have hDC:s2.heap.objs.size≠HD.objs.size:=by omega
 have hCle:s2.heap.objs.size<=HD.objs.size:=by omega
 have below:∀ b,b < s2.heap.objs.size->b≠HD.objs.size/\b≠s2.heap.objs.size:=fun b hb=>⟨by omega,by omega⟩
 have old:∀ b o,s2.heap.get? b=some o->h₁.get? b=some o:=fun b o e=>hsb₁.extBut b o (below b (Qm e)).1 (Qa _ (hH2 ▸ Qa _ e))
 have hacc:h₁.get? s2.heap.objs.size=some { cls:=.type "list",data:=.seq ([]:List Value).toArray }:=hsb₁.extBut _ _ hDC (Qa _ (hH2 ▸ Qk _ rfl))
 have flt:∀ b∈fp,b < s2.heap.objs.size:=fun b hb=>by
  obtain ⟨o,e,_⟩:=T.obj _ _ st2 b hb
  exact Qm e
 generalize hDg:s2.heap.objs.size=D at *
 generalize hCg:HD.objs.size=C at *
 have st3:tn 0 h₁:=T.keep _ _ _ st2 fun b _ o e=>old b o e
 -- facts of the block
 have clsub:∀ x c,(dY X.env scope.names []).lookup x=some c->X.env.cells.lookup x=some c:=fun x c e=>by
  rcases jE _ _ _ _ (gQ e) with q | q
  ·cases q
  ·exact q
 have cD:∀ x c,(dY X.env scope.names []).lookup x=some c->c≠D:=fun x c e z=>by
  obtain ⟨v,q⟩:=I2.cell x c (clsub x c e)
  exact Qy _ (Qo q.lt (by rw [hDg,z]; exact Qg _))
 have loop:∀ s₃:Shared,s₃={ s2 with heap:=h₁,toks:=s2.toks+([]:List (Str×Value)).length } ->
   codeAny (model X.prog X.w) X.A (.compLoop (.ListComp elt [⟨tg,iter,[],0⟩,⟨tg2,iter2,[],0⟩] scope pos) 0 (.ref it) (.ref D) (compEnvC scope (dY X.env scope.names []) C X.env)) (RR (.ref D) C) s₃:=by
  rintro s₃ rfl
  have I3:Inv (aP X scope (own++frn) C s2 H2 fp) [(D,_)] (blk own.length fr σ) H2 { s2 with heap:=h₁,toks:=s2.toks+([]:List (Str×Value)).length } :=
   qG (m:=fun _=>none) I2 S f2 (by rw [hDg]; exact flt) (by rw [hDg]; exact hCle) (hns₁:h₁.Ns C _) old (by rw [hDg]; exact Qg _) hDC hacc (fun v z=>by cases z)
  have stat:∀ {H':Hp} {pl:List (Addr×Obj)},(∀ p∈pl,p.1=D)->(∀ b∈fp,H' b=none)->∀ b∈fp,lA (aP X scope (own++frn) C s2 H2 fp) pl H' b:=fun {H' pl} hpl hn b hb=>by
   refine ⟨hn b hb,(below b (flt b hb)).1,fun z=>?_,.inl hb,fun x c e=>(f2 b hb).2.2.2.2.1 x c (clsub x c e),fun p hp=>?_⟩
   ·have z':b∈frs X.stack:=z
    rcases Qj.mp (I2.stkSub b z') with e | e
    ·exact (f2 b hb).2.1 e
    ·exact (f2 b hb).2.2.1 e
   ·have hp':p∈pl:=by simpa [aP] using hp
    rw [hpl p hp']
    exact Ne.symm (below b (flt b hb)).2
  refine uK (hs2 C) (env:=compEnvC scope (dY X.env scope.names []) C X.env) (fun n s'=>∃ i σ' H' ys its o,Inv (aP X scope (own++frn) C s2 H2 fp) [(D,o)] σ' H' s'/\s'.heap.PlainList D its/\aY ys its.toList/\ys.length<=sizeLine/\tn i s'.heap/\(∀ b∈fp,H' b=none)/\W i n ys σ' H') ?_ m0
   ⟨0,_,H2,[],#[],_,I3,⟨_,hacc⟩,.nil,Jh _,st3,fun b hb=>(f2 b hb).1,w0⟩
  rintro n s5 ⟨i,σ5,H5,ys,its,o,I5,pl5,v5,z5,st5,fr5,w5⟩
  have one:∀ {o:Obj},∀ p∈[(D,o)],p.1=D:=fun p hp=>by
   have e:=Qp.mp hp
   rw [e]
  rcases turn i n ys σ5 H5 w5 with ⟨stop,qn⟩ | ⟨go,N,hN,step⟩
  ·refine wpAny_mono (T.done (aP X scope (own++frn) C s2 H2 fp) rfl rfl rfl hc i _ s5 σ5 H5 (fun _ _=>False) I5 (stat one fr5) st5 stop) (fun r s6 hx9=>?_) fun _ _ z=>z
   obtain ⟨hr,I6⟩:=hx9
   subst hr
   obtain ⟨m6,hn6,_⟩:=I6.loc
   have p6:=I6.pin (D,o) (by simp [aP])
   have p5':=I5.pin (D,o) (by simp [aP])
   have pl6:s6.heap.PlainList D its:=by
    obtain ⟨k,e⟩:=pl5
    have e1:o=_:=Option.some.inj (p5'.1.symm.trans e)
    exact ⟨k,by rw [p6.1]; exact congrArg some e1⟩
   have IX:Inv X pins σ H5 s6:=I2.call' (ch:=fp) I6.os I6.base I6.hok I6.bare fun b hb=>⟨(f2 b hb).2.2.2.1,(f2 b hb).2.1,(f2 b hb).2.2.2.2.1,(f2 b hb).2.2.2.2.2⟩
   exact hRR C D s6 H5 ys its m6 hCle (Qg _) hDC hn6 I6.free p6.2.1 pl6 v5 z5 IX qn
  ·refine wpAny_mono (T.item (aP X scope (own++frn) C s2 H2 fp) rfl rfl rfl hc i _ s5 σ5 H5 (fun _ _=>False) I5 (stat one fr5) st5 go) (fun r s6 hx9=>?_) fun _ _ z=>z
   obtain ⟨u,hr,h6⟩:=hx9
   subst hr
   refine wpAny_mono h6 (fun _ s7 hx9=>?_) fun _ _ z=>z
   obtain ⟨x,H7,I7,r7,y7,st7,fr7⟩:=hx9
   have I7':=I7.pinned (stat one fr7) (T.obj _ _ st7)
   refine wpAny_mono (hg C s2 H2 fp _ s7 σ5 H7 x u _ I7' r7 (step x H7 y7)) (fun _ s8 hx9=>?_) fun _ _ z=>z
   obtain ⟨σ8,H8,I8,q8⟩:=hx9
   refine wpAny_mono (hi2 C s2 H2 fp _ s8 σ8 H8 _ I8 q8) (fun v2 s9 h9=>wpAny_mono h9 (fun itv s10 h10=>?_) fun _ _ z=>z) fun _ _ z=>z
   obtain ⟨it2,fp2,tn2,J2,H10,e10,I10,T2,st10,f10,w10⟩:=h10
   subst e10
   have DfsX:D∉frs X.stack:=fun z=>by
    rcases Qj.mp (I2.stkSub D z) with e | e
    ·exact Qy _ (Qo I2.lt (by rw [hDg,e]; exact Qg _))
    ·exact I2.nofs (by rw [hDg]; exact Qg _) e
   have p5':=I5.pin (D,o) (by simp [aP])
   have pl10:s10.heap.PlainList D its:=by
    have p':=I10.pin (D,o) (by simp [aP])
    obtain ⟨k,e⟩:=pl5
    have e1:o=_:=Option.some.inj (p5'.1.symm.trans e)
    exact ⟨k,by rw [p'.1]; exact congrArg some e1⟩
   refine yN (Y:=aP X scope (own++frn) C s2 H2 fp) (ps:=lB fp s7.heap) (F:=N) (fun _ _ z=>z) hc T2 (hg2 C s2 H2 fp) (he C s2 H2 fp) hDC (.inr (by show s2.heap.objs.size<=D; rw [hDg]; exact Qg _)) cD (fun p hp=>by simp [aP] at hp) DfsX
    (fun p hp=>(below p.1 (flt p.1 (sM hp).1)).2) I10 pl10 v5 z5 st10 f10 w10 (fun s' σ' H' zs' its' o' I' pl' v' z' q'=>?_)
   obtain ⟨m',hm,w'⟩:=hN zs' σ' H' q'
   refine ⟨m',hm,i+1,σ',H',zs',its',o',I'.pins_of fun p hp=>?_,pl',v',z',T.keep _ _ _ st7 fun b hb o e=>(I'.pin (b,o) (Qr _ (Qq _ (dQ hb e)))).1,fun b hb=>?_,w'⟩
   ·have e:=Qp.mp hp
    subst e
    exact I'.pin _ (Qr _ (Qt ..))
   ·obtain ⟨o,e,d⟩:=T.obj _ _ st7 b hb
    exact (I'.pin (b,o) (Qr _ (Qq _ (dQ hb e)))).2.1
 exact codeAny_compStart_list (loop _ rfl) (T.self X.A 0 _ _ _ st3 (loop _ rfl))
theorem aBU (S:CompOk X scope own fr frn) (hc:X.calm=true) (hi:PI X tg iter wi) (hg:∀ C s0 H0 fp,PG (aP X scope (own++frn) C s0 H0 fp) tg g) (hi2:∀ C s0 H0 fp,PI (aP X scope (own++frn) C s0 H0 fp) tg2 iter2 wi2) (hg2:∀ C s0 H0 fp,PG (aP X scope (own++frn) C s0 H0 fp) tg2 g2)
  (he:∀ C s0 H0 fp,PE (aP X scope (own++frn) C s0 H0 fp) elt te) (hs:∀ x,foldedSetIterable iter X.env x=pure x:=by intro _; rfl) (hs2:∀ C x,foldedSetIterable iter2 (compEnvC scope (dY X.env scope.names []) C X.env) x=pure x:=by intro _ _; rfl) :
  PE X (.ListComp elt [⟨tg,iter,[],0⟩,⟨tg2,iter2,[],0⟩] scope pos) (aEe own.length fr wi g wi2 g2 te):=by
 intro pins s σ H Q I h
 obtain ⟨p1,p2,p3,p4,p5,p6,p7⟩:=S.parts
 rw [eval_ListComp]
 refine wpAny_comprehension_free (use:=none) rfl hs (S.clo I) p1 p3 (thn (hi pins s σ H _ I h) fun v s1 h1=>thn h1 fun itv s2 h2=>?_)
 obtain ⟨it,fp,tn,J,H2,e,I2,T,st2,f2,hw⟩:=h2
 subst e
 refine wS (RR:=fun acc C=>compPost (model X.prog X.w) X.A X.xe none (EP X pins σ Q) acc C) (Q:=fun H ys=>∀ p,H p=none->Q (.ref p) (upd H p (.lst ys))) S hc I2 T st2 f2 hg hi2 hg2 he hs2 hw ?_
 intro C D s' H' ys its m hC hD hDC hns hHC hHD pl v z IX q
 have cne:∀ a,s2.heap.objs.size<=a->∀ x c,X.env.cells.lookup x=some c->c≠a:=fun a ha x c e z=>by
  obtain ⟨v,w⟩:=I2.cell x c e
  exact Qy _ (Qo w.lt (by rw [z]; exact ha))
 have pne:∀ a,s2.heap.objs.size<=a->∀ p∈X.pn++pins,p.1≠a:=fun a ha p hp z=>Qy _ (Qo (Qm (I2.pin p hp).1) (by rw [z]; exact ha))
 have lne:∀ a,s2.heap.objs.size<=a->a≠X.env.locals:=fun a ha z=>Qy _ (Qo I2.lt (by rw [<- z]; exact ha))
 refine ⟨m,hns,fun h' hs'=>⟨.ref D,upd H' D (.lst ys),?_,rfl,q D hHD⟩⟩
 have IT:Inv X pins σ (upd H' D (.lst ys)) s':=IX.track pl v z hHD (lne D hD) (Qw I2.sz hD) (cne D hD) (pne D hD)
 exact IT.turned (t':=s'.toks) (it:=C) (fun b o hb e=>(hs'.2 b hb).trans e) (by rw [aH (Ne.symm hDC)]; exact hHC) (lne C hC) (.inr (Qw I2.sz hC)) (cne C hC) (pne C hC)
end
section
variable {own:Nat} {fr:List Nat} {g g2:TG} {wi2:TI} {te:TE} {σ:St} {H:Hp} {Qf:Hp->List V->Prop} {K:PySem.W.Frag}
def aC9 (g2:TG) (te:TE) (SH:St->Prop) (vs:List V) (σ2:St) (J2:It) (H4:Hp):Prop:=∃ SH2:St->Prop,SH2 σ2/\(∀ σ3,SH2 σ3->SH σ3)/\(∀ H',aD H4 H'->J2.stop vs.length H')/\(∀ j H',j < vs.length->aD H4 H'->J2.go j H') /\
 ∀ j v y σ3 H5 H6,vs[j]?=some v->SH2 σ3->aD H4 H5->J2.yld j H5 y H6->∀ Q:V->St->Hp->Prop,(∀ σ4 H7,SH2 σ4->aD H5 H7->Q v σ4 H7)->g2 y σ3 H6 fun σ4 H7=>te σ4 H7 fun z H8=>Q z σ4 H8
theorem sW {vss:List (List V)} {i:Nat} {vs:List V} (h:vss[i]?=some vs):(vss.take (i+1)).flatten=(vss.take i).flatten++vs:=by
 rw [Jn,h,Yq]; simp
theorem aBV {vss:List (List V)} {i:Nat} {vs:List V} (h:vss[i]?=some vs):(vss.take i).flatten.length+vs.length<=vss.flatten.length:=by
 have e:=congrArg List.flatten (List.take_append_drop (i+1) vss)
 rw [Yq,sW h] at e
 rw [<- e,Qe,Qe]
 omega
theorem aBW {J:It} {n:Nat} {vss:List (List V)} (SH:St->Prop) (hn:vss.flatten.length<=1000) (hl:vss.length=n) (hσ:SH (blk own fr σ)) (hstop:∀ H',aD H H'->J.stop n H') (hgo:∀ i H',i < n->aD H H'->J.go i H')
  (hs:∀ i vs x σ H1 H2,i < n->vss[i]?=some vs->SH σ->aD H H1->J.yld i H1 x H2->∀ P:St->It->Hp->Prop,(∀ σ2 J2 H4,aD H1 H4->aC9 g2 te SH vs σ2 J2 H4->P σ2 J2 H4)->g x σ H2 fun σ2 H3=>wi2 σ2 H3 fun J2 H4=>P σ2 J2 H4)
  (hd:∀ H',aD H H'->Qf H' vss.flatten) :
  ∃ W:Nat->Nat->List V->St->Hp->Prop,(∃ m,W 0 m [] (blk own fr σ) H)/\∀ i m ys σ' H,W i m ys σ' H ->
   (J.stop i H/\Qf H ys) ∨
   (J.go i H/\∃ N:List V->St->Hp->Prop,(∀ ys' σ2 H2,N ys' σ2 H2->∃ m',m' < m/\W (i+1) m' ys' σ2 H2) /\
    ∀ x H',J.yld i H x H'->g x σ' H' fun σ2 H2=>wi2 σ2 H2 fun J2 H3=>∃ W2:Nat->Nat->List V->St->Hp->Prop,(∃ m2,W2 0 m2 ys σ2 H3)/\∀ j m2 zs σ3 H4,W2 j m2 zs σ3 H4->(J2.stop j H4/\N zs σ3 H4)∨(J2.go j H4/\∃ N2:List V->St->Hp->Prop,(∀ zs' σ4 H5,N2 zs' σ4 H5->∃ m3,m3 < m2/\W2 (j+1) m3 zs' σ4 H5) /\
     ∀ x H',J2.yld j H4 x H'->g2 x σ3 H' fun σ4 H5=>te σ4 H5 fun y H6=>zs.length < sizeLine/\N2 (zs++[y]) σ4 H6)):=by
 refine ⟨fun i m ys σ' H'=>i<=n/\m=n - i/\ys=(vss.take i).flatten/\SH σ'/\aD H H',⟨n,Jh _,rfl,rfl,hσ,aD.refl H⟩,?_⟩
 rintro i m ys σ' H1 ⟨hi,rfl,rfl,sh,s1⟩
 by_cases e:i=n
 ·subst e
  refine .inl ⟨hstop H1 s1,?_⟩
  rw [Jj (by omega)]
  exact hd H1 s1
 have hlt:i < n:=by omega
 refine .inr ⟨hgo i H1 hlt s1,fun ys' σ2 H2=>ys'=(vss.take (i+1)).flatten/\SH σ2/\aD H H2,fun ys' σ2 H2 ⟨e1,e2,e3⟩=>⟨n - (i+1),by omega,by omega,rfl,e1,e2,e3⟩,fun x H2 hy=>?_⟩
 have hv:vss[i]?=some vss[i]:=Qc (by omega)
 have hfl:=aBV hv
 refine hs i vss[i] x σ' H1 H2 hlt hv sh s1 hy _ fun σ2 J2 H4 s4 hx9=>?_
 obtain ⟨SH2,sh2,hb,st2,go2,step2⟩:=hx9
 refine ⟨fun j m2 zs σ3 H5=>j<=(vss[i]).length/\m2=(vss[i]).length - j/\zs=(vss.take i).flatten++(vss[i]).take j/\SH2 σ3/\aD H4 H5,⟨_,Jh _,rfl,by rw [Zk,Za],sh2,aD.refl _⟩,?_⟩
 rintro j m2 zs σ3 H5 ⟨hj,rfl,rfl,sh3,s5⟩
 by_cases e2:j=(vss[i]).length
 ·refine .inl ⟨e2 ▸ st2 H5 s5,?_,hb _ sh3,(s1.trans s4).trans s5⟩
  rw [sW hv,show (vss[i]).take j=vss[i] from Jj (by omega)]
 ·have hjl:j < (vss[i]).length:=by omega
  refine .inr ⟨go2 j H5 hjl s5,fun zs' σ4 H6=>zs'=(vss.take i).flatten++(vss[i]).take (j+1)/\SH2 σ4/\aD H4 H6,fun zs' σ4 H6 ⟨q1,q2,q3⟩=>⟨(vss[i]).length - (j+1),by omega,by omega,rfl,q1,q2,q3⟩,fun y H6 hy2=>?_⟩
  have hvj:(vss[i])[j]?=some (vss[i])[j]:=Qc hjl
  refine step2 j _ y σ3 H5 H6 hvj sh3 s5 hy2 _ fun σ4 H7 sh4 s7=>⟨aBR (n:=((vss.take i).flatten++(vss[i]).take j).length+1) (by rw [Qe,Qu]; omega),?_,sh4,s5.trans s7⟩
  rw [Jn,hvj,<- Yd]
  rfl
end
section
variable {X:Cx}
end
section
variable {κ:Type} [DecidableEq κ]
def eQ (kvs:List (κ×V)) (k:κ):Option V:=(kvs.find? fun kv=>decide (kv.1=k)).map (·.2)
def iT (kvs:List (κ×V)) (k:κ) (v:V):List (κ×V) :=
 if (kvs.any fun kv=>decide (kv.1=k))=true then kvs.map (fun kv=>if kv.1=k then (kv.1,v) else kv) else kvs++[(k,v)]
def aDD (kvs:List (κ×V)) (k:κ):List (κ×V):=kvs.filter fun kv=>decide (kv.1≠k)
theorem aBX {k:κ}:eQ ([]:List (κ×V)) k=none:=rfl
theorem eT {p:κ×V} {r:List (κ×V)} {k:κ} (e:p.1=k):eQ (p::r) k=some p.2:=by simp [eQ,Xv,e]
theorem fG {p:κ×V} {r:List (κ×V)} {k:κ} (e:¬ p.1=k):eQ (p::r) k=eQ r k:=by simp [eQ,Xv,e]
theorem iO (k:κ):∀ kvs:List (κ×V),(kvs.any fun kv=>decide (kv.1=k))=(eQ kvs k).isSome
 | []=>rfl
 | p::r=>by
  rw [Zo]
  by_cases e:p.1=k
  ·simp only [eT e,decide_eq_true e,Bool.true_or,Option.isSome_some]
  ·rw [fG e,decide_eq_false e,Bool.false_or]; exact iO k r
theorem wT (k j:κ) (y:V):∀ kvs:List (κ×V),eQ (kvs.map fun kv=>if kv.1=k then (kv.1,y) else kv) j=(eQ kvs j).map fun x=>if j=k then y else x
 | []=>rfl
 | p::r=>by
  have ih:=wT k j y r
  rw [Jf]
  by_cases h:p.1=k
  ·rw [if_pos h]
   by_cases e:p.1=j
   ·rw [eT (p:=(p.1,y)) e,eT e,Xf,if_pos (e.symm.trans h)]
   ·rw [fG (p:=(p.1,y)) e,fG e,ih]
  ·rw [if_neg h]
   by_cases e:p.1=j
   ·rw [eT (p:=p) e,eT e,Xf,if_neg (fun z=>h (e.trans z))]
   ·rw [fG (p:=p) e,fG e,ih]
theorem oM (k j:κ) (y:V):∀ kvs:List (κ×V),eQ kvs k=none->eQ (kvs++[(k,y)]) j=if j=k then some y else eQ kvs j
 | [],_=>by
  by_cases e:k=j
  ·rw [if_pos e.symm]; exact eT (p:=(k,y)) e
  ·rw [if_neg (fun z=>e z.symm)]; exact fG (p:=(k,y)) e
 | p::r,hn=>by
  rw [List.cons_append]
  have hk:¬ p.1=k:=fun z=>by rw [eT z] at hn; cases hn
  rw [fG hk] at hn
  have ih:=oM k j y r hn
  by_cases e:p.1=j
  ·rw [eT e,eT e,if_neg (fun z=>hk (e.trans z))]
  ·rw [fG e,fG e,ih]
theorem wU (kvs:List (κ×V)) (k j:κ) (y:V):eQ (iT kvs k y) j=if j=k then some y else eQ kvs j:=by
 unfold iT
 by_cases a:(kvs.any fun kv=>decide (kv.1=k))=true
 ·rw [if_pos a,wT]
  rw [iO] at a
  by_cases e:j=k
  ·obtain ⟨x,hx⟩:=Yc.mp a
   rw [if_pos e,e,hx,Xf,if_pos rfl]
  ·rw [if_neg e]
   cases eQ kvs j with
   | none=>rfl
   | some x=>rw [Xf,if_neg e]
 ·rw [if_neg a]
  refine oM k j y kvs ?_
  rw [iO] at a
  cases q:eQ kvs k with
  | none=>rfl
  | some x=>rw [q] at a; exact (a rfl).elim
theorem gS (kvs:List (κ×V)) (k:κ) (v:V):(iT kvs k v).length<=kvs.length+1:=by
 unfold iT
 split
 ·rw [Qb]; omega
 ·rw [Qe,Jt,List.length_nil]; omega
theorem aBY {kvs:List (κ×V)} {k:κ} (v:V) (h:eQ kvs k=none):iT kvs k v=kvs++[(k,v)]:=by
 unfold iT
 rw [iO,h]
 exact if_neg (by decide)
theorem pE.isSome_eq {o:Option V} {u:Option Value} (r:pE o u):o.isSome=u.isSome:=by
 cases o with
 | none => cases u with
   | none=>rfl
   | some _=>exact (show False from r).elim
 | some _ => cases u with
   | none=>exact (show False from r).elim
   | some _=>rfl
theorem pE.getD {o:Option V} {u:Option Value} {d:V} {d':Value} (r:pE o u) (rd:bO d d'):bO (o.getD d) (u.getD d'):=by
 cases o with
 | none => cases u with
   | none=>exact rd
   | some _=>exact (show False from r).elim
 | some _ => cases u with
   | none=>exact (show False from r).elim
   | some _=>exact r
theorem KV.val {kvs:List (κ×V)} {vs:List (κ×Value)} (r:KV kvs vs) (k:κ):pE (eQ kvs k) (valueAt vs k):=by
 unfold KV at r
 induction r with
 | nil=>exact True.intro
 | @cons p q ps qs h t ih =>
  obtain ⟨h1,h2⟩:=h
  by_cases e:p.1=k
  ·have e':q.1=k:=h1.symm.trans e
   have b:valueAt (q::qs) k=some q.2:=by simp [valueAt,Xv,e']
   rw [eT e,b]; exact h2
  ·have e':¬ q.1=k:=fun z=>e (h1.trans z)
   have b:valueAt (q::qs) k=valueAt qs k:=by simp [valueAt,Xv,e']
   rw [fG e,b]; exact ih
theorem KV.any {kvs:List (κ×V)} {vs:List (κ×Value)} (r:KV kvs vs) (k:κ):(kvs.any fun kv=>decide (kv.1=k))=vs.any fun kv=>decide (kv.1=k):=by
 unfold KV at r
 induction r with
 | nil=>rfl
 | cons h t ih=>rw [Zo,Zo,ih,h.1]
theorem KV.repl {kvs:List (κ×V)} {vs:List (κ×Value)} (r:KV kvs vs) (k:κ) {y:V} {u:Value} (ry:bO y u) :
  KV (kvs.map fun kv=>if kv.1=k then (kv.1,y) else kv) (vs.map fun kv=>if kv.1=k then (kv.1,u) else kv):=by
 unfold KV at r ⊢
 induction r with
 | nil=>exact .nil
 | @cons p q ps qs h t ih =>
  rw [Jf,Jf]
  refine .cons ?_ ih
  obtain ⟨h1,h2⟩:=h
  by_cases e:p.1=k
  ·rw [if_pos e,if_pos (h1.symm.trans e)]; exact ⟨h1,ry⟩
  ·rw [if_neg e,if_neg (fun z=>e (h1.trans z))]; exact ⟨h1,h2⟩
theorem KV.put {kvs:List (κ×V)} {vs:List (κ×Value)} (r:KV kvs vs) (k:κ) {y:V} {u:Value} (ry:bO y u):KV (iT kvs k y) (stored vs k u):=by
 unfold iT stored
 rw [r.any k]
 by_cases e:(vs.any fun kv=>decide (kv.1=k))=true
 ·rw [if_pos e,if_pos e]; exact r.repl k ry
 ·rw [if_neg e,if_neg e]; exact Paired.snoc r ⟨rfl,ry⟩
theorem KV.drop {kvs:List (κ×V)} {vs:List (κ×Value)} (r:KV kvs vs) (k:κ):KV (aDD kvs k) (without vs k):=by
 unfold KV at r ⊢
 unfold aDD without
 induction r with
 | nil=>exact .nil
 | @cons p q ps qs h t ih =>
  obtain ⟨h1,h2⟩:=h
  rw [List.filter_cons,List.filter_cons]
  by_cases e:p.1=k
  ·have a:¬ decide (p.1≠k)=true:=by simp [e]
   have b:¬ decide (q.1≠k)=true:=by simp [h1.symm.trans e]
   rw [if_neg a,if_neg b]; exact ih
  ·have e':¬ q.1=k:=fun z=>e (h1.trans z)
   have a:decide (p.1≠k)=true:=by simp [e]
   have b:decide (q.1≠k)=true:=by simp [e']
   rw [if_pos a,if_pos b]; exact .cons ⟨h1,h2⟩ ih
theorem KV.keys {kvs:List (κ×V)} {vs:List (κ×Value)} (r:KV kvs vs):kvs.map (·.1)=vs.map (·.1):=by
 unfold KV at r
 induction r with
 | nil=>rfl
 | cons h t ih=>rw [Jf,Jf,ih,h.1]
theorem KV.length {kvs:List (κ×V)} {vs:List (κ×Value)} (r:KV kvs vs):kvs.length=vs.length:=Paired.length r
end
theorem sX {P:Program} {w:World} {k:Key} {u:Value} (r:bO (kV k) u):(bT P w).is k u=true:=by
 cases k with
 | inl i=>obtain ⟨t,e⟩:=(show ∃ t,u=Value.int i t from r); subst e; exact vV P w i t
 | inr x=>obtain ⟨t,e⟩:=(show ∃ t,u=Value.str x t from r); subst e; exact vW P w x t
theorem sY {P:Program} {w:World}:∀ {ks:List Key} {us:List Value},aY (ks.map kV) us->ItemsAre (bT P w) ks us
 | [],_,r=>by rw [Yk] at r; cases r; exact .nil
 | k::ks,_,r=>by
  rw [Jf] at r
  cases r with
  | cons h t=>exact .cons (sX h) (sY t)
abbrev KT (H:Hp):List (List Key×V)->List (List Key×Addr×Value)->Prop:=Paired fun p q=>p.1=q.1/\H q.2.1=some (.tup (p.1.map kV))/\bO p.2 q.2.2
theorem KT.val {H:Hp} {kvs:List (List Key×V)} {xs:List (List Key×Addr×Value)} (r:KT H kvs xs) (k:List Key):pE (eQ kvs k) ((atKey xs k).map (·.2)):=by
 induction r with
 | nil=>exact True.intro
 | @cons p q ps qs h t ih =>
  obtain ⟨h1,_,h2⟩:=h
  by_cases e:p.1=k
  ·have e':q.1=k:=h1.symm.trans e
   have b:atKey (q::qs) k=some q.2:=by simp [atKey,Xv,e']
   rw [eT e,b]; exact h2
  ·have e':¬ q.1=k:=fun z=>e (h1.trans z)
   have b:atKey (q::qs) k=atKey qs k:=by simp [atKey,Xv,e']
   rw [fG e,b]; exact ih
theorem KT.repl {H:Hp} {kvs:List (List Key×V)} {xs:List (List Key×Addr×Value)} (r:KT H kvs xs) (k:List Key) {y:V} {u:Value} (ry:bO y u) :
  KT H (kvs.map fun kv=>if kv.1=k then (kv.1,y) else kv) (xs.map (putAt k u)):=by
 induction r with
 | nil=>exact .nil
 | @cons p q ps qs h t ih =>
  rw [Jf,Jf]
  refine .cons ?_ ih
  obtain ⟨h1,h2,h3⟩:=h
  unfold putAt
  by_cases e:p.1=k
  ·rw [if_pos e,if_pos (h1.symm.trans e)]; exact ⟨h1,h2,ry⟩
  ·rw [if_neg e,if_neg (fun z=>e (h1.trans z))]; exact ⟨h1,h2,h3⟩
theorem KT.put {H:Hp} {kvs:List (List Key×V)} {xs:List (List Key×Addr×Value)} (r:KT H kvs xs) (k:List Key) {b:Addr} {y:V} {u:Value} (hb:H b=some (.tup (k.map kV))) (ry:bO y u) :
  KT H (iT kvs k y) (storedH xs k b u):=by
 have e:(kvs.any fun kv=>decide (kv.1=k))=(atKey xs k).isSome:=by
  rw [iO,(r.val k).isSome_eq,Yy]
 unfold iT storedH
 rw [e]
 by_cases q:(atKey xs k).isSome=true
 ·rw [if_pos q,if_pos q]; exact r.repl k ry
 ·rw [if_neg q,if_neg q]; exact Paired.snoc r ⟨rfl,hb,ry⟩
theorem KT.keeps {H H':Hp} {kvs:List (List Key×V)} {xs:List (List Key×Addr×Value)} (r:KT H kvs xs) (ht:∀ b ys,H b=some (.tup ys)->H' b=some (.tup ys)):KT H' kvs xs :=
 Paired.mapP r fun _ _ z=>⟨z.1,ht _ _ z.2.1,z.2.2⟩
section
variable {P:Program} {w:World} {H:Hp} {h:Heap} {a:Addr}
theorem aDE {u:HO} (ok:HOk P w H h) (e:Rd H a u):bX P w H h a u:=e.ok ok
theorem zY {kvs:List (Key×V)} (ok:HOk P w H h) (e:Rd H a (.dK kvs)):kvs.length<=sizeLine/\(a==sysModules)=false/\∃ vs,KV kvs vs/\h.DictOf (bT P w) a vs :=
 show bX P w H h a (.dK kvs) from aDE ok e
theorem aE0 {kvs:List (Key×V)} (ok:HOk P w H h) (e:H a=some (.dK kvs)):kvs.length<=sizeLine/\(a==sysModules)=false/\∃ vs,KV kvs vs/\h.DictOf (bT P w) a vs:=zY ok (.inl e)
theorem uL {ks:List Key} (ok:HOk P w H h) (e:H a=some (.tup (ks.map kV))):(tupleKind (bT P w)).is h ks a:=by
 obtain ⟨_,its,n,r,e1⟩:=(show bX P w H h a (.tup (ks.map kV)) from ok a _ e)
 exact ⟨_,its.toArray,n,e1,rfl,rfl,by simpa using sY r⟩
theorem zZ {kvs:List (List Key×V)} (ok:HOk P w H h) (e:Rd H a (.dT kvs)):kvs.length<=sizeLine/\(a==sysModules)=false /\
  ∃ xs,KT H kvs xs/\h.DictOfH (tupleKind (bT P w)) a xs:=by
 obtain ⟨z,y,xs,r,o,es,ep,h1,h2,h3,h4,h5⟩:=(show bX P w H h a (.dT kvs) from aDE ok e)
 refine ⟨z,y,xs,r,o,es,ep,h1,h2,h3,h4,fun x hx=>?_,h5⟩
 have all:∀ {l:List (List Key×V)} {m:List (List Key×Addr×Value)},KT H l m->∀ x∈m,(tupleKind (bT P w)).is h x.1 x.2.1:=by
  intro l m q
  induction q with
  | nil=>intro x hx; exact nomatch hx
  | @cons p q ps qs hq t ih =>
   intro x hx
   rcases Qj.mp hx with e | hx
   ·subst e
    exact uL ok (by rw [<- hq.1]; exact hq.2.1)
   ·exact ih x hx
 exact all r x hx
theorem aE1 {kvs:List (List Key×V)} (ok:HOk P w H h) (e:H a=some (.dT kvs)):kvs.length<=sizeLine/\(a==sysModules)=false /\
  ∃ xs,KT H kvs xs/\h.DictOfH (tupleKind (bT P w)) a xs:=zZ ok (.inl e)
end
def sG (H:Hp) (a:Addr) (y:V) (r:Option V):Prop :=
 (∃ kvs k,Rd H a (.dK kvs)/\y=kV k/\r=eQ kvs k)∨∃ kvs k b,Rd H a (.dT kvs)/\y=.ref b/\H b=some (.tup (k.map kV))/\r=eQ kvs k
def uM (H:Hp) (a:Addr) (y v:V) (H':Hp):Prop :=
 (∃ kvs k,H a=some (.dK kvs)/\y=kV k/\kvs.length < sizeLine/\H'=upd H a (.dK (iT kvs k v))) ∨
 ∃ kvs k b,H a=some (.dT kvs)/\y=.ref b/\H b=some (.tup (k.map kV))/\kvs.length < sizeLine/\H'=upd H a (.dT (iT kvs k v))
theorem sG.k {H:Hp} {a:Addr} {kvs:List (Key×V)} {k:Key} (e:H a=some (.dK kvs)):sG H a (kV k) (eQ kvs k):=.inl ⟨kvs,k,.inl e,rfl,rfl⟩
theorem sG.t {H:Hp} {a b:Addr} {kvs:List (List Key×V)} {k:List Key} (e:H a=some (.dT kvs)) (eb:H b=some (.tup (k.map kV))):sG H a (.ref b) (eQ kvs k):=.inr ⟨kvs,k,b,.inl e,rfl,eb,rfl⟩
theorem uM.k {H:Hp} {a:Addr} {kvs:List (Key×V)} {k:Key} {v:V} (e:H a=some (.dK kvs)) (hl:kvs.length < sizeLine):uM H a (kV k) v (upd H a (.dK (iT kvs k v))):=.inl ⟨kvs,k,e,rfl,hl,rfl⟩
theorem uM.t {H:Hp} {a b:Addr} {kvs:List (List Key×V)} {k:List Key} {v:V} (e:H a=some (.dT kvs)) (eb:H b=some (.tup (k.map kV))) (hl:kvs.length < sizeLine) :
  uM H a (.ref b) v (upd H a (.dT (iT kvs k v))):=.inr ⟨kvs,k,b,e,rfl,eb,hl,rfl⟩
section
variable {X:Cx} {pins:List (Addr×Obj)} {σ:St} {H:Hp} {s:Shared} {a:Addr} {y v:V} {u r:Value} {o:Option V} {A:Around} {E:Value->Shared->Prop}
theorem Inv.big (I:Inv X pins σ H s):sysModules < s.heap.objs.size:=by
 have h:mainGlobals < s.heap.objs.size:=(I.mod.glob.keeps I.bk).lt
 exact Nat.lt_trans (by decide) h
theorem aAV {Q:Value->Shared->Prop} (hu:A.units+1 < cLine) (I:Inv X pins σ H s) (g:sG H a y (some v)) (ry:bO y u) (h:∀ w' s',Inv X pins σ H s'->bO v w'->Q w' s') :
  wpAny (model X.prog X.w) A (getItem (.ref a) u) Q E s:=by
 rcases g with ⟨kvs,k,e,ey,l⟩ | ⟨kvs,k,b,e,ey,eb,l⟩
 ·subst ey
  obtain ⟨z,hd,vs,rel,dd⟩:=zY I.hok e
  obtain ⟨w',hw,rw'⟩:=pE.some_of (v:=v) (o:=valueAt vs k) (by rw [l]; exact rel.val k)
  exact wpAny_getItem_of (sX ry) dd.mapOf hw (h w' _ (I.tok _) rw')
 ·subst ey
  cases (show u=Value.ref b from ry)
  obtain ⟨z,hd,xs,rel,dd⟩:=zZ I.hok e
  obtain ⟨w',hw,rw'⟩:=pE.some_of (v:=v) (o:=(atKey xs k).map (·.2)) (by rw [l]; exact rel.val k)
  obtain ⟨p,hp,hp2⟩:=Option.map_eq_some_iff.mp hw
  refine wpAny_getItem_heap (tupleKind_room_in1 hu) (uL I.hok eb) dd hp ?_
  rw [hp2]
  exact h w' _ (I.tok _) rw'
theorem aDa {Q:Value->Shared->Prop} (hu:A.units+1 < cLine) (I:Inv X pins σ H s) (g:sG H a y o) (ry:bO y u) (h:∀ s',Inv X pins σ H s'->Q (.bool (!o.isSome)) s') :
  wpAny (model X.prog X.w) A (compareOp .NotIn u (.ref a)) Q E s:=by
 rcases g with ⟨kvs,k,e,ey,l⟩ | ⟨kvs,k,b,e,ey,eb,l⟩
 ·subst ey
  obtain ⟨z,hd,vs,rel,dd⟩:=zY I.hok e
  refine wpAny_notIn_of (sX ry) hd dd.mapOf ?_
  rw [<- (rel.val k).isSome_eq,<- l]
  exact h _ (I.tok _)
 ·subst ey
  cases (show u=Value.ref b from ry)
  obtain ⟨z,hd,xs,rel,dd⟩:=zZ I.hok e
  refine wpAny_notIn_heap (tupleKind_room_in1 hu) (uL I.hok eb) hd dd ?_
  have q:=(rel.val k).isSome_eq
  rw [Yy] at q
  rw [<- q,<- l]
  exact h _ (I.tok _)
theorem uN {h':Heap} {t':Nat} {ob:HO} (I:Inv X pins σ H s) (mu:Mut (H a)) (hs:Heap.SameBut a s.heap h') (he:∃ q,h'.get? a=some q) (new:bX X.prog X.w (upd H a ob) h' a ob) :
  Inv X pins σ (upd H a ob) { s with heap:=h',toks:=t' } :=
 I.write (x:=a) (e:=a) mu (.inl rfl) (fun b q hb z=>(hs.2 b hb).trans z) he new
theorem aBZ {P:Program} {w:World} {H':Hp} {h':Heap} {kvs:List (Key×V)} {vs:List (Key×Value)} (z:kvs.length<=sizeLine) (hd:(a==sysModules)=false) (rel:KV kvs vs) (dd:h'.DictOf (bT P w) a vs) :
  bX P w H' h' a (.dK kvs):=⟨z,hd,vs,rel,dd⟩
theorem aAW {H':Hp} {Q:Unit->Shared->Prop} (hu:A.units+1 < cLine) (I:Inv X pins σ H s) (g:uM H a y v H') (ry:bO y u) (rv:bO v r) (h:∀ s',Inv X pins σ H' s'->Q () s') :
  wpAny (model X.prog X.w) A (setItem (.ref a) u r) Q E s:=by
 rcases g with ⟨kvs,k,e,ey,l,eH⟩ | ⟨kvs,k,b,e,ey,eb,l,eH⟩
 ·subst ey eH
  obtain ⟨z,hd,vs,rel,dd⟩:=aE0 I.hok e
  have hz:vs.length<=sizeLine:=by rw [<- rel.length]; exact z
  have hl:(iT kvs k v).length<=sizeLine:=by have:=gS kvs k v; omega
  refine wpAny_setItem_pairs (hsz:=hz) (sX ry) dd fun h' dd' hs=>h _ ?_
  have he:∃ q,h'.get? a=some q:=let ⟨q,_,_,hq,_⟩:=dd'; ⟨q,hq⟩
  exact uN I (by rw [e]; exact True.intro) hs he (aBZ hl hd (rel.put k rv) dd')
 ·subst ey eH
  cases (show u=Value.ref b from ry)
  obtain ⟨z,hd,xs,rel,dd⟩:=aE1 I.hok e
  have hz:xs.length<=sizeLine:=by rw [<- Paired.length rel]; exact z
  have hl:(iT kvs k v).length<=sizeLine:=by have:=gS kvs k v; omega
  refine wpAny_setItem_heap (hsz:=hz) (tupleKind_room_in1 hu) (uL I.hok eb) dd fun h' dd' hs=>h _ ?_
  obtain ⟨q,es,ep,hq,h2,h3,h4,_,h5⟩:=dd'
  refine uN I (by rw [e]; exact True.intro) hs ⟨q,hq⟩ ⟨hl,hd,_,(rel.put k eb rv).keeps fun c ys ec=>?_,q,es,ep,hq,h2,h3,h4,h5⟩
  rw [aH (aEx ec e (fun z=>nomatch z))]
  exact ec
end
section
variable {X:Cx} {pins:List (Addr×Obj)} {σ:St} {H:Hp} {s:Shared} {a:Addr} {kvs:List (Key×V)} {k:Key} {u:Value} {A:Around} {E:Value->Shared->Prop}
end
def aE2 (i:Expr):Prop:=∀ ov iv,subscripted i false ov iv=operate [ov,iv] (getItem ov iv)
theorem aDb {prog:Program} {w:World} {A:Around} {E:Value->Shared->Prop} {s:Shared} {env:Env} {value slice:Expr} {pos:Pos} {T id:String} {Q:Value->Shared->Prop}
  (hl:typeLookup (.type T) "__getitem__" = pure (some (.builtin id))) (hs:aE2 slice)
  (h:wpAny (model prog w) A (eval value env) (fun o s₁=>wpAny (model prog w) A (eval slice env) (fun i s₂=>s₂.TypeIs o T/\wpAny (model prog w) A (getItem o i) Q E s₂) E s₁) E s) :
  wpAny (model prog w) A (eval (.Subscript value slice pos) env) Q E s:=by
 refine Subscript_ (wpAny_mono h (fun o s₁ h₁=>wpAny_mono h₁ (fun i s₂ h₂=>?_) fun _ _ x=>x) fun _ _ x=>x)
 obtain ⟨hT,h₂⟩:=h₂
 unfold subscriptTail
 refine wpAny_bind ?_
 rw [getitemInPython_of_ne hT.not_modules]
 refine wpAny_bind (wpAny_specialOf hT hl ?_)
 have fin:wpAny (model prog w) A (subscripted slice false o i) (fun r s₃=>wpAny (model prog w) A (letTemporaryGo value o r >>= fun _=>pure r) Q E s₃) E s₂:=by
  rw [hs o i]
  exact wpAny_operating (wpAny_mono h₂ (fun r s₃ h₃=>wpAny_bind (wpAny_letTemporaryGo (wpAny_pure h₃))) fun _ _ x=>x)
 first
  | exact wpAny_pure (wpAny_bind fin)
  | exact wpAny_bind (wpAny_pure (wpAny_bind fin))
  | exact wpAny_bind fin
theorem wV {X:Cx} {pins:List (Addr×Obj)} {σ:St} {H:Hp} {s:Shared} {a:Addr} {y:V} {o:Option V} (I:Inv X pins σ H s) (g:sG H a y o):s.TypeIs (.ref a) "dict" := by
 rcases g with ⟨kvs,k,e,_,_⟩ | ⟨kvs,k,b,e,_,_,_⟩
 ·obtain ⟨_,_,vs,_,dd⟩:=zY I.hok e
  exact dd.typeIs
 ·obtain ⟨_,_,xs,_,dd⟩:=zZ I.hok e
  exact dd.typeIs
def aE3 (td ty:TE):TE:=fun σ H Q=>td σ H fun x H1=>ty σ H1 fun y H2=>∃ a v,x=.ref a/\sG H2 a y (some v)/\Q v H2
def aDc (ty td:TE):TE:=fun σ H Q=>ty σ H fun y H1=>td σ H1 fun x H2=>∃ a o,x=.ref a/\sG H2 a y o/\Q (.bl (!o.isSome)) H2
def aE4 (td ty tv:TE):TS:=fun D σ H=>tv σ H fun v H1=>td σ H1 fun x H2=>ty σ H2 fun y H3=>∃ a H4,x=.ref a/\uM H3 a y v H4/\D.nx σ H4
section
variable {X:Cx} {o i e value:Expr} {pos pos' tpos:Pos} {td ty tv:TE}
theorem uO (hu:X.A.units+1 < cLine) (ho:PE X o td) (hi:PE X i ty) (hs:aE2 i):PE X (.Subscript o i pos) (aE3 td ty):=by
 intro pins s σ H Q I h
 refine aDb PySem.F.slot_dict_getitem.lookup hs (thn (ho pins s σ H _ I h) fun u s1 ⟨x,H1,I1,rx,q1⟩=>thn (hi pins s1 σ H1 _ I1 q1) fun iv s2 hx9=>?_)
 obtain ⟨y,H2,I2,ry,a,v,ex,g,q2⟩:=hx9
 subst ex
 obtain rfl:u=Value.ref a:=rx
 exact ⟨wV I2 g,aAV hu I2 g ry fun w' s3 I3 rw'=>⟨v,H2,I3,rw',q2⟩⟩
theorem aAX (hu:X.A.units+1 < cLine) (hi:PE X i ty) (ho:PE X o td):PC X .NotIn i o (aDc ty td):=by
 intro pins s σ H Q I h
 refine thn (hi pins s σ H _ I h) fun iv s1 ⟨y,H1,I1,ry,q1⟩=>thn (ho pins s1 σ H1 _ I1 q1) fun u s2 hx9=>?_
 obtain ⟨x,H2,I2,rx,a,ov,ex,g,q2⟩:=hx9
 subst ex
 obtain rfl:u=Value.ref a:=rx
 exact aDa hu I2 g ry fun s3 I3=>⟨.bl (!ov.isSome),H2,I3,rfl,q2⟩
theorem uP (hu:X.A.units+1 < cLine) (ho:PE X o td) (hi:PE X i ty) (hv:PE X value tv) (hs:swapsWith value (some (.Subscript o i pos')) pos.line X.env=pure false) :
  PS X (.Assign [.Subscript o i pos'] value pos) (aE4 td ty tv):=by
 intro pins s σ H D I h
 refine wpAny_Assign_Subscript (thn (hv pins s σ H _ I h) fun r s1 ⟨v,H1,I1,rv,q1⟩=>thn (ho pins s1 σ H1 _ I1 q1) fun u s2 ⟨x,H2,I2,rx,q2⟩=>thn (hi pins s2 σ H2 _ I2 q2) fun iv s3 hx9=>?_) hs
 obtain ⟨y,H3,I3,ry,a,H4,ex,g,q3⟩:=hx9
 subst ex
 obtain rfl:u=Value.ref a:=rx
 exact aAW hu I3 g ry rv fun s4 I4=>⟨σ,H4,I4,q3⟩
end
theorem wW {P:Program} {w:World} {H:Hp} (h:Heap) (hb:sysModules < h.objs.size):bX P w H (h.push { cls:=.type "dict",data:=.dict #[] }) h.objs.size (.dK []) :=
 ⟨Jh _,beq_eq_false_iff_ne.mpr (Ne.symm (Jb hb)),[],.nil,Heap.DictOf.new h⟩
def aEf:TE:=fun _ H Q=>∀ p,H p=none->Q (.ref p) (upd H p (.dK []))
section
variable {X:Cx} {pos:Pos}
theorem wX:PE X (.Dict [] [] pos) aEf:=fun pins s σ H Q I h =>
 wpAny_Dict_empty ⟨.ref s.heap.objs.size,_,I.laid (a:=s.heap.objs.size) (o:=.dK []) (t':=s.toks) (fun _ _ q=>Qa _ q) (Qg _) (wW s.heap I.big),rfl,h _ (I.hok.fresh (Qg _))⟩
end
def NF (H0:Hp) (a:Addr):Prop:=∀ o u,H0 a≠some (.frz o u)
section
variable {X:Cx} {pins:List (Addr×Obj)} {σ:St} {H:Hp} {s:Shared} {a:Addr}
theorem Inv.freeze {kvs:List (Key×V)} {o:Obj} (I:Inv X pins σ H s) (e:H a=some (.dK kvs)) (ho:s.heap.get? a=some o):Inv X pins σ (upd H a (.frz o (.dK kvs))) s:=by
 have m:Mut (H a):=by rw [e]; trivial
 have q:bX X.prog X.w H s.heap a (.dK kvs):=I.hok a _ e
 exact I.write (x:=a) (e:=a) (t':=s.toks) m (.inl rfl) (fun b u _ z=>z) ⟨o,ho⟩ ⟨ho,q⟩
theorem Inv.nf {kvs:List (Key×V)} (I:Inv X pins σ H s) (e:H a=some (.dK kvs)):NF X.H₀ a:=fun o u z=>by
 have:=I.base.frzs a o u z
 rw [e] at this; cases this
theorem Inv.thaw {kvs:List (Key×V)} {o:Obj} (I:Inv X pins σ H s) (e:H a=some (.frz o (.dK kvs))) (nf:NF X.H₀ a):Inv X pins σ (upd H a (.dK kvs)) s:=by
 have ne:∀ b,H b=none->b≠a:=fun b n z=>by rw [z,e] at n; cases n
 have nt:∀ b xs,H b=some (.tup xs)->b≠a:=fun b xs n z=>by rw [z,e] at n; cases n
 have no:∀ b x,H b=some (.own x)->b≠a:=fun b xs n z=>by rw [z,e] at n; cases n
 obtain ⟨ho,q⟩:s.heap.get? a=some o/\bX X.prog X.w H s.heap a (.dK kvs):=I.hok a _ e
 have un:Un X.fs X.ex X.H₀ (upd H a (.dK kvs)) X.s₀.heap s.heap:=by
  refine ⟨I.base.keep,I.base.slot,fun b ob q n hx=>?_,I.base.there,fun b xs q=>?_,fun b ob u q=>?_,fun b ps q=>?_⟩
  ·have z:=I.base.free b ob q n hx
   rw [aH (ne b z)]; exact z
  ·have z:=I.base.tups b xs q
   rw [aH (nt b xs z)]; exact z
  ·have z:=I.base.frzs b ob u q
   have n:b≠a:=fun y=>nf ob u (y ▸ q)
   rw [aH n]; exact z
  ·obtain ⟨m,z⟩:=I.base.tbls b ps q
   have n:b≠a:=fun y=>by rw [y,e] at z; cases z
   exact ⟨m,by rw [aH n]; exact z⟩
 refine ⟨I.ok,I.os,I.bare,un,I.loc,I.cell,?_,fun x c h=>?_,fun p hp=>?_,fun b u h=>?_,I.len⟩
 ·rw [aH (ne _ I.free)]; exact I.free
 ·have z:=I.freeC x c h
  rw [aH (ne _ z)]; exact z
 ·obtain ⟨p1,p2,p3⟩:=I.pin p hp
  exact ⟨p1,by rw [aH (ne _ p2)]; exact p2,p3⟩
 ·by_cases hb:b=a
  ·subst hb
   rw [aC] at h
   cases h
   exact bX.stay q (fun _ _ _ z=>z) (fun c z=>by rw [aH (no c _ z)]; exact z) (fun c xs z=>by rw [aH (nt c xs z)]; exact z)
  ·rw [aH hb] at h
   exact bX.stay (I.hok b u h) (fun _ _ _ z=>z) (fun c z=>by rw [aH (no c _ z)]; exact z) (fun c xs z=>by rw [aH (nt c xs z)]; exact z)
end
def Itd (a:Addr) (o:Obj) (kvs:List (Key×V)):It :=
 ⟨fun i H=>H a=some (.frz o (.dK kvs))/\i < kvs.length,fun i H x H'=>H'=H/\∃ p,kvs[i]?=some p/\x=kV p.1,fun i H=>H a=some (.frz o (.dK kvs))/\i=kvs.length⟩
theorem wY {P:Program} {w:World} {k:Key} {u:Value} (h:(bT P w).is k u=true):bO (kV k) u:=by
 rcases cS h with ⟨i,t,rfl,rfl⟩ | ⟨x,t,rfl,rfl⟩
 ·exact ⟨t,rfl⟩
 ·exact ⟨t,rfl⟩
theorem oN {P:Program} {w:World} {h:Heap} {a:Addr} {o:Obj} {es:Array DictEntry} {ep:Nat} {vs:List (Key×Value)} (ho:h.get? a=some o) (hd:o.data=.dict es ep) (d:h.DictOf (bT P w) a vs):h.DictAt (bT P w) a vs ep:=by
 obtain ⟨o',es',ep',q1,q2,q3,r⟩:=d
 rw [ho] at q1; cases q1
 rw [hd] at q3; cases q3
 exact ⟨o,es,ho,q2,hd,r⟩
theorem aAY {P:Program} {w:World} {K:PySem.W.Frag} {tg:Expr} (a it:Addr) (o:Obj) (es:Array DictEntry) (ep:Nat) (hd:o.data=.dict es ep) (kvs:List (Key×V)) :
  Turn P w K tg (Itd a o kvs) [it] it (fun i h=>h.IsKeyIter it a i kvs.length ep) where
 mem:=by simp
 obj:=fun i h st b hb=>by
  have e:b=it:=by simpa using hb
  subst e
  obtain ⟨o,e,c,d⟩:=st
  exact ⟨o,e,fun v z=>by rw [d] at z; cases z⟩
 keep:=fun i h h' st k=>st.at fun o e=>k it (by simp) o e
 item:=by
  intro X hP hw hK hc i pins s σ H E I hf st hg
  subst hP hw hK
  obtain ⟨hA,hi⟩:=hg
  obtain ⟨ho,hz,hs,vs,kv,dd⟩:s.heap.get? a=some o/\bX X.prog X.w H s.heap a (.dK kvs):=I.hok a _ hA
  have da:=oN ho hd dd
  have hl:kvs.length=vs.length:=kv.length
  obtain ⟨f0,f1,f2,f3,f4,f5⟩:=hf it (by simp)
  obtain ⟨⟨k,x⟩,hx⟩:∃ p,vs[i]?=some p:=⟨vs[i]'(by omega),by simp⟩
  rw [hl] at st
  refine wpAny_pyNext_dict_item st da hx fun key h' hkey st' sb=>?_
  have I1:Inv X pins σ H { s with heap:=h' }:=I.turned (t':=s.toks) (fun b o hb e=>(sb.2 b hb).trans e) f0 f1 f3 f4 f5
  obtain ⟨o',e',c',d'⟩:=id st'
  have hk:kvs[i]?=some (kvs[i]):=Qc hi
  have hkk:(kvs[i]).1=k:=by
   have e:=kv.keys
   have e1:(kvs.map (·.1))[i]?=some (kvs[i]).1:=by rw [Qi,hk]; rfl
   have e2:(vs.map (·.1))[i]?=some k:=by rw [Qi,hx]; rfl
   rw [e,e2] at e1
   exact (Option.some.inj e1).symm
  rw [<- hl] at st'
  exact ⟨key,rfl,zM (s:={ s with heap:=h' }) e' c' d' (by decide) ⟨kV k,H,I1,wY hkey,⟨rfl,_,hk,by rw [hkk]⟩,st',fun b hb=>(hf b hb).1⟩⟩
 done:=by
  intro X hP hw hK hc i pins s σ H E I hf st hg
  subst hP hw hK
  obtain ⟨hA,hi⟩:=hg
  obtain ⟨ho,hz,hs,vs,kv,dd⟩:s.heap.get? a=some o/\bX X.prog X.w H s.heap a (.dK kvs):=I.hok a _ hA
  have da:=oN ho hd dd
  have hl:kvs.length=vs.length:=kv.length
  obtain ⟨f0,f1,f2,f3,f4,f5⟩:=hf it (by simp)
  rw [hl] at st
  exact wpAny_pyNext_dict_end (I.ok.hd hc) st da (by simp; omega) fun h' eb=>⟨rfl,I.turned (t':=s.toks) (fun b o hb e=>eb b o hb e) f0 f1 f3 f4 f5⟩
 self:=fun _ _ _ _ _ st h=>wpAny_pyIter_keyiter st h
section
variable {X:Cx} {tg:Expr}
def aE5 (H0:Hp) (td:TE):TI:=fun σ H R=>td σ H fun x H1=>∃ a kvs,x=.ref a/\H1 a=some (.dK kvs)/\∀ o,NF H0 a->R (Itd a o kvs) (upd H1 a (.frz o (.dK kvs)))
theorem aAa {d:Expr} {td:TE} (hl:PE X d td):PI X tg d (aE5 X.H₀ td):=by
 intro pins s σ H R I h
 refine thn (hl pins s σ H _ I h) fun v s1 hx9=>?_
 obtain ⟨x,H1,I1,r1,q1⟩:=hx9
 obtain ⟨a,kvs,e,hq,q⟩:=q1
 subst e
 cases r1
 obtain ⟨hz,hs,vs,kv,dd⟩:bX X.prog X.w H1 s1.heap a (.dK kvs):=I1.hok a _ hq
 obtain ⟨o,es,ep,ho,oe,hd,r⟩:=id dd
 have da:=oN ho hd dd
 refine wpAny_pyIter_dict hs da ?_
 have I2:=(I1.freeze hq ho).kept (h':=s1.heap.push { cls:=.type "dict_keyiterator",data:=.fields #[.ref a,.int 0 0,.int vs.length 0,.int ep 0] }) (t':=s1.toks) fun b o e=>Qa _ e
 have nA:a≠s1.heap.objs.size:=Jb (Qm ho)
 refine ⟨s1.heap.objs.size,[s1.heap.objs.size],_,_,_,rfl,I2,aAY a _ o es ep hd kvs,?_,fun b hb=>?_,q o (I1.nf hq)⟩
 ·refine ⟨_,Qk _ rfl,rfl,?_⟩
  rw [kv.length]; rfl
 ·have e:b=s1.heap.objs.size:=by simpa using hb
  subst e
  exact I1.fpOk (Qg _) (by rw [aH (Ne.symm nA)]; exact I1.hok.fresh (Qg _))
def aE6 (H0:Hp) (t:TS):TS:=fun D σ H=>t { D with nx:=fun σ' H'=>∃ a o kvs,H' a=some (.frz o (.dK kvs))/\NF H0 a/\D.nx σ' (upd H' a (.dK kvs)) } σ H
theorem aDd {st:Stmt} {t:TS} (h:PS X st t):PS X st (aE6 X.H₀ t):=by
 intro pins s σ H D I q
 refine thn (h pins s σ H _ I q) fun f s1 z=>?_
 cases f with
 | next =>
  obtain ⟨σ',H',I',a,o,kvs,e,nf,k⟩:=z
  exact ⟨σ',_,I'.thaw e nf,k⟩
 | brk=>exact z
 | cont=>exact z
 | ret u=>exact z
end
theorem aB0 {a:Addr} {o:Obj} {kvs:List (Key×V)} {g:TG} {tb:TS} {D:Ends} {σ:St} {H:Hp} (Pv:Nat->St->Hp->Prop) (h0:Pv 0 σ H) (hl:∀ i σ H,i<=kvs.length->Pv i σ H->H a=some (.frz o (.dK kvs)))
  (hs:∀ i p σ H,kvs[i]?=some p->Pv i σ H->g (kV p.1) σ H fun σ2 H2=>tb { D with nx:=Pv (i+1),ct:=Pv (i+1),bk:=D.nx } σ2 H2) (hd:∀ σ H,Pv kvs.length σ H->D.nx σ H) :
  ∃ W:Nat->Nat->St->Hp->Prop,(∃ m,W 0 m σ H)/\∀ i m σ H,W i m σ H ->
   ((Itd a o kvs).stop i H/\D.nx σ H)∨((Itd a o kvs).go i H/\∃ N:St->Hp->Prop,(∀ σ' H',N σ' H'->∃ m',m' < m/\W (i+1) m' σ' H')/\∀ x H',(Itd a o kvs).yld i H x H'->g x σ H' fun σ2 H2=>tb { D with nx:=N,ct:=N,bk:=D.nx } σ2 H2):=by
 refine ⟨fun i m σ H=>m=kvs.length - i/\i<=kvs.length/\Pv i σ H,⟨kvs.length,by simp,Jh _,h0⟩,?_⟩
 rintro i m σ H ⟨rfl,hi,p⟩
 have q:=hl i σ H hi p
 by_cases hlt:i < kvs.length
 ·refine .inr ⟨⟨q,hlt⟩,Pv (i+1),fun σ' H' p'=>⟨kvs.length - (i+1),by omega,rfl,hlt,p'⟩,fun x H' y=>?_⟩
  obtain ⟨rfl,v,hv,rfl⟩:=y
  exact hs i v σ H' hv p
 ·have e:i=kvs.length:=by omega
  subst e
  exact .inl ⟨⟨q,rfl⟩,hd σ H p⟩
def aEg (tk tv:TE):TE:=fun σ H Q=>∀ p,H p=none->tk σ (upd H p (.dK [])) fun x H1=>tv σ H1 fun y H2=>∃ k,x=kV k/\H2 p=some (.dK [])/\Q (.ref p) (upd H2 p (.dK [(k,y)]))
section
variable {X:Cx} {pos:Pos} {ek ev:Expr} {tk tv:TE}
theorem aB1 (hk:PE X ek tk) (hv:PE X ev tv) (he:evalEachOpt [some ek] X.env = [some (eval ek X.env)]:=by rfl) (he2:evalEach [ev] X.env = [eval ev X.env]:=by rfl):PE X (.Dict [some ek] [ev] pos) (aEg tk tv):=by
 intro pins s σ H Q I h
 have I0:Inv X pins σ (upd H s.heap.objs.size (.dK [])) { s with heap:=s.heap.push { cls:=.type "dict",data:=.dict #[] } }:=I.laid (a:=s.heap.objs.size) (o:=.dK []) (t':=s.toks) (fun _ _ q=>Qa _ q) (Qg _) (wW s.heap I.big)
 have h0:=h s.heap.objs.size (I.hok.fresh (Qg _))
 refine wpAny_Dict_pairs (knd:=bT X.prog X.w) (pairs:=[(eval ek X.env,do let x<-eval ev X.env; standAt pos; pure x)]) (by rw [he,he2]; rfl) (by simp) (by simp) ?_
 refine evalPairs_cons (thn (hk pins _ σ _ _ I0 h0) fun kv s1 hx9=>?_)
 obtain ⟨x,H1,I1,r1,q1⟩:=hx9
 refine wpAny_bind (thn (hv pins _ σ _ _ I1 q1) fun vv s2 hx9=>?_)
 obtain ⟨y,H2,I2,r2,q2⟩:=hx9
 refine wpAny_bind (wpAny_standAt (wpAny_pure (evalPairs_nil ?_)))
 obtain ⟨k,rfl,hp,q⟩:=q2
 obtain ⟨hz,hs,vs,kv',dd⟩:bX X.prog X.w H2 s2.heap s.heap.objs.size (.dK []):=I2.hok _ _ hp
 have ev0:vs = []:=by
  have:=kv'.length
  exact Yf.mp this.symm
 subst ev0
 refine ⟨[(k,vv)],⟨sX r1,rfl,trivial⟩,dd,fun h' dd' sb=>?_⟩
 have em:merged ([]:List (Key×Value)) [(k,vv)] = [(k,vv)]:=by simp [merged,stored]
 rw [em] at dd'
 obtain ⟨o',es',ep',ho',_⟩:=id dd'
 have mu:Mut (H2 s.heap.objs.size):=by rw [hp]; trivial
 refine ⟨.ref s.heap.objs.size,_,uN (t':=s2.toks+1) I2 mu sb ⟨_,ho'⟩ (aBZ (kvs:=[(k,y)]) (by simp [sizeLine_eq]) hs (.cons ⟨rfl,r2⟩ .nil) dd'),rfl,q⟩
end
section
variable {prog:Program} {w:World} {A:Around} {E:Value->Shared->Prop} {s:Shared}
def jS (h:Heap) (u:Value) (i:Int) (v:Value):Prop:=∃ p,u=.ref p/\((∃ its:Array Value,h.IsTuple p its/\0<=i/\i < 1000/\its[i.toNat]?=some v)∨∃ its:Array Value,h.IsList p its/\0<=i/\i < 1000/\its[i.toNat]?=some v)
theorem jS.keeps {h h':Heap} {u:Value} {i:Int} {v:Value} (x:jS h u i v) (k:∀ b o,h.get? b=some o->h'.get? b=some o):jS h' u i v:=by
 obtain ⟨p,rfl,⟨its,⟨o,ho,r⟩,q⟩ | ⟨its,⟨o,ho,r⟩,q⟩⟩:=x
 ·exact ⟨p,rfl,.inl ⟨its,⟨o,k _ _ ho,r⟩,q⟩⟩
 ·exact ⟨p,rfl,.inr ⟨its,⟨o,k _ _ ho,r⟩,q⟩⟩
theorem nO {i:Int} {n:Nat} (h0:0<=i) (h1:i.toNat < n):seqIndex? i n=some i.toNat:=by
 unfold seqIndex?
 have e:¬ (i < 0):=by omega
 simp only [e,if_false]
 have e2:(decide (0<=i) && decide (i < (n:Int)))=true:=by simp; omega
 rw [if_pos e2]
theorem aDe {env:Env} {vn xn:Str} {p1 p2 p3:Pos} {m:Str->Option Value} {c:Addr} {u v:Value} {i:Int} {t:Tok} {Q:Value->Shared->Prop} (hk:env.scope.kind=.function) (hv:env.kindOf vn=some .free) (hx:env.kindOf xn=some .local)
  (hc:env.cells.lookup vn=some c) (hC:s.heap.IsCell c (some u)) (hn:s.heap.Ns env.locals m) (hm:m xn=some (.int i t)) (hI:jS s.heap u i v) (h:Q v s)
  (d1:(vn==("__debug__" : Str))=false) (d2:(vn==("__classdict__" : Str))=false) (d3:(xn==("__debug__" : Str))=false) :
  wpAny (model prog w) A (eval (.Subscript (.Name vn p1) (.Name xn p2) p3) env) Q E s:=by
 refine Subscript_ (wpAny_Name (wpAny_loadName_free hk hv hc hC ?_ d2) d1)
 refine wpAny_Name (wpAny_loadName_local hk hx hn hm ?_) d3
 obtain ⟨p,rfl,⟨its,hp,i0,i1,e⟩ | ⟨its,hp,i0,i1,e⟩⟩:=hI
 ·have hlt:i.toNat < its.size:=(Array.getElem?_eq_some_iff.mp e).1
  exact subscriptTail_builtinR (x:=v) hp.typeIs slot_tuple_getitem.lookup
   (getItem_tuple (j:=i.toNat) (Q:=fun r s'=>r=v/\Q r s') hp (by omega) (by omega) (nO i0 hlt) e ⟨rfl,h⟩)
 ·have hlt:i.toNat < its.size:=(Array.getElem?_eq_some_iff.mp e).1
  exact subscriptTail_builtinR (x:=v) hp.typeIs slot_list_getitem.lookup
   (wpAny_getItem_list (Q:=fun r s'=>r=v/\Q r s') hp (by omega) (by omega) e ⟨rfl,h⟩)
theorem aB2 {f c c':Addr} {q nm vn xn:Str} {params:Arguments} {scope:Scope} {cl:List (Str×Addr)} {pm ctv u v:Value} {p1 p2 p3:Pos} {i:Int} {t:Tok} {Q:Value->Shared->Prop} (hroom:A.depth < recursionLimit) (hlim:s.heap.NoLimit)
  (hf:s.heap.get? f=some { cls:=.type "function",data:=.func (PySem.W.kla_fn nm q params (.Subscript (.Name vn p1) (.Name xn p2) p3) scope cl pm (.ref c') ctv) }) (hcd:s.heap.CodeRec (.ref c') q)
  (hbind:bindArgs (PySem.W.kla_fn nm q params (.Subscript (.Name vn p1) (.Name xn p2) p3) scope cl pm (.ref c') ctv) ⟨[.int i t],[]⟩=pure [(xn,.int i t)])
  (hx:scope.names.lookup xn=some .local) (hv:scope.names.lookup vn=some .free) (hco:scope.isCoroutine=false) (hgen:scope.isGenerator=false) (hk:scope.kind=.function) (hcell:∀ x∈scope.names,x.2≠.cell)
  (hc:cl.lookup vn=some c) (hC:s.heap.IsCell c (some u)) (hI:jS s.heap u i v) (h:∀ h' tk,(∀ b o,s.heap.get? b=some o->h'.get? b=some o)->Q v { s with heap:=h',toks:=tk })
  (d1:(vn==("__debug__" : Str))=false) (d2:(vn==("__classdict__" : Str))=false) (d3:(xn==("__debug__" : Str))=false) :
  wpAny (model prog w) A (call (.ref f) [.int i t]) Q E s:=by
 refine wpAny_call (PySem.W.kla_callFunE hroom hf rfl hco hgen rfl hcd ?_)
 rw [hbind]
 refine wpAny_pure (wpAny_newFunctionEnv hcell (fun y hy=>by rw [Qp.mp hy]; exact hx) (fun h₁ hns hsb=>⟨hlim.fresh _ hsb,?_⟩) hk)
 have hk₁:∀ b o,s.heap.get? b=some o->h₁.get? b=some o:=fun b o e=>hsb.extBut b o (Jb (Qm e)) (Qa _ e)
 obtain ⟨oc,hoc,hdc⟩:=hC
 refine PySem.W.kla_codeExpr (aDe (env:=newEnv scope s.heap.objs.size mainGlobals cl (q ++ ".<locals>.") (some f) (.ref c') none builtinsNs) (m:=fun x=>[(xn,Value.int i t)].reverse.lookup x) (t:=t) hk hv hx hc ⟨oc,hk₁ _ _ hoc,hdc⟩ hns ?_ (hI.keeps hk₁) (h h₁ _ hk₁) d1 d2 d3)
 simp [List.lookup]
section
variable {R:Result->Shared->Prop} {I:Addr} {fp wr:List Addr} {n:Nat} {Pv:Nat->Value->Prop} {St:Nat->Heap->Prop} {f:Addr} {kf:Nat->Int} {L:List (Addr×Obj)}
def aB3 (prog:Program) (w:World) (A:Around) (f:Addr) (L:List (Addr×Obj)) (n:Nat) (Pv:Nat->Value->Prop) (kf:Nat->Int):Prop :=
 ∀ i v (s:Shared) (Q:Value->Shared->Prop) (E:Value->Shared->Prop),i < n->Pv i v->(∀ p∈L,s.heap.get? p.1=some p.2) ->
  (∀ h' tk t,(∀ b o,s.heap.get? b=some o->h'.get? b=some o)->Q (.int (kf i) t) { s with heap:=h',toks:=tk })->wpAny (model prog w) A (call (.ref f) [v]) Q E s
abbrev btK (kf:Nat->Int):Nat->Nat->Bool:=fun i j=>decide (kf i < kf j)
theorem uQ (W:Walks prog w A.in1 I fp wr n Pv St) (hkey:aB3 prog w A.in1 f L n Pv kf) (S:Addr) (hSf:S∉fp) (hL:∀ p∈L,p.1∉wr/\p.1≠S) :
  ∀ (k j:Nat) (s:Shared) (vb:Value) (t:Tok) (c:Nat),n - (j+1)=k->j+1<=n->St (j+1) s.heap->Pv (argBest (btK kf) j) vb ->
  s.heap.get? S=some { cls:=.type "list",dict:=none,data:=.seq #[vb,.int (kf (argBest (btK kf) j)) t] c,slots:=#[] }->(∀ p∈L,s.heap.get? p.1=some p.2) ->
  (∀ v h' tk,Pv (argBest (btK kf) (n - 1)) v->(∀ b o,b∉wr->b≠S->s.heap.get? b=some o->h'.get? b=some o)->R (.ok (.ret v)) { s with heap:=h',toks:=tk }) ->
  codeAny (model prog w) A (.builtin "min.loop" ⟨[.ref I,.ref f,.ref S],[]⟩) R s:=by
 have hSw:S∉wr:=fun h=>hSf (W.sub _ h)
 have hname:(toString "min" ++ toString ".loop" : String) = "min.loop" := by decide
 intro k
 induction k with
 | zero =>
  intro j s vb t c hk hj hst hPb hS hLs hR
  have hin:j+1=n:=by omega
  refine codeAny_builtin F.entry_min_loop ?_
  rw [Around.under_plainId F.plain_min_loop _]
  show wpAny _ A.in1 (seqItems? (.ref S) >>= _) _ _ s
  refine wpAny_bind (wpAny_seqItems hS rfl ?_)
  show wpAny _ A.in1 (tryCatch (pyNext (.ref I)) _ >>= _) _ _ s
  refine wpAny_bind (wpAny_tryCatch (W.done s _ _ (hin ▸ hst) fun h' tk kk=>?_))
  have hS':=kk S _ hSw hS
  show wpAny _ A.in1 (updateSeq S (fun _=>#[]) >>= _) _ _ _
  refine wpAny_bind ?_
  refine wpAny_updateSeq hS' rfl (wpAny_bind (wpAny_letGo (wpAny_pure ?_)))
  exact hR vb _ _ (by rw [<- hin]; exact hPb) fun b o hb hbS e=>(Jm _ _ (Ne.symm hbS)).trans (kk b o hb e)
 | succ k ih =>
  intro j s vb t c hk hj hst hPb hS hLs hR
  have hlt:j+1 < n:=by omega
  refine codeAny_builtin F.entry_min_loop ?_
  rw [Around.under_plainId F.plain_min_loop _]
  show wpAny _ A.in1 (seqItems? (.ref S) >>= _) _ _ s
  refine wpAny_bind (wpAny_seqItems hS rfl ?_)
  show wpAny _ A.in1 (tryCatch (pyNext (.ref I)) _ >>= _) _ _ s
  refine wpAny_bind (wpAny_tryCatch (W.item (j+1) s _ _ hlt hst fun v h1 tk1 hP hst1 kk1=>?_))
  have hS1:=kk1 S _ hSw hS
  show wpAny _ A.in1 (tryCatch (holding [v] (call (.ref f) [v])) _ >>= _) _ _ _
  refine wpAny_bind (wpAny_tryCatch (wpAny_holding (hkey (j+1) v _ _ _ hlt hP (fun p hp=>kk1 _ _ (hL p hp).1 (hLs p hp)) fun h2 tk2 t2 kk2=>?_)))
  have hS2:=kk2 S _ hS1
  have hst2:St (j+1+1) h2:=W.frame _ _ _ hst1 fun b _ o e=>kk2 b o e
  show wpAny _ A.in1 (tryCatch (holding [v,.int (kf (j+1)) t2] (richCompare .Lt (.int (kf (j+1)) t2) (.int (kf (argBest (btK kf) j)) t) >>= _)) _ >>= _) _ _ _
  have hcmp:CmpOf prog w A.in1 .Lt (fun i u=>∃ t,u=.int (kf i) t) (btK kf):=CmpOf.ints_lt kf fun i v h=>h
  refine wpAny_bind (wpAny_tryCatch (wpAny_holding (wpAny_bind (hcmp (j+1) (argBest (btK kf) j) _ _ _ _ _ ⟨_,rfl⟩ ⟨_,rfl⟩ ?_))))
  refine wpAny_bind (wpAny_holding (wpAny_truthy_bool ?_))
  refine wpAny_bind (wpAny_letGo (wpAny_pure ?_))
  have kk:∀ b o,b∉wr->s.heap.get? b=some o->h2.get? b=some o:=fun b o hb e=>kk2 b o (kk1 b o hb e)
  cases hb:btK kf (j+1) (argBest (btK kf) j) with
  | true =>
   simp only [if_true]
   refine wpAny_bind ?_
   refine wpAny_updateSeq hS2 rfl (wpAny_bind (wpAny_letGo ?_))
   rw [hname]
   have eb:argBest (btK kf) (j+1)=j+1:=by simp only [argBest,hb,if_true]
   refine wpAny_pure ⟨plainId_quiet F.plain_min_loop _,ih (j+1) _ v t2 _ (by omega) hlt (W.frame _ _ _ hst2 fun b hbf o e=>?_) (by rw [eb]; exact hP) (by rw [eb]; exact Xj _ hS2 rfl) (fun p hp=>?_) fun v' h' tk hP' kk'=>?_⟩
   ·exact (Jm _ _ (fun h:S=b=>hSf (by rw [h]; exact hbf))).trans e
   ·exact (Jm _ _ (Ne.symm (hL p hp).2)).trans (kk _ _ (hL p hp).1 (hLs p hp))
   ·exact hR v' h' tk hP' fun b o hb hbS e=>kk' b o hb hbS ((Jm _ _ (Ne.symm hbS)).trans (kk b o hb e))
  | false =>
   simp only [Ze,if_false]
   refine wpAny_bind (wpAny_letGo ?_)
   rw [hname]
   have eb:argBest (btK kf) (j+1)=argBest (btK kf) j:=by simp only [argBest,hb,Ze,if_false]
   refine wpAny_pure ⟨plainId_quiet F.plain_min_loop _,ih (j+1) _ vb t c (by omega) hlt hst2 (by rw [eb]; exact hPb) (by rw [eb]; exact hS2) (fun p hp=>kk _ _ (hL p hp).1 (hLs p hp)) fun v' h' tk hP' kk'=>?_⟩
   exact hR v' h' tk hP' fun b o hb hbS e=>kk' b o hb hbS (kk b o hb e)
theorem sH (W:Walks prog w A.in1 I fp wr n Pv St) (hkey:aB3 prog w A.in1 f L n Pv kf) (S:Addr) (hSf:S∉fp) (hL:∀ p∈L,p.1∉wr/\p.1≠S) (hn:0 < n) {s:Shared} {c:Nat} (hst:St 0 s.heap)
  (hS:s.heap.get? S=some { cls:=.type "list",dict:=none,data:=.seq #[] c,slots:=#[] }) (hLs:∀ p∈L,s.heap.get? p.1=some p.2)
  (hR:∀ v h' tk,Pv (argBest (btK kf) (n - 1)) v->(∀ b o,b∉wr->b≠S->s.heap.get? b=some o->h'.get? b=some o)->R (.ok (.ret v)) { s with heap:=h',toks:=tk }) :
  codeAny (model prog w) A (.builtin "min.loop" ⟨[.ref I,.ref f,.ref S],[]⟩) R s:=by
 have hSw:S∉wr:=fun h=>hSf (W.sub _ h)
 have hname:(toString "min" ++ toString ".loop" : String) = "min.loop" := by decide
 refine codeAny_builtin F.entry_min_loop ?_
 rw [Around.under_plainId F.plain_min_loop _]
 show wpAny _ A.in1 (seqItems? (.ref S) >>= _) _ _ s
 refine wpAny_bind (wpAny_seqItems hS rfl ?_)
 show wpAny _ A.in1 (tryCatch (pyNext (.ref I)) _ >>= _) _ _ s
 refine wpAny_bind (wpAny_tryCatch (W.item 0 s _ _ hn hst fun v h1 tk1 hP hst1 kk1=>?_))
 have hS1:=kk1 S _ hSw hS
 show wpAny _ A.in1 (tryCatch (holding [v] (call (.ref f) [v])) _ >>= _) _ _ _
 refine wpAny_bind (wpAny_tryCatch (wpAny_holding (hkey 0 v _ _ _ hn hP (fun p hp=>kk1 _ _ (hL p hp).1 (hLs p hp)) fun h2 tk2 t2 kk2=>?_)))
 have hS2:=kk2 S _ hS1
 have hst2:St (0+1) h2:=W.frame _ _ _ hst1 fun b _ o e=>kk2 b o e
 show wpAny _ A.in1 (updateSeq S (fun _=>#[v,.int (kf 0) t2]) >>= _) _ _ _
 refine wpAny_bind ?_
 refine wpAny_updateSeq hS2 rfl ?_
 rw [hname]
 have kk:∀ b o,b∉wr->s.heap.get? b=some o->h2.get? b=some o:=fun b o hb e=>kk2 b o (kk1 b o hb e)
 refine wpAny_pure ⟨plainId_quiet F.plain_min_loop _,uQ W hkey S hSf hL _ 0 _ v t2 _ rfl hn (W.frame _ _ _ hst2 fun b hbf o e=>?_) hP (Xj _ hS2 rfl) (fun p hp=>?_) fun v' h' tk hP' kk'=>?_⟩
 ·exact (Jm _ _ (fun h:S=b=>hSf (by rw [h]; exact hbf))).trans e
 ·exact (Jm _ _ (Ne.symm (hL p hp).2)).trans (kk _ _ (hL p hp).1 (hLs p hp))
 ·exact hR v' h' tk hP' fun b o hb hbS e=>kk' b o hb hbS ((Jm _ _ (Ne.symm hbS)).trans (kk b o hb e))
theorem uR (a k:Value):argsOk "min" ⟨[a],[(Str.ofString "key",k)]⟩:=by unfold argsOk; kernel_rfl
theorem uS {id:String} {b:Builtin} {args:List Value} {kw:List (Str×Value)} {Q:Value->Shared->Prop} (hk:builtinKind id=none) (hp:plainId id=true)
  (hb:entryFor table id=some b) (ha:argsOk id ⟨args,kw⟩)
  (hc:wpAny (model prog w) A.in1 (b ⟨args,kw⟩) (fun fin s'=>match fin with
   | .done f=>(match (Except.ok f:Result) with | .ok (.ret v)=>Q v s' | .ok _=>False | .error e=>E e s')
   | .again c'=>c'.quiet=true/\codeAny (model prog w) A c' (fun r s'=>match r with | .ok (.ret v)=>Q v s' | .ok _=>False | .error e=>E e s') s') E s) :
  wpAny (model prog w) A (call (.builtin id) args kw) Q E s:=by
 refine wpAny_call (codeAny_call_builtin hp hb ?_)
 simp only [checkBuiltinCall,hk]
 cases hsig:Manifest.signature? id with
 | none=>exact wpAny_pure hc
 | some sig =>
  simp only [argsOk,hsig] at ha
  have h2:Bind.checkArgs id sig ⟨args,kw⟩=pure ():=ha
  show wpAny _ A.in1 (Bind.checkArgs id sig ⟨args,kw⟩) _ _ s
  rw [h2]; exact wpAny_pure hc
theorem uT {x:Value} {Q:Value->Shared->Prop}
  (h:wpAny (model prog w) A.in1 (pyIter x) (fun it s₂=>∃ I fp wr n Pv St kf L,it=.ref I/\Walks prog w A.in1 I fp wr n Pv St/\St 0 s₂.heap/\(∀ b∈fp,b < s₂.heap.objs.size)/\0 < n/\aB3 prog w A.in1 f L n Pv kf /\
   (∀ p∈L,p.1∉wr)/\(∀ p∈L,s₂.heap.get? p.1=some p.2) /\
   ∀ v h' tk,Pv (argBest (btK kf) (n - 1)) v->(∀ b o,b∉wr->s₂.heap.get? b=some o->h'.get? b=some o)->Q v { s₂ with heap:=h',toks:=tk }) E s) :
  wpAny (model prog w) A (call (.builtin "min") [x] [(Str.ofString "key",.ref f)]) Q E s:=by
 have hname:(toString "min" ++ toString ".loop" : String) = "min.loop" := by decide
 refine uS F.kind_min F.plain_min F.entry_min (uR _ _) ?_
 show wpAny _ A.in1 (Builtin.Builtins.bindParams "min" ["key", "default"] 0 ⟨[],[(Str.ofString "key",.ref f)]⟩ >>= _) _ _ s
 refine wpAny_bind (wpAny_of_eq (show Builtin.Builtins.bindParams "min" ["key", "default"] 0 ⟨[],[(Str.ofString "key",.ref f)]⟩=pure [some (.ref f),none] from rfl) ?_)
 refine wpAny_bind (wpAny_pure ?_)
 refine wpAny_bind (wpAny_mono h (fun it s₂ h₂=>?_) fun _ _ e=>e)
 obtain ⟨I,fp,wr,n,Pv,St,kf,L,rfl,W,hst,hfp,hn,hkey,hLw,hLs,hQ⟩:=h₂
 refine wpAny_bind (wpAny_newObj_type ?_)
 have hSf:s₂.heap.objs.size∉fp:=fun hm=>Qy _ (hfp _ hm)
 rw [hname]
 refine wpAny_pure ⟨plainId_quiet F.plain_min_loop _,sH W hkey s₂.heap.objs.size hSf (fun p hp=>⟨hLw p hp,Jb (Qm (hLs p hp))⟩) hn (W.frame _ _ _ hst fun b _ o e=>Qa _ e) (Qk _ rfl) (fun p hp=>Qa _ (hLs p hp)) fun v h' tk hP hk=>?_⟩
 exact hQ v h' tk hP fun b o hbw e=>hk b o hbw (Jb (Qm e)) (Qa _ e)
end
end
structure Lm (K:PySem.W.Frag) (mg:Str->Option Value) (base:Heap) (c P:Addr):Prop where
 hd:PySem.W.codeHdIn K c P=true
 gP:mainGlobals≠P
 bu:base.BuiltinsAt mg P
theorem mK {pos p0:Pos} {c cv:Value}:∀ {l:List Value},TriplesOk l->codeAmong pos (l++[rawInt p0.line,rawInt p0.col,c])=some cv->codeAmong pos l=some cv∨cv=c
 | [],_,e=>by
  simp only [Zb,rawInt,codeAmong] at e
  split at e
  ·exact .inr (Option.some.inj e).symm
  ·cases e
 | .int a t::.int b u::x::r,h,e=>by
  simp only [List.cons_append,codeAmong] at e ⊢
  split
  ·rename_i hc
   rw [if_pos hc] at e
   exact .inl e
  ·rename_i hc
   rw [if_neg hc] at e
   exact mK (show TriplesOk r from h) e
section
variable {X:Cx} {pins:List (Addr×Obj)} {σ:St} {H:Hp} {s:Shared} {c P c':Addr} {q:Str} {ps:Array Value} {h':Heap} {t':Nat}
theorem Inv.grown {p0:Pos} (I:Inv X pins σ H s) (hT:H P=some (.tab q)) (hx:Heap.ExtBut P s.heap h') (hge:s.heap.objs.size<=c') (hcr:h'.CodeRec (.ref c') q) (hP0:s.heap.get? P=some (PySem.W.tabObj ps)) (hPt:h'.get? P=some (PySem.W.tabObj (ps++#[rawInt p0.line,rawInt p0.col,.ref c']))) :
  Inv X pins σ (upd H c' (.own P)) { s with heap:=h',toks:=t' }:=by
 have hf:H c'=none:=I.hok.fresh hge
 have hn:∀ b,H b=none->b≠P:=fun b n z=>by rw [z,hT] at n; cases n
 have hc:∀ b u,H b=some u->b≠c':=fun b u n z=>by rw [z,hf] at n; cases n
 have hlt:∀ b o,s.heap.get? b=some o->b≠c':=fun b o e=>Jb (Qo (Qm e) hge)
 obtain ⟨c2,oc,vs,tq,ec,hoc,hdc,hv⟩:=hcr
 cases ec
 refine I.un ⟨fun b o e n _ _=>hx b o (hn b n) e,fun b o e n _ _=>⟨o.slots,hx b o (hn b n) e⟩,fun b o e n _=>by rw [aH (hlt b o e)]; exact n,fun b o e _=>?_,fun b xs e=>by rw [aH (hc b _ e)]; exact e,fun b o u e=>by rw [aH (hc b _ e)]; exact e,fun b ps e=>⟨#[],by rw [aH (hc b _ e),e]; simp⟩⟩ ?_
 ·by_cases hb:b=P
  ·subst hb; exact ⟨_,hPt⟩
  ·exact ⟨o,hx b o hb e⟩
 ·intro b u e
  by_cases hb:b=c'
  ·subst hb
   rw [aC] at e; cases e
   exact ⟨oc,hoc⟩
  ·rw [aH hb] at e
   by_cases hbP:b=P
   ·subst hbP
    rw [hT] at e; cases e
    obtain ⟨ps0,e0,tr,r⟩:∃ ps:Array Value,s.heap.get? b=some { cls:=.none,data:=.fields ps }/\TriplesOk ps.toList/\∀ (pos:Pos) (cv:Value),codeAmong pos ps.toList=some cv->∃ (c:Addr) (o:Obj) (vs:Array Value) (t:Tok),cv=.ref c/\H c=some (.own b)/\s.heap.get? c=some o/\o.data=.fields vs/\(vs[1]?:Option Value)=some (.str q t):=I.hok b _ hT
    rw [hP0] at e0
    cases e0
    have el:(ps++#[rawInt p0.line,rawInt p0.col,Value.ref c']).toList=ps.toList++[rawInt p0.line,rawInt p0.col,.ref c']:=by simp
    refine ⟨_,hPt,by rw [el]; exact TriplesOk_snoc _ _ _ _ tr,fun pos cv z=>?_⟩
    rw [el] at z
    rcases mK tr z with z | rfl
    ·obtain ⟨c3,o3,vs3,t3,r1,r2,r3,r4⟩:=r pos cv z
     have n3:c3≠b:=fun y=>by rw [y,hT] at r2; cases r2
     exact ⟨c3,o3,vs3,t3,r1,by rw [aH (hc _ _ r2)]; exact r2,hx _ _ n3 r3,r4⟩
    ·exact ⟨c',oc,vs,tq,rfl,aC,hoc,hdc,hv⟩
   ·refine (I.hok b u e).stay (fun d v hd z=>hx d v ?_ z) (fun d z=>by rw [aH (hc _ _ z)]; exact z) fun d xs z=>by rw [aH (hc _ _ z)]; exact z
    rcases hd with rfl | hd
    ·exact hbP
    ·intro z
     rw [z,hT] at hd; cases hd
theorem aB4 {params:Arguments} {body:Expr} {scope:Scope} {pos:Pos} {cl:List (Str×Addr)} {Q:Value->Shared->Prop} {E:Value->Shared->Prop} (I:Inv X pins σ H s) (Z:Lm X.K X.mg X.base c P) (hcode:X.env.code=.ref c) (hT:H P=some (.tab q)) (hq:X.env.qual ++ "<lambda>" = q)
  (hdef:defaultsOf params X.env=([],[])) (hcl:closureFor scope X.env=pure cl)
  (h:∀ f c' ctv pm s' H',Inv X pins σ H' s'->aD H H'->(∀ b o,b≠P->s.heap.get? b=some o->s'.heap.get? b=some o) ->
   s'.heap.get? f=some { cls:=.type "function",data:=.func (PySem.W.kla_fn "<lambda>" q params body scope cl pm (.ref c') ctv) }->s'.heap.CodeRec (.ref c') q->Q (.ref f) s') :
  wpAny (model X.prog X.w) X.A (eval (.Lambda params body scope pos) X.env) Q E s:=by
 obtain ⟨ps,hP,tr,r⟩:∃ ps:Array Value,s.heap.get? P=some { cls:=.none,data:=.fields ps }/\TriplesOk ps.toList/\∀ (pos:Pos) (cv:Value),codeAmong pos ps.toList=some cv->∃ (c:Addr) (o:Obj) (vs:Array Value) (t:Tok),cv=.ref c/\H c=some (.own P)/\s.heap.get? c=some o/\o.data=.fields vs/\(vs[1]?:Option Value)=some (.str q t):=I.hok P _ hT
 have hg:s.heap.Ns mainGlobals X.mg:=I.mod.glob.keeps I.bk
 have C:PySem.W.CodeHd s.heap c P:=PySem.W.codeHd_of_K I.kIn Z.hd
 have hb:s.heap.BuiltinsAt X.mg P:=by
  obtain ⟨bm,o,e1,e2,e3,e4,e5,e6⟩:=Z.bu
  exact ⟨bm,o,e1,e2,e3,e4,I.bk _ _ e5,e6⟩
 refine PySem.W.kla_eval hdef ?_
 rw [hq]
 cases hf:codeAmong pos ps.toList with
 | none =>
  refine PySem.W.kla_makeFunction hcl I.ok.glob hg hcode C hP tr hf Z.gP hb fun c' ctv h' tk hx hge hlt hcr hPt=>?_
  have I1:Inv X pins σ (upd H c' (.own P)) { s with heap:=h',toks:=tk }:=I.grown hT hx hge hcr hP hPt
  have I2:=I1.kept (h':=h'.push (PySem.W.kla_obj "<lambda>" q params body scope cl ((X.mg "__name__").getD .none) c' ctv)) (t':=tk) fun b o e=>Qa _ e
  refine h _ c' ctv _ _ _ I2 (aD.new (I.hok.fresh hge)) (fun b o hbP e=>Qa _ (hx b o hbP e)) (Qk _ rfl) ?_
  obtain ⟨c2,oc,vs,tq,ec,hoc,r⟩:=hcr
  exact ⟨c2,oc,vs,tq,ec,Qa _ hoc,r⟩
 | some cv =>
  obtain ⟨c',o,vs,t,rfl,r2,r3,r4,r5⟩:=r pos cv hf
  refine PySem.W.kla_makeFunctionHit hcl I.ok.glob hg hcode C hP tr hf hb fun ctv h' tk kk hsz=>?_
  have I2:=I.kept (h':=h'.push { cls:=.type "function",data:=.func (PySem.W.kla_fn "<lambda>" q params body scope cl ((X.mg "__name__").getD .none) (.ref c') ctv) }) (t':=tk) fun b o e=>Qa _ (kk b o e)
  exact h _ c' ctv _ _ _ I2 (aD.refl H) (fun b o _ e=>Qa _ (kk b o e)) (Qk _ rfl) ⟨c',o,vs,t,rfl,Qa _ (kk _ _ r3),r4,r5⟩
end
theorem mL (num:Nat->Int):∀ k,∀ l,l < argBest (btK num) k->num (argBest (btK num) k) < num l
 | 0=>fun l hl=>by simp [argBest] at hl
 | k+1=>fun l hl=>by
  have h2:=(argBest_lt num k).2
  simp only [argBest] at hl ⊢
  by_cases hc:num (k+1) < num (argBest (btK num) k)
  ·rw [if_pos (show btK num (k+1) (argBest (btK num) k)=true from decide_eq_true hc)] at hl ⊢
   have:=h2 l (by omega)
   show num (k+1) < num l
   have e:num (argBest (fun i j=>decide (num i < num j)) k)=num (argBest (btK num) k):=rfl
   omega
  ·rw [if_neg (show ¬ btK num (k+1) (argBest (btK num) k)=true from fun z=>hc (of_decide_eq_true z))] at hl ⊢
   exact mL num k l hl
def aAb (K:PySem.W.Frag) (H:Hp) (x:V) (ns:List Int):Prop:=∃ a,x=.ref a/\(SqL K H a (ns.map V.int)∨SqT K H a (ns.map V.int)∨∃ kvs:List (Key×V),H a=some (.dK kvs)/\kvs.map (·.1)=ns.map Sum.inl)
def aAc (K:PySem.W.Frag) (H:Hp) (u:V) (n k:Int):Prop:=0<=n/\n < 1000/\∃ a xs,u=.ref a/\(SqT K H a xs∨SqL K H a xs)/\xs[n.toNat]?=some (.int k)
def aDf (K:PySem.W.Frag) (P:Addr) (q:Str) (iv:Nat) (te:TE):TE:=fun σ H Q=>te σ H fun x H1=>∃ (ns:List Int) (kf:Int->Int) (u:V),aAb K H1 x ns/\0 < ns.length/\H1 P=some (.tab q)/\σ[iv]?=some (some u)/\(∀ n∈ns,aAc K H1 u n (kf n)) /\
 ∀ (j:Nat) (m:Int) (H2:Hp),aD H1 H2->ns[j]?=some m->(∀ n∈ns,kf m<=kf n)->(∀ (l:Nat) (n:Int),l < j->ns[l]?=some n->kf m < kf n)->Q (.int m) H2
section
variable {X:Cx} {pins:List (Addr×Obj)} {σ:St} {H:Hp} {s:Shared}
theorem yO {A:Around} {x:V} {u:Value} {ns:List Int} {Q:Value->Shared->Prop} {E:Value->Shared->Prop} (hh:A.handled=none) (I:Inv X pins σ H s) (hx:aAb X.K H x ns) (r:bO x u)
  (h:∀ (It:Addr) fp (Pv:Nat->Value->Prop) St s2,Walks X.prog X.w A It fp [It] ns.length Pv St->(∀ i v,Pv i v->∃ n t,ns[i]?=some n/\v=.int n t)->St 0 s2.heap->(∀ b∈fp,b < s2.heap.objs.size)->s.heap.objs.size<=It ->
   (∀ b o,s.heap.get? b=some o->s2.heap.get? b=some o)->(∃ h2,s2={ s with heap:=h2 })->Q (.ref It) s2):wpAny (model X.prog X.w) A (pyIter u) Q E s:=by
 obtain ⟨a,rfl,hx⟩:=hx
 cases r
 rcases hx with hx | hx | ⟨kvs,hx,hk⟩
 ·obtain ⟨its,rv,p,hz⟩:=I.list hx
  have hl:=rv.length
  rw [Qb] at hl
  have ht:=p.isList
  have hlt:a < s.heap.objs.size:=by obtain ⟨o,e,_⟩:=ht; exact Qm e
  have hne:a≠s.heap.objs.size:=Jb hlt
  have W0:=Walks.list (prog:=X.prog) (w:=X.w) (A:=A) hh s.heap.objs.size a hne its.toArray
  rw [show its.toArray.size=ns.length by rw [Ql,hl]] at W0
  refine wpAny_pyIter_list ht (h s.heap.objs.size [s.heap.objs.size,a] _ _ { s with heap:=s.heap.push { cls:=.type "list_iterator",data:=.fields #[.ref a,.int 0 0] } } W0 (fun i v e=>?_) ⟨⟨_,Qk _ rfl,rfl,rfl⟩,ht.push _⟩ (fun b hb=>?_) (Qg _) (fun b o e=>Qa _ e) ⟨_,rfl⟩)
  ·have e':its[i]?=some v:=by simpa using e
   obtain ⟨hi,_⟩:=Qd.mp e'
   obtain ⟨w',ew,rw'⟩:=rv.get (i:=i) (x:=.int (ns[i]'(by omega))) (by rw [Qi,Qc (show i < ns.length by omega)]; rfl)
   rw [e'] at ew; cases ew
   obtain ⟨t,rfl⟩:=rw'
   exact ⟨_,t,Qc (show i < ns.length by omega),rfl⟩
  ·show b < (s.heap.push _).objs.size
   rw [Je]
   simp only [Qj,Qn,or_false] at hb
   rcases hb with hb | hb
   ·rw [hb]; exact Xx _
   ·rw [hb]; exact Jy hlt
 ·obtain ⟨its,rv,p,hz⟩:=I.tuple hx
  have hl:=rv.length
  rw [Qb] at hl
  have ht:s.heap.IsTuple a its.toArray:=p
  have hlt:a < s.heap.objs.size:=by obtain ⟨o,e,_⟩:=ht; exact Qm e
  have hne:a≠s.heap.objs.size:=Jb hlt
  have W0:=Walks.tuple (prog:=X.prog) (w:=X.w) (A:=A) hh s.heap.objs.size a hne its.toArray
  rw [show its.toArray.size=ns.length by rw [Ql,hl]] at W0
  refine wpAny_pyIter_tuple ht (h s.heap.objs.size [s.heap.objs.size,a] _ _ { s with heap:=s.heap.push { cls:=.type "tuple_iterator",data:=.fields #[.ref a,.int 0 0] } } W0 (fun i v e=>?_) ⟨⟨_,Qk _ rfl,rfl,rfl⟩,ht.push _⟩ (fun b hb=>?_) (Qg _) (fun b o e=>Qa _ e) ⟨_,rfl⟩)
  ·have e':its[i]?=some v:=by simpa using e
   obtain ⟨hi,_⟩:=Qd.mp e'
   obtain ⟨w',ew,rw'⟩:=rv.get (i:=i) (x:=.int (ns[i]'(by omega))) (by rw [Qi,Qc (show i < ns.length by omega)]; rfl)
   rw [e'] at ew; cases ew
   obtain ⟨t,rfl⟩:=rw'
   exact ⟨_,t,Qc (show i < ns.length by omega),rfl⟩
  ·show b < (s.heap.push _).objs.size
   rw [Je]
   simp only [Qj,Qn,or_false] at hb
   rcases hb with hb | hb
   ·rw [hb]; exact Xx _
   ·rw [hb]; exact Jy hlt
 ·obtain ⟨hz,hs,vs,kv,dd⟩:bX X.prog X.w H s.heap a (.dK kvs):=I.hok a _ hx
  obtain ⟨ep,da⟩:=dd.dictAt
  have hl:kvs.length=vs.length:=kv.length
  have hln:vs.length=ns.length:=by
   have:=congrArg Yo hk
   rw [Qb,Qb] at this
   omega
  have hlt:=da.lt_size
  have hne:a≠s.heap.objs.size:=Jb hlt
  have W0:=Walks.dictKeys (prog:=X.prog) (w:=X.w) (A:=A) (knd:=bT X.prog X.w) hh s.heap.objs.size a hne vs ep
  rw [hln] at W0
  refine wpAny_pyIter_dict hs da (h s.heap.objs.size [s.heap.objs.size,a] _ _ { s with heap:=s.heap.push { cls:=.type "dict_keyiterator",data:=.fields #[.ref a,.int 0 0,.int vs.length 0,.int ep 0] } } W0 (fun i v e=>?_) ⟨⟨_,Qk _ rfl,rfl,by rw [hln]; rfl⟩,da.push _⟩ (fun b hb=>?_) (Qg _) (fun b o e=>Qa _ e) ⟨_,rfl⟩)
  ·obtain ⟨k,x,hi,hk2⟩:=e
   have e1:(vs.map (·.1))[i]?=some k:=by rw [Qi,hi]; rfl
   rw [<- kv.keys,hk,Qi] at e1
   cases q:ns[i]? with
   | none=>rw [q] at e1; cases e1
   | some n =>
    rw [q] at e1
    have:k=Sum.inl n:=(Option.some.inj e1).symm
    subst this
    obtain ⟨t,rfl⟩:bO (.int n) v:=wY hk2
    exact ⟨n,t,rfl,rfl⟩
  ·show b < (s.heap.push _).objs.size
   rw [Je]
   simp only [Qj,Qn,or_false] at hb
   rcases hb with hb | hb
   ·rw [hb]; exact Xx _
   ·rw [hb]; exact Jy hlt
theorem aAd {u:V} {uv:Value} {n k:Int} (I:Inv X pins σ H s) (hk:aAc X.K H u n k) (r:bO u uv):∃ t,jS s.heap uv n (.int k t):=by
 obtain ⟨h0,h1,a,xs,rfl,hx | hx,he⟩:=hk
 ·cases r
  obtain ⟨its,rv,p,hz⟩:=I.tuple hx
  obtain ⟨w',ew,t,rfl⟩:=rv.get he
  exact ⟨t,a,rfl,.inl ⟨its.toArray,p,h0,h1,by simpa using ew⟩⟩
 ·cases r
  obtain ⟨its,rv,p,hz⟩:=I.list hx
  obtain ⟨w',ew,t,rfl⟩:=rv.get he
  exact ⟨t,a,rfl,.inr ⟨its.toArray,p.isList,h0,h1,by simpa using ew⟩⟩
theorem jS.obj {h:Heap} {u:Value} {i:Int} {v:Value} (x:jS h u i v):∃ p o,u=.ref p/\h.get? p=some o/\∀ h':Heap,h'.get? p=some o->jS h' u i v:=by
 obtain ⟨p,rfl,⟨its,⟨o,ho,r⟩,q⟩ | ⟨its,⟨o,ho,r⟩,q⟩⟩:=x
 ·exact ⟨p,o,rfl,ho,fun h' e=>⟨p,rfl,.inl ⟨its,⟨o,e,r⟩,q⟩⟩⟩
 ·exact ⟨p,o,rfl,ho,fun h' e=>⟨p,rfl,.inr ⟨its,⟨o,e,r⟩,q⟩⟩⟩
theorem aAZ {e:Expr} {te:TE} {p kpos lpos p1 p2 p3 pos:Pos} {params:Arguments} {scope:Scope} {vn xn:Str} {c P:Addr} {q:Str} (iv:Nat) (hc:X.calm=true) (hr:Room 1 X.A) (hg:Gl X "min") (hm:X.mg "min" = none) (Z:Lm X.K X.mg X.base c P) (hcode:X.env.code=.ref c) (hq:X.env.qual ++ "<lambda>" = q)
  (he:PE X e te) (hN:X.N[iv]?=some vn) (hkv:X.env.kindOf vn=some .cell)
  (hdef:defaultsOf params X.env=([],[]):=by rfl) (hcl:dY X.env scope.names []=(match X.env.cells.lookup vn with | some c=>[(vn,c)] | none=>[]):=by rfl)
  (hfr:∀ y∈scope.names,y.2=.free->y.1=vn:=by decide +kernel)
  (hbind:∀ (cl:List (Str×Addr)) (pm cdv ctv:Value) (i:Int) (t:Tok),bindArgs (PySem.W.kla_fn "<lambda>" q params (.Subscript (.Name vn p1) (.Name xn p2) p3) scope cl pm cdv ctv) ⟨[.int i t],[]⟩=pure [(xn,.int i t)]:=by intro _ _ _ _ _ _; rfl)
  (hx:scope.names.lookup xn=some .local:=by rfl) (hv:scope.names.lookup vn=some .free:=by rfl) (hco:scope.isCoroutine=false:=by rfl) (hgen:scope.isGenerator=false:=by rfl) (hk:scope.kind=.function:=by rfl) (hcell:∀ x∈scope.names,x.2≠.cell:=by decide +kernel)
  (d1:(vn==("__debug__" : Str))=false:=by decide) (d2:(vn==("__classdict__" : Str))=false:=by decide) (d3:(xn==("__debug__" : Str))=false:=by decide)
  (hs1:starEach [e] X.env = [(false,eval e X.env)]:=by rfl) :
  PE X (.Call (.Name "min" p) [e] [⟨some "key",.Lambda params (.Subscript (.Name vn p1) (.Name xn p2) p3) scope lpos,kpos⟩] pos) (aDf X.K P q iv te):=by
 intro pins s σ H Q I h
 refine wpAny_Call_Name_kw (jB (u:=.builtin "min") I hg hm (by decide +kernel) ?_)
 have hpa:PA X [e] (gD te jK):=aA he aB hs1
 refine callWith_kw (thn (hpa pos pins s σ H (fun vs H1=>match vs with
   | [x] => ∃ (ns : List Int) (kf : Int -> Int) (u : V), aAb X.K H1 x ns /\ 0 < ns.length /\ H1 P = some (.tab q) /\ σ[iv]? = some (some u) /\ (∀ n ∈ ns, aAc X.K H1 u n (kf n)) /\
       ∀ (j:Nat) (m:Int) (H2:Hp),aD H1 H2->ns[j]?=some m->(∀ n∈ns,kf m<=kf n)->(∀ (l:Nat) (n:Int),l < j->ns[l]?=some n->kf m < kf n)->Q (.int m) H2
   | _=>False) I h) fun us s1 ⟨vs,H1,I1,r1,q1⟩=>?_) (by rw [hs1]; rfl) (by rw [hs1]; rfl)
 match vs,r1,q1 with
 | [x],r1,q1 =>
  obtain ⟨ns,kf,u,hit,hpos,hT,hu,hkeys,k⟩:=q1
  obtain ⟨xv,rfl,rx⟩:=gY r1
  -- the cell of the name
  obtain ⟨m1,hns1,hl1⟩:=id I1.loc
  obtain ⟨uv,ru,lk⟩:=hl1 iv vn u hN hu (.inr (.inl hkv))
  obtain ⟨cc,hcc,hIc⟩:∃ cc,X.env.cells.lookup vn=some cc/\s1.heap.IsCell cc (some uv):=by
   rcases lk with ⟨z,_⟩ | ⟨_,z⟩
   ·rw [hkv] at z; cases z
   ·exact z
  have hclo:closureFor scope X.env=pure [(vn,cc)]:=by
   rw [yD fun y hy z=>⟨cc,by rw [hfr y hy z]; exact hcc⟩,hcl,hcc]
  refine kws_cons (aB4 I1 Z hcode hT hq hdef hclo fun f c' ctv pm s2 H2 I2 sm kk hf hcr=>kws_nil ?_)
  show wpAny (model X.prog X.w) X.A (call (.builtin "min") [xv] [(Str.ofString "key",.ref f)]) _ _ _
  have hit2:aAb X.K H2 x ns:=by
   obtain ⟨a,rfl,z | z | ⟨kvs,z,y⟩⟩:=hit
   ·exact ⟨a,rfl,.inl (sm.seqL z)⟩
   ·exact ⟨a,rfl,.inr (.inl (sm.seqT z))⟩
   ·exact ⟨a,rfl,.inr (.inr ⟨kvs,sm _ _ z,y⟩)⟩
  have hkeys2:∀ n∈ns,aAc X.K H2 u n (kf n):=fun n hn=>by
   obtain ⟨h0,h1,a,xs,rfl,z | z,y⟩:=hkeys n hn
   ·exact ⟨h0,h1,a,xs,rfl,.inl (sm.seqT z),y⟩
   ·exact ⟨h0,h1,a,xs,rfl,.inr (sm.seqL z),y⟩
  -- what stays through the loop
  obtain ⟨fo,efo,hf⟩:∃ fo:Obj,fo={ cls:=.type "function",data:=.func (PySem.W.kla_fn "<lambda>" q params (.Subscript (.Name vn p1) (.Name xn p2) p3) scope [(vn,cc)] pm (.ref c') ctv) }/\s2.heap.get? f=some fo:=⟨_,rfl,hf⟩
  obtain ⟨c2,oc,cvs,tq,ec,hoc,hdc,hcv⟩:=hcr
  cases ec
  obtain ⟨ocl,hocl,hdcl⟩:s2.heap.IsCell cc (some uv):=by
   obtain ⟨o,ho,hd⟩:=hIc
   have nP:cc≠P:=fun z=>by rw [z] at hcc; have:=I1.freeC _ _ hcc; rw [hT] at this; cases this
   exact ⟨o,kk _ _ nP ho,hd⟩
  obtain ⟨mc,⟨oL,esL,epL,hoL,hdL,rL⟩,hlim⟩:=I2.nolimit
  have n0:ns[0]?=some (ns[0]):=Qc hpos
  obtain ⟨t0,it0⟩:=aAd I2 (hkeys2 _ (Qh n0)) ru
  obtain ⟨pu,ou,eu,hou,_⟩:=it0.obj
  refine uT (f:=f) (yO (A:=X.A.in1) (I2.ok.hd hc) I2 hit2 rx fun It fp Pv St s3 W hPv hst hfp hIt hk3 hx9=>?_)
  obtain ⟨h3,e3⟩:=hx9
  subst e3
  refine ⟨It,fp,[It],ns.length,Pv,St,fun i=>kf (ns.getD i 0),[(f,fo),(c',oc),(cc,ocl),(cStatics,oL),(pu,ou)],rfl,W,hst,hfp,hpos,?_,?_,?_,fun v h' tk hP kk'=>?_⟩
  ·intro i v s4 Q4 E4 hi hPi hL hQ4
   obtain ⟨n,t,hn,rfl⟩:=hPv i v hPi
   have eg:ns.getD i 0=n:=by rw [Jk,hn]; rfl
   obtain ⟨tk,itk⟩:=aAd I2 (hkeys2 _ (Qh hn)) ru
   have it4:jS s4.heap uv n (.int (kf n) tk):=by
    obtain ⟨p',o',e',ho',hh⟩:=itk.obj
    rw [eu] at e'; cases e'
    rw [hou] at ho'; cases ho'
    exact hh _ (hL (pu,ou) (by simp))
   have rm:X.A.in1.depth < recursionLimit:=(Room.in1 hr).depth
   refine aB2 (cl:=[(vn,cc)]) (c:=cc) rm ⟨mc,⟨oL,esL,epL,hL (cStatics,oL) (by simp),hdL,rL⟩,hlim⟩ (by rw [<- efo]; exact hL (f,fo) (by simp)) ⟨c',oc,cvs,tq,rfl,hL (c',oc) (by simp),hdc,hcv⟩ (hbind _ _ _ _ _ _) hx hv hco hgen hk hcell (by simp [List.lookup]) ⟨ocl,hL (cc,ocl) (by simp),hdcl⟩ it4 (fun h5 tk5 k5=>?_) d1 d2 d3
   have:=hQ4 h5 tk5 tk k5
   dsimp only at this
   rw [eg] at this
   exact this
  ·intro pr hpr hz
   have hlt:∀ b o,s2.heap.get? b=some o->b≠It:=fun b o e=>Jb (Qo (Qm e) hIt)
   simp only [Qp] at hz
   simp only [Qj,Qn,or_false] at hpr
   rcases hpr with rfl | rfl | rfl | rfl | rfl
   ·exact hlt _ _ hf hz
   ·exact hlt _ _ hoc hz
   ·exact hlt _ _ hocl hz
   ·exact hlt _ _ hoL hz
   ·exact hlt _ _ hou hz
  ·intro pr hpr
   simp only [Qj,Qn,or_false] at hpr
   rcases hpr with rfl | rfl | rfl | rfl | rfl
   ·exact hk3 _ _ hf
   ·exact hk3 _ _ hoc
   ·exact hk3 _ _ hocl
   ·exact hk3 _ _ hoL
   ·exact hk3 _ _ hou
  ·obtain ⟨n,t,hn,rfl⟩:=hPv _ v hP
   have I3:Inv X pins σ H2 { s2 with heap:=h',toks:=tk }:=I2.kept fun b o e=>kk' b o (by simp; exact Jb (Qo (Qm e) hIt)) (hk3 b o e)
   have b1:=argBest_lt (fun i=>kf (ns.getD i 0)) (ns.length - 1)
   have b2:=mL (fun i=>kf (ns.getD i 0)) (ns.length - 1)
   have hat:∀ i y,ns[i]?=some y->ns.getD i 0=y:=fun i y e=>by rw [Jk,e]; rfl
   refine ⟨.int n,H2,I3,⟨t,rfl⟩,k _ n H2 sm hn (fun y hy=>?_) (fun l y hl hy=>?_)⟩
   ·obtain ⟨i,hi⟩:=Jz.mp hy
    have:=b1.2 i (by have:=(Qd.mp hi).1; omega)
    have e1:=hat _ _ hn
    have e2:=hat _ _ hi
    show kf n<=kf y
    rw [<- e1,<- e2]; exact this
   ·have:=b2 l hl
    have e1:=hat _ _ hn
    have e2:=hat _ _ hy
    rw [<- e1,<- e2]; exact this
end
def aB5 (ts:List (Addr×Str)) (H:Hp):Prop:=(∀ b,H b=none∨(∃ o xs,H b=some (.frz o (.lst xs)))∨∃ q,H b=some (.tab q)/\(b,q)∈ts)/\∀ p∈ts,H p.1=some (.tab p.2)
theorem qQ {h:Heap} {c P:Addr} (C:PySem.W.CodeHd h c P) (e:h.get? P=some (PySem.W.tabObj #[])):isCodeTable h P:=(C.tab e).isCodeTable
theorem aA0 {P:Program} {w:World} {K:PySem.W.Frag} {mg mb:Str->Option Value} {CX:CXT} {k:Nat} {fa a:Addr} {fd:FuncData} {x:Str} {sp:Sp} {s₁:Shared} {vs:List Value} {ns:List Int} {ts:List (Addr×Str)}
  (KX:K.In s₁.heap) (hns:s₁.heap.Ns mainGlobals mg) (hb:s₁.heap.Ns builtinsNs mb) (hbb:∀ x:Str,x ≠ "__name__" -> mb x=bootBuiltins x) (hlim:s₁.heap.NoLimit) (hmod:∃ mm,s₁.heap.Ns sysModules mm) (hg:s₁.gens = #[])
  (hbm:∃ bm ob,mg "__builtins__" = some (.ref bm)/\bm≠builtinsNs/\s₁.heap.get? bm=some ob/\ob.cls=.type "module" /\ ob.dict=some builtinsNs/\ob.data=.plain)
  (hts:∀ p∈ts,s₁.heap.get? p.1=some (PySem.W.tabObj #[])/\K.lookup p.1=none/\∃ c,PySem.W.CodeHd s₁.heap c p.1) (hnd:(ts.map (·.1)).Nodup)
  (ha:s₁.heap.get? a=some { cls:=.type "list",data:=.seq vs.toArray }) (hi:IntsAre vs ns) (hl:ns.length<=sizeLine) (hr:Room k callerA)
  (F:∀ base:Heap,K.In base->base.Ns mainGlobals mg->(∀ p∈ts,base.BuiltinsAt mg p.1)->FnOk P w K mg base CX k fa fd [x] sp) (hbind:∀ (s:Shared) (u:Value),BindsTo s fd ⟨[u],[]⟩ [(x,u)])
  (hsp:∀ H:Hp,aB5 ts H->SqL K H a (ns.map V.int)->sp [.ref a] H (fun v H'=>v=.bl true/\∀ p∈ts,H' p.1=some (.tab p.2)) fun _ _ _=>False)
  (hCX:∀ H e s',CX [] H s₁ (fun _ _ _=>False) e s'->False) :
  codeAny (model P w) callerA (.call (.ref fa) ⟨[.ref a],[]⟩) (fun r s'=>r=.ok (.ret (.bool true))/\OldK s₁.heap s'.heap/\s'.os=s₁.os/\AllBare s'.gens) s₁:=by
 have rv:=sT hi
 have lenV:=hi.length
 have na:∀ p∈ts,p.1≠a:=fun p hp z=>by
  have:=(hts p hp).1
  rw [z,ha] at this; cases this
 -- from an abstract heap in which nothing but the script and the tables may be tracked
 have core:∀ H:Hp,aB5 ts H->SqL K H a (ns.map V.int)->HOk P w H s₁.heap->(∀ b,H b≠none->b=a∨∃ q,(b,q)∈ts)->(H a≠none->K.lookup a=none) ->
   codeAny (model P w) callerA (.call (.ref fa) ⟨[.ref a],[]⟩) (fun r s'=>r=.ok (.ret (.bool true))/\OldK s₁.heap s'.heap/\s'.os=s₁.os/\AllBare s'.gens) s₁:=by
  intro H hO hS hok hA hK
  have base_of:∀ {b:Addr} {o:Obj},s₁.heap.get? b=some o->H b=none->(rY s₁.heap H).get? b=some o:=fun e n=>aBk e n
  have noA:∀ {b:Addr} {o:Obj} {es:Array DictEntry} {ep:Nat},s₁.heap.get? b=some o->o.data=.dict es ep->H b=none:=fun {b o es ep} e d=>by
   cases q:H b with
   | none=>rfl
   | some u =>
    rcases hA b (by rw [q]; simp) with e' | ⟨q',e'⟩
    ·subst e'
     rw [ha] at e; cases e
     have d':Data.seq vs.toArray _=Data.dict es ep:=d
     cases d'
    ·have:=(hts _ e').1
     have e2:s₁.heap.get? b=some (PySem.W.tabObj #[]):=this
     rw [e] at e2; cases e2
     have d':Data.fields _=Data.dict es ep:=d
     cases d'
  have nsK:∀ {b:Addr} {m:Str->Option Value},s₁.heap.Ns b m->(rY s₁.heap H).Ns b m:=fun {b m} ⟨o,es,ep,e,d,r⟩=>⟨o,es,ep,base_of e (noA e d),d,r⟩
  have hKb:K.In (rY s₁.heap H):=fun b o e=>base_of (KX b o e) (by
   cases q:H b with
   | none=>rfl
   | some u =>
    rcases hA b (by rw [q]; simp) with e' | ⟨q',e'⟩
    ·subst e'
     rw [hK (by rw [q]; simp)] at e; cases e
    ·have:=(hts _ e').2.1
     have e2:K.lookup b=none:=this
     rw [e] at e2; cases e2)
  have hBu:∀ p∈ts,(rY s₁.heap H).BuiltinsAt mg p.1:=fun p hp=>by
   obtain ⟨bm,ob,b1,b2,b3,b4,b5,b6⟩:=hbm
   have hn:H bm=none:=by
    cases q:H bm with
    | none=>rfl
    | some u =>
     rcases hA bm (by rw [q]; simp) with e' | ⟨q',e'⟩
     ·subst e'
      rw [ha] at b3; cases b3
      have d':Data.seq vs.toArray _=Data.plain:=b6
      cases d'
     ·have e2:s₁.heap.get? bm=some (PySem.W.tabObj #[]):=(hts _ e').1
      rw [b3] at e2; cases e2
      have d':Data.fields _=Data.plain:=b6
      cases d'
   refine ⟨bm,ob,b1,b2,fun z=>?_,fun z=>?_,base_of b3 hn,b4,b5,b6⟩
   ·obtain ⟨o,es,ep,e,d,r⟩:=hns
    rw [<- z,b3] at e; cases e
    rw [b6] at d; cases d
   ·have e2:s₁.heap.get? p.1=some (PySem.W.tabObj #[]):=(hts _ hp).1
    rw [<- z,b3] at e2; cases e2
    have d':Data.fields _=Data.plain:=b6
    cases d'
  have hM:Mod K mg (rY s₁.heap H):=⟨hKb,nsK hns,⟨mb,nsK hb,hbb⟩,let ⟨mc,h1,h2⟩:=hlim; ⟨mc,nsK h1,h2⟩,let ⟨mm,h1⟩:=hmod; ⟨mm,nsK h1⟩⟩
  have e0:Env0 P w K mg (rY s₁.heap H) callerA [] s₁ H:=⟨rfl,hM,fun b o e=>aCN e,Nat.le_of_eq (aAD _ _),trivial,fun b hb=>absurd (show b∈([]:List Addr) from hb) (by simp),hok,.of_eq hg⟩
  refine codeAny_mono ((F _ hKb (nsK hns) hBu).run callerA [] s₁ H ⟨[.ref a],[]⟩ [.ref a] [.ref a] _ _ hr e0 (hbind s₁ (.ref a)) (.cons rfl .nil) (hsp H hO hS)) fun r s' h=>?_
  cases r with
  | error e=>exact (hCX H e s' h).elim
  | ok fl =>
   cases fl with
   | next=>exact False.elim h
   | brk=>exact False.elim h
   | cont=>exact False.elim h
   | ret u =>
    obtain ⟨v,H',os,bare,un,hok',r',q,qt⟩:=h
    have q':v=.bl true:=q
    subst q'
    obtain rfl:u=Value.bool true:=r'
    have keep:∀ b o,(∀ q,(b,q)∉ts)->s₁.heap.get? b=some o->s'.heap.get? b=some o:=fun b o hb e=>by
     cases q:H b with
     | none=>exact un.keep b o e q (by intro z; exact absurd (show b∈([]:List Addr) from z) (by simp)) (by simp)
     | some u =>
      rcases hO.1 b with z | ⟨ob,xs,z⟩ | ⟨q',z,zm⟩
      ·rw [q] at z; cases z
      ·have z2:=un.frzs b ob _ z
       obtain ⟨e1,_⟩:=hok b _ z
       obtain ⟨e2,_⟩:=hok' b _ z2
       rw [e] at e1; cases e1
       exact e2
      ·exact absurd zm (hb q')
    have grown:∀ b o q,(b,q)∈ts->s₁.heap.get? b=some o->isCodeTable s₁.heap b/\o=PySem.W.tabObj #[]/\∃ ps,s'.heap.get? b=some (PySem.W.tabObj ps):=fun b o q hm e=>by
     obtain ⟨h1,h2,c,h3⟩:=hts _ hm
     have h1':s₁.heap.get? b=some (PySem.W.tabObj #[]):=h1
     rw [e] at h1'
     obtain ⟨ps,hps,_⟩:bX P w H' s'.heap b (.tab q):=hok' b _ (qt _ hm)
     exact ⟨qQ h3 h1,Option.some.inj h1',ps,hps⟩
    refine ⟨rfl,⟨fun b o e=>?_,fun b o e=>?_⟩,os,bare⟩
    ·by_cases hb:∃ q,(b,q)∈ts
     ·obtain ⟨q,hm⟩:=hb
      obtain ⟨ht,rfl,ps,hP⟩:=grown b o q hm e
      exact .inr (.inl ⟨ht,rfl,#[],ps,rfl,by rw [Array.empty_append]; exact hP⟩)
     ·exact .inl (keep b o (fun q z=>hb ⟨q,z⟩) e)
    ·by_cases hb:∃ q,(b,q)∈ts
     ·obtain ⟨q,hm⟩:=hb
      obtain ⟨_,_,ps,hP⟩:=grown b o q hm e
      exact ⟨_,hP⟩
     ·exact ⟨o,keep b o (fun q z=>hb ⟨q,z⟩) e⟩
 -- the tables
 have look:∀ {b:Addr} {q:Str},ts.lookup b=some q->(b,q)∈ts:=fun {b q} e=>by
  clear hts hnd hsp core na F
  induction ts with
  | nil=>cases e
  | cons p r ih =>
   rw [Js] at e
   cases hb:b==p.1 with
   | true=>rw [hb] at e; cases e; rw [eq_of_beq hb]; exact .head _
   | false=>rw [hb] at e; exact .tail _ (ih e)
 have look2:∀ {b:Addr} {q:Str},(b,q)∈ts->ts.lookup b=some q:=fun {b q} e=>by
  clear hts hsp core na look F
  induction ts with
  | nil=>cases e
  | cons p r ih =>
   rw [Js]
   rw [Jf,Xi] at hnd
   rcases Qj.mp e with rfl | e
   ·simp
   ·have:(b==p.1)=false:=by
     rw [beq_eq_false_iff_ne]
     intro z
     exact hnd.1 (Jw.mpr ⟨(b,q),e,z⟩)
    rw [this]
    exact ih hnd.2 e
 have tabOk:∀ (H:Hp) (b:Addr) (q:Str),(b,q)∈ts->bX P w H s₁.heap b (.tab q):=fun H b q hm=>⟨#[],(hts _ hm).1,trivial,fun pos cv z=>by simp [codeAmong] at z⟩
 cases hk:K.lookup a with
 | some o =>
  have e:=KX a o hk
  rw [ha] at e
  cases e
  refine core (fun b=>(ts.lookup b).map HO.tab) ⟨fun b=>?_,fun p hp=>by show (ts.lookup p.1).map HO.tab=_; rw [look2 (q:=p.2) hp]; rfl⟩ (.inr ⟨_,vs.toArray,_,hk,rfl,rfl,rfl,by rw [Ql,lenV]; exact hl,by simpa using rv⟩) (fun b u z=>?_) (fun b z=>?_) fun z=>?_
  ·cases q:ts.lookup b with
   | none=>exact .inl (by show (ts.lookup b).map HO.tab=none; rw [q]; rfl)
   | some y=>exact .inr (.inr ⟨y,by show (ts.lookup b).map HO.tab=_; rw [q]; rfl,look q⟩)
  ·have z':(ts.lookup b).map HO.tab=some u:=z
   cases q:ts.lookup b with
   | none=>rw [q] at z'; cases z'
   | some y=>rw [q] at z'; cases z'; exact tabOk _ _ _ (look q)
  ·have z':(ts.lookup b).map HO.tab≠none:=z
   cases q:ts.lookup b with
   | none=>rw [q] at z'; exact absurd rfl z'
   | some y=>exact .inr ⟨y,look q⟩
  ·exfalso
   have z':(ts.lookup a).map HO.tab≠none:=z
   cases q:ts.lookup a with
   | none=>rw [q] at z'; exact absurd rfl z'
   | some y=>exact na _ (look q) rfl
 | none =>
  have noa:ts.lookup a=none:=by
   cases q:ts.lookup a with
   | none=>rfl
   | some y=>exact absurd rfl (na _ (look q))
  refine core (fun b=>if b=a then some (.frz { cls:=.type "list",data:=.seq vs.toArray } (.lst (ns.map V.int))) else (ts.lookup b).map HO.tab) ⟨fun b=>?_,fun p hp=>?_⟩ (.inl (.inr ⟨{ cls:=.type "list",data:=.seq vs.toArray },if_pos rfl⟩)) (fun b u z=>?_) (fun b z=>?_) fun _=>hk
  ·by_cases hb:b=a
   ·exact .inr (.inl ⟨_,_,if_pos hb⟩)
   ·cases q:ts.lookup b with
    | none=>exact .inl ((if_neg hb).trans (by rw [q]; rfl))
    | some y=>exact .inr (.inr ⟨y,(if_neg hb).trans (by rw [q]; rfl),look q⟩)
  ·exact (if_neg (na p hp)).trans (by rw [look2 (q:=p.2) hp]; rfl)
  ·by_cases hb:b=a
   ·have z':=(if_pos hb).symm.trans z
    cases z'
    subst hb
    exact ⟨ha,by rw [Qb]; exact hl,vs,_,rv,ha⟩
   ·have z':=(if_neg hb).symm.trans z
    cases q:ts.lookup b with
    | none=>rw [q] at z'; cases z'
    | some y=>rw [q] at z'; cases z'; exact tabOk _ _ _ (look q)
  ·by_cases hb:b=a
   ·exact .inl hb
   ·cases q:ts.lookup b with
    | none=>exact absurd ((if_neg hb).trans (by rw [q]; rfl)) z
    | some y=>exact .inr ⟨y,look q⟩
theorem aB6 {l:PySem.W.OpenLaw} {n k:Nat} {q:Program} {loose:List Str} {XP:(Str->Option Value)->Heap->Prop} {YP:World->Heap->Prop} {d:DefRec} {K:Params->PySem.W.Frag} {CX:World->CXT} {sp:World->Sp} {x:Str} {ts:List (Addr×Str)}
  (hn:l.most=some n) (hn2:n<=sizeLine) (hdf:d.params.defaults = []) (hr:Room k callerA) (hq:importsNone q=true)
  (hY:∀ (w:World) (h:Heap),YP w h->(K w.params).In h)
  (hts:∀ (w:World) (h:Heap),YP w h->∀ p∈ts,h.get? p.1=some (PySem.W.tabObj #[])/\(K w.params).lookup p.1=none/\∃ c,PySem.W.CodeHd h c p.1) (hnd:(ts.map (·.1)).Nodup)
  (F:∀ (w:World) (mg:Str->Option Value) (fa:Addr) (h:Heap),(K w.params).In h->h.Ns mainGlobals mg->mg d.name=some (.ref fa) ->
   ∃ fd:FuncData,(∀ (s:Shared) (u:Value),BindsTo s fd ⟨[u],[]⟩ [(x,u)]) /\
    ∀ base:Heap,(K w.params).In base->base.Ns mainGlobals mg->(∀ p∈ts,base.BuiltinsAt mg p.1)->FnOk l.prog w (K w.params) mg base (CX w) k fa fd [x] (sp w))
  (hsp:∀ (w:World) (H:Hp) (a:Addr) (ns:List Int),ns.length<=n->aB5 ts H->SqL (K w.params) H a (ns.map V.int)->sp w [.ref a] H (fun v H'=>v=.bl true/\∀ p∈ts,H' p.1=some (.tab p.2)) fun _ _ _=>False)
  (hCX:∀ (w:World) (H:Hp) (s:Shared) (e:Value) (s':Shared),CX w [] H s (fun _ _ _=>False) e s'->False) :
  PySem.W.WalkO q loose XP YP l.row.toRowW d [] (fun f vs=>PySem.call f vs):=by
 refine Att.attach_call hn hdf fun w s₀ s₁ mg mb fa o pm cd doc a vs ns G Y ho hd hcd hmg hobj hints hlen hg=>?_
 have KX:=hY w _ Y
 obtain ⟨fd,hb,hF⟩:=F w mg fa _ KX G.T.g hmg
 exact aA0 KX G.T.g G.T.b G.T.builtins G.T.nolimit (let ⟨mm,h1,_⟩:=(G.T.seer hq).mods; ⟨mm,h1⟩) hg G.T.bmain (hts w _ Y) hnd hobj hints (Qw hlen hn2) hr hF hb (fun H hO hS=>hsp w H a ns hlen hO hS) fun H e s'=>hCX w H s₁ e s'
section
variable {P:Program} {w:World} {K:PySem.W.Frag} {mg:Str->Option Value} {base:Heap}
theorem Fun.okC {x qual:Str} {st:Stmt} {f c:Addr} {fd:FuncData} {N ps:List Str} {k:Nat} {sp:Sp} (F:Fun K x qual st f fd) (hc:fd.code=.ref c) (S:FnScope N ps (aI st)) (len:∀ vs H Q E,sp vs H Q E->vs.length=ps.length)
  (hbody:∀ (A:Around) (outer:List Env) (s:Shared) (H:Hp) (vs:List V) (Q:VK) (E:XK),Room k (A.deeper (envOfC qual (aI st) s.heap.objs.size f (.ref c)))->sp vs H Q E ->
   ∃ t,PSs (nD CX0 P w K mg base N qual (aI st) f (.ref c) A outer s H E).nox (hG st) t/\t { nx:=fun _ H'=>Q .non H',rt:=Q } (start N vs) H):FnOk P w K mg base CX0 (k+1) f fd ps sp:=by
 obtain ⟨oc,od,kV,doc,pm,an,cdv,ct,osl,rfl,lk,hcd⟩:=F.ex
 have e:cdv=.ref c:=hc
 subst e
 refine aBx lk hcd S len fun A outer s H vs Q E hr hsp=>?_
 obtain ⟨t,h,q⟩:=hbody A outer s H vs Q E hr hsp
 exact ⟨t,h.nox,q⟩
end
abbrev hU (h:Heap) (z TI TO:Addr) (f0:Value) (f1:Bool):Prop :=
 h.get? z=some { cls:=.type "zip",dict:=none,data:=.fields #[f0,.bool f1,.bool false,.ref TI,.ref TO],slots:=#[] }
def F0 (f:Value):Prop:=f=.none∨∃ a t,f=.int a t
theorem wZ {M:Model} {A:Around} {E:Value->Shared->Prop} {s:Shared} {a:Addr} {Q:Option Obj->Shared->Prop} (h:Q (s.heap.get? a) s):wpAny M A (loadIfAlive a) Q E s:=fun Γ p _=>by
 show Sem.wp M Γ (.loadIfAlive a .pure) _ _ p s
 rw [Sem.wp_loadIfAlive]
 exact (Sem.wp_pure ..).mpr h
section
variable {prog:Program} {w:World} {A:Around} {E:Value->Shared->Prop} {s:Shared} {z TI TO i1 i2 l1 l2:Addr} {n1 n2:Nat} {P1 P2:Nat->Value->Prop} {st1 st2:Nat->Heap->Prop}
theorem aB7 {f0:Value} {f1:Bool} {Q:Bool->Shared->Prop} (hz:hU s.heap z TI TO f0 f1) (hf:F0 f0) (h1:Q true s) (h2:∀ h' b,hU h' z TI TO f0 b->Heap.SameBut z s.heap h'->Q false { s with heap:=h' }) :
  wpAny (model prog w) A (Builtin.SmallTypes.ownedTupleIsFree (.ref z)) Q E s:=by
 unfold Builtin.SmallTypes.ownedTupleIsFree
 rcases hf with rfl | ⟨a,t,rfl⟩
 ·exact wpAny_bind (wpAny_field hz rfl (x:=.none) rfl (wpAny_pure h1))
 ·refine wpAny_bind (wpAny_field hz rfl (x:=.int a t) rfl ?_)
  show wpAny (model prog w) A (loadIfAlive a.toNat >>= _) Q E s
  refine wpAny_bind (wZ ?_)
  cases hq:s.heap.get? a.toNat with
  | none=>exact wpAny_pure h1
  | some o =>
   show wpAny (model prog w) A (field (.ref z) 1 >>= _) Q E s
   refine wpAny_bind (wpAny_field hz rfl (x:=.bool f1) rfl ?_)
   cases f1 with
   | true=>exact wpAny_pure (h2 s.heap true hz (Heap.SameBut.refl _ _))
   | false =>
    show wpAny (model prog w) A (setField (.ref z) 1 (.bool true) >>= _) Q E s
    refine wpAny_bind (wpAny_setField_rec hz (by simp) fun g hg b=>wpAny_pure (h2 g true hg b))
theorem aB8 {k:Nat} {a b f0:Value} {f1:Bool} {Q:Value->Shared->Prop} (D:ZipApart z TI TO i1 i2 l1 l2) (S1:Sub prog w i1 l1 n1 P1 st1) (S2:Sub prog w i2 l2 n2 P2 st2)
  (hz:hU s.heap z TI TO f0 f1) (hf:F0 f0) (hTI:IsPair s.heap TI (.ref i1) (.ref i2)) (hTO:IsPair s.heap TO a b) (h1:st1 k s.heap) (h2:st2 k s.heap) (k1:k < n1) (k2:k < n2)
  (hQ:∀ h' x y f0' f1',P1 k x->P2 k y->F0 f0'->hU h' z TI TO f0' f1'->(∃ a b,IsPair h' TO a b)->st1 (k+1) h'->st2 (k+1) h'->IsPair h' s.heap.objs.size x y->h'.objs.size=s.heap.objs.size+1 ->
   (∀ c o,c≠z->c≠TO->c≠i1->c≠i2->s.heap.get? c=some o->h'.get? c=some o)->Q (.ref s.heap.objs.size) { s with heap:=h' }) :
  wpAny (model prog w) A (Builtin.«zip.__next__» ⟨[.ref z],[]⟩) (fun fin s'=>∃ v,fin=.done (.ret v)/\Q v s') E s:=by
 refine wpAny_bind (m:=field (.ref z) 2) (wpAny_field hz rfl (x:=.bool false) rfl ?_)
 refine wpAny_bind (m:=field (.ref z) 3) (wpAny_field hz rfl (x:=.ref TI) rfl ?_)
 refine wpAny_bind (wpAny_seqItems hTI rfl ?_)
 refine wpAny_bind (m:=Builtin.SmallTypes.ownedTupleIsFree (.ref z)) (aB7 hz hf ?_ fun h0 fb hz0 b0=>?_)
 ·simp only [if_true]
  refine wpAny_bind (wpAny_rule ?_)
  refine wpAny_bind (wpAny_field hz rfl (x:=.ref TO) rfl ?_)
  refine wpAny_bind (wpAny_setField_rec hz (by simp) fun g1 hz1 b1=>?_)
  have hz1':hU g1 z TI TO .ellipsis f1:=hz1
  refine wpAny_bind ?_
  simp only [Xn,Xu,Xe,Xk]
  have s1:st1 k g1:=S1.keep _ _ _ h1 fun c hc o e=>b1.extBut c o (by rcases hc with r | r <;> rw [r]; exact D.i1z; exact D.l1z) e
  refine wpAny_bind (wpAny_bind (wpAny_onRaise ?_))
  refine wpAny_bind (m:=Builtin.SmallTypes.nextOf (.ref i1)) (S1.item _ k _ _ _ k1 s1 fun x g2 px t1 b2=>wpAny_pure ?_)
  have o2:IsPair g2 TO a b:=b2.extBut _ _ D.TOi1 (b1.extBut _ _ D.TOz hTO)
  refine wpAny_bind (wpAny_seqItems o2 rfl ?_)
  refine wpAny_bind (wpAny_updateSeq_pair o2 fun g3 o3 b3=>?_)
  have o3':IsPair g3 TO x b:=o3
  refine wpAny_bind (wpAny_letGo (wpAny_pure ?_))
  have s2:st2 k g3:=S2.keep _ _ _ h2 fun c hc o e=>by
   rcases hc with r | r
   ·rw [r] at e ⊢; exact b3.extBut _ _ D.TOi2.symm (b2.extBut _ _ D.i12.symm (b1.extBut _ _ D.i2z e))
   ·rw [r] at e ⊢; exact b3.extBut _ _ D.l2TO (b2.extBut _ _ D.l2i1 (b1.extBut _ _ D.l2z e))
  refine wpAny_bind (wpAny_bind (wpAny_onRaise ?_))
  refine wpAny_bind (m:=Builtin.SmallTypes.nextOf (.ref i2)) (S2.item _ k _ _ _ k2 s2 fun y g4 py t2 b4=>wpAny_pure ?_)
  have o4:IsPair g4 TO x b:=b4.extBut _ _ D.TOi2 o3'
  refine wpAny_bind (wpAny_seqItems o4 rfl ?_)
  refine wpAny_bind (wpAny_updateSeq_pair o4 fun g5 o5 b5=>?_)
  have o5':IsPair g5 TO x y:=o5
  refine wpAny_bind (wpAny_letGo (wpAny_pure (wpAny_pure ?_)))
  refine wpAny_bind (wpAny_seqItems o5' rfl ?_)
  refine wpAny_bind (wpAny_newTuple ?_)
  have sz:g5.objs.size=s.heap.objs.size:=by rw [b5.1,b4.1,b3.1,b2.1,b1.1]
  have z5:hU g5 z TI TO .ellipsis f1:=b5.extBut _ _ D.TOz.symm (b4.extBut _ _ D.i2z.symm (b3.extBut _ _ D.TOz.symm (b2.extBut _ _ D.i1z.symm hz1')))
  have kp5:∀ c o,c≠z->c≠TO->c≠i1->c≠i2->s.heap.get? c=some o->g5.get? c=some o:=fun c o c1 c2 c3 c4 e =>
   b5.extBut _ _ c2 (b4.extBut _ _ c4 (b3.extBut _ _ c2 (b2.extBut _ _ c3 (b1.extBut _ _ c1 e))))
  have t1':st1 (k+1) g5:=S1.keep _ _ _ t1 fun c hc o e=>by
   rcases hc with r | r
   ·rw [r] at e ⊢; exact b5.extBut _ _ D.TOi1.symm (b4.extBut _ _ D.i12 (b3.extBut _ _ D.TOi1.symm e))
   ·rw [r] at e ⊢; exact b5.extBut _ _ D.l1TO (b4.extBut _ _ D.l1i2 (b3.extBut _ _ D.l1TO e))
  have t2':st2 (k+1) g5:=S2.keep _ _ _ t2 fun c hc o e=>by
   rcases hc with r | r
   ·rw [r] at e ⊢; exact b5.extBut _ _ D.TOi2.symm e
   ·rw [r] at e ⊢; exact b5.extBut _ _ D.l2TO e
  have zlt:g5.objs.size≠z:=Xd (Qm z5)
  refine wpAny_bind (m:=Builtin.SmallTypes.ownedTupleHandOut (.ref z) (.ref g5.objs.size)) ?_
  unfold Builtin.SmallTypes.ownedTupleHandOut
  have z6:hU (g5.push { cls:=.type "tuple",data:=.seq #[x,y] }) z TI TO .ellipsis f1:=Qa _ z5
  refine wpAny_bind (wpAny_setField_rec z6 (by simp) fun g7 z7 b7=>?_)
  have z7':hU g7 z TI TO (rawInt g5.objs.size) f1:=z7
  refine wpAny_setField_rec z7' (by simp) fun g8 z8 b8=>?_
  have z8':hU g8 z TI TO (rawInt g5.objs.size) false:=z8
  have up:∀ c o,c≠z->g5.get? c=some o->g8.get? c=some o:=fun c o c1 e=>b8.extBut _ _ c1 (b7.extBut _ _ c1 (Qa _ e))
  have T8:IsPair g8 g5.objs.size x y:=b8.extBut _ _ zlt (b7.extBut _ _ zlt (Qk _ rfl))
  have sz8:g8.objs.size=s.heap.objs.size+1:=by rw [b8.1,b7.1,Je,sz]
  rw [sz] at z8' T8
  refine wpAny_pure ⟨_,rfl,?_⟩
  show Q (.ref g5.objs.size) _
  rw [sz]
  refine hQ g8 x y _ _ px py (.inr ⟨_,_,rfl⟩) z8' ⟨_,_,up _ _ D.TOz o5'⟩ (S1.keep _ _ _ t1' fun c hc o e=>up c o (by rcases hc with r | r <;> rw [r]; exact D.i1z; exact D.l1z) e) (S2.keep _ _ _ t2' fun c hc o e=>up c o (by rcases hc with r | r <;> rw [r]; exact D.i2z; exact D.l2z) e) T8 sz8 fun c o c1 c2 c3 c4 e=>up c o c1 (kp5 c o c1 c2 c3 c4 e)
 ·simp only [Ze,if_false]
  have s1:st1 k h0:=S1.keep _ _ _ h1 fun c hc o e=>b0.extBut c o (by rcases hc with r | r <;> rw [r]; exact D.i1z; exact D.l1z) e
  rw [<- Array.forIn_toList]
  simp only [Xe,Xk]
  refine wpAny_bind (wpAny_bind (wpAny_bind (wpAny_holding ?_)))
  refine wpAny_bind (m:=Builtin.SmallTypes.nextOf (.ref i1)) (S1.item _ k _ _ _ k1 s1 fun x g2 px t1 b2=>wpAny_pure ?_)
  refine wpAny_pure ?_
  have s2:st2 k g2:=S2.keep _ _ _ h2 fun c hc o e=>by
   rcases hc with r | r
   ·rw [r] at e ⊢; exact b2.extBut _ _ D.i12.symm (b0.extBut _ _ D.i2z e)
   ·rw [r] at e ⊢; exact b2.extBut _ _ D.l2i1 (b0.extBut _ _ D.l2z e)
  refine wpAny_bind (wpAny_bind (wpAny_holding ?_))
  refine wpAny_bind (m:=Builtin.SmallTypes.nextOf (.ref i2)) (S2.item _ k _ _ _ k2 s2 fun y g4 py t2 b4=>wpAny_pure ?_)
  refine wpAny_pure (wpAny_pure ?_)
  refine wpAny_bind (wpAny_newTuple ?_ (by show 2<=sizeLine; rw [sizeLine_eq]; decide))
  have sz:g4.objs.size=s.heap.objs.size:=by rw [b4.1,b2.1,b0.1]
  have z4:hU g4 z TI TO f0 fb:=b4.extBut _ _ D.i2z.symm (b2.extBut _ _ D.i1z.symm hz0)
  have kp4:∀ c o,c≠z->c≠i1->c≠i2->s.heap.get? c=some o->g4.get? c=some o:=fun c o c1 c3 c4 e=>b4.extBut _ _ c4 (b2.extBut _ _ c3 (b0.extBut _ _ c1 e))
  have t1':st1 (k+1) g4:=S1.keep _ _ _ t1 fun c hc o e=>by
   rcases hc with r | r
   ·rw [r] at e ⊢; exact b4.extBut _ _ D.i12 e
   ·rw [r] at e ⊢; exact b4.extBut _ _ D.l1i2 e
  refine wpAny_pure ⟨_,rfl,?_⟩
  show Q (.ref g4.objs.size) _
  have T8:IsPair (g4.push { cls:=.type "tuple",data:=.seq #[x,y] }) g4.objs.size x y:=Qk _ rfl
  rw [sz] at T8 ⊢
  refine hQ _ x y _ _ px py hf (Qa _ z4) ⟨_,_,Qa _ (kp4 _ _ D.TOz D.TOi1 D.TOi2 hTO)⟩ (S1.keep _ _ _ t1' fun c hc o e=>Qa _ e) (S2.keep _ _ _ t2 fun c hc o e=>Qa _ e) T8 (by rw [Je,sz]) fun c o c1 c2 c3 c4 e=>Qa _ (kp4 c o c1 c3 c4 e)
theorem aDg {k:Nat} {a b f0:Value} {f1:Bool} {Q:Fin->Shared->Prop} (hh:A.handled=none) (D:ZipApart z TI TO i1 i2 l1 l2) (S1:Sub prog w i1 l1 n1 P1 st1) (S2:Sub prog w i2 l2 n2 P2 st2)
  (hz:hU s.heap z TI TO f0 f1) (hf:F0 f0) (hTI:IsPair s.heap TI (.ref i1) (.ref i2)) (hTO:IsPair s.heap TO a b) (h1:st1 k s.heap) (h2:st2 k s.heap) (hend:k=n1/\k<=n2∨k=n2/\k < n1)
  (hE:∀ h' e,(∀ c o,c≠z->c≠TO->c≠i1->c≠i2->s.heap.get? c=some o->h'.get? c=some o)->(∃ o,h'.get? e=some o/\o.cls=.type "StopIteration")->E (.ref e) { s with heap:=h' }) :
  wpAny (model prog w) A (Builtin.«zip.__next__» ⟨[.ref z],[]⟩) Q E s:=by
 refine wpAny_bind (m:=field (.ref z) 2) (wpAny_field hz rfl (x:=.bool false) rfl ?_)
 refine wpAny_bind (m:=field (.ref z) 3) (wpAny_field hz rfl (x:=.ref TI) rfl ?_)
 refine wpAny_bind (wpAny_seqItems hTI rfl ?_)
 refine wpAny_bind (m:=Builtin.SmallTypes.ownedTupleIsFree (.ref z)) (aB7 hz hf ?_ fun h0 fb hz0 b0=>?_)
 ·simp only [if_true]
  refine wpAny_bind (wpAny_rule ?_)
  refine wpAny_bind (wpAny_field hz rfl (x:=.ref TO) rfl ?_)
  refine wpAny_bind (wpAny_setField_rec hz (by simp) fun g1 hz1 b1=>?_)
  have hz1':hU g1 z TI TO .ellipsis f1:=hz1
  refine wpAny_bind ?_
  simp only [Xn,Xu,Xe,Xk]
  have s1:st1 k g1:=S1.keep _ _ _ h1 fun c hc o e=>b1.extBut c o (by rcases hc with r | r <;> rw [r]; exact D.i1z; exact D.l1z) e
  refine wpAny_bind (wpAny_bind (wpAny_onRaise ?_))
  have fin:∀ (g:Heap) (e:Addr) (g0:Heap),(∃ o,g.get? e=some o/\o.cls=.type "StopIteration")->hU g z TI TO .ellipsis f1->(∀ c o,c≠z->c≠TO->c≠i1->c≠i2->s.heap.get? c=some o->g.get? c=some o) ->
    wpAny (model prog w) A (setField (.ref z) 0 .none) (fun _ s'=>E (.ref e) s') E { s with heap:=g }:=fun g e g0 ⟨oe,hoe,hce⟩ hzz kp=>by
   have hez:e≠z:=fun q=>by rw [q,hzz] at hoe; cases hoe; simp at hce
   exact wpAny_setField_rec hzz (by simp) fun g' _ b'=>hE g' e (fun c o c1 c2 c3 c4 q=>b'.extBut _ _ c1 (kp c o c1 c2 c3 c4 q)) ⟨oe,b'.extBut _ _ hez hoe,hce⟩
  rcases hend with ⟨e1,_⟩ | ⟨e2,k1⟩
  ·rw [e1] at s1
   refine wpAny_bind (m:=Builtin.SmallTypes.nextOf (.ref i1)) (S1.done _ _ _ _ hh s1 fun g2 e b2 he=>?_)
   exact fin g2 e g1 he (b2 _ _ D.i1z.symm hz1') fun c o c1 _ c3 _ q=>b2 _ _ c3 (b1.extBut _ _ c1 q)
  ·refine wpAny_bind (m:=Builtin.SmallTypes.nextOf (.ref i1)) (S1.item _ k _ _ _ k1 s1 fun x g2 px t1 b2=>wpAny_pure ?_)
   have o2:IsPair g2 TO a b:=b2.extBut _ _ D.TOi1 (b1.extBut _ _ D.TOz hTO)
   refine wpAny_bind (wpAny_seqItems o2 rfl ?_)
   refine wpAny_bind (wpAny_updateSeq_pair o2 fun g3 o3 b3=>?_)
   refine wpAny_bind (wpAny_letGo (wpAny_pure ?_))
   have s2:st2 n2 g3:=by
    rw [<- e2]
    exact S2.keep _ _ _ h2 fun c hc o e=>by
     rcases hc with r | r
     ·rw [r] at e ⊢; exact b3.extBut _ _ D.TOi2.symm (b2.extBut _ _ D.i12.symm (b1.extBut _ _ D.i2z e))
     ·rw [r] at e ⊢; exact b3.extBut _ _ D.l2TO (b2.extBut _ _ D.l2i1 (b1.extBut _ _ D.l2z e))
   refine wpAny_bind (wpAny_bind (wpAny_onRaise ?_))
   refine wpAny_bind (m:=Builtin.SmallTypes.nextOf (.ref i2)) (S2.done _ _ _ _ hh s2 fun g4 e b4 he=>?_)
   exact fin g4 e g3 he (b4 _ _ D.i2z.symm (b3.extBut _ _ D.TOz.symm (b2.extBut _ _ D.i1z.symm hz1'))) fun c o c1 c2 c3 c4 q=>b4 _ _ c4 (b3.extBut _ _ c2 (b2.extBut _ _ c3 (b1.extBut _ _ c1 q)))
 ·simp only [Ze,if_false]
  have s1:st1 k h0:=S1.keep _ _ _ h1 fun c hc o e=>b0.extBut c o (by rcases hc with r | r <;> rw [r]; exact D.i1z; exact D.l1z) e
  rw [<- Array.forIn_toList]
  simp only [Xe,Xk]
  refine wpAny_bind (wpAny_bind (wpAny_bind (wpAny_holding ?_)))
  rcases hend with ⟨e1,_⟩ | ⟨e2,k1⟩
  ·rw [e1] at s1
   refine wpAny_bind (m:=Builtin.SmallTypes.nextOf (.ref i1)) (S1.done _ _ _ _ hh s1 fun g2 e b2 he=>?_)
   exact hE g2 e (fun c o c1 _ c3 _ q=>b2 _ _ c3 (b0.extBut _ _ c1 q)) he
  ·refine wpAny_bind (m:=Builtin.SmallTypes.nextOf (.ref i1)) (S1.item _ k _ _ _ k1 s1 fun x g2 px t1 b2=>wpAny_pure ?_)
   refine wpAny_pure ?_
   have s2:st2 n2 g2:=by
    rw [<- e2]
    exact S2.keep _ _ _ h2 fun c hc o e=>by
     rcases hc with r | r
     ·rw [r] at e ⊢; exact b2.extBut _ _ D.i12.symm (b0.extBut _ _ D.i2z e)
     ·rw [r] at e ⊢; exact b2.extBut _ _ D.l2i1 (b0.extBut _ _ D.l2z e)
   refine wpAny_bind (wpAny_bind (wpAny_holding ?_))
   refine wpAny_bind (m:=Builtin.SmallTypes.nextOf (.ref i2)) (S2.done _ _ _ _ hh s2 fun g4 e b4 he=>?_)
   exact hE g4 e (fun c o c1 c2 c3 c4 q=>b4 _ _ c4 (b2.extBut _ _ c3 (b0.extBut _ _ c1 q))) he
structure ZipSt (h:Heap) (z TI TO i1 i2:Addr):Prop where
 hz:∃ f0 f1,F0 f0/\hU h z TI TO f0 f1
 ti:IsPair h TI (.ref i1) (.ref i2)
 to:∃ a b,IsPair h TO a b
theorem xA {e:Addr} {i:Nat} {old:Value} {Q:Value->Shared->Prop} (D:ZipApart z TI TO i1 i2 l1 l2) (S1:Sub prog w i1 l1 n1 P1 st1) (S2:Sub prog w i2 l2 n2 P2 st2) (he:IsEnum s.heap e z i old) (Z:ZipSt s.heap z TI TO i1 i2)
  (h1:st1 i s.heap) (h2:st2 i s.heap) (k1:i < n1) (k2:i < n2) (ne:e≠z/\e≠TI/\e≠TO/\e≠i1/\e≠i2/\e≠l1/\e≠l2)
  (hQ:∀ h' x y tk,P1 i x->P2 i y->IsEnumOut h' e z ((i:Int)+1) (.ref s.heap.objs.size) (s.heap.objs.size+1)->ZipSt h' z TI TO i1 i2->st1 (i+1) h'->st2 (i+1) h'->IsPair h' s.heap.objs.size x y ->
   h'.get? (s.heap.objs.size+1)=some { cls:=.type "tuple",data:=.seq #[.int i tk,.ref s.heap.objs.size] } ->
   (∀ c o,c≠e->c≠z->c≠TO->c≠i1->c≠i2->s.heap.get? c=some o->h'.get? c=some o)->Q (.ref (s.heap.objs.size+1)) { s with heap:=h',toks:=s.toks+1 }) :
  wpAny (model prog w) A (Builtin.«enumerate.__next__» ⟨[.ref e],[]⟩) (fun fin s'=>∃ v,fin=.done (.ret v)/\Q v s') E s:=by
 obtain ⟨⟨f0,f1,hf,hz⟩,hTI,⟨a,b,hTO⟩⟩:=Z
 obtain ⟨ne1,ne2,ne3,ne4,ne5,ne6,ne7⟩:=ne
 have hTz:s.TypeIs (.ref z) "zip" := ⟨_,hz,rfl⟩
 refine wpAny_bind (m:=field (.ref e) 2) (wpAny_field he rfl (x:=.ref z) rfl ?_)
 refine wpAny_bind (m:=Builtin.SmallTypes.nextOf (.ref z)) ?_
 unfold Builtin.SmallTypes.nextOf
 refine wpAny_bind (wpAny_callSpecial?_slot (name:=Str.ofString "__next__") hTz PySem.F.slot_zip_next (wpAny_call_entry PySem.F.slot_zip_next hTz PySem.F.entry_zip_next
  (aB8 D S1 S2 hz hf hTI hTO h1 h2 k1 k2 fun g1 x y f0' f1' px py hf' hz' hTO' t1 t2 hp hsz kp=>?_) (PySem.F.args_zip_next_1 _)))
 refine wpAny_pure ?_
 have e1:IsEnum g1 e z i old:=kp _ _ ne1 ne3 ne4 ne5 he
 refine wpAny_bind (m:=field (.ref e) 3) (wpAny_field e1 rfl (x:=rawInt i) rfl ?_)
 refine wpAny_bind (m:=field (.ref e) 4) (wpAny_field e1 rfl (x:=.none) rfl ?_)
 refine wpAny_bind (m:=mkInt i) (wpAny_mkInt ?_)
 refine wpAny_bind (m:=setField (.ref e) 3 (rawInt ((i:Int)+1))) (wpAny_setField_rec e1 (by simp) fun g2 e2 b2=>?_)
 have e2':IsEnum g2 e z ((i:Int)+1) old:=e2
 refine wpAny_bind (m:=setField (.ref e) 4 .none) (wpAny_setField_rec e2' (by simp) fun g3 e3 b3=>?_)
 have e3':IsEnum g3 e z ((i:Int)+1) old:=e3
 refine wpAny_bind (m:=newTuple [.int i s.toks,.ref s.heap.objs.size]) (wpAny_newTuple ?_)
 have sz:g3.objs.size=s.heap.objs.size+1:=by rw [b3.1,b2.1,hsz]
 have e4:IsEnum (g3.push { cls:=.type "tuple",data:=.seq #[.int i s.toks,.ref s.heap.objs.size] }) e z ((i:Int)+1) old:=Qa _ e3'
 have T4:(g3.push { cls:=.type "tuple",data:=.seq #[.int i s.toks,.ref s.heap.objs.size] }).get? (s.heap.objs.size+1)=some { cls:=.type "tuple",data:=.seq #[.int i s.toks,.ref s.heap.objs.size] }:=by rw [<- sz]; exact Qk _ rfl
 have up4:∀ c o,c≠e->g1.get? c=some o->(g3.push { cls:=.type "tuple",data:=.seq #[.int i s.toks,.ref s.heap.objs.size] }).get? c=some o:=fun c o c1 q=>Qa _ (b3.extBut _ _ c1 (b2.extBut _ _ c1 q))
 have elt:s.heap.objs.size+1≠e:=Xd (Jy (Qm he))
 have elt0:s.heap.objs.size≠e:=Xd (Qm he)
 rw [sz]
 generalize g3.push { cls:=.type "tuple",data:=.seq #[.int i s.toks,.ref s.heap.objs.size] }=g4 at e4 T4 up4 ⊢
 refine wpAny_bind (m:=Builtin.SmallTypes.ownedTupleIsFree (.ref e)) ?_
 unfold Builtin.SmallTypes.ownedTupleIsFree
 refine wpAny_bind (wpAny_field e4 rfl (x:=.none) rfl (wpAny_pure ?_))
 simp only [if_true]
 refine wpAny_bind (wpAny_rule ?_)
 refine wpAny_bind (wpAny_field e4 rfl (x:=old) rfl ?_)
 refine wpAny_bind (wpAny_setField_rec e4 (by simp) fun g5 e5 b5=>?_)
 have e5':IsEnum g5 e z ((i:Int)+1) (.ref s.heap.objs.size):=e5
 refine wpAny_bind (m:=Builtin.SmallTypes.ownedTupleHandOut (.ref e) (.ref (s.heap.objs.size+1))) ?_
 unfold Builtin.SmallTypes.ownedTupleHandOut
 refine wpAny_bind (wpAny_setField_rec e5' (by simp) fun g6 e6 b6=>?_)
 have e6':IsEnumOut g6 e z ((i:Int)+1) (.ref s.heap.objs.size) (s.heap.objs.size+1):=e6
 refine wpAny_setField_rec e6' (by simp) fun g7 e7 b7=>?_
 have e7':IsEnumOut g7 e z ((i:Int)+1) (.ref s.heap.objs.size) (s.heap.objs.size+1):=e7
 have up:∀ c o,c≠e->g4.get? c=some o->g7.get? c=some o:=fun c o c1 q=>b7.extBut _ _ c1 (b6.extBut _ _ c1 (b5.extBut _ _ c1 q))
 have all:∀ c o,c≠e->g1.get? c=some o->g7.get? c=some o:=fun c o c1 q=>up c o c1 (up4 c o c1 q)
 obtain ⟨a',b',hTO'⟩:=hTO'
 refine wpAny_bind (wpAny_letGo (wpAny_pure ⟨_,rfl,hQ g7 x y s.toks px py e7' ⟨⟨_,_,hf',all _ _ ne1.symm hz'⟩,all _ _ ne2.symm (kp _ _ D.TIz D.TITO D.TIi1 D.TIi2 hTI),⟨_,_,all _ _ ne3.symm hTO'⟩⟩ (S1.keep _ _ _ t1 fun c hc o q=>all c o ?_ q) (S2.keep _ _ _ t2 fun c hc o q=>all c o ?_ q) (all _ _ elt0 hp) (up _ _ elt T4) fun c o c0 c1 c2 c3 c4 q=>all c o c0 (kp c o c1 c2 c3 c4 q)⟩))
 ·rcases hc with r | r <;> rw [r]
  ·exact ne4.symm
  ·exact ne6.symm
 ·rcases hc with r | r <;> rw [r]
  ·exact ne5.symm
  ·exact ne7.symm
theorem yP {e:Addr} {i:Nat} {old:Value} {Q:Fin->Shared->Prop} (hh:A.handled=none) (D:ZipApart z TI TO i1 i2 l1 l2) (S1:Sub prog w i1 l1 n1 P1 st1) (S2:Sub prog w i2 l2 n2 P2 st2) (he:IsEnum s.heap e z i old) (Z:ZipSt s.heap z TI TO i1 i2)
  (h1:st1 i s.heap) (h2:st2 i s.heap) (hend:i=n1/\i<=n2∨i=n2/\i < n1)
  (hE:∀ h' x,(∀ c o,c≠z->c≠TO->c≠i1->c≠i2->s.heap.get? c=some o->h'.get? c=some o)->(∃ o,h'.get? x=some o/\o.cls=.type "StopIteration")->E (.ref x) { s with heap:=h' }) :
  wpAny (model prog w) A (Builtin.«enumerate.__next__» ⟨[.ref e],[]⟩) Q E s:=by
 obtain ⟨⟨f0,f1,hf,hz⟩,hTI,⟨a,b,hTO⟩⟩:=Z
 have hTz:s.TypeIs (.ref z) "zip" := ⟨_,hz,rfl⟩
 refine wpAny_bind (m:=field (.ref e) 2) (wpAny_field he rfl (x:=.ref z) rfl ?_)
 refine wpAny_bind (m:=Builtin.SmallTypes.nextOf (.ref z)) ?_
 unfold Builtin.SmallTypes.nextOf
 exact wpAny_bind (wpAny_callSpecial?_slot (name:=Str.ofString "__next__") hTz PySem.F.slot_zip_next (wpAny_call_entry PySem.F.slot_zip_next hTz PySem.F.entry_zip_next
  (aDg hh D S1 S2 hz hf hTI hTO h1 h2 hend fun h' x kp hx=>hE h' x kp hx) (PySem.F.args_zip_next_1 _)))
end
def aB9 (K:PySem.W.Frag) (k1 k2:Sk) (a b:Addr):It :=
 ⟨fun i H => ∃ xs ys x y, SqK k1 K H a xs /\ SqK k2 K H b ys /\ xs[i]? = some x /\ ys[i]? = some y,
  fun i H v H'=>∃ p q,H p=none/\H q=none/\q≠p/\v=.ref q/\∀ xs ys,SqK k1 K H a xs->SqK k2 K H b ys->∃ x y,xs[i]?=some x/\ys[i]?=some y/\H'=upd (upd H p (.tup [x,y])) q (.tup [.int (i:Nat),.ref p]),
  fun i H=>∃ xs ys,SqK k1 K H a xs/\SqK k2 K H b ys/\min xs.length ys.length=i⟩
theorem uU {P:Program} {w:World} {K:PySem.W.Frag} {es:List Expr} {x1} {pos:Pos} (k1 k2:Sk) (a b e z TI TO i1 i2:Addr) (D:∀ l1 l2:Addr,(∀ c∈[e,z,TI,TO,i1,i2],l1≠c)->(∀ c∈[e,z,TI,TO,i1,i2],l2≠c)->ZipApart z TI TO i1 i2 l1 l2)
  (ne:e≠z/\e≠TI/\e≠TO/\e≠i1/\e≠i2) :
  Turn P w K (.Tuple es x1 pos) (aB9 K k1 k2 a b) [e,z,TI,TO,i1,i2] e (fun i h=>(∃ old,IsEnum h e z i old)/\ZipSt h z TI TO i1 i2/\ItK k1 h i1 a i/\ItK k2 h i2 b i) where
 mem:=by simp
 obj:=fun i h st c hc=>by
  obtain ⟨⟨old,he⟩,⟨⟨f0,f1,hf,hz⟩,hTI,⟨x,y,hTO⟩⟩,h1,h2⟩:=st
  simp only [Qj,Qn,or_false] at hc
  rcases hc with rfl | rfl | rfl | rfl | rfl | rfl
  ·exact ⟨_,he,fun v q=>by cases q⟩
  ·exact ⟨_,hz,fun v q=>by cases q⟩
  ·exact ⟨_,hTI,fun v q=>by cases q⟩
  ·exact ⟨_,hTO,fun v q=>by cases q⟩
  ·exact h1.obj
  ·exact h2.obj
 keep:=fun i h h' st k=>by
  obtain ⟨⟨old,he⟩,⟨⟨f0,f1,hf,hz⟩,hTI,⟨x,y,hTO⟩⟩,h1,h2⟩:=st
  exact ⟨⟨old,k e (by simp) _ he⟩,⟨⟨f0,f1,hf,k z (by simp) _ hz⟩,k TI (by simp) _ hTI,⟨x,y,k TO (by simp) _ hTO⟩⟩,h1.at fun o e=>k i1 (by simp) o e,h2.at fun o e=>k i2 (by simp) o e⟩
 item:=by
  intro X hP hw hK hc i pins s σ H E I hf st hg
  subst hP hw hK
  obtain ⟨⟨old,he⟩,Z,h1,h2⟩:=st
  obtain ⟨xs,ys,x,y,ha,hb,hx,hy⟩:=hg
  obtain ⟨its,rv,pa⟩:=I.seqK ha
  obtain ⟨jts,rw',pb⟩:=I.seqK hb
  obtain ⟨u,hu,ru⟩:=rv.get hx
  obtain ⟨v,hv,rv2⟩:=rw'.get hy
  have na:∀ c∈[e,z,TI,TO,i1,i2],a≠c:=fun c hc'=>I.seq_ne ha (hf c hc')
  have nb:∀ c∈[e,z,TI,TO,i1,i2],b≠c:=fun c hc'=>I.seq_ne hb (hf c hc')
  have DD:=D a b na nb
  have hT:s.TypeIs (.ref e) "enumerate" := ⟨_,he,rfl⟩
  have hi1:i < its.toArray.size:=by rw [Ql]; exact (Qd.mp hu).1
  have hi2:i < jts.toArray.size:=by rw [Ql]; exact (Qd.mp hv).1
  unfold pyNext
  refine wpAny_bind (wpAny_attempt (wpAny_callSpecial?_slot (name:=Str.ofString "__next__") hT PySem.F.slot_enumerate_next (wpAny_call_entry PySem.F.slot_enumerate_next hT PySem.F.entry_enumerate_next
   (xA DD (nG k1 X.prog X.w i1 a its.toArray (na i1 (by simp))) (nG k2 X.prog X.w i2 b jts.toArray (nb i2 (by simp))) he Z ⟨h1,pa⟩ ⟨h2,pb⟩ hi1 hi2
    ⟨ne.1,ne.2.1,ne.2.2.1,ne.2.2.2.1,ne.2.2.2.2,(na e (by simp)).symm,(nb e (by simp)).symm⟩ fun h' u' v' tk pu pv he' Z' s1 s2 hp1 hp2 kp=>wpAny_pure ?_) (PySem.F.args_enumerate_next_1 _))))
  have eu:u'=u:=by
   have q:its[i]?=some u':=by simpa using pu
   rw [hu] at q
   exact (Option.some.inj q).symm
  have ev:v'=v:=by
   have q:jts[i]?=some v':=by simpa using pv
   rw [hv] at q
   exact (Option.some.inj q).symm
  subst eu ev
  refine ⟨_,rfl,wpAny_letOwnedTupleGo_enum he' fun h2' he2 sb2=>?_⟩
  have T0:s.heap.objs.size≠e:=Xd (Qm he)
  have T1:s.heap.objs.size+1≠e:=Xd (Jy (Qm he))
  have hp1':IsPair h2' s.heap.objs.size u' v':=sb2.extBut _ _ T0 hp1
  have hp2':h2'.get? (s.heap.objs.size+1)=some { cls:=.type "tuple",data:=.seq #[.int i tk,.ref s.heap.objs.size] }:=sb2.extBut _ _ T1 hp2
  have hf0:=I.hok.fresh (Qg s.heap.objs.size)
  have hf1:=I.hok.fresh (Yp s.heap.objs.size)
  have fz:=I.fpOk (Qg s.heap.objs.size) hf0
  have fz1:=I.fpOk (Yp s.heap.objs.size) hf1
  have I2:Inv X pins σ H { s with heap:=h2',toks:=s.toks+1 }:=by
   refine I.turnedL (t':=s.toks+1) [e,z,TO,i1,i2] (fun c o hc' q=>?_) (fun c hc'=>hf c ?_)
   ·simp only [Qj,Qn,or_false,not_or] at hc'
    exact sb2.extBut _ _ hc'.1 (kp c o hc'.1 hc'.2.1 hc'.2.2.1 hc'.2.2.2.1 hc'.2.2.2.2 q)
   ·simp only [Qj,Qn,or_false] at hc' ⊢
    rcases hc' with r | r | r | r | r
    ·exact .inl r
    ·exact .inr (.inl r)
    ·exact .inr (.inr (.inr (.inl r)))
    ·exact .inr (.inr (.inr (.inr (.inl r))))
    ·exact .inr (.inr (.inr (.inr (.inr r))))
  have I3:Inv X pins σ (upd H s.heap.objs.size (.tup [x,y])) { s with heap:=h2',toks:=s.toks+1 }:=by
   refine I2.trackO (show bX X.prog X.w _ _ _ (.tup [x,y]) from ⟨by show 2<=sizeLine; rw [sizeLine_eq]; decide,[u',v'],0,.cons ru (.cons rv2 .nil),hp1'⟩) hf0 fz.2.1 I.sz fz.2.2.2.2.1 fz.2.2.2.2.2
  have nn:s.heap.objs.size+1≠s.heap.objs.size:=Nat.succ_ne_self _
  have I4:Inv X pins σ (upd (upd H s.heap.objs.size (.tup [x,y])) (s.heap.objs.size+1) (.tup [.int (i:Nat),.ref s.heap.objs.size])) { s with heap:=h2',toks:=s.toks+1 }:=by
   refine I3.trackO (show bX X.prog X.w _ _ _ (.tup [.int (i:Nat),.ref s.heap.objs.size]) from ⟨by show 2<=sizeLine; rw [sizeLine_eq]; decide,[.int i tk,.ref s.heap.objs.size],0,.cons ⟨tk,rfl⟩ (.cons rfl .nil),hp2'⟩) (by rw [aH nn]; exact hf1) fz1.2.1 (Qw I.sz (Yp _)) fz1.2.2.2.2.1 fz1.2.2.2.2.2
  obtain ⟨⟨g0,g1,hg,hz'⟩,hTI',⟨a',b',hTO'⟩⟩:=Z'
  refine ⟨.ref (s.heap.objs.size+1),_,I4,rfl,⟨s.heap.objs.size,s.heap.objs.size+1,hf0,hf1,nn,rfl,fun xs' ys' ha' hb'=>?_⟩,⟨⟨_,by simpa using he2⟩,⟨⟨g0,g1,hg,sb2.extBut _ _ ne.1.symm hz'⟩,sb2.extBut _ _ ne.2.1.symm hTI',⟨_,_,sb2.extBut _ _ ne.2.2.1.symm hTO'⟩⟩,s1.1.at fun o q=>sb2.extBut _ _ ne.2.2.2.1.symm q,s2.1.at fun o q=>sb2.extBut _ _ ne.2.2.2.2.symm q⟩,fun c hc'=>?_⟩
  ·rw [I.seqK_inj ha' ha,I.seqK_inj hb' hb]
   exact ⟨x,y,hx,hy,rfl⟩
  ·have cl:c < s.heap.objs.size:=by
    obtain ⟨o,q⟩:∃ o,s.heap.get? c=some o:=by
     obtain ⟨⟨f0,f1,hf',hz⟩,hTI,⟨x',y',hTO⟩⟩:=Z
     simp only [Qj,Qn,or_false] at hc'
     rcases hc' with rfl | rfl | rfl | rfl | rfl | rfl
     ·exact ⟨_,he⟩
     ·exact ⟨_,hz⟩
     ·exact ⟨_,hTI⟩
     ·exact ⟨_,hTO⟩
     ·obtain ⟨o,q,_⟩:=h1.obj; exact ⟨o,q⟩
     ·obtain ⟨o,q,_⟩:=h2.obj; exact ⟨o,q⟩
    exact Qm q
   rw [aH (Jb (Jy cl)),aH (Jb cl)]
   exact (hf c hc').1
 done:=by
  intro X hP hw hK hc i pins s σ H E I hf st hg
  subst hP hw hK
  obtain ⟨⟨old,he⟩,Z,h1,h2⟩:=st
  obtain ⟨xs,ys,ha,hb,hmin⟩:=hg
  obtain ⟨its,rv,pa⟩:=I.seqK ha
  obtain ⟨jts,rw',pb⟩:=I.seqK hb
  have la:=rv.length
  have lb:=rw'.length
  have na:∀ c∈[e,z,TI,TO,i1,i2],a≠c:=fun c hc'=>I.seq_ne ha (hf c hc')
  have nb:∀ c∈[e,z,TI,TO,i1,i2],b≠c:=fun c hc'=>I.seq_ne hb (hf c hc')
  have DD:=D a b na nb
  have hT:s.TypeIs (.ref e) "enumerate" := ⟨_,he,rfl⟩
  unfold pyNext
  refine wpAny_bind (wpAny_attempt (wpAny_callSpecial?_slot (name:=Str.ofString "__next__") hT PySem.F.slot_enumerate_next (wpAny_call_entry PySem.F.slot_enumerate_next hT PySem.F.entry_enumerate_next
   (yP (I.ok.hd hc) DD (nG k1 X.prog X.w i1 a its.toArray (na i1 (by simp))) (nG k2 X.prog X.w i2 b jts.toArray (nb i2 (by simp))) he Z ⟨h1,pa⟩ ⟨h2,pb⟩ (by rw [Ql,Ql]; omega) fun h' x kp hx=>?_) (PySem.F.args_enumerate_next_1 _))))
  obtain ⟨oe,hoe,hce⟩:=hx
  refine wpAny_bind (wpAny_isInstance (T := "StopIteration") (b:=true) ⟨oe,hoe,hce⟩ isSubtype_stop (wpAny_pure ⟨rfl,?_⟩))
  refine I.turnedL (t':=s.toks) [z,TO,i1,i2] (fun c o hc' q=>?_) (fun c hc'=>hf c ?_)
  ·simp only [Qj,Qn,or_false,not_or] at hc'
   exact kp c o hc'.1 hc'.2.1 hc'.2.2.1 hc'.2.2.2 q
  ·simp only [Qj,Qn,or_false] at hc' ⊢
   rcases hc' with r | r | r | r
   ·exact .inr (.inl r)
   ·exact .inr (.inr (.inr (.inl r)))
   ·exact .inr (.inr (.inr (.inr (.inl r))))
   ·exact .inr (.inr (.inr (.inr (.inr r))))
 self:=fun _ _ _ _ _ st h=>by
  obtain ⟨⟨old,he⟩,_⟩:=st
  exact wpAny_pyIter_enum he h
theorem sI (z TI TO:Addr) :
  Meets (Builtin.«enumerate.__new__» ⟨[.type "enumerate",.ref z],[]⟩) (fun _ R s=>IsZip s.heap z TI TO .none /\
   R (.ok (.ret (.ref s.heap.objs.size))) { s with heap:=s.heap.push { cls:=.type "enumerate",data:=.fields #[.none,.bool false,.ref z,rawInt 0,.none,.none] } }) :=
 .of_wp fun prog w A R s h=>by
  obtain ⟨hp,g,d,tk,os⟩:=s
  obtain ⟨hl,h⟩:=h
  have hsub:=sub_enumerate
  have hZ:IsZip (Shared.heap ⟨hp,g,d,tk,os⟩) z TI TO .none:=hl
  wp_walk using AutoSeq1.wpAny_loadPart' hZ
  refine wpAny_stack_any fun st=>wpAny_pure ?_
  split
  ·rename_i c _ _ _ _ _
   cases (c==Value.type "enumerate")
   ·wp_walk using AutoSeq1.wpAny_loadPart' hZ,wpAny_pyIter_zip hZ
    exact ⟨_,rfl,h⟩
   ·wp_walk using AutoSeq1.wpAny_loadPart' hZ,wpAny_pyIter_zip hZ
    exact ⟨_,rfl,h⟩
  ·wp_walk using AutoSeq1.wpAny_loadPart' hZ,wpAny_pyIter_zip hZ
   exact ⟨_,rfl,h⟩
section
variable {X:Cx} {es:List Expr} {x1:Nat} {tpos:Pos}
def aCa (K:PySem.W.Frag) (k1 k2:Sk) (ta:TA):TI:=fun σ H R=>ta σ H fun vs H1=>∃ a b xs ys,vs = [.ref a,.ref b]/\SqK k1 K H1 a xs/\SqK k2 K H1 b ys/\R (aB9 K k1 k2 a b) H1
theorem qR (k1 k2:Sk) {a b:Expr} {ta:TA} {p pos p' pos':Pos} (hg:Gl X "enumerate") (hm:X.mg "enumerate" = none) (hg2:Gl X "zip") (hm2:X.mg "zip" = none) (ha:PA X [a,b] ta)
  (hs:starEach [a,b] X.env = [(false,eval a X.env),(false,eval b X.env)]:=by rfl) (hs2:starEach [b] X.env = [(false,eval b X.env)]:=by rfl)
  (hs3:starEach [Expr.Call (.Name "zip" p') [a,b] [] pos'] X.env = [(false,eval (.Call (.Name "zip" p') [a,b] [] pos') X.env)]:=by rfl) :
  PI X (.Tuple es x1 tpos) (.Call (.Name "enumerate" p) [.Call (.Name "zip" p') [a,b] [] pos'] [] pos) (aCa X.K k1 k2 ta):=by
 intro pins s σ H R I h
 refine Call_ (jB (u:=.type "enumerate") I hg hm (by decide +kernel) (PyProof.Rows.callWith_type1 ?_ hs3 rfl))
 rw [hs3]
 show wpAny _ _ (spliced ((false,eval (.Call (.Name "zip" p') [a,b] [] pos') X.env)::[])) _ _ s
 refine Calls.spliced_cons ?_
 refine Call_ (jB (u:=.type "zip") I hg2 hm2 (by decide +kernel) (PyProof.Rows.callWith_type1 (thn (ha pos' pins s σ H _ I h) fun us s1 hx9=>?_) (by rw [hs,hs2]) (by rw [hs2]; rfl)))
 obtain ⟨vs,H1,I1,r1,q1⟩:=hx9
 obtain ⟨l1,l2,xs,ys,rfl,hA,hB,q⟩:=q1
 obtain ⟨u1,u2,rfl,r1',r2'⟩:=lD r1
 cases r1'
 cases r2'
 obtain ⟨its,rv,pa⟩:=I1.seqK hA
 obtain ⟨jts,rw',pb⟩:=I1.seqK hB
 refine callType_new PySem.F.called_zip (by decide) (PySem.F.typeCall_zip_2 _ _) (PySem.F.newCall_zip_2 _ _) (fun obj=>PySem.F.args_object_init_3 obj _ _) PySem.F.entry_zip_new (wI k1 k2 l1 l2 its.toArray jts.toArray) ⟨pa,pb,?_⟩
 have n1:(zh1 k1 s1.heap l1).objs.size=s1.heap.objs.size+1:=Je ..
 have n2:(zh2 k1 k2 s1.heap l1 l2).objs.size=s1.heap.objs.size+2:=by rw [Je,n1]
 have n3:(zh3 k1 k2 s1.heap l1 l2).objs.size=s1.heap.objs.size+3:=by rw [Je,n2]
 have n4:(zh4 k1 k2 s1.heap l1 l2).objs.size=s1.heap.objs.size+4:=by rw [Je,n3]
 have n5:(zh5 k1 k2 s1.heap l1 l2).objs.size=s1.heap.objs.size+5:=by rw [Je,n4]
 have g5:IsZip (zh5 k1 k2 s1.heap l1 l2) (zh4 k1 k2 s1.heap l1 l2).objs.size (zh2 k1 k2 s1.heap l1 l2).objs.size (zh3 k1 k2 s1.heap l1 l2).objs.size .none:=Qk _ rfl
 have g4:IsPair (zh5 k1 k2 s1.heap l1 l2) (zh3 k1 k2 s1.heap l1 l2).objs.size .none .none:=Qa _ (Qk _ rfl)
 have g3:IsPair (zh5 k1 k2 s1.heap l1 l2) (zh2 k1 k2 s1.heap l1 l2).objs.size (.ref s1.heap.objs.size) (.ref (zh1 k1 s1.heap l1).objs.size):=Qa _ (Qa _ (Qk _ rfl))
 have g2:ItK k2 (zh5 k1 k2 s1.heap l1 l2) (zh1 k1 s1.heap l1).objs.size l2 0:=(ItK.new k2 (zh1 k1 s1.heap l1) l2).at fun o e=>Qa _ (Qa _ (Qa _ e))
 have g1:ItK k1 (zh5 k1 k2 s1.heap l1 l2) s1.heap.objs.size l1 0:=(ItK.new k1 s1.heap l1).at fun o e=>Qa _ (Qa _ (Qa _ (Qa _ e)))
 have kp:∀ c o,s1.heap.get? c=some o->(zh5 k1 k2 s1.heap l1 l2).get? c=some o:=fun c o e=>Qa _ (Qa _ (Qa _ (Qa _ (Qa _ e))))
 refine ⟨⟨_,g5,rfl⟩,Calls.spliced_nil ?_⟩
 rw [n1,n2,n3,n4] at *
 generalize zh5 k1 k2 s1.heap l1 l2=hz5 at *
 refine callType_new PySem.F.called_enumerate (by decide) (PySem.F.typeCall_enumerate_1 _) (PySem.F.newCall_enumerate_1 _) (fun obj=>PySem.F.args_object_init_2 obj _) PySem.F.entry_enumerate_new (sI (s1.heap.objs.size+4) (s1.heap.objs.size+2) (s1.heap.objs.size+3)) ⟨g5,?_⟩
 have ge:IsEnum (hz5.push { cls:=.type "enumerate",data:=.fields #[.none,.bool false,.ref (s1.heap.objs.size+4),rawInt 0,.none,.none] }) hz5.objs.size (s1.heap.objs.size+4) 0 .none:=Qk _ rfl
 have kp6:∀ c o,hz5.get? c=some o->(hz5.push { cls:=.type "enumerate",data:=.fields #[.none,.bool false,.ref (s1.heap.objs.size+4),rawInt 0,.none,.none] }).get? c=some o:=fun c o e=>Qa _ e
 rw [n5] at ge
 show (∃ _,_)/\_
 rw [n5]
 generalize hz5.push { cls:=.type "enumerate",data:=.fields #[.none,.bool false,.ref (s1.heap.objs.size+4),rawInt 0,.none,.none] }=h6 at ge kp6 ⊢
 refine ⟨⟨_,ge,rfl⟩,wpAny_pyIter_enum ge ?_⟩
 have I2:Inv X pins σ H1 { s1 with heap:=h6 }:=I1.kept (t':=s1.toks) fun c o e=>kp6 c o (kp c o e)
 have d:∀ i j:Nat,i≠j->s1.heap.objs.size+i≠s1.heap.objs.size+j:=fun i j h=>by omega
 refine ⟨s1.heap.objs.size+5,[s1.heap.objs.size+5,s1.heap.objs.size+4,s1.heap.objs.size+2,s1.heap.objs.size+3,s1.heap.objs.size,s1.heap.objs.size+1],_,_,H1,rfl,I2,uU k1 k2 l1 l2 _ _ _ _ _ _ ?_ ⟨d 5 4 (by decide),d 5 2 (by decide),d 5 3 (by decide),d 5 0 (by decide),d 5 1 (by decide)⟩,⟨⟨_,ge⟩,⟨⟨_,_,.inl rfl,kp6 _ _ g5⟩,kp6 _ _ g3,⟨_,_,kp6 _ _ g4⟩⟩,g1.at fun o e=>kp6 _ _ e,g2.at fun o e=>kp6 _ _ e⟩,fun c hc=>?_,q⟩
 ·intro m1 m2 h1 h2
  exact ⟨d 2 4 (by decide),d 3 4 (by decide),d 0 4 (by decide),d 1 4 (by decide),d 2 3 (by decide),d 2 0 (by decide),d 2 1 (by decide),d 3 0 (by decide),d 3 1 (by decide),d 0 1 (by decide),
   h1 _ (by simp),h1 _ (by simp),h1 _ (by simp),h1 _ (by simp),h2 _ (by simp),h2 _ (by simp),h2 _ (by simp),h2 _ (by simp)⟩
 ·have hc':s1.heap.objs.size<=c:=by
   simp only [Qj,Qn,or_false] at hc
   rcases hc with r | r | r | r | r | r <;> rw [r]
   all_goals first | exact Qg _ | exact Jp _ _
  exact I1.fpOk hc' (I1.hok.fresh hc')
end
theorem oY {K:PySem.W.Frag} {k1 k2:Sk} {a b:Addr} {xs ys:List V} {g:TG} {tb:TS} {D:Ends} {σ:St} {H:Hp} (Pv:Nat->St->Hp->Prop) (heq:xs.length=ys.length) (h0:Pv 0 σ H) (hl:∀ i σ H,i<=xs.length->Pv i σ H->SqK k1 K H a xs/\SqK k2 K H b ys)
  (hs:∀ i x y p q σ H,xs[i]?=some x->ys[i]?=some y->Pv i σ H->H p=none->H q=none->q≠p->g (.ref q) σ (upd (upd H p (.tup [x,y])) q (.tup [.int (i:Nat),.ref p])) fun σ2 H2=>tb { D with nx:=Pv (i+1),ct:=Pv (i+1),bk:=D.nx } σ2 H2) (hd:∀ σ H,Pv xs.length σ H->D.nx σ H) :
  ∃ W:Nat->Nat->St->Hp->Prop,(∃ m,W 0 m σ H)/\∀ i m σ H,W i m σ H ->
   ((aB9 K k1 k2 a b).stop i H/\D.nx σ H)∨((aB9 K k1 k2 a b).go i H/\∃ N:St->Hp->Prop,(∀ σ' H',N σ' H'->∃ m',m' < m/\W (i+1) m' σ' H')/\∀ x H',(aB9 K k1 k2 a b).yld i H x H'->g x σ H' fun σ2 H2=>tb { D with nx:=N,ct:=N,bk:=D.nx } σ2 H2):=by
 refine ⟨fun i m σ H=>m=xs.length - i/\i<=xs.length/\Pv i σ H,⟨xs.length,by simp,Jh _,h0⟩,?_⟩
 rintro i m σ H ⟨rfl,hi,p⟩
 obtain ⟨q1,q2⟩:=hl i σ H hi p
 by_cases hlt:i < xs.length
 ·refine .inr ⟨⟨xs,ys,xs[i],ys[i]'(by omega),q1,q2,Qc hlt,Qc (by omega)⟩,Pv (i+1),fun σ' H' p'=>⟨xs.length - (i+1),by omega,rfl,hlt,p'⟩,fun x H' y=>?_⟩
  obtain ⟨p1,q1',hp1,hq1,hne,rfl,hy⟩:=y
  obtain ⟨x,y,h1,h2,rfl⟩:=hy xs ys q1 q2
  exact hs i x y p1 q1' σ H h1 h2 p hp1 hq1 hne
 ·have e:i=xs.length:=by omega
  subst e
  exact .inl ⟨⟨xs,ys,q1,q2,by rw [<- heq,Nat.min_self]⟩,hd σ H p⟩
end L2
namespace L2
open PySem
section
variable {X:Cx} {K:PySem.W.Frag} {pos:Pos}
theorem kIn (hK:X.K=K):OpR X (compareOp .In) (rIn K false):=by subst hK; exact sR
end
section
variable {α β γ δ ε ζ η θ ι κ:Type}
end
end L2
namespace L2
open PySem PySem.Spec PyProof.Rows
section
variable {X:Cx}
end
section
variable {K:PySem.W.Frag} {own:Nat} {fr:List Nat} {g:TG} {te:TE} {σ:St} {H:Hp} {Qf:Hp->List V->Prop}
end
structure Tb (L:Bool) (t:SetTable) (n m:Nat):Prop where
 mask:(t.mask=7/\n<=m)∨(t.mask=31/\n<=12)
 dums:t.dummies = #[]
 plain:t.plain=true
 led:t.led=L
 size:t.place.size=n
 rise:t.place.toList.Pairwise (· < ·)
def ent (p:Int×Tok):Int×Value:=(hashInt p.1,.int p.1 p.2)
def SG (L:Bool) (h:Heap) (a:Addr) (ks:List (Int×Tok)):Prop:=∃ o ep es t,h.get? a=some o/\o.ExactSet/\o.data=.set es ep t/\es.toList.Perm (ks.map ent)/\Tb L t es.size 4
theorem SG.keep {L:Bool} {h h':Heap} {a:Addr} {l:List (Int×Tok)} (x:SG L h a l) (k:∀ o,h.get? a=some o->h'.get? a=some o):SG L h' a l:=by
 obtain ⟨o,ep,es,t,e,r⟩:=x
 exact ⟨o,ep,es,t,k o e,r⟩
section
variable {prog:Program} {w:World} {A:Around} {E:Value->Shared->Prop} {s:Shared} {L:Bool} {a:Addr}
structure KsOf (ks:List (Int×Tok)) (ns:List Int):Prop where
 nd:(ks.map (·.1)).Nodup
 mem:∀ k,k∈ks.map (·.1)↔k∈ns
 len:ks.length<=ns.length
end
section
variable {prog:Program} {w:World} {A:Around} {E:Value->Shared->Prop} {s:Shared} {S:Addr} {o:Obj} {ep:Nat} {es:Array (Int×Value)} {t:SetTable}
end
section
variable {X:Cx}
end
open PySem.AutoSeq1 (wpAny_loadPart')
theorem sJ (l:Addr) (items:Array Value) (n:Nat) (dd:Option Addr) (sl:Array (Option Value)) (u:Tok) :
  Meets (Builtin.«tuple.__mul__» ⟨[.ref l,.int 1 u],[]⟩) (fun _ R s=>s.heap.get? l=some { cls:=.type "tuple",dict:=dd,data:=.seq items n,slots:=sl }/\R (.ok (.ret (Value.ref l))) s) :=
 .of_wp fun prog w A R s h=>by
  obtain ⟨hp,g,d,tk,os⟩:=s
  obtain ⟨hl,h⟩:=h
  have f1:=AutoSeq1.idx_int
  have f2:=AutoSeq1.sub_tuple_tuple
  wp_walk using wpAny_loadPart' hl
  exact ⟨_,rfl,h⟩
theorem qS (l:Addr) (items:Array Value) (n:Nat) (dd:Option Addr) (sl:Array (Option Value)) (u:Tok) (hne:items.isEmpty=false) :
  Meets (Builtin.«tuple.__mul__» ⟨[.ref l,.int 0 u],[]⟩) (fun _ R s=>s.heap.get? l=some { cls:=.type "tuple",dict:=dd,data:=.seq items n,slots:=sl }/\R (.ok (.ret (Value.ref s.heap.objs.size))) { s with heap:=s.heap.push { cls:=Value.type "tuple",data:=Data.seq #[] } }) :=
 .of_wp fun prog w A R s h=>by
  obtain ⟨hp,g,d,tk,os⟩:=s
  obtain ⟨hl,h⟩:=h
  have f1:=AutoSeq1.idx_int
  have f2:=AutoSeq1.sub_tuple_tuple
  wp_walk using wpAny_loadPart' hl
  exact ⟨_,rfl,h⟩
theorem pH (l:Addr) (items:Array Value) (n:Nat) (dd:Option Addr) (sl:Array (Option Value)) (u:Tok) (hne:items.isEmpty=true) :
  Meets (Builtin.«tuple.__mul__» ⟨[.ref l,.int 0 u],[]⟩) (fun _ R s=>s.heap.get? l=some { cls:=.type "tuple",dict:=dd,data:=.seq items n,slots:=sl }/\R (.ok (.ret (Value.ref l))) s) :=
 .of_wp fun prog w A R s h=>by
  obtain ⟨hp,g,d,tk,os⟩:=s
  obtain ⟨hl,h⟩:=h
  have f1:=AutoSeq1.idx_int
  have f2:=AutoSeq1.sub_tuple_tuple
  wp_walk using wpAny_loadPart' hl
  exact ⟨_,rfl,h⟩
def aCb (K:PySem.W.Frag):R2:=fun x y H Q=>∃ a,∃ k:Nat,∃ xs,x=.ref a/\y=.int k/\SqT K H a xs/\k<=1000/\xs.length<=1000/\∀ p H',aD H H'->SqT K H' p (List.replicate k xs).flatten->Q (.ref p) H'
theorem pM {X:Cx} {K:PySem.W.Frag} (hK:X.K=K):OpR X (binaryOp .Mult) (aCb K):=by
 intro pins s σ H x y v u Q I rx ry h
 obtain ⟨a,k,xs,rfl,rfl,ha,h2,hz,q⟩:=h
 by_cases h1:1 < k
 ·exact aCY hK pins s σ H _ _ v u Q I rx ry ⟨a,k,xs,rfl,rfl,ha,by omega,by omega,hz,q⟩
 subst hK
 cases rx
 obtain ⟨t,rfl⟩:=ry
 obtain ⟨its,r,⟨⟨cls,dd,data,sl⟩,ho,hc,n,hd⟩,hzz⟩:=I.tuple ha
 simp only at hc hd
 subst hc hd
 refine wpAny_binaryOp_repeat_ref (T := "tuple") (U := "int") (by decide) ⟨_,ho,rfl⟩ (fun s'=>typeIs_int s' k t) jZ PySem.F.fills_int_mul PySem.F.slot_int_rmul nK PySem.F.slot_int_index.lookup
  (call_meets PySem.F.slot_int_rmul (typeIs_int s k t) PySem.F.entry_int_rmul (PySem.F.args_int_rmul_2 _ _) (lI k t a its.toArray n dd sl) ⟨ho,rfl,⟨_,ho,rfl⟩,?_⟩)
 rcases (show k=0∨k=1 by omega) with rfl | rfl
 ·by_cases hx:its = []
  ·subst hx
   cases r
   refine call_meets PySem.F.slot_tuple_mul ⟨_,ho,rfl⟩ PySem.F.entry_tuple_mul (PySem.F.args_tuple_mul_2 _ _) (pH a _ n dd sl t rfl) ⟨ho,?_⟩
   exact ⟨.ref a,H,I,rfl,q a H (aD.refl H) ha⟩
  ·have hne:its.toArray.isEmpty=false:=by
    cases its with
    | nil=>exact absurd rfl hx
    | cons _ _=>rfl
   refine call_meets PySem.F.slot_tuple_mul ⟨_,ho,rfl⟩ PySem.F.entry_tuple_mul (PySem.F.args_tuple_mul_2 _ _) (qS a its.toArray n dd sl t hne) ⟨ho,?_⟩
   refine ⟨.ref _,_,I.laid (t':=s.toks) (o:=.tup []) (fun b ob q=>Qa _ q) (Qg _) ?_,rfl,q _ _ (aD.new (I.hok.fresh (Qg _))) (SqT.of aC)⟩
   exact ⟨Jh _,[],0,.nil,Qk _ rfl⟩
 ·refine call_meets PySem.F.slot_tuple_mul ⟨_,ho,rfl⟩ PySem.F.entry_tuple_mul (PySem.F.args_tuple_mul_2 _ _) (sJ a its.toArray n dd sl t) ⟨ho,?_⟩
  exact ⟨.ref a,H,I,rfl,q a H (aD.refl H) (by simpa using ha)⟩
abbrev hV (h:Heap) (T:Addr) (a b c:Value):Prop:=h.get? T=some { cls:=.type "tuple",data:=.seq #[a,b,c] }
structure Zip3Apart (z TI TO i1 i2 i3 l1 l2 l3:Addr):Prop where
 TIz:TI≠z
 TOz:TO≠z
 i1z:i1≠z
 i2z:i2≠z
 i3z:i3≠z
 TITO:TI≠TO
 TIi1:TI≠i1
 TIi2:TI≠i2
 TIi3:TI≠i3
 TOi1:TO≠i1
 TOi2:TO≠i2
 TOi3:TO≠i3
 i12:i1≠i2
 i13:i1≠i3
 i23:i2≠i3
 l1:∀ c∈[z,TO,i1,i2,i3],l1≠c
 l2:∀ c∈[z,TO,i1,i2,i3],l2≠c
 l3:∀ c∈[z,TO,i1,i2,i3],l3≠c
section
variable {prog:Program} {w:World} {A:Around} {E:Value->Shared->Prop} {s:Shared} {z TI TO i1 i2 i3 l1 l2 l3:Addr} {n n2 n3:Nat} {P1 P2 P3:Nat->Value->Prop} {st1 st2 st3:Nat->Heap->Prop}
theorem uV {T:Addr} {a b c x:Value} {k:Nat} {Q:Unit->Shared->Prop} (h:hV s.heap T a b c)
  (hQ:∀ h':Heap,h'.get? T=some { cls:=.type "tuple",data:=.seq (#[a,b,c].setIfInBounds k x) }->Heap.SameBut T s.heap h'->Q () { s with heap:=h' }) :
  wpAny (model prog w) A (updateSeq T fun xs=>xs.setIfInBounds k x) Q E s:=by
 refine wpAny_updateSeq (n:=0) h rfl ?_ (by rw [sizeLine_eq]; show 3<=_; decide) (by rw [Array.size_setIfInBounds,sizeLine_eq]; show 3<=_; decide)
 have g:=Xj (Obj.mapSeq fun xs=>xs.setIfInBounds k x) h rfl
 refine hQ _ (g.trans ?_) (Heap.SameBut.update _ _ _)
 simp [Obj.mapSeq]
theorem aCc {k:Nat} {a b c:Value} {Q:Value->Shared->Prop} (D:Zip3Apart z TI TO i1 i2 i3 l1 l2 l3) (S1:Sub prog w i1 l1 n P1 st1) (S2:Sub prog w i2 l2 n2 P2 st2) (S3:Sub prog w i3 l3 n3 P3 st3)
  (hz:IsZip s.heap z TI TO .none) (hTI:hV s.heap TI (.ref i1) (.ref i2) (.ref i3)) (hTO:hV s.heap TO a b c) (h1:st1 k s.heap) (h2:st2 k s.heap) (h3:st3 k s.heap) (kn:k < n) (kn2:k < n2) (kn3:k < n3)
  (hQ:∀ h' x y v,P1 k x->P2 k y->P3 k v->IsZip h' z TI TO (rawInt s.heap.objs.size)->hV h' TO x y v->st1 (k+1) h'->st2 (k+1) h'->st3 (k+1) h'->hV h' s.heap.objs.size x y v ->
   (∀ c o,c≠z->c≠TO->c≠i1->c≠i2->c≠i3->s.heap.get? c=some o->h'.get? c=some o)->Q (.ref s.heap.objs.size) { s with heap:=h' }) :
  wpAny (model prog w) A (Builtin.«zip.__next__» ⟨[.ref z],[]⟩) (fun fin s'=>∃ v,fin=.done (.ret v)/\Q v s') E s:=by
 have L1:∀ {c},c∈[z,TO,i1,i2,i3]->l1≠c:=fun h=>D.l1 _ h
 have L2':∀ {c},c∈[z,TO,i1,i2,i3]->l2≠c:=fun h=>D.l2 _ h
 have L3:∀ {c},c∈[z,TO,i1,i2,i3]->l3≠c:=fun h=>D.l3 _ h
 refine wpAny_bind (m:=field (.ref z) 2) (wpAny_field hz rfl (x:=.bool false) rfl ?_)
 refine wpAny_bind (m:=field (.ref z) 3) (wpAny_field hz rfl (x:=.ref TI) rfl ?_)
 refine wpAny_bind (wpAny_seqItems hTI rfl ?_)
 refine wpAny_bind (m:=Builtin.SmallTypes.ownedTupleIsFree (.ref z)) ?_
 unfold Builtin.SmallTypes.ownedTupleIsFree
 refine wpAny_bind (wpAny_field hz rfl (x:=.none) rfl (wpAny_pure ?_))
 simp only [if_true]
 refine wpAny_bind (wpAny_rule ?_)
 refine wpAny_bind (wpAny_field hz rfl (x:=.ref TO) rfl ?_)
 refine wpAny_bind (wpAny_setField_rec hz (by simp) fun g1 hz1 b1=>?_)
 have hz1':IsZip g1 z TI TO .ellipsis:=hz1
 refine wpAny_bind ?_
 simp only [Xn,Xu,Xe,Xk]
 -- the first one
 have s1:st1 k g1:=S1.keep _ _ _ h1 fun c hc o e=>b1.extBut c o (by rcases hc with r | r <;> rw [r]; exact D.i1z; exact L1 (by simp)) e
 refine wpAny_bind (wpAny_bind (wpAny_onRaise ?_))
 refine wpAny_bind (m:=Builtin.SmallTypes.nextOf (.ref i1)) (S1.item _ k _ _ _ kn s1 fun x g2 px t1 b2=>wpAny_pure ?_)
 have o2:hV g2 TO a b c:=b2.extBut _ _ D.TOi1 (b1.extBut _ _ D.TOz hTO)
 refine wpAny_bind (wpAny_seqItems o2 rfl ?_)
 refine wpAny_bind (uV o2 fun g3 o3 b3=>?_)
 have o3':hV g3 TO x b c:=o3
 refine wpAny_bind (wpAny_letGo (wpAny_pure ?_))
 -- the second one
 have s2:st2 k g3:=S2.keep _ _ _ h2 fun c hc o e=>by
  rcases hc with r | r
  ·rw [r] at e ⊢; exact b3.extBut _ _ D.TOi2.symm (b2.extBut _ _ D.i12.symm (b1.extBut _ _ D.i2z e))
  ·rw [r] at e ⊢; exact b3.extBut _ _ (L2' (by simp)) (b2.extBut _ _ (L2' (by simp)) (b1.extBut _ _ (L2' (by simp)) e))
 refine wpAny_bind (wpAny_bind (wpAny_onRaise ?_))
 refine wpAny_bind (m:=Builtin.SmallTypes.nextOf (.ref i2)) (S2.item _ k _ _ _ kn2 s2 fun y g4 py t2 b4=>wpAny_pure ?_)
 have o4:hV g4 TO x b c:=b4.extBut _ _ D.TOi2 o3'
 refine wpAny_bind (wpAny_seqItems o4 rfl ?_)
 refine wpAny_bind (uV o4 fun g5 o5 b5=>?_)
 have o5':hV g5 TO x y c:=o5
 refine wpAny_bind (wpAny_letGo (wpAny_pure ?_))
 -- the third one
 have s3:st3 k g5:=S3.keep _ _ _ h3 fun c hc o e=>by
  rcases hc with r | r
  ·rw [r] at e ⊢; exact b5.extBut _ _ D.TOi3.symm (b4.extBut _ _ D.i23.symm (b3.extBut _ _ D.TOi3.symm (b2.extBut _ _ D.i13.symm (b1.extBut _ _ D.i3z e))))
  ·rw [r] at e ⊢; exact b5.extBut _ _ (L3 (by simp)) (b4.extBut _ _ (L3 (by simp)) (b3.extBut _ _ (L3 (by simp)) (b2.extBut _ _ (L3 (by simp)) (b1.extBut _ _ (L3 (by simp)) e))))
 refine wpAny_bind (wpAny_bind (wpAny_onRaise ?_))
 refine wpAny_bind (m:=Builtin.SmallTypes.nextOf (.ref i3)) (S3.item _ k _ _ _ kn3 s3 fun v g6 pv t3 b6=>wpAny_pure ?_)
 have o6:hV g6 TO x y c:=b6.extBut _ _ D.TOi3 o5'
 refine wpAny_bind (wpAny_seqItems o6 rfl ?_)
 refine wpAny_bind (uV o6 fun g7 o7 b7=>?_)
 have o7':hV g7 TO x y v:=o7
 refine wpAny_bind (wpAny_letGo (wpAny_pure (wpAny_pure ?_)))
 refine wpAny_bind (wpAny_seqItems o7' rfl ?_)
 refine wpAny_bind (wpAny_newTuple ?_)
 have sz:g7.objs.size=s.heap.objs.size:=by rw [b7.1,b6.1,b5.1,b4.1,b3.1,b2.1,b1.1]
 have z7:IsZip g7 z TI TO .ellipsis:=b7.extBut _ _ D.TOz.symm (b6.extBut _ _ D.i3z.symm (b5.extBut _ _ D.TOz.symm (b4.extBut _ _ D.i2z.symm (b3.extBut _ _ D.TOz.symm (b2.extBut _ _ D.i1z.symm hz1')))))
 have kp7:∀ c o,c≠z->c≠TO->c≠i1->c≠i2->c≠i3->s.heap.get? c=some o->g7.get? c=some o:=fun c o c1 c2 c3 c4 c5 e =>
  b7.extBut _ _ c2 (b6.extBut _ _ c5 (b5.extBut _ _ c2 (b4.extBut _ _ c4 (b3.extBut _ _ c2 (b2.extBut _ _ c3 (b1.extBut _ _ c1 e))))))
 have t1':st1 (k+1) g7:=S1.keep _ _ _ t1 fun c hc o e=>by
  rcases hc with r | r
  ·rw [r] at e ⊢; exact b7.extBut _ _ D.TOi1.symm (b6.extBut _ _ D.i13 (b5.extBut _ _ D.TOi1.symm (b4.extBut _ _ D.i12 (b3.extBut _ _ D.TOi1.symm e))))
  ·rw [r] at e ⊢; exact b7.extBut _ _ (L1 (by simp)) (b6.extBut _ _ (L1 (by simp)) (b5.extBut _ _ (L1 (by simp)) (b4.extBut _ _ (L1 (by simp)) (b3.extBut _ _ (L1 (by simp)) e))))
 have t2':st2 (k+1) g7:=S2.keep _ _ _ t2 fun c hc o e=>by
  rcases hc with r | r
  ·rw [r] at e ⊢; exact b7.extBut _ _ D.TOi2.symm (b6.extBut _ _ D.i23 (b5.extBut _ _ D.TOi2.symm e))
  ·rw [r] at e ⊢; exact b7.extBut _ _ (L2' (by simp)) (b6.extBut _ _ (L2' (by simp)) (b5.extBut _ _ (L2' (by simp)) e))
 have t3':st3 (k+1) g7:=S3.keep _ _ _ t3 fun c hc o e=>by
  rcases hc with r | r
  ·rw [r] at e ⊢; exact b7.extBut _ _ D.TOi3.symm e
  ·rw [r] at e ⊢; exact b7.extBut _ _ (L3 (by simp)) e
 have zlt:g7.objs.size≠z:=Xd (Qm z7)
 refine wpAny_bind (m:=Builtin.SmallTypes.ownedTupleHandOut (.ref z) (.ref g7.objs.size)) ?_
 unfold Builtin.SmallTypes.ownedTupleHandOut
 have z8:IsZip (g7.push { cls:=.type "tuple",data:=.seq #[x,y,v] }) z TI TO .ellipsis:=Qa _ z7
 refine wpAny_bind (wpAny_setField_rec z8 (by simp) fun g9 z9 b9=>?_)
 have z9':IsZip g9 z TI TO (rawInt g7.objs.size):=z9
 refine wpAny_setField_rec z9' (by simp) fun g10 z10 b10=>?_
 have z10':IsZip g10 z TI TO (rawInt g7.objs.size):=z10
 have up:∀ c o,c≠z->g7.get? c=some o->g10.get? c=some o:=fun c o c1 e=>b10.extBut _ _ c1 (b9.extBut _ _ c1 (Qa _ e))
 have T10:hV g10 g7.objs.size x y v:=b10.extBut _ _ zlt (b9.extBut _ _ zlt (Qk _ rfl))
 rw [sz] at z10' T10
 refine wpAny_pure ⟨_,rfl,?_⟩
 show Q (.ref g7.objs.size) _
 rw [sz]
 refine hQ g10 x y v px py pv z10' (up _ _ D.TOz o7') (S1.keep _ _ _ t1' fun c hc o e=>up c o (by rcases hc with r | r <;> rw [r]; exact D.i1z; exact L1 (by simp)) e) (S2.keep _ _ _ t2' fun c hc o e=>up c o (by rcases hc with r | r <;> rw [r]; exact D.i2z; exact L2' (by simp)) e) (S3.keep _ _ _ t3' fun c hc o e=>up c o (by rcases hc with r | r <;> rw [r]; exact D.i3z; exact L3 (by simp)) e) T10 fun c o c1 c2 c3 c4 c5 e=>up c o c1 (kp7 c o c1 c2 c3 c4 c5 e)
theorem aDh {a b c:Value} {Q:Fin->Shared->Prop} (hh:A.handled=none) (D:Zip3Apart z TI TO i1 i2 i3 l1 l2 l3) (S1:Sub prog w i1 l1 n P1 st1)
  (hz:IsZip s.heap z TI TO .none) (hTI:hV s.heap TI (.ref i1) (.ref i2) (.ref i3)) (hTO:hV s.heap TO a b c) (h1:st1 n s.heap)
  (hE:∀ h' e,(∀ c o,c≠z->c≠TO->c≠i1->c≠i2->c≠i3->s.heap.get? c=some o->h'.get? c=some o)->(∃ o,h'.get? e=some o/\o.cls=.type "StopIteration")->E (.ref e) { s with heap:=h' }) :
  wpAny (model prog w) A (Builtin.«zip.__next__» ⟨[.ref z],[]⟩) Q E s:=by
 refine wpAny_bind (m:=field (.ref z) 2) (wpAny_field hz rfl (x:=.bool false) rfl ?_)
 refine wpAny_bind (m:=field (.ref z) 3) (wpAny_field hz rfl (x:=.ref TI) rfl ?_)
 refine wpAny_bind (wpAny_seqItems hTI rfl ?_)
 refine wpAny_bind (m:=Builtin.SmallTypes.ownedTupleIsFree (.ref z)) ?_
 unfold Builtin.SmallTypes.ownedTupleIsFree
 refine wpAny_bind (wpAny_field hz rfl (x:=.none) rfl (wpAny_pure ?_))
 simp only [if_true]
 refine wpAny_bind (wpAny_rule ?_)
 refine wpAny_bind (wpAny_field hz rfl (x:=.ref TO) rfl ?_)
 refine wpAny_bind (wpAny_setField_rec hz (by simp) fun g1 hz1 b1=>?_)
 have hz1':IsZip g1 z TI TO .ellipsis:=hz1
 refine wpAny_bind ?_
 simp only [Xn,Xu,Xe,Xk]
 have s1:st1 n g1:=S1.keep _ _ _ h1 fun c hc o e=>b1.extBut c o (by rcases hc with r | r <;> rw [r]; exact D.i1z; exact D.l1 _ (by simp)) e
 refine wpAny_bind (wpAny_bind (wpAny_onRaise ?_))
 refine wpAny_bind (m:=Builtin.SmallTypes.nextOf (.ref i1)) (S1.done _ _ _ _ hh s1 fun g2 e b2 he=>?_)
 obtain ⟨oe,hoe,hce⟩:=he
 have hzz:IsZip g2 z TI TO .ellipsis:=b2 _ _ D.i1z.symm hz1'
 have hez:e≠z:=fun q=>by rw [q,hzz] at hoe; cases hoe; simp at hce
 exact wpAny_setField_rec hzz (by simp) fun g' _ b'=>hE g' e (fun c o c1 c2 c3 c4 c5 q=>b'.extBut _ _ c1 (b2 _ _ c3 (b1.extBut _ _ c1 q))) ⟨oe,b'.extBut _ _ hez hoe,hce⟩
end
theorem qT (a b c:Value):checkTypeCall "zip" ⟨[a,b,c],[]⟩=pure ():=by kernel_rfl
theorem sK (a b c:Value):checkBuiltinCall "zip.__new__" ⟨[.type "zip",a,b,c],[]⟩=pure ():=by kernel_rfl
theorem mO (a b c d:Value):argsOk "object.__init__" ⟨[a,b,c,d],[]⟩:=by
 unfold argsOk
 kernel_rfl
def aCd (K:PySem.W.Frag) (k1 k2 k3:Sk) (a b d:Addr):It :=
 ⟨fun i H => ∃ xs ys vs x y v, SqK k1 K H a xs /\ SqK k2 K H b ys /\ SqK k3 K H d vs /\ xs[i]? = some x /\ ys[i]? = some y /\ vs[i]? = some v,
  fun i H r H'=>∃ p,H p=none/\r=.ref p/\∀ xs ys vs,SqK k1 K H a xs->SqK k2 K H b ys->SqK k3 K H d vs->∃ x y v,xs[i]?=some x/\ys[i]?=some y/\vs[i]?=some v/\H'=upd H p (.tup [x,y,v]),
  fun i H=>∃ xs ys vs,SqK k1 K H a xs/\SqK k2 K H b ys/\SqK k3 K H d vs/\xs.length=i/\ys.length=i/\vs.length=i⟩
theorem aA1 {P:Program} {w:World} {K:PySem.W.Frag} {es:List Expr} {x1} {pos:Pos} (k1 k2 k3:Sk) (a b d z TI TO i1 i2 i3:Addr) (D:∀ l1 l2 l3:Addr,(∀ c∈[z,TI,TO,i1,i2,i3],l1≠c)->(∀ c∈[z,TI,TO,i1,i2,i3],l2≠c)->(∀ c∈[z,TI,TO,i1,i2,i3],l3≠c)->Zip3Apart z TI TO i1 i2 i3 l1 l2 l3) :
  Turn P w K (.Tuple es x1 pos) (aCd K k1 k2 k3 a b d) [z,TI,TO,i1,i2,i3] z (fun i h=>IsZip h z TI TO .none/\hV h TI (.ref i1) (.ref i2) (.ref i3)/\(∃ x y v,hV h TO x y v)/\ItK k1 h i1 a i/\ItK k2 h i2 b i/\ItK k3 h i3 d i) where
 mem:=by simp
 obj:=fun i h st c hc=>by
  obtain ⟨hz,hTI,⟨x,y,v,hTO⟩,h1,h2,h3⟩:=st
  simp only [Qj,Qn,or_false] at hc
  rcases hc with rfl | rfl | rfl | rfl | rfl | rfl
  ·exact ⟨_,hz,fun v q=>by cases q⟩
  ·exact ⟨_,hTI,fun v q=>by cases q⟩
  ·exact ⟨_,hTO,fun v q=>by cases q⟩
  ·exact h1.obj
  ·exact h2.obj
  ·exact h3.obj
 keep:=fun i h h' st k=>by
  obtain ⟨hz,hTI,⟨x,y,v,hTO⟩,h1,h2,h3⟩:=st
  exact ⟨k z (by simp) _ hz,k TI (by simp) _ hTI,⟨x,y,v,k TO (by simp) _ hTO⟩,h1.at fun o e=>k i1 (by simp) o e,h2.at fun o e=>k i2 (by simp) o e,h3.at fun o e=>k i3 (by simp) o e⟩
 item:=by
  intro X hP hw hK hc i pins s σ H E I hf st hg
  subst hP hw hK
  obtain ⟨hz,hTI,⟨x0,y0,v0,hTO⟩,h1,h2,h3⟩:=st
  obtain ⟨xs,ys,vs,x,y,v,ha,hb,hd,hx,hy,hv⟩:=hg
  obtain ⟨its,rva,pa⟩:=I.seqK ha
  obtain ⟨jts,rvb,pb⟩:=I.seqK hb
  obtain ⟨kts,rvd,pd⟩:=I.seqK hd
  obtain ⟨u1,hu1,ru1⟩:=rva.get hx
  obtain ⟨u2,hu2,ru2⟩:=rvb.get hy
  obtain ⟨u3,hu3,ru3⟩:=rvd.get hv
  have na:∀ c∈[z,TI,TO,i1,i2,i3],a≠c:=fun c hc'=>I.seq_ne ha (hf c hc')
  have nb:∀ c∈[z,TI,TO,i1,i2,i3],b≠c:=fun c hc'=>I.seq_ne hb (hf c hc')
  have nd:∀ c∈[z,TI,TO,i1,i2,i3],d≠c:=fun c hc'=>I.seq_ne hd (hf c hc')
  have DD:=D a b d na nb nd
  have hT:s.TypeIs (.ref z) "zip" := ⟨_,hz,rfl⟩
  have hi1:i < its.toArray.size:=by rw [Ql]; exact (Qd.mp hu1).1
  have hi2:i < jts.toArray.size:=by rw [Ql]; exact (Qd.mp hu2).1
  have hi3:i < kts.toArray.size:=by rw [Ql]; exact (Qd.mp hu3).1
  unfold pyNext
  refine wpAny_bind (wpAny_attempt (wpAny_callSpecial?_slot (name:=Str.ofString "__next__") hT PySem.F.slot_zip_next (wpAny_call_entry PySem.F.slot_zip_next hT PySem.F.entry_zip_next
   (aCc DD (nG k1 X.prog X.w i1 a its.toArray (na i1 (by simp))) (nG k2 X.prog X.w i2 b jts.toArray (nb i2 (by simp))) (nG k3 X.prog X.w i3 d kts.toArray (nd i3 (by simp))) hz hTI hTO ⟨h1,pa⟩ ⟨h2,pb⟩ ⟨h3,pd⟩ hi1 hi2 hi3 fun h' w1 w2 w3 p1 p2 p3 hz' hTO' s1 s2 s3 hT' kp=>wpAny_pure ?_) (PySem.F.args_zip_next_1 _))))
  have e1:w1=u1:=by
   have q:its[i]?=some w1:=by simpa using p1
   rw [hu1] at q
   exact (Option.some.inj q).symm
  have e2:w2=u2:=by
   have q:jts[i]?=some w2:=by simpa using p2
   rw [hu2] at q
   exact (Option.some.inj q).symm
  have e3:w3=u3:=by
   have q:kts[i]?=some w3:=by simpa using p3
   rw [hu3] at q
   exact (Option.some.inj q).symm
  subst e1 e2 e3
  refine ⟨_,rfl,wpAny_letOwnedTupleGo_zip hz' fun h2 hz2 sb2=>?_⟩
  have Tz:s.heap.objs.size≠z:=Xd (Qm hz)
  have hT2:hV h2 s.heap.objs.size w1 w2 w3:=sb2.extBut _ _ Tz hT'
  have hf0:=I.hok.fresh (Qg s.heap.objs.size)
  have fz:=I.fpOk (Qg s.heap.objs.size) hf0
  have I2:Inv X pins σ H { s with heap:=h2 }:=by
   refine I.turnedL (t':=s.toks) [z,TO,i1,i2,i3] (fun c o hc' e=>?_) (fun c hc'=>hf c ?_)
   ·simp only [Qj,Qn,or_false,not_or] at hc'
    exact sb2.extBut _ _ hc'.1 (kp c o hc'.1 hc'.2.1 hc'.2.2.1 hc'.2.2.2.1 hc'.2.2.2.2 e)
   ·simp only [Qj,Qn,or_false] at hc' ⊢
    rcases hc' with r | r | r | r | r
    ·exact .inl r
    ·exact .inr (.inr (.inl r))
    ·exact .inr (.inr (.inr (.inl r)))
    ·exact .inr (.inr (.inr (.inr (.inl r))))
    ·exact .inr (.inr (.inr (.inr (.inr r))))
  have I3:Inv X pins σ (upd H s.heap.objs.size (.tup [x,y,v])) { s with heap:=h2 }:=by
   refine I2.trackO (show bX X.prog X.w _ _ _ (.tup [x,y,v]) from ⟨by show 3<=sizeLine; rw [sizeLine_eq]; decide,[w1,w2,w3],0,.cons ru1 (.cons ru2 (.cons ru3 .nil)),hT2⟩) hf0 fz.2.1 I.sz fz.2.2.2.2.1 fz.2.2.2.2.2
  refine ⟨.ref s.heap.objs.size,_,I3,rfl,⟨s.heap.objs.size,hf0,rfl,fun xs' ys' vs' ha' hb' hd'=>?_⟩,⟨hz2,sb2.extBut _ _ DD.TIz (kp _ _ DD.TIz DD.TITO DD.TIi1 DD.TIi2 DD.TIi3 hTI),⟨_,_,_,sb2.extBut _ _ DD.TOz hTO'⟩,s1.1.at fun o e=>sb2.extBut _ _ DD.i1z e,s2.1.at fun o e=>sb2.extBut _ _ DD.i2z e,s3.1.at fun o e=>sb2.extBut _ _ DD.i3z e⟩,fun c hc'=>?_⟩
  ·rw [I.seqK_inj ha' ha,I.seqK_inj hb' hb,I.seqK_inj hd' hd]
   exact ⟨x,y,v,hx,hy,hv,rfl⟩
  ·have cl:c≠s.heap.objs.size:=by
    obtain ⟨o,e⟩:∃ o,s.heap.get? c=some o:=by
     simp only [Qj,Qn,or_false] at hc'
     rcases hc' with rfl | rfl | rfl | rfl | rfl | rfl
     ·exact ⟨_,hz⟩
     ·exact ⟨_,hTI⟩
     ·exact ⟨_,hTO⟩
     ·obtain ⟨o,e,_⟩:=h1.obj; exact ⟨o,e⟩
     ·obtain ⟨o,e,_⟩:=h2.obj; exact ⟨o,e⟩
     ·obtain ⟨o,e,_⟩:=h3.obj; exact ⟨o,e⟩
    exact Jb (Qm e)
   rw [aH cl]
   exact (hf c hc').1
 done:=by
  intro X hP hw hK hc i pins s σ H E I hf st hg
  subst hP hw hK
  obtain ⟨hz,hTI,⟨x0,y0,v0,hTO⟩,h1,h2,h3⟩:=st
  obtain ⟨xs,ys,vs,ha,hb,hd,l1,l2,l3⟩:=hg
  obtain ⟨its,rva,pa⟩:=I.seqK ha
  have la:=rva.length
  have na:∀ c∈[z,TI,TO,i1,i2,i3],a≠c:=fun c hc'=>I.seq_ne ha (hf c hc')
  have nb:∀ c∈[z,TI,TO,i1,i2,i3],b≠c:=fun c hc'=>I.seq_ne hb (hf c hc')
  have nd:∀ c∈[z,TI,TO,i1,i2,i3],d≠c:=fun c hc'=>I.seq_ne hd (hf c hc')
  have DD:=D a b d na nb nd
  have hT:s.TypeIs (.ref z) "zip" := ⟨_,hz,rfl⟩
  have ei:i=its.toArray.size:=by rw [Ql]; omega
  unfold pyNext
  refine wpAny_bind (wpAny_attempt (wpAny_callSpecial?_slot (name:=Str.ofString "__next__") hT PySem.F.slot_zip_next (wpAny_call_entry PySem.F.slot_zip_next hT PySem.F.entry_zip_next
   (aDh (I.ok.hd hc) DD (nG k1 X.prog X.w i1 a its.toArray (na i1 (by simp))) hz hTI hTO (by rw [<- ei]; exact ⟨h1,pa⟩) fun h' e kp he=>?_) (PySem.F.args_zip_next_1 _))))
  obtain ⟨oe,hoe,hce⟩:=he
  refine wpAny_bind (wpAny_isInstance (T := "StopIteration") (b:=true) ⟨oe,hoe,hce⟩ isSubtype_stop (wpAny_pure ⟨rfl,?_⟩))
  refine I.turnedL (t':=s.toks) [z,TO,i1,i2,i3] (fun c o hc' e=>?_) (fun c hc'=>hf c ?_)
  ·simp only [Qj,Qn,or_false,not_or] at hc'
   exact kp c o hc'.1 hc'.2.1 hc'.2.2.1 hc'.2.2.2.1 hc'.2.2.2.2 e
  ·simp only [Qj,Qn,or_false] at hc' ⊢
   rcases hc' with r | r | r | r | r
   ·exact .inl r
   ·exact .inr (.inr (.inl r))
   ·exact .inr (.inr (.inr (.inl r)))
   ·exact .inr (.inr (.inr (.inr (.inl r))))
   ·exact .inr (.inr (.inr (.inr (.inr r))))
 self:=fun _ _ _ _ _ st h=>wpAny_pyIter_zip st.1 h
section
variable (k1 k2 k3:Sk) (h:Heap) (a b d:Addr)
abbrev yh1:Heap:=h.push (itK k1 a)
abbrev yh2:Heap:=(yh1 k1 h a).push (itK k2 b)
abbrev yh3:Heap:=(yh2 k1 k2 h a b).push (itK k3 d)
abbrev yh4:Heap:=(yh3 k1 k2 k3 h a b d).push { cls:=.type "tuple",data:=.seq #[.ref h.objs.size,.ref (yh1 k1 h a).objs.size,.ref (yh2 k1 k2 h a b).objs.size] }
abbrev yh5:Heap:=(yh4 k1 k2 k3 h a b d).push { cls:=.type "tuple",data:=.seq #[.none,.none,.none] }
abbrev yh6:Heap:=(yh5 k1 k2 k3 h a b d).push { cls:=.type "zip",data:=.fields #[.none,.bool false,.bool false,.ref (yh3 k1 k2 k3 h a b d).objs.size,.ref (yh4 k1 k2 k3 h a b d).objs.size] }
end
set_option maxHeartbeats 4000000 in
theorem aA2 (k1 k2 k3:Sk) (a b d:Addr) (xs ys vs:Array Value) :
  Meets (Builtin.«zip.__new__» ⟨[.type "zip",.ref a,.ref b,.ref d],[]⟩) (fun _ R s=>AtK k1 s.heap a xs/\AtK k2 s.heap b ys/\AtK k3 s.heap d vs/\R (.ok (.ret (.ref (yh5 k1 k2 k3 s.heap a b d).objs.size))) { s with heap:=yh6 k1 k2 k3 s.heap a b d }) :=
 .of_wp fun prog w A R s h=>by
  obtain ⟨hp,g,dd,tk,os⟩:=s
  obtain ⟨hl1,hl2,hl3,h⟩:=h
  have hsub:=sub_zip
  have hA:AtK k1 (Shared.heap ⟨hp,g,dd,tk,os⟩) a xs:=hl1
  have hB:AtK k2 (Shared.heap ⟨hp.push (itK k1 a),g,dd,tk,os⟩) b ys:=AtK.at hl2 fun o e=>Qa _ e
  have hC:AtK k3 (Shared.heap ⟨(hp.push (itK k1 a)).push (itK k2 b),g,dd,tk,os⟩) d vs:=AtK.at hl3 fun o e=>Qa _ (Qa _ e)
  wp_walk using oX hA,oX hB,oX hC
  exact ⟨_,rfl,h⟩
section
variable {X:Cx} {es:List Expr} {x1:Nat} {tpos:Pos}
def aE7 (K:PySem.W.Frag) (k1 k2 k3:Sk) (ta:TA):TI:=fun σ H R=>ta σ H fun vs H1=>∃ a b d xs ys zs,vs = [.ref a,.ref b,.ref d]/\SqK k1 K H1 a xs/\SqK k2 K H1 b ys/\SqK k3 K H1 d zs/\R (aCd K k1 k2 k3 a b d) H1
theorem aE8 {x y z:V} {us:List Value} (r:aY [x,y,z] us):∃ u v t,us = [u,v,t]/\bO x u/\bO y v/\bO z t:=by
 cases r with
 | cons r1 q =>
  obtain ⟨v,t,rfl,r2,r3⟩:=lD q
  exact ⟨_,v,t,rfl,r1,r2,r3⟩
set_option maxHeartbeats 4000000 in
theorem aDi (k1 k2 k3:Sk) {a b d:Expr} {ta:TA} {p pos:Pos} (hg:Gl X "zip") (hm:X.mg "zip" = none) (ha:PA X [a,b,d] ta) (hs:starEach [a,b,d] X.env = [(false,eval a X.env),(false,eval b X.env),(false,eval d X.env)]:=by rfl) (hs2:starEach [b,d] X.env = [(false,eval b X.env),(false,eval d X.env)]:=by rfl) :
  PI X (.Tuple es x1 tpos) (.Call (.Name "zip" p) [a,b,d] [] pos) (aE7 X.K k1 k2 k3 ta):=by
 intro pins s σ H R I h
 refine Call_ (jB (u:=.type "zip") I hg hm (by decide +kernel) (PyProof.Rows.callWith_type1 (thn (ha pos pins s σ H _ I h) fun us s1 hx9=>?_) (by rw [hs,hs2]) (by rw [hs2]; rfl)))
 obtain ⟨vs,H1,I1,r1,q1⟩:=hx9
 obtain ⟨l1,l2,l3,xs,ys,zs,rfl,hA,hB,hC,q⟩:=q1
 obtain ⟨u1,u2,u3,rfl,r1',r2',r3'⟩:=aE8 r1
 cases r1'
 cases r2'
 cases r3'
 obtain ⟨its,rva,pa⟩:=I1.seqK hA
 obtain ⟨jts,rvb,pb⟩:=I1.seqK hB
 obtain ⟨kts,rvc,pc⟩:=I1.seqK hC
 refine callType_new PySem.F.called_zip (by decide) (qT _ _ _) (sK _ _ _) (fun obj=>mO obj _ _ _) PySem.F.entry_zip_new (aA2 k1 k2 k3 l1 l2 l3 its.toArray jts.toArray kts.toArray) ⟨pa,pb,pc,?_⟩
 have n1:(yh1 k1 s1.heap l1).objs.size=s1.heap.objs.size+1:=Je ..
 have n2:(yh2 k1 k2 s1.heap l1 l2).objs.size=s1.heap.objs.size+2:=by rw [Je,n1]
 have n3:(yh3 k1 k2 k3 s1.heap l1 l2 l3).objs.size=s1.heap.objs.size+3:=by rw [Je,n2]
 have n4:(yh4 k1 k2 k3 s1.heap l1 l2 l3).objs.size=s1.heap.objs.size+4:=by rw [Je,n3]
 have n5:(yh5 k1 k2 k3 s1.heap l1 l2 l3).objs.size=s1.heap.objs.size+5:=by rw [Je,n4]
 have g6:IsZip (yh6 k1 k2 k3 s1.heap l1 l2 l3) (yh5 k1 k2 k3 s1.heap l1 l2 l3).objs.size (yh3 k1 k2 k3 s1.heap l1 l2 l3).objs.size (yh4 k1 k2 k3 s1.heap l1 l2 l3).objs.size .none:=Qk _ rfl
 have g5:hV (yh6 k1 k2 k3 s1.heap l1 l2 l3) (yh4 k1 k2 k3 s1.heap l1 l2 l3).objs.size .none .none .none:=Qa _ (Qk _ rfl)
 have g4:hV (yh6 k1 k2 k3 s1.heap l1 l2 l3) (yh3 k1 k2 k3 s1.heap l1 l2 l3).objs.size (.ref s1.heap.objs.size) (.ref (yh1 k1 s1.heap l1).objs.size) (.ref (yh2 k1 k2 s1.heap l1 l2).objs.size):=Qa _ (Qa _ (Qk _ rfl))
 have g3:ItK k3 (yh6 k1 k2 k3 s1.heap l1 l2 l3) (yh2 k1 k2 s1.heap l1 l2).objs.size l3 0:=(ItK.new k3 (yh2 k1 k2 s1.heap l1 l2) l3).at fun o e=>Qa _ (Qa _ (Qa _ e))
 have g2:ItK k2 (yh6 k1 k2 k3 s1.heap l1 l2 l3) (yh1 k1 s1.heap l1).objs.size l2 0:=(ItK.new k2 (yh1 k1 s1.heap l1) l2).at fun o e=>Qa _ (Qa _ (Qa _ (Qa _ e)))
 have g1:ItK k1 (yh6 k1 k2 k3 s1.heap l1 l2 l3) s1.heap.objs.size l1 0:=(ItK.new k1 s1.heap l1).at fun o e=>Qa _ (Qa _ (Qa _ (Qa _ (Qa _ e))))
 have kp:∀ c o,s1.heap.get? c=some o->(yh6 k1 k2 k3 s1.heap l1 l2 l3).get? c=some o:=fun c o e=>Qa _ (Qa _ (Qa _ (Qa _ (Qa _ (Qa _ e)))))
 refine ⟨⟨_,g6,rfl⟩,wpAny_pyIter_zip (f0:=.none) g6 ?_⟩
 rw [n1,n2,n3,n4,n5] at *
 have I2:Inv X pins σ H1 { s1 with heap:=yh6 k1 k2 k3 s1.heap l1 l2 l3 }:=I1.kept (t':=s1.toks) kp
 refine ⟨s1.heap.objs.size+5,[s1.heap.objs.size+5,s1.heap.objs.size+3,s1.heap.objs.size+4,s1.heap.objs.size,s1.heap.objs.size+1,s1.heap.objs.size+2],_,_,H1,rfl,I2,aA1 k1 k2 k3 l1 l2 l3 _ _ _ _ _ _ ?_,⟨g6,g4,⟨_,_,_,g5⟩,g1,g2,g3⟩,fun c hc=>?_,q⟩
 ·intro m1 m2 m3 h1 h2 h3
  have d:∀ i j:Nat,i≠j->s1.heap.objs.size+i≠s1.heap.objs.size+j:=fun i j h=>by omega
  have sub:∀ {l:Addr},(∀ c∈[s1.heap.objs.size+5,s1.heap.objs.size+3,s1.heap.objs.size+4,s1.heap.objs.size,s1.heap.objs.size+1,s1.heap.objs.size+2],l≠c)->∀ c∈[s1.heap.objs.size+5,s1.heap.objs.size+4,s1.heap.objs.size,s1.heap.objs.size+1,s1.heap.objs.size+2],l≠c:=fun h c hc=>h c (by
   rcases Qj.mp hc with r | r
   ·exact Qj.mpr (.inl r)
   ·exact Qq _ (Qq _ r))
  exact ⟨d 3 5 (by decide),d 4 5 (by decide),d 0 5 (by decide),d 1 5 (by decide),d 2 5 (by decide),d 3 4 (by decide),d 3 0 (by decide),d 3 1 (by decide),d 3 2 (by decide),d 4 0 (by decide),d 4 1 (by decide),d 4 2 (by decide),d 0 1 (by decide),d 0 2 (by decide),d 1 2 (by decide),sub h1,sub h2,sub h3⟩
 ·have hc':s1.heap.objs.size<=c:=by
   simp only [Qj,Qn,or_false] at hc
   rcases hc with r | r | r | r | r | r
   ·rw [r]; exact Jp _ _
   ·rw [r]; exact Jp _ _
   ·rw [r]; exact Jp _ _
   ·rw [r]; exact Qg _
   ·rw [r]; exact Jp _ _
   ·rw [r]; exact Jp _ _
  exact I1.fpOk hc' (I1.hok.fresh hc')
end
section
variable {K:PySem.W.Frag} {own:Nat} {fr:List Nat} {g:TG} {te:TE} {σ:St} {H:Hp} {Qf:Hp->List V->Prop}
theorem sZ {k1 k2:Sk} {a b:Addr} {xs zs vs:List V} (SH:St->Prop) (hn:zs.length<=1000) (hle:zs.length<=xs.length) (hl:vs.length=zs.length) (ha:∀ H',aD H H'->SqK k1 K H' a xs/\SqK k2 K H' b zs) (hσ:SH (blk own fr σ))
  (hs:∀ (i:Nat) x z v p σ H1,xs[i]?=some x->zs[i]?=some z->vs[i]?=some v->H1 p=none->SH σ->aD H H1->∀ Q:V->St->Hp->Prop,(∀ σ2 H4,SH σ2->aD H1 H4->Q v σ2 H4)->g (.ref p) σ (upd H1 p (.tup [x,z])) fun σ2 H2=>te σ2 H2 fun y H4=>Q y σ2 H4)
  (hd:∀ H',aD H H'->Qf H' vs) :
  ∃ W:Nat->Nat->List V->St->Hp->Prop,(∃ m,W 0 m [] (blk own fr σ) H)/\∀ i m ys σ' H,W i m ys σ' H ->
   ((Itz K k1 k2 a b).stop i H/\Qf H ys) ∨
   ((Itz K k1 k2 a b).go i H/\∃ N:List V->St->Hp->Prop,(∀ ys' σ2 H2,N ys' σ2 H2->∃ m',m' < m/\W (i+1) m' ys' σ2 H2) /\
    ∀ x H',(Itz K k1 k2 a b).yld i H x H'->g x σ' H' fun σ2 H2=>wG σ2 H2 fun b H3=>if b=true then te σ2 H3 fun y H4=>ys.length < sizeLine/\N (ys++[y]) σ2 H4 else N ys σ2 H3):=by
 refine pL SH hn hl hσ (fun H' s=>⟨xs,zs,(ha H' s).1,(ha H' s).2,by omega⟩) (fun i H' hi s=>⟨xs,zs,xs[i]'(by omega),zs[i],(ha H' s).1,(ha H' s).2,Qc (by omega),Qc hi⟩) (fun i v x σ H1 H2 hi hv sh s y Q k=>?_) hd
 obtain ⟨q,hq,rfl,hy⟩:=y
 obtain ⟨x,z,h1,h2,rfl⟩:=hy xs zs (ha H1 s).1 (ha H1 s).2
 exact hs i x z v q σ H1 h1 h2 hv hq sh s Q k
theorem aA3 {k1 k2 k3:Sk} {a b d:Addr} {xs zs us vs:List V} (SH:St->Prop) (hn:xs.length<=1000) (h2:zs.length=xs.length) (h3:us.length=xs.length) (hl:vs.length=xs.length) (ha:∀ H',aD H H'->SqK k1 K H' a xs/\SqK k2 K H' b zs/\SqK k3 K H' d us) (hσ:SH (blk own fr σ))
  (hs:∀ (i:Nat) x z u v p σ H1,xs[i]?=some x->zs[i]?=some z->us[i]?=some u->vs[i]?=some v->H1 p=none->SH σ->aD H H1->∀ Q:V->St->Hp->Prop,(∀ σ2 H4,SH σ2->aD H1 H4->Q v σ2 H4)->g (.ref p) σ (upd H1 p (.tup [x,z,u])) fun σ2 H2=>te σ2 H2 fun y H4=>Q y σ2 H4)
  (hd:∀ H',aD H H'->Qf H' vs) :
  ∃ W:Nat->Nat->List V->St->Hp->Prop,(∃ m,W 0 m [] (blk own fr σ) H)/\∀ i m ys σ' H,W i m ys σ' H ->
   ((aCd K k1 k2 k3 a b d).stop i H/\Qf H ys) ∨
   ((aCd K k1 k2 k3 a b d).go i H/\∃ N:List V->St->Hp->Prop,(∀ ys' σ2 H2,N ys' σ2 H2->∃ m',m' < m/\W (i+1) m' ys' σ2 H2) /\
    ∀ x H',(aCd K k1 k2 k3 a b d).yld i H x H'->g x σ' H' fun σ2 H2=>wG σ2 H2 fun b H3=>if b=true then te σ2 H3 fun y H4=>ys.length < sizeLine/\N (ys++[y]) σ2 H4 else N ys σ2 H3):=by
 refine pL SH hn hl hσ (fun H' s=>⟨xs,zs,us,(ha H' s).1,(ha H' s).2.1,(ha H' s).2.2,rfl,h2,h3⟩) (fun i H' hi s=>⟨xs,zs,us,xs[i],zs[i]'(by omega),us[i]'(by omega),(ha H' s).1,(ha H' s).2.1,(ha H' s).2.2,Qc hi,Qc (by omega),Qc (by omega)⟩) (fun i v x σ H1 H2 hi hv sh s y Q k=>?_) hd
 obtain ⟨q,hq,rfl,hy⟩:=y
 obtain ⟨x,z,u,e1,e2,e3,rfl⟩:=hy xs zs us (ha H1 s).1 (ha H1 s).2.1 (ha H1 s).2.2
 exact hs i x z u v q σ H1 e1 e2 e3 hv hq sh s Q k
end
section
variable {X:Cx} {K:PySem.W.Frag}
theorem aA4 (hK:X.K=K):MtR X "list.count" (fun x vs H Q=>∃ (a:Addr) (ns:List Int) (n:Int),x=.ref a/\vs = [.int n]/\SqL K H a (ns.map V.int)/\Q (.int (ns.count n:Nat)) H):=by
 subst hK
 intro pins s σ H x v vs us Q I rx r h
 obtain ⟨a,ns,n,rfl,rfl,ha,q⟩:=h
 obtain ⟨u,rfl,t,rfl⟩:=gY r
 cases rx
 obtain ⟨its,rv,⟨⟨cls,dd,data,sl⟩,k,ho,hc,hdd,hd⟩,hzz⟩:=I.list ha
 simp only at hc hd
 subst hc hd
 have hi:IntsAre its ns:=jD rv
 refine call_meets PySem.F.slot_list_count ⟨_,ho,rfl⟩ PySem.F.entry_list_count (PySem.F.args_list_count_2 _ _) (SeqAt.list_countAt a its.toArray k dd sl (.int n t) (isInt n)) ⟨ho,fun y hy=>(eq_isInt n t hi y (by simpa using hy)).at _ _,?_⟩
 have e:(its.toArray.toList.countP (isInt n))=ns.count n:=by
  simp only [Zr]
  clear q r ha rv ho hzz hdd
  induction hi with
  | nil=>rfl
  | cons m t' _ ih =>
   rw [List.countP_cons,List.count_cons,ih]
   rfl
 rw [e]
 exact ⟨.int _,H,I.tok _,⟨_,rfl⟩,q⟩
theorem aA5 (hc:X.calm=true):eJ X (.builtin "sum") (fun xs H Q=>∃ (p:Addr) (ns:List Int),xs = [.ref p]/\SqT X.K H p (ns.map V.int)/\(∀ n∈ns,0<=n/\n < 1000000)/\ns.length<=1000000/\Q (.int (gR ns)) H):=by
 intro pins s σ H xs us Q I r h
 obtain ⟨p,ns,rfl,hx,hb,hlen,q⟩:=h
 obtain ⟨u,rfl,rx⟩:=gY r
 cases rx
 obtain ⟨its,rv,pl,hz⟩:=I.tuple hx
 have hl:=rv.length
 rw [Qb] at hl
 have hlt:p < s.heap.objs.size:=by obtain ⟨o,e,_⟩:=pl; exact Qm e
 have hval:∀ (i:Nat) (v:Int),ns[i]?=some v->(ns[i]?).getD 0=v:=fun i v e=>by rw [e]; rfl
 have bnd:∀ (ms:List Int),(∀ n∈ms,0<=n/\n < 1000000)->0<=gR ms/\gR ms<=ms.length*1000000:=fun ms=>by
  induction ms with
  | nil=>intro _; exact ⟨Zq _,Zq _⟩
  | cons a l ih =>
   intro hh
   have h1:=hh a Qt
   have h2:=ih fun n hn=>hh n (Qq _ hn)
   have e:gR (a::l)=a+gR l:=rfl
   rw [e,Jt]
   rw [Int.natCast_add]
   omega
 refine call_sum_walk (wpAny_pyIter_tuple pl ?_)
 refine ⟨s.heap.objs.size,_,_,_,_,_,fun i=>(ns[i]?).getD 0,rfl,Walks.tuple (A:=X.A.in1) (I.ok.hd hc) s.heap.objs.size p (Jb hlt) its.toArray,⟨⟨_,Qk _ rfl,rfl,rfl⟩,pl.push _⟩,?_,?_,?_,fun h' tk t' hk=>?_⟩
 ·intro b hb'
  rw [Je]
  rcases Qj.mp hb' with e | e
  ·rw [e]; exact Xx _
  ·have e':b=p:=by simpa using e
   rw [e']; exact Jy hlt
 ·intro i v hP
  have hP':its[i]?=some v:=by simpa using hP
  have hi:i < ns.length:=by rw [hl]; exact (Qd.mp hP').1
  obtain ⟨w,hw,rw'⟩:=rv.get (i:=i) (x:=.int ns[i]) (by rw [Qi,Qc hi]; rfl)
  rw [hw] at hP'
  cases hP'
  obtain ⟨t,rfl⟩:=rw'
  exact ⟨t,by show Value.int ns[i] t=Value.int ((ns[i]?).getD 0) t; rw [Qc hi]; rfl⟩
 ·intro j hj
  have hj':j < ns.length:=by rw [hl]; simpa using hj
  have e:ns[j]?=some ns[j]:=Qc hj'
  have h1:=hb _ (Xg hj')
  have h2:=bnd (ns.take (j+1)) fun n hn=>hb n (Jq hn)
  rw [iM ns _ hval (j+1) (by omega)]
  have h3:(ns.take (j+1)).length<=1000000:=by rw [Qu]; omega
  unfold InLong
  have e5:(fun i:Nat=>(ns[i]?).getD 0) j=ns[j]:=by show (ns[j]?).getD 0=_; rw [e]; rfl
  rw [e5]
  have h4:((ns.take (j+1)).length:Int)*1000000<=1000000*1000000:=by omega
  omega
 ·have e:preSum (fun i=>(ns[i]?).getD 0) its.toArray.size=gR ns:=by
   rw [Ql,<- hl,iM ns _ hval ns.length (Qg _),Ju]
  rw [e]
  refine ⟨.int _,H,I.kept (h':=h') fun b o e=>hk b o ?_ (Qa _ e),⟨_,rfl⟩,q⟩
  intro z
  have z':b=s.heap.objs.size:=by simpa using z
  exact Qy _ (z' ▸ Qm e)
theorem yQ (hK:X.K=K) (hc:X.calm=true):eJ X (.builtin "sum") (fun xs H Q=>∃ (p:Addr) (ns:List Int),xs = [.ref p]/\SqT K H p (ns.map V.int)/\(∀ n∈ns,0<=n/\n < 1000000)/\ns.length<=1000000/\Q (.int (gR ns)) H):=by subst hK; exact aA5 hc
end
theorem uW {prog:Program} {w:World} {A:Around} {R:Result->Shared->Prop} {s:Shared} {kx vx target iter:Expr} {ifs:List Expr} {scope:Scope} {pos:Pos} {it:Value} {D:Addr} {env:Env} (I:Nat->Shared->Prop)
  (turn:∀ n s,I n s->wpAny (model prog w) A (pyNext it) (fun r s₁=>match r with
   | none=>R (.ok .next) s₁
   | some v=>wpAny (model prog w) A (letOwnedTupleGo target it v) (fun _ s₁'=>wpAny (model prog w) A (assign target env v) (fun _ s₂ =>
     wpAny (model prog w) A (forIn ifs true fun c r=>if r=true then do let ok<-isTrue c env (eval c env); pure (ForInStep.yield ok) else pure (ForInStep.yield r)) (fun ok s₃ =>
      if ok=true then wpAny (model prog w) A (eval kx env) (fun kv s₄=>wpAny (model prog w) A (eval vx env) (fun vv s₅ =>
       wpAny (model prog w) A (dictSet D kv vv) (fun _ s₆=>∃ m,m < n/\I m s₆) (fun _ _=>False) s₅) (fun _ _=>False) s₄) (fun _ _=>False) s₃
      else ∃ m,m < n/\I m s₃) (fun _ _=>False) s₂) (fun _ _=>False) s₁') (fun _ _=>False) s₁) (fun _ _=>False) s)
  (n:Nat) (h:I n s) :
  codeAny (model prog w) A (.compLoop (.DictComp kx vx [⟨target,iter,ifs,0⟩] scope pos) 0 it (.ref D) env) R s:=by
 refine codeAny_loop rfl I (fun n s hI=>?_) n h
 show wpAny _ A ((compTurn (.DictComp kx vx [⟨target,iter,ifs,0⟩] scope pos) 0 it (.ref D) env).onRaise (fun x=>do noteFrame x env; theTreesLotGoes x)) _ _ s
 refine wpAny_noted ?_
 rw [compTurn_dict]
 refine wpAny_bind (wpAny_standAt (wpAny_bind (wpAny_mono (turn n s hI) (fun r s₁ h₁=>?_) fun _ _ h'=>h'.elim)))
 cases r with
 | none=>exact wpAny_pure h₁
 | some v =>
  refine wpAny_bind (wpAny_mono h₁ (fun _ s₁' h₁'=>?_) fun _ _ h'=>h'.elim)
  refine wpAny_bind (wpAny_mono h₁' (fun _ s₂ h₂=>wpAny_bind (wpAny_mono h₂ (fun ok s₃ h₃=>?_) fun _ _ h'=>h'.elim)) fun _ _ h'=>h'.elim)
  cases ok with
  | false=>exact wpAny_pure ⟨rfl,h₃⟩
  | true =>
   exact wpAny_bind (wpAny_bind (wpAny_mono h₃ (fun kv s₄ h₄=>wpAny_bind (wpAny_holding (wpAny_mono h₄ (fun vv s₅ h₅=>wpAny_bind (wpAny_standAt (wpAny_holding (wpAny_mono h₅ (fun _ s₆ h₆=>wpAny_pure ⟨rfl,h₆⟩) fun _ _ h'=>h'.elim)))) fun _ _ h'=>h'.elim))) fun _ _ h'=>h'.elim))
def aEh (own:Nat) (fr:List Nat) (wi:TI) (g:TG) (tt:TT) (tk tv:TE):TE:=fun σ H Q=>wi σ H fun J H1=>∃ W:Nat->Nat->List (Key×V)->St->Hp->Prop,(∃ m,W 0 m [] (blk own fr σ) H1)/\∀ i m ys σ' H,W i m ys σ' H ->
 (J.stop i H/\∀ p,H p=none->Q (.ref p) (upd H p (.dK ys))) ∨
 (J.go i H/\∃ N:List (Key×V)->St->Hp->Prop,(∀ ys' σ2 H2,N ys' σ2 H2->∃ m',m' < m/\W (i+1) m' ys' σ2 H2) /\
  ∀ x H',J.yld i H x H'->g x σ' H' fun σ2 H2=>tt σ2 H2 fun b H3=>if b=true then tk σ2 H3 fun x H4=>tv σ2 H4 fun y H5=>∃ k,x=kV k/\ys.length < sizeLine/\N (iT ys k y) σ2 H5 else N ys σ2 H3)
section
variable {X:Cx} {scope:Scope} {own frn:List Str} {fr:List Nat} {kx vx tg iter:Expr} {ifs:List Expr} {pos:Pos} {wi:TI} {g:TG} {tt:TT} {tk tv:TE}
theorem Inv.trackD {pins:List (Addr×Obj)} {σ:St} {H:Hp} {s:Shared} {D:Addr} {ys:List (Key×V)} {its:List (Key×Value)} (I:Inv X pins σ H s) (hD:s.heap.DictOf (bT X.prog X.w) D its) (hv:KV ys its) (hz:ys.length<=sizeLine) (hm:(D==sysModules)=false) (hn:H D=none) (hL:D≠X.env.locals)
  (h1:X.s₀.heap.objs.size<=D) (h2:∀ x c,X.env.cells.lookup x=some c->c≠D) (h3:∀ p∈X.pn++pins,p.1≠D):Inv X pins σ (upd H D (.dK ys)) s:=by
 have ne:∀ b u,H b=some u->b≠D:=fun b u e z=>by rw [z,hn] at e; cases e
 refine I.step (g':=s.gens) (d':=s.drawn) (t':=s.toks) (h':=s.heap) (ch:=[D]) (fun b hb=>?_) (fun b o _ _ _ e _=>e) (fun b o _ _ _ e _=>⟨o.slots,e⟩) (fun b o hc _ n=>?_) (fun b o _ e=>⟨o,e⟩)
  (fun b xs e=>by rw [aH (ne b _ e)]; exact e) (fun b o u e=>by rw [aH (ne b _ e)]; exact e) (fun b ps e=>⟨#[],by rw [aH (ne b _ e),e]; simp⟩) (fun _ h=>h) (fun b u e=>?_) I.bare
 ·have e:b=D:=by simpa using hb
  subst e
  exact ⟨.inr h1,hL,h2,h3⟩
 ·rw [aH (by simpa using hc)]; exact n
 ·by_cases hb:b=D
  ·subst hb
   rw [aC] at e; cases e
   exact ⟨hz,hm,its,hv,hD⟩
  ·rw [aH hb] at e
   exact (I.hok b u e).stay (fun c v _ q=>q) (fun c q=>by rw [aH (ne c _ q)]; exact q) fun c xs q=>by rw [aH (ne c _ q)]; exact q
theorem xB {pins:List (Addr×Obj)} {σ:St} {H2:Hp} {s2:Shared} {it:Addr} {fp:List Addr} {tn:Nat->Heap->Prop} {J:It} {RR:Value->Addr->Result->Shared->Prop} {E:Value->Shared->Prop} {Q:Hp->List (Key×V)->Prop}
  (S:CompOk X scope own fr frn) (hc:X.calm=true) (I2:Inv X pins σ H2 s2) (T:Turn X.prog X.w X.K tg J fp it tn) (st2:tn 0 s2.heap) (f2:∀ b∈fp,lA X pins H2 b)
  (hg:∀ C s0 H0 fp,PG (aP X scope (own++frn) C s0 H0 fp) tg g) (ht:∀ C s0 H0 fp,PF (aP X scope (own++frn) C s0 H0 fp) ifs tt) (hk:∀ C s0 H0 fp,PE (aP X scope (own++frn) C s0 H0 fp) kx tk) (he:∀ C s0 H0 fp,PE (aP X scope (own++frn) C s0 H0 fp) vx tv)
  (w:∃ W:Nat->Nat->List (Key×V)->St->Hp->Prop,(∃ m,W 0 m [] (blk own.length fr σ) H2)/\∀ i m ys σ' H,W i m ys σ' H ->
   (J.stop i H/\Q H ys) ∨
   (J.go i H/\∃ N:List (Key×V)->St->Hp->Prop,(∀ ys' σ2 H2,N ys' σ2 H2->∃ m',m' < m/\W (i+1) m' ys' σ2 H2) /\
    ∀ x H',J.yld i H x H'->g x σ' H' fun σ2 H2=>tt σ2 H2 fun b H3=>if b=true then tk σ2 H3 fun x H4=>tv σ2 H4 fun y H5=>∃ k,x=kV k/\ys.length < sizeLine/\N (iT ys k y) σ2 H5 else N ys σ2 H3))
  (hRR:∀ (C D:Addr) (s':Shared) (H':Hp) (ys:List (Key×V)) (its:List (Key×Value)) (m:Str->Option Value),s2.heap.objs.size<=C->s2.heap.objs.size<=D->D≠C->s'.heap.Ns C m->H' C=none->H' D=none->s'.heap.DictOf (bT X.prog X.w) D its->KV ys its->ys.length<=sizeLine ->
   Inv X pins σ H' s'->Q H' ys->RR (.ref D) C (.ok .next) s') :
  wpAny (model X.prog X.w) X.A newDict (fun acc s₃=>wpAny (model X.prog X.w) X.A (newFunctionEnv scope X.env.globals (dY X.env scope.names []) [] X.env.qual none .none (some X.env)) (fun cenv s₄ =>
   codeAny (model X.prog X.w) X.A (.compStart (.DictComp kx vx [⟨tg,iter,ifs,0⟩] scope pos) 0 (.ref it) acc { cenv with scope:=relabel scope X.env }) (RR acc cenv.locals) s₄) E s₃) E s2:=by
 obtain ⟨p1,p2,p3,p4,p5,p6,p7⟩:=S.parts
 obtain ⟨W,⟨m0,w0⟩,turn⟩:=w
 refine wpAny_newObj_type (wpAny_newFunctionEnv p2 (by intro y hy; simp at hy) (fun h₁ hns₁ hsb₁=>?_) p1)
 dsimp only at hns₁ hsb₁ ⊢
 generalize hH2:s2.heap.push { cls:=.type "dict",dict:=none,data:=.dict #[] }=HD at hns₁ hsb₁ ⊢
 have hCs:HD.objs.size=s2.heap.objs.size+1:=by rw [<- hH2,Je]
 have hDC:s2.heap.objs.size≠HD.objs.size:=by omega
 have hCle:s2.heap.objs.size<=HD.objs.size:=by omega
 have below:∀ b,b < s2.heap.objs.size->b≠HD.objs.size/\b≠s2.heap.objs.size:=fun b hb=>⟨by omega,by omega⟩
 have old:∀ b o,s2.heap.get? b=some o->h₁.get? b=some o:=fun b o e=>hsb₁.extBut b o (below b (Qm e)).1 (Qa _ (hH2 ▸ Qa _ e))
 have hacc:h₁.get? s2.heap.objs.size=some { cls:=.type "dict",dict:=none,data:=.dict #[] }:=hsb₁.extBut _ _ hDC (Qa _ (hH2 ▸ Qk _ rfl))
 have hdict:h₁.DictOf (bT X.prog X.w) s2.heap.objs.size []:=Heap.DictOf.at (hH2 ▸ Heap.DictOf.new s2.heap:HD.DictOf (bT X.prog X.w) s2.heap.objs.size []) fun o e=>hsb₁.extBut _ _ hDC (Qa _ e)
 have flt:∀ b∈fp,b < s2.heap.objs.size:=fun b hb=>by
  obtain ⟨o,e,_⟩:=T.obj _ _ st2 b hb
  exact Qm e
 generalize hDg:s2.heap.objs.size=D at *
 generalize hCg:HD.objs.size=C at *
 have st3:tn 0 h₁:=T.keep _ _ _ st2 fun b _ o e=>old b o e
 -- facts of the block
 have clsub:∀ x c,(dY X.env scope.names []).lookup x=some c->X.env.cells.lookup x=some c:=fun x c e=>by
  rcases jE _ _ _ _ (gQ e) with q | q
  ·cases q
  ·exact q
 have cD:∀ x c,(dY X.env scope.names []).lookup x=some c->c≠D:=fun x c e z=>by
  obtain ⟨v,q⟩:=I2.cell x c (clsub x c e)
  exact Qy _ (Qo q.lt (by rw [hDg,z]; exact Qg _))
 have loop:∀ s₃:Shared,s₃={ s2 with heap:=h₁,toks:=s2.toks+([]:List (Str×Value)).length } ->
   codeAny (model X.prog X.w) X.A (.compLoop (.DictComp kx vx [⟨tg,iter,ifs,0⟩] scope pos) 0 (.ref it) (.ref D) (compEnvC scope (dY X.env scope.names []) C X.env)) (RR (.ref D) C) s₃:=by
  rintro s₃ rfl
  have I3:Inv (aP X scope (own++frn) C s2 H2 fp) [(D,_)] (blk own.length fr σ) H2 { s2 with heap:=h₁,toks:=s2.toks+([]:List (Str×Value)).length } :=
   qG (m:=fun _=>none) I2 S f2 (by rw [hDg]; exact flt) (by rw [hDg]; exact hCle) (hns₁:h₁.Ns C _) old (by rw [hDg]; exact Qg _) hDC hacc (fun v z=>by cases z)
  have stat:∀ {H':Hp} {pl:List (Addr×Obj)},(∀ p∈pl,p.1=D)->(∀ b∈fp,H' b=none)->∀ b∈fp,lA (aP X scope (own++frn) C s2 H2 fp) pl H' b:=fun {H' pl} hpl hn b hb=>by
   refine ⟨hn b hb,(below b (flt b hb)).1,fun z=>?_,.inl hb,fun x c e=>(f2 b hb).2.2.2.2.1 x c (clsub x c e),fun p hp=>?_⟩
   ·have z':b∈frs X.stack:=z
    rcases Qj.mp (I2.stkSub b z') with e | e
    ·exact (f2 b hb).2.1 e
    ·exact (f2 b hb).2.2.1 e
   ·have hp':p∈pl:=by simpa [aP] using hp
    rw [hpl p hp']
    exact Ne.symm (below b (flt b hb)).2
  refine uW (env:=compEnvC scope (dY X.env scope.names []) C X.env) (fun n s'=>∃ i σ' H' ys its o,Inv (aP X scope (own++frn) C s2 H2 fp) [(D,o)] σ' H' s'/\s'.heap.DictOf (bT X.prog X.w) D its/\KV ys its/\ys.length<=sizeLine/\tn i s'.heap/\(∀ b∈fp,H' b=none)/\W i n ys σ' H') ?_ m0
   ⟨0,_,H2,[],[],_,I3,hdict,.nil,Jh _,st3,fun b hb=>(f2 b hb).1,w0⟩
  rintro n s5 ⟨i,σ5,H5,ys,its,o,I5,pl5,v5,z5,st5,fr5,w5⟩
  have one:∀ {o:Obj},∀ p∈[(D,o)],p.1=D:=fun p hp=>by
   have e:=Qp.mp hp
   rw [e]
  rcases turn i n ys σ5 H5 w5 with ⟨stop,qn⟩ | ⟨go,N,hN,step⟩
  ·refine wpAny_mono (T.done (aP X scope (own++frn) C s2 H2 fp) rfl rfl rfl hc i _ s5 σ5 H5 (fun _ _=>False) I5 (stat one fr5) st5 stop) (fun r s6 hx9=>?_) fun _ _ z=>z
   obtain ⟨hr,I6⟩:=hx9
   subst hr
   obtain ⟨m6,hn6,_⟩:=I6.loc
   have p6:=I6.pin (D,o) (by simp [aP])
   have p5':=I5.pin (D,o) (by simp [aP])
   have pl6:s6.heap.DictOf (bT X.prog X.w) D its:=pl5.at fun o' e=>p6.1.trans (p5'.1.symm.trans e)
   have IX:Inv X pins σ H5 s6:=I2.call' (ch:=fp) I6.os I6.base I6.hok I6.bare fun b hb=>⟨(f2 b hb).2.2.2.1,(f2 b hb).2.1,(f2 b hb).2.2.2.2.1,(f2 b hb).2.2.2.2.2⟩
   exact hRR C D s6 H5 ys its m6 hCle (Qg _) hDC hn6 I6.free p6.2.1 pl6 v5 z5 IX qn
  ·refine wpAny_mono (T.item (aP X scope (own++frn) C s2 H2 fp) rfl rfl rfl hc i _ s5 σ5 H5 (fun _ _=>False) I5 (stat one fr5) st5 go) (fun r s6 hx9=>?_) fun _ _ z=>z
   obtain ⟨u,hr,h6⟩:=hx9
   subst hr
   refine wpAny_mono h6 (fun _ s7 hx9=>?_) fun _ _ z=>z
   obtain ⟨x,H7,I7,r7,y7,st7,fr7⟩:=hx9
   have I7':=I7.pinned (stat one fr7) (T.obj _ _ st7)
   refine wpAny_mono (hg C s2 H2 fp _ s7 σ5 H7 x u _ I7' r7 (step x H7 y7)) (fun _ s8 hx9=>?_) fun _ _ z=>z
   obtain ⟨σ8,H8,I8,q8⟩:=hx9
   refine wpAny_mono (ht C s2 H2 fp _ s8 σ8 H8 _ I8 q8) (fun b s9 hx9=>?_) fun _ _ z=>z
   obtain ⟨H9,I9,q9⟩:=hx9
   -- what stands of the iterator and of the gathered list behind the tests,behind the item
   have keepT:∀ {H':Hp} {s':Shared} {σ':St},Inv (aP X scope (own++frn) C s2 H2 fp) ([(D,o)]++lB fp s7.heap) σ' H' s'->tn (i+1) s'.heap/\(∀ b∈fp,H' b=none)/\s'.heap.DictOf (bT X.prog X.w) D its/\H' D=none:=fun {H' s' σ'} I'=>by
    refine ⟨T.keep _ _ _ st7 fun b hb o e=>(I'.pin (b,o) (Qr _ (Qr _ (dQ hb e)))).1,fun b hb=>?_,?_,?_⟩
    ·obtain ⟨o,e,d⟩:=T.obj _ _ st7 b hb
     exact (I'.pin (b,o) (Qr _ (Qr _ (dQ hb e)))).2.1
    ·have p':=I'.pin (D,o) (by simp [aP])
     have p5':=I5.pin (D,o) (by simp [aP])
     exact pl5.at fun o' e=>p'.1.trans (p5'.1.symm.trans e)
    ·exact (I'.pin (D,o) (by simp [aP])).2.1
   cases b with
   | false =>
    rw [if_neg Qs] at q9
    rw [if_neg Qs]
    obtain ⟨m',hm,w'⟩:=hN ys σ8 H9 q9
    obtain ⟨t9,fr9,pl9,_⟩:=keepT I9
    exact ⟨m',hm,i+1,σ8,H9,ys,its,o,I9.unpinned,pl9,v5,z5,t9,fr9,w'⟩
   | true =>
    rw [if_pos rfl] at q9
    rw [if_pos rfl]
    refine wpAny_mono (hk C s2 H2 fp _ s9 σ8 H9 _ I9 q9) (fun kv s9' hx9=>?_) fun _ _ z=>z
    obtain ⟨xv,H9',I9',r9,q9'⟩:=hx9
    refine wpAny_mono (he C s2 H2 fp _ s9' σ8 H9' _ I9' q9') (fun y s10 hx9=>?_) fun _ _ z=>z
    obtain ⟨yv,H10,I10,r10,k10,ek,lt10,q10⟩:=hx9
    subst ek
    obtain ⟨t10,fr10,pl10,hD10⟩:=keepT I10
    have hl:=v5.length
    refine wpAny_dictSet_pairs (knd:=bT X.prog X.w) (sX r9) pl10 (fun h11 pl11 sb11=>?_) (by rw [<- hl]; exact Xr lt10)
    obtain ⟨m',hm,w'⟩:=hN _ σ8 H10 q10
    have I10':Inv (aP X scope (own++frn) C s2 H2 fp) [] σ8 H10 s10:=I10.pins_of fun p hp=>by cases hp
    have I11:Inv (aP X scope (own++frn) C s2 H2 fp) [] σ8 H10 { s10 with heap:=h11,toks:=s10.toks+1 } :=
     I10'.turned (t':=s10.toks+1) (it:=D) (fun b o hb e=>(sb11.2 b hb).trans e) hD10 hDC (.inr (by show s2.heap.objs.size<=D; rw [hDg]; exact Qg _)) cD (fun p hp=>by simp [aP] at hp)
    obtain ⟨o11,es11,ep11,ho11,hc11,hd11,_⟩:=id pl11
    have DfsX:D∉frs X.stack:=fun z=>by
     rcases Qj.mp (I2.stkSub D z) with e | e
     ·exact Qy _ (Qo I2.lt (by rw [hDg,e]; exact Qg _))
     ·exact I2.nofs (by rw [hDg]; exact Qg _) e
    refine ⟨m',hm,i+1,σ8,H10,iT ys k10 yv,stored its k10 y,o11,I11.pins_of fun p hp=>?_,pl11,v5.put k10 r10,Qw (gS _ _ _) lt10,T.keep _ _ _ t10 fun b hb o e=>(sb11.2 b (below b (flt b hb)).2).trans e,fr10,w'⟩
    have e:=Qp.mp hp
    subst e
    exact ⟨ho11,hD10,hDC,DfsX,fun v z=>by rw [hd11] at z; cases z⟩
 exact codeAny_compStart_dict (loop _ rfl) (T.self X.A 0 _ _ _ st3 (loop _ rfl))
theorem aCe (S:CompOk X scope own fr frn) (hc:X.calm=true) (hi:PI X tg iter wi) (hg:∀ C s0 H0 fp,PG (aP X scope (own++frn) C s0 H0 fp) tg g) (ht:∀ C s0 H0 fp,PF (aP X scope (own++frn) C s0 H0 fp) ifs tt)
  (hk:∀ C s0 H0 fp,PE (aP X scope (own++frn) C s0 H0 fp) kx tk) (he:∀ C s0 H0 fp,PE (aP X scope (own++frn) C s0 H0 fp) vx tv) (hs:∀ x,foldedSetIterable iter X.env x=pure x:=by intro _; rfl) :
  PE X (.DictComp kx vx [⟨tg,iter,ifs,0⟩] scope pos) (aEh own.length fr wi g tt tk tv):=by
 intro pins s σ H Q I h
 obtain ⟨p1,p2,p3,p4,p5,p6,p7⟩:=S.parts
 rw [arm_eval_DictComp]
 refine wpAny_comprehension_free (use:=none) rfl hs (S.clo I) p1 p3 (thn (hi pins s σ H _ I h) fun v s1 h1=>thn h1 fun itv s2 h2=>?_)
 obtain ⟨it,fp,tn,J,H2,e,I2,T,st2,f2,hw⟩:=h2
 subst e
 refine xB (RR:=fun acc C=>compPost (model X.prog X.w) X.A X.xe none (EP X pins σ Q) acc C) (Q:=fun H ys=>∀ p,H p=none->Q (.ref p) (upd H p (.dK ys))) S hc I2 T st2 f2 hg ht hk he hw ?_
 intro C D s' H' ys its m hC hD hDC hns hHC hHD pl v z IX q
 have cne:∀ a,s2.heap.objs.size<=a->∀ x c,X.env.cells.lookup x=some c->c≠a:=fun a ha x c e z=>by
  obtain ⟨v,w⟩:=I2.cell x c e
  exact Qy _ (Qo w.lt (by rw [z]; exact ha))
 have pne:∀ a,s2.heap.objs.size<=a->∀ p∈X.pn++pins,p.1≠a:=fun a ha p hp z=>Qy _ (Qo (Qm (I2.pin p hp).1) (by rw [z]; exact ha))
 have lne:∀ a,s2.heap.objs.size<=a->a≠X.env.locals:=fun a ha z=>Qy _ (Qo I2.lt (by rw [<- z]; exact ha))
 refine ⟨m,hns,fun h' hs'=>⟨.ref D,upd H' D (.dK ys),?_,rfl,q D hHD⟩⟩
 have IT:Inv X pins σ (upd H' D (.dK ys)) s':=IX.trackD pl v z (beq_eq_false_iff_ne.mpr fun e=>Qy _ (Qo I2.big (by rw [<- e]; exact hD))) hHD (lne D hD) (Qw I2.sz hD) (cne D hD) (pne D hD)
 exact IT.turned (t':=s'.toks) (it:=C) (fun b o hb e=>(hs'.2 b hb).trans e) (by rw [aH (Ne.symm hDC)]; exact hHC) (lne C hC) (.inr (Qw I2.sz hC)) (cne C hC) (pne C hC)
end
def tUp (t:TE):TE:=fun σ H Q=>∃ P:V->Hp->Prop,t σ H P/\∀ x H1,P x H1->Q x H1
def aEi (H0:Hp) (t:TE):TE:=fun σ H Q=>t σ H fun x H'=>∃ a o kvs,H' a=some (.frz o (.dK kvs))/\NF H0 a/\Q x (upd H' a (.dK kvs))
def aEj (own:Nat) (fr:List Nat) (td:TE) (g:TG) (tt:TT) (te:TE):TE:=fun σ H Q=>td σ H fun x H1=>∃ a kvs,x=.ref a/\H1 a=some (.dK kvs)/\∀ o:Obj,∃ W:Nat->Nat->List V->St->Hp->Prop,(∃ m,W 0 m [] (blk own fr σ) (upd H1 a (.frz o (.dK kvs))))/\∀ i m ys σ' H,W i m ys σ' H ->
 ((Itd a o kvs).stop i H/\∀ p,H p=none->Q (.ref p) (upd (upd H p (.lst ys)) a (.dK kvs))) ∨
 ((Itd a o kvs).go i H/\∃ N:List V->St->Hp->Prop,(∀ ys' σ2 H2,N ys' σ2 H2->∃ m',m' < m/\W (i+1) m' ys' σ2 H2) /\
  ∀ x H',(Itd a o kvs).yld i H x H'->g x σ' H' fun σ2 H2=>tt σ2 H2 fun b H3=>if b=true then te σ2 H3 fun y H4=>ys.length < sizeLine/\N (ys++[y]) σ2 H4 else N ys σ2 H3)
section
variable {X:Cx} {scope:Scope} {own frn:List Str} {fr:List Nat} {e elt tg d:Expr} {ifs:List Expr} {pos:Pos} {t td:TE} {g:TG} {tt:TT} {te:TE}
theorem aE9 (h:PE X e t):PE X e (tUp t):=by
 intro pins s σ H Q I q
 obtain ⟨P,h1,h2⟩:=q
 refine thn (h pins s σ H P I h1) fun v s1 hx=>?_
 obtain ⟨x,H1,I1,r1,q1⟩:=hx
 exact ⟨x,H1,I1,r1,h2 _ _ q1⟩
theorem aDj (h:PE X e t):PE X e (aEi X.H₀ t):=by
 intro pins s σ H Q I q
 refine thn (h pins s σ H _ I q) fun v s1 hx=>?_
 obtain ⟨x,H1,I1,r1,a,o,kvs,ea,nf,k⟩:=hx
 exact ⟨x,_,I1.thaw ea nf,r1,k⟩
theorem xC (S:CompOk X scope own fr frn) (hc:X.calm=true) (hi:PE X d td) (hg:∀ C s0 H0 fp,PG (aP X scope (own++frn) C s0 H0 fp) tg g) (ht:∀ C s0 H0 fp,PF (aP X scope (own++frn) C s0 H0 fp) ifs tt)
  (he:∀ C s0 H0 fp,PE (aP X scope (own++frn) C s0 H0 fp) elt te) (hs:∀ x,foldedSetIterable d X.env x=pure x:=by intro _; rfl) :
  PE X (.ListComp elt [⟨tg,d,ifs,0⟩] scope pos) (aEj own.length fr td g tt te):=by
 intro pins s σ H Q I h
 refine aDj (cM S hc (aAa (aE9 hi)) hg ht he hs) pins s σ H Q I ⟨_,h,fun x H1 q=>?_⟩
 obtain ⟨a,kvs,ex,hx,k⟩:=q
 refine ⟨a,kvs,ex,hx,fun o nf=>?_⟩
 obtain ⟨W,w0,wk⟩:=k o
 refine ⟨W,w0,fun i m ys σ' H' w=>?_⟩
 rcases wk i m ys σ' H' w with ⟨st,q⟩ | z
 ·refine .inl ⟨st,fun p hp=>⟨a,o,kvs,?_,nf,q p hp⟩⟩
  rw [aH (fun z=>by rw [<- z,st.1] at hp; cases hp)]
  exact st.1
 ·exact .inr z
end
theorem tD {a:Addr} {o:Obj} {kvs:List (Key×V)} {own:Nat} {fr:List Nat} {g:TG} {tt:TT} {te:TE} {σ:St} {H:Hp} {Q:Hp->List V->Prop} (SH:St->Prop) (Pv:Nat->List V->Hp->Prop) (hn:kvs.length<=sizeLine) (hσ:SH (blk own fr σ)) (h0:Pv 0 [] H) (hlen:∀ i ys H,Pv i ys H->ys.length<=i) (hl:∀ i ys H,Pv i ys H->H a=some (.frz o (.dK kvs)))
  (hs:∀ i ys σ p H,kvs[i]?=some p->SH σ->Pv i ys H->ys.length < sizeLine->g (kV p.1) σ H fun σ2 H2=>tt σ2 H2 fun b H3=>if b=true then te σ2 H3 fun y H4=>ys.length < sizeLine/\SH σ2/\Pv (i+1) (ys++[y]) H4 else SH σ2/\Pv (i+1) ys H3)
  (hd:∀ ys H,Pv kvs.length ys H->Q H ys) :
  ∃ W:Nat->Nat->List V->St->Hp->Prop,(∃ m,W 0 m [] (blk own fr σ) H)/\∀ i m ys σ' H,W i m ys σ' H ->
   ((Itd a o kvs).stop i H/\Q H ys) ∨
   ((Itd a o kvs).go i H/\∃ N:List V->St->Hp->Prop,(∀ ys' σ2 H2,N ys' σ2 H2->∃ m',m' < m/\W (i+1) m' ys' σ2 H2) /\
    ∀ x H',(Itd a o kvs).yld i H x H'->g x σ' H' fun σ2 H2=>tt σ2 H2 fun b H3=>if b=true then te σ2 H3 fun y H4=>ys.length < sizeLine/\N (ys++[y]) σ2 H4 else N ys σ2 H3):=by
 refine nH kvs.length hn SH Pv hσ h0 hlen (fun ys H p=>⟨hl _ _ _ p,rfl⟩) (fun i ys H hi p=>⟨hl _ _ _ p,hi⟩) (fun i ys σ x H H' hi sh p y hz=>?_) hd
 obtain ⟨rfl,v,hv,rfl⟩:=y
 exact hs i ys σ v _ hv sh p hz
theorem aA6 {K:PySem.W.Frag} {a:Addr} {xs:List V} {own:Nat} {fr:List Nat} {g:TG} {tt:TT} {tk tv:TE} {σ:St} {H:Hp} {Q:Hp->List (Key×V)->Prop} (SH:St->Prop) (Pv:Nat->List (Key×V)->Hp->Prop) (hn:xs.length<=sizeLine) (hσ:SH (blk own fr σ)) (h0:Pv 0 [] H) (hlen:∀ i ys H,Pv i ys H->ys.length<=i) (hl:∀ i ys H,Pv i ys H->SqT K H a xs)
  (hs:∀ i ys σ x H,xs[i]?=some x->SH σ->Pv i ys H->ys.length < sizeLine->g x σ H fun σ2 H2=>tt σ2 H2 fun b H3=>if b=true then tk σ2 H3 fun x H4=>tv σ2 H4 fun y H5=>∃ k,x=kV k/\ys.length < sizeLine/\SH σ2/\Pv (i+1) (iT ys k y) H5 else SH σ2/\Pv (i+1) ys H3)
  (hd:∀ ys H,Pv xs.length ys H->Q H ys) :
  ∃ W:Nat->Nat->List (Key×V)->St->Hp->Prop,(∃ m,W 0 m [] (blk own fr σ) H)/\∀ i m ys σ' H,W i m ys σ' H ->
   ((Itt K a).stop i H/\Q H ys) ∨
   ((Itt K a).go i H/\∃ N:List (Key×V)->St->Hp->Prop,(∀ ys' σ2 H2,N ys' σ2 H2->∃ m',m' < m/\W (i+1) m' ys' σ2 H2) /\
    ∀ x H',(Itt K a).yld i H x H'->g x σ' H' fun σ2 H2=>tt σ2 H2 fun b H3=>if b=true then tk σ2 H3 fun x H4=>tv σ2 H4 fun y H5=>∃ k,x=kV k/\ys.length < sizeLine/\N (iT ys k y) σ2 H5 else N ys σ2 H3):=by
 refine ⟨fun i m ys σ' H=>m=xs.length - i/\i<=xs.length/\SH σ'/\Pv i ys H,⟨xs.length,by simp,Jh _,hσ,h0⟩,?_⟩
 rintro i m ys σ' H ⟨rfl,hi,sh,p⟩
 by_cases hlt:i < xs.length
 ·refine .inr ⟨⟨xs,xs[i],hl _ _ _ p,Qc hlt⟩,fun ys' σ2 H2=>SH σ2/\Pv (i+1) ys' H2,fun ys' σ2 H2 q=>⟨xs.length - (i+1),by omega,rfl,hlt,q.1,q.2⟩,fun x H' y=>?_⟩
  obtain ⟨e,y⟩:=y
  subst e
  exact hs i ys σ' x _ (y xs (hl _ _ _ p)) sh p (by have:=hlen i ys _ p; omega)
 ·have e:i=xs.length:=by omega
  subst e
  exact .inl ⟨⟨xs,hl _ _ _ p,Qg _⟩,hd ys H p⟩
section
variable {X:Cx}
end
structure Fn (K:PySem.W.Frag) (mg:Str->Option Value) (x:Str) (st:Stmt) (ps:List Str) (f:Addr) (fd:FuncData):Prop where
 fn:Fun K x x st f fd
 mgx:mg x=some (.ref f)
 kp:PySem.W.keepIn K (.ref f)=true
 bd:oW K fd ps []
theorem bB {X:Cx} {x:Str} {st:Stmt} {ps:List Str} {f:Addr} {fd:FuncData} {k:Nat} {sp:Sp} {p pos:Pos} {e:Expr} {es:List Expr} {t:TA} (G:Fn X.K X.mg x st ps f fd) (ok:FnOk X.prog X.w X.K X.mg X.base CX0 k f fd ps sp) (hr:Room k X.A) (hg:Gl X x) (ha:PA X (e::es) t)
  (hdb:(x==("__debug__" : Str))=false:=by decide) (he:starEach (e::es) X.env=(false,eval e X.env)::starEach es X.env:=by rfl) (hpl:(backTo pos (starEach es X.env)).any (·.1)=false:=by rfl) :
  PE X (.Call (.Name x p) (e::es) [] pos) (wB sp [] E0 t):=zQ ok hr hg G.mgx G.kp G.bd .nil aET ha hdb he hpl
structure Bl (mg:Str->Option Value):Prop where
 isinstance:mg "isinstance" = none
 int:mg "int" = none
 bool:mg "bool" = none
 tuple:mg "tuple" = none
 list:mg "list" = none
 len:mg "len" = none
 all:mg "all" = none
 zip:mg "zip" = none
 range:mg "range" = none
 sorted:mg "sorted" = none
 set:mg "set" = none
 sum:mg "sum" = none
 repr:mg "repr" = none
 enumerate:mg "enumerate" = none
 min:mg "min" = none
 any:mg "any" = none
 max:mg "max" = none
 ve:mg "ValueError" = none
 hands:∃ t,mg "MOST_HANDS" = some (.int 6 t)
 works:∃ t,mg "MOST_WORKS" = some (.int 12 t)
 mc:∃ t,mg "MOST_COST" = some (.int 999 t)
theorem jO:bootBuiltins "isinstance" = some (.builtin "isinstance"):=by decide +kernel
theorem aDF:bootBuiltins "int" = some (.type "int"):=by decide +kernel
theorem yR:bootBuiltins "bool" = some (.type "bool"):=by decide +kernel
theorem cQ:bootBuiltins "tuple" = some (.type "tuple"):=by decide +kernel
theorem uX:bootBuiltins "list" = some (.type "list"):=by decide +kernel
theorem eU:bootBuiltins "len" = some (.builtin "len"):=by decide +kernel
theorem lK:bootBuiltins "all" = some (.builtin "all"):=by decide +kernel
theorem aCf:bootBuiltins "sorted" = some (.builtin "sorted"):=by decide +kernel
theorem aDG:bootBuiltins "sum" = some (.builtin "sum"):=by decide +kernel
end L2
namespace Ab
open PySem L2
def top (i:Nat):Stmt:=PySem.Challenge.pw_ablehands_k34_no_costs.main.body.getD i (.Pass ⟨0,0,0,0⟩)
abbrev mP:Stmt:=top 16
abbrev qU:Stmt:=top 17
abbrev qV:Stmt:=top 18
abbrev qW:Stmt:=top 19
abbrev uY:Stmt:=top 20
abbrev yS:Stmt:=top 21
abbrev yT:Stmt:=top 22
abbrev gH:Stmt:=top 24
abbrev iP:Stmt:=top 26
abbrev lL:Stmt:=top 27
abbrev uZ:Stmt:=top 28
abbrev kB:Stmt:=top 29
abbrev fJ:Stmt:=top 32
abbrev fV:Stmt:=top 33
abbrev jT:Stmt:=top 34
abbrev kJ:Stmt:=top 35
abbrev tE:Stmt:=top 36
abbrev pN:Stmt:=top 37
abbrev mQ:Stmt:=top 38
abbrev nQ:Stmt:=top 39
abbrev lM:Stmt:=top 40
abbrev aAe:Stmt:=top 42
abbrev aAf:Stmt:=top 43
abbrev jP:Stmt:=top 44
abbrev qX:Stmt:=top 45
abbrev qY:Stmt:=top 46
abbrev nR:Stmt:=top 47
abbrev vA:Stmt:=top 48
abbrev vB:Stmt:=top 49
abbrev nS:Stmt:=top 50
abbrev nU:Stmt:=top 51
abbrev aCg:Stmt:=top 52
def iL:PyData->Bool
 | .int _=>true
 | _=>false
def jH:PyData->Bool
 | .int i=>decide (1<=i) && decide (i<=6)
 | _=>false
def dL (hands:Int):Int->List PyData->Bool
 | _,[]=>true
 | last,.int i::r=>decide (last < i) && decide (i < hands) && dL hands i r
 | _,_::_=>false
def bR (hands:Int):PyData->Bool
 | .tuple ds=>!ds.isEmpty && dL hands (-1) ds
 | _=>false
def aEk:PyData->PyData->Bool
 | .int h,.tuple ws=>decide (1<=h) && decide (h<=6) && decide (ws.length<=12) && ws.all (bR h)
 | _,_=>false
def bZ:PyData->Bool
 | .tuple [dh,dw]=>aEk dh dw
 | _=>false
section
variable {P:Program} {w:World} {K:PySem.W.Frag} {mg:Str->Option Value} {base:Heap}
def kK (K:PySem.W.Frag):Sp:=fun vs H Q _=>∃ x d,vs = [x]/\Den K H d x/\Q (.bl (iL d)) H
theorem aDk:FnScope ["thing"] ["thing"] (aI mP):=⟨rfl,rfl,rfl,by decide +kernel,rfl,by decide +kernel,by decide +kernel⟩
theorem kC {f:Addr} {fd:FuncData} (G:Fn K mg "is_whole" mP ["thing"] f fd) (B:Bl mg):FnOk P w K mg base CX0 1 f fd ["thing"] (kK K):=by
 refine G.fn.ok aDk (fun vs H Q E h=>?_) (fun cdv A outer s H vs Q E hr h=>?_)
 ·obtain ⟨x,d,rfl,_⟩:=h
  rfl
 ·obtain ⟨x,d,rfl,hd,k⟩:=h
  refine ⟨_,aF (aQ (pT (aL uE rfl B.isinstance jO (aA (pv 0) (aA (gJ (v:=.ty "int") rfl B.int aDF rfl) aB)))
   (oG (aDP (aL rZ rfl B.isinstance jO (aA (pv 0) (aA (gJ (v:=.ty "bool") rfl B.bool yR rfl) aB))))))),?_⟩
  refine ⟨_,rfl,x,jY d,rfl,hd.kd,_,rfl,?_⟩
  refine gE (fun c=>?_) (fun c=>?_)
  ·refine ⟨_,rfl,x,jY d,rfl,hd.kd,_,rfl,?_⟩
   have e:(!decide (jY d=Kd.bl))=iL d:=by
    cases d <;> first | rfl | (exfalso; simp [jY] at c)
   rw [e]
   exact k
  ·have e:false=iL d:=by
    cases d <;> first | rfl | (exfalso; simp [jY] at c)
   rw [e]
   exact k
def aAg (K:PySem.W.Frag):Sp:=fun vs H Q _=>∃ x d,vs = [x]/\Den K H d x/\Q (.bl (jH d)) H
theorem aDl:FnScope ["thing"] ["thing"] (aI qU):=⟨rfl,rfl,rfl,by decide +kernel,rfl,by decide +kernel,by decide +kernel⟩
theorem aCh {f fW:Addr} {fd fdW:FuncData} (G:Fn K mg "are_hands" qU ["thing"] f fd) (B:Bl mg) (W:Fn K mg "is_whole" mP ["thing"] fW fdW):FnOk P w K mg base CX0 2 f fd ["thing"] (aAg K):=by
 have GW:FnOk P w K mg base CX0 1 fW fdW ["thing"] (kK K):=kC W B
 obtain ⟨t6,h6⟩:=B.hands
 refine G.fn.ok aDl (fun vs H Q E h=>?_) (fun cdv A outer s H vs Q E hr h=>?_)
 ·obtain ⟨x,d,rfl,_⟩:=h
  rfl
 ·obtain ⟨x,d,rfl,hd,k⟩:=h
  refine ⟨_,aF (aQ (pT (bB W GW hr rfl (aA (pv 0) aB))
   (oG (pX lC lC aG (pv 0) (lV (v:=.int 6) rfl h6 ⟨t6,rfl⟩))))),?_⟩
  refine ⟨_,rfl,x,d,rfl,hd,_,rfl,?_⟩
  refine gE (fun c=>?_) (fun c=>?_)
  ·obtain ⟨i,rfl⟩:∃ i,d=.int i:=by cases d <;> first | exact ⟨_,rfl⟩ | (exfalso; simp [iL] at c)
   obtain rfl:=bV.mp hd
   refine ⟨_,rfl,_,_,rfl,rfl,_,rfl,?_⟩
   refine gE (fun c1=>?_) (fun c1=>?_)
   ·refine ⟨_,_,rfl,rfl,?_⟩
    have e:decide (i<=6)=jH (.int i):=by
     show _=(decide (1<=i) && decide (i<=6))
     rw [c1,Jv]
    show Q (.bl (decide (i<=6))) H
    rw [e]; exact k
   ·have e:false=jH (.int i):=by
     show _=(decide (1<=i) && decide (i<=6))
     have c2:decide (1<=i)=false:=by simpa using c1
     rw [c2,Xa]
    rw [e]; exact k
  ·have e:false=jH d:=by cases d <;> first | rfl | (exfalso; simp [iL] at c)
   rw [e]; exact k
theorem iU (h l i:Int) (r:List PyData):dL h l (.int i::r)=(decide (l < i) && decide (i < h) && dL h i r):=by rw [dL]
theorem qZ (h l:Int) (d:PyData) (r:List PyData) (n:iL d=false):dL h l (d::r)=false:=by
 cases d <;> first | rfl | (simp [iL] at n)
def aAh (K:PySem.W.Frag):Sp:=fun vs H Q _=>∃ n x d,vs = [.int n,x]/\Den K H d x/\Q (.bl (bR n d)) H
theorem pO:FnScope ["hands", "thing", "last", "hand"] ["hands", "thing"] (aI qV):=⟨rfl,rfl,rfl,by decide +kernel,rfl,by decide +kernel,by decide +kernel⟩
theorem aCi {f fW:Addr} {fd fdW:FuncData} (G:Fn K mg "is_work" qV ["hands", "thing"] f fd) (B:Bl mg) (W:Fn K mg "is_whole" mP ["thing"] fW fdW):FnOk P w K mg base CX0 2 f fd ["hands", "thing"] (aAh K):=by
 have GW:FnOk P w K mg base CX0 1 fW fdW ["thing"] (kK K):=kC W B
 refine G.fn.ok pO (fun vs H Q E h=>?_) (fun cdv A outer s H vs Q E hr h=>?_)
 ·obtain ⟨n,x,d,rfl,_⟩:=h
  rfl
 ·obtain ⟨n,x,d,rfl,hd,k⟩:=h
  refine ⟨_,aE (cF (PW.pt (jX (cV (cU (aL cH rfl B.isinstance jO (aA (pv 1) (aA (gJ (v:=.ty "tuple") rfl B.tuple cQ rfl) aB)))))
    (jC (bE wA (aL bU rfl B.len eU (aA (pv 1) aB)) aG (bJ _))))) (aF (aQ dO)) aW)
   (aE (aS (i:=2) pO.nd rfl (Or.inl rfl) (kU iS aG))
   (aE (cO PassesOwn.never rfl (gW (pv 1)) (aK (i:=3) pO.nd rfl (Or.inl rfl))
    (aE (cF (PW.pt (jX (cV (cU (bB W GW hr rfl (aA (pv 3) aB)))) (jX (bE lC (pv 3) (pv 2) (bJ _)) (jC (bE aEN (pv 3) (pv 0) (bJ _)))))) (aF (aQ dO)) aW)
    (aF (aS (i:=2) pO.nd rfl (Or.inl rfl) (pv 3)))))
   (aF (aQ dO)))),?_⟩
  refine ⟨_,rfl,x,jY d,rfl,hd.kd,_,rfl,?_⟩
  refine gE (fun c=>?_) (fun c=>?_)
  ·-- not a tuple
   refine eP ?_
   have e:false=bR n d:=by
    cases d <;> first | rfl | (exfalso; simp [jY] at c)
   rw [e]; exact k
  ·obtain ⟨ds,rfl⟩:∃ ds,d=.tuple ds:=by cases d <;> first | exact ⟨_,rfl⟩ | (exfalso; simp [jY] at c)
   obtain ⟨a,xs,rfl,ha,hds⟩:=aO.mp hd
   have hl:=aJ hds
   refine ⟨_,rfl,a,xs,rfl,.inr ha,rfl,_,rfl,?_⟩
   refine gE (fun c2=>?_) (fun c2=>?_)
   ·have e:false=bR n (.tuple ds):=by
     have e1:ds = []:=by
      have:(xs.length:Int)=0:=by simpa using c2
      exact Yf.mp (by omega)
     rw [e1]; rfl
    rw [e]; exact k
   ·have hne:ds≠[]:=by
     intro z
     apply c2
     rw [z] at hl
     simp [hl]
    have e0:bR n (.tuple ds)=dL n (-1) ds:=by
     show (!ds.isEmpty && dL n (-1) ds)=_
     cases ds with
     | nil=>exact absurd rfl hne
     | cons _ _=>rfl
    rw [e0] at k
    refine ⟨_,rfl,?_⟩
    refine ⟨_,rfl,a,rfl,⟨xs,ha⟩,tZ (K:=K) (a:=a) (xs:=xs) (fun i σ H2=>∃ (last:Int) (v:Option V),σ = [some (.int n),some (.ref a),some (.int last),v]/\H2=H/\dL n (-1) ds=dL n last (ds.drop i))
     ⟨-1,none,rfl,rfl,rfl⟩ (fun i σ H2 _ ⟨_,_,_,e,_⟩=>by rw [e]; exact ha) ?_ ?_⟩
    ·rintro i y σ H2 hi ⟨last,v,rfl,rfl,hr2⟩
     obtain ⟨dy,hdy,hden⟩:=cI hds hi
     have hdrop:ds.drop i=dy::ds.drop (i+1):=by
      obtain ⟨hlt,e⟩:=Qd.mp hdy
      rw [Xl hlt,e]
     rw [hdrop] at hr2
     refine ⟨_,rfl,y,dy,rfl,hden,_,rfl,?_⟩
     refine gE (fun c3=>?_) (fun c3=>?_)
     ·refine eP ?_
      have e:false=dL n (-1) ds:=by rw [hr2,qZ]; simpa using c3
      rw [e]; exact k
     ·obtain ⟨j,rfl⟩:∃ j,dy=.int j:=by cases dy <;> first | exact ⟨_,rfl⟩ | (exfalso; simp [iL] at c3)
      obtain rfl:=bV.mp hden
      rw [iU] at hr2
      refine ⟨_,rfl,_,rfl,_,_,rfl,rfl,_,rfl,?_⟩
      refine gE (fun c4=>?_) (fun c4=>?_)
      ·refine eP ?_
       have c4':j<=last:=of_decide_eq_true c4
       have e:false=dL n (-1) ds:=by rw [hr2,decide_eq_false (by omega:¬ last < j)]; rfl
       rw [e]; exact k
      ·have c4':¬ j<=last:=fun z=>c4 (decide_eq_true z)
       refine ⟨_,rfl,_,rfl,_,_,rfl,rfl,_,rfl,?_⟩
       refine gE (fun c5=>?_) (fun c5=>?_)
       ·have c5':n<=j:=of_decide_eq_true c5
        have e:false=dL n (-1) ds:=by rw [hr2,decide_eq_false (by omega:¬ j < n),Xo]; rfl
        rw [e]; exact k
       ·have c5':¬ n<=j:=fun z=>c5 (decide_eq_true z)
        refine ⟨_,rfl,j,some (.int j),rfl,rfl,?_⟩
        rw [hr2,decide_eq_true (by omega:last < j),decide_eq_true (by omega:j < n)]
        rfl
    ·rintro σ H2 ⟨last,v,rfl,rfl,hr2⟩
     have e:true=dL n (-1) ds:=by
      rw [hr2,hl,List.drop_length]
      rfl
     show Q (.bl true) _
     rw [e]; exact k
theorem vC {σ:St} {H:Hp} {A B:Hp->Prop} (h:A H):wG σ H fun b H3=>if b=true then A H3 else B H3:=by
 show if true=true then A H else B H
 exact eP h
theorem cX {i:Nat} {x:V} {σ:St} {H:Hp} {A B:St->Hp->Prop} (h:A (σ.set i (some x)) H):jL i x σ H fun σ2 H2=>wG σ2 H2 fun b H3=>if b=true then A σ2 H3 else B σ2 H3:=by
 show if true=true then A (σ.set i (some x)) H else B (σ.set i (some x)) H
 exact eP h
def vD (K:PySem.W.Frag):Sp:=fun vs H Q _=>∃ x d,vs = [x]/\Den K H d x/\∀ H',aD H H'->Q (.bl (bZ d)) H'
theorem vE:FnScope ["thing", "hands", "works"] ["thing"] (aI qW):=⟨rfl,rfl,rfl,by decide +kernel,rfl,by decide +kernel,by decide +kernel⟩
theorem xD {f fW fH fK:Addr} {fd fdW fdH fdK:FuncData} (G:Fn K mg "is_book" qW ["thing"] f fd) (B:Bl mg) (W:Fn K mg "is_whole" mP ["thing"] fW fdW) (GH:Fn K mg "are_hands" qU ["thing"] fH fdH) (GK:Fn K mg "is_work" qV ["hands", "thing"] fK fdK):FnOk P w K mg base CX0 3 f fd ["thing"] (vD K):=by
 have OH:FnOk P w K mg base CX0 2 fH fdH ["thing"] (aAg K):=aCh GH B W
 have OK:FnOk P w K mg base CX0 2 fK fdK ["hands", "thing"] (aAh K):=aCi GK B W
 obtain ⟨t12,h12⟩:=B.works
 refine G.fn.ok vE (fun vs H Q E h=>?_) (fun cdv A outer s H vs Q E hr h=>?_)
 ·obtain ⟨x,d,rfl,_⟩:=h
  rfl
 ·obtain ⟨x,d,rfl,hd,k⟩:=h
  refine ⟨_,aE (cF (PW.pt (jX (cV (cU (aL cH rfl B.isinstance jO (aA (pv 0) (aA (gJ (v:=.ty "tuple") rfl B.tuple cQ rfl) aB)))))
    (jC (bE iX (aL bU rfl B.len eU (aA (pv 0) aB)) aG (bJ _))))) (aF (aQ dO)) aW)
   (aE (pU (pv 0) (jR rfl (aV (aK (i:=1) vE.nd rfl (Or.inr rfl)) (aV (aK (i:=2) vE.nd rfl (Or.inl rfl)) eF))))
   (aE (cF (cV (cU (bB GH OH hr rfl (aA (pv 1) aB)))) (aF (aQ dO)) aW)
   (aE (cF (PW.pt (jX (cV (cU (aL cH rfl B.isinstance jO (aA (pv 2) (aA (gJ (v:=.ty "tuple") rfl B.tuple cQ rfl) aB)))))
    (jC (bE aBt (aL bU rfl B.len eU (aA (pv 2) aB)) (lV (v:=.int 12) rfl h12 ⟨t12,rfl⟩) (bJ _))))) (aF (aQ dO)) aW)
   (aF (aQ (aL (eY rfl) rfl B.all lK (aA
    (cM (own:=["work"]) (fr:=[1]) (frn:=["hands"]) (bA (aI qW) ["thing", "hands", "works"] rfl rfl (by decide +kernel)) rfl (gW (pv 2))
     (fun _ _ _ _=>aK (i:=0) (show (["work", "hands"]:List Str).Nodup by decide +kernel) rfl (Or.inl rfl)) (fun _ _ _ _=>cW) (fun _ _ _ _=>bB GK OK hr rfl (aA (pv 1) (aA (pv 0) aB)))) aB))))))),?_⟩
  refine ⟨_,rfl,x,jY d,rfl,hd.kd,_,rfl,?_⟩
  refine gE (fun c=>?_) (fun c=>?_)
  ·refine eP ?_
   have e:false=bZ d:=by
    cases d <;> first | rfl | (exfalso; simp [jY] at c)
   rw [e]; exact k H (aD.refl H)
  ·obtain ⟨ds,rfl⟩:∃ ds,d=.tuple ds:=by cases d <;> first | exact ⟨_,rfl⟩ | (exfalso; simp [jY] at c)
   obtain ⟨a,xs,rfl,ha,hds⟩:=aO.mp hd
   have hl:=aJ hds
   refine ⟨_,rfl,a,xs,rfl,.inr ha,rfl,_,rfl,?_⟩
   refine gE (fun c2=>?_) (fun c2=>?_)
   ·have e:false=bZ (.tuple ds):=by
     match ds,hl,c2 with
     | [],_,_=>rfl
     | [_],_,_=>rfl
     | [_,_],hl,c2=>exfalso; rw [hl] at c2; simp at c2
     | _::_::_::_,_,_=>rfl
    rw [e]; exact k H (aD.refl H)
   ·obtain ⟨dh,dw,rfl⟩:∃ dh dw,ds = [dh,dw]:=by
     match ds,hl,c2 with
     | [],hl,c2=>exfalso; rw [hl] at c2; simp at c2
     | [_],hl,c2=>exfalso; rw [hl] at c2; simp at c2
     | [p,q],_,_=>exact ⟨p,q,rfl⟩
     | p::q::r::t,hl,c2=>exfalso; apply c2; rw [hl]; simp; omega
    obtain ⟨xh,r1,rfl,hh,h2⟩:=aM.mp hds
    obtain ⟨xw,r2,rfl,hw,h3⟩:=aM.mp h2
    obtain rfl:=aN.mp h3
    -- hands,works=thing
    refine ⟨_,rfl,a,_,rfl,ha,rfl,_,_,rfl,_,_,rfl,rfl,?_⟩
    -- are_hands(hands)
    refine ⟨_,rfl,xh,dh,rfl,hh,_,rfl,?_⟩
    refine gE (fun c3=>?_) (fun c3=>?_)
    ·have e:false=bZ (.tuple [dh,dw]):=by
      have c3':jH dh=false:=by simpa using c3
      cases dh with
      | int n =>
       cases dw with
       | tuple ws =>
        have c4:(decide (1<=n) && decide (n<=6))=false:=c3'
        show _=(decide (1<=n) && decide (n<=6) && decide (ws.length<=12) && ws.all (bR n))
        rw [c4]; rfl
       | _=>rfl
      | _=>rfl
     rw [e]; exact k H (aD.refl H)
    ·obtain ⟨n,rfl,hn⟩:∃ n,dh=.int n/\(decide (1<=n) && decide (n<=6))=true:=by
      cases dh <;> first | exact ⟨_,rfl,by simpa [jH] using c3⟩ | (exfalso; simp [jH] at c3)
     obtain rfl:=bV.mp hh
     refine ⟨_,rfl,xw,jY dw,rfl,hw.kd,_,rfl,?_⟩
     refine gE (fun c5=>?_) (fun c5=>?_)
     ·refine eP ?_
      have e:false=bZ (.tuple [.int n,dw]):=by
       cases dw <;> first | rfl | (exfalso; simp [jY] at c5)
      rw [e]; exact k H (aD.refl H)
     ·obtain ⟨ws,rfl⟩:∃ ws,dw=.tuple ws:=by cases dw <;> first | exact ⟨_,rfl⟩ | (exfalso; simp [jY] at c5)
      obtain ⟨b,ys,rfl,hb,hws⟩:=aO.mp hw
      have hlw:=aJ hws
      have eB:bZ (.tuple [.int n,.tuple ws])=(decide (ws.length<=12) && ws.all (bR n)):=by
       show (decide (1<=n) && decide (n<=6) && decide (ws.length<=12) && ws.all (bR n))=_
       rw [hn,Jv]
      rw [eB] at k
      refine ⟨_,rfl,b,ys,rfl,.inr hb,_,_,rfl,rfl,_,rfl,?_⟩
      refine gE (fun c6=>?_) (fun c6=>?_)
      ·have c6':(12:Int) < ys.length:=of_decide_eq_true c6
       have e:false=(decide (ws.length<=12) && ws.all (bR n)):=by rw [decide_eq_false (by omega:¬ ws.length<=12)]; rfl
       rw [e]; exact k H (aD.refl H)
      ·have c6':¬ (12:Int) < ys.length:=fun z=>c6 (decide_eq_true z)
       have e1:decide (ws.length<=12)=true:=decide_eq_true (by omega)
       rw [e1,Jv] at k
       refine ⟨_,rfl,b,rfl,⟨ys,hb⟩,nI (K:=K) (a:=b) (xs:=ys) (fun σ=>∃ v,σ = [v,some (.int n)]) (fun i zs H2=>H2=H/\zs=((ws.take i).map (bR n)).map V.bl) ?_ ⟨none,rfl⟩ ⟨rfl,rfl⟩ ?_ ?_ ?_ ?_⟩
       ·rw [sizeLine_eq]; omega
       ·rintro i zs H2 ⟨_,rfl⟩
        rw [Qb,Qb,Qu]; omega
       ·rintro i zs H2 ⟨rfl,_⟩
        exact hb
       ·rintro i zs σ x H2 hx ⟨v,rfl⟩ ⟨rfl,rfl⟩ hz
        obtain ⟨dx,hdx,hden⟩:=cI hws hx
        refine cX ?_
        refine ⟨_,rfl,_,rfl,n,x,dx,rfl,hden,hz,⟨some x,rfl⟩,rfl,?_⟩
        rw [Jn,hdx]
        simp
       ·rintro zs H2 ⟨rfl,rfl⟩ p hp
        refine ⟨p,_,rfl,SqL.of aC,?_⟩
        have e2:((ws.take ys.length).map (bR n)).all id=ws.all (bR n):=by
         rw [hlw,Ju,Xw]
         rfl
        rw [e2]
        exact k _ (aD.new hp)
end
def bP (l:List Int):PyData:=.tuple (l.map .int)
def cN (n:Int) (ws:List (List Int)):PyData:=.tuple [.int n,.tuple (ws.map bP)]
def lN (hs:List Int):PyData:=.tuple (hs.map .int)
def eK:PyData->List Int->Bool
 | .int i,l=>l.any (·==i)
 | _,_=>false
def gA (ws:List (List Int)):PyData->Bool
 | .tuple hs=>decide (hs.length=ws.length) && (hs.zip ws).all fun p=>eK p.1 p.2
 | _=>false
theorem tF (l:List Int):(l.map V.int).all nE=true:=by
 rw [Xw]
 exact Jo.mpr fun _ _=>rfl
theorem aAi (i:Int) (l:List Int):inV (.int i) (l.map V.int)=l.any (·==i):=by
 unfold inV
 rw [Wb]
 rfl
theorem cP {K:PySem.W.Frag} {H:Hp} {n:Int} {ws:List (List Int)} {x:V} (h:Den K H (cN n ws) x):∃ a b ys,x=.ref a/\SqT K H a [.int n,.ref b]/\SqT K H b ys/\aU K H (ws.map bP) ys:=by
 obtain ⟨a,xs,rfl,ha,hds⟩:=aO.mp h
 obtain ⟨xh,r1,rfl,hh,h2⟩:=aM.mp hds
 obtain ⟨xw,r2,rfl,hw,h3⟩:=aM.mp h2
 obtain rfl:=aN.mp h3
 obtain rfl:=bV.mp hh
 obtain ⟨b,ys,rfl,hb,hys⟩:=aO.mp hw
 exact ⟨a,b,ys,rfl,ha,hb,hys⟩
theorem bM {n:Int} {ws:List (List Int)} (h:bZ (cN n ws)=true):1<=n/\n<=6/\ws.length<=12/\∀ l∈ws,bR n (bP l)=true:=by
 have h':(decide (1<=n) && decide (n<=6) && decide ((ws.map bP).length<=12) && (ws.map bP).all (bR n))=true:=h
 simp only [Jg,decide_eq_true_eq,Qb,Jo] at h'
 exact ⟨h'.1.1.1,h'.1.1.2,h'.1.2,fun l hl=>h'.2 _ (Jw.mpr ⟨l,hl,rfl⟩)⟩
theorem kL {X:Cx} {pos:Pos} {es:List Expr} {k:Nat} {t:TGs} {n:Nat} {K:PySem.W.Frag} (hK:X.K=K) (hc:X.calm=true) (h:PGs X es t)
  (hn:(assignEach es X.env).length=n:=by rfl) (hst:(assignEach es X.env).findIdx? (·.1)=none:=by rfl):PG X (.Tuple es k pos) (aEG K n t):=by
 subst hK
 exact jR hc h hn hst
section
variable {X:Cx} {K:PySem.W.Frag}
theorem yU (hK:X.K=K):OpR X (compareOp .In) (rIn K false):=by subst hK; exact sR
theorem eG (hK:X.K=K):IxR X (aD2 K):=by subst hK; exact dU
theorem bL (hK:X.K=K):eJ X (.builtin "len") (fun xs H Q=>∃ p ys,xs = [.ref p]/\(SqL K H p ys∨SqT K H p ys)/\Q (.int ys.length) H):=by subst hK; exact bU
theorem yV (hK:X.K=K):MtR X "tuple.count" (fun x vs H Q=>∃ (a:Addr) (ns:List Int) (n:Int),x=.ref a/\vs = [.int n]/\SqT K H a (ns.map V.int)/\Q (.int (ns.count n:Nat)) H):=by subst hK; exact aAP
end
section
variable {P:Program} {w:World} {K:PySem.W.Frag} {mg:Str->Option Value} {base:Heap}
structure Pr (K:PySem.W.Frag) (mg:Str->Option Value) (fW fH fK fB fNB fD fND:Addr) (dW dH dK dB dNB dD dND:FuncData):Prop where
 W:Fn K mg "is_whole" mP ["thing"] fW dW
 H:Fn K mg "are_hands" qU ["thing"] fH dH
 Kw:Fn K mg "is_work" qV ["hands", "thing"] fK dK
 B:Fn K mg "is_book" qW ["thing"] fB dB
 NB:Fn K mg "need_book" yS ["book"] fNB dNB
 D:Fn K mg "is_deal" uY ["book", "thing"] fD dD
 ND:Fn K mg "need_deal" yT ["book", "deal"] fND dND
variable {fW fH fK fB fNB fD fND:Addr} {dW dH dK dB dNB dD dND:FuncData}
def pP (K:PySem.W.Frag):Sp:=fun vs H Q _=>∃ x d,vs = [x]/\Den K H d x/\bZ d=true/\∀ H',aD H H'->Q .non H'
theorem aAj:FnScope ["book"] ["book"] (aI yS):=⟨rfl,rfl,rfl,by decide +kernel,rfl,by decide +kernel,by decide +kernel⟩
theorem rA (B:Bl mg) (R:Pr K mg fW fH fK fB fNB fD fND dW dH dK dB dNB dD dND):FnOk P w K mg base CX0 4 fNB dNB ["book"] (pP K):=by
 have OB:FnOk P w K mg base CX0 3 fB dB ["thing"] (vD K):=xD R.B B R.W R.H R.Kw
 refine R.NB.fn.ok aAj (fun vs H Q E h=>?_) (fun cdv A outer s H vs Q E hr h=>?_)
 ·obtain ⟨x,d,rfl,_⟩:=h
  rfl
 ·obtain ⟨x,d,rfl,hd,hb,k⟩:=h
  refine ⟨_,aF (cF (cV (cU (bB R.B OB hr rfl (aA (pv 0) aB)))) gO aW),?_⟩
  refine ⟨_,rfl,x,d,rfl,hd,fun H' hs=>⟨_,rfl,?_⟩⟩
  rw [hb]
  refine eO ?_
  exact k H' hs
def vF (K:PySem.W.Frag):Sp:=fun vs H Q _=>∃ x y n ws d,vs = [x,y]/\Den K H (cN n ws) x/\bZ (cN n ws)=true/\Den K H d y/\∀ H',aD H H'->Q (.bl (gA ws d)) H'
theorem vG:FnScope ["book", "thing", "works"] ["book", "thing"] (aI uY):=⟨rfl,rfl,rfl,by decide +kernel,rfl,by decide +kernel,by decide +kernel⟩
theorem xE (B:Bl mg) (R:Pr K mg fW fH fK fB fNB fD fND dW dH dK dB dNB dD dND):FnOk P w K mg base CX0 5 fD dD ["book", "thing"] (vF K):=by
 have ON:FnOk P w K mg base CX0 4 fNB dNB ["book"] (pP K):=rA B R
 have OW:FnOk P w K mg base CX0 1 fW dW ["thing"] (kK K):=kC R.W B
 refine R.D.fn.ok vG (fun vs H Q E h=>?_) (fun cdv A outer s H vs Q E hr h=>?_)
 ·obtain ⟨x,y,n,ws,d,rfl,_⟩:=h
  rfl
 ·obtain ⟨x,y,n,ws,d,rfl,hx,hb,hd,k⟩:=h
  have hr1:Room 1 _:=hr.mono (by decide)
  refine ⟨_,aE (bI (bB R.NB ON hr rfl (aA (pv 0) aB)))
   (aE (aS (i:=2) vG.nd rfl (Or.inl rfl) (bS dU (pv 0) aG (fun _ _=>rfl)))
   (aE (cF (PW.pt (jX (cV (cU (aL cH rfl B.isinstance jO (aA (pv 1) (aA (gJ (v:=.ty "tuple") rfl B.tuple cQ rfl) aB)))))
    (jC (bE iX (aL bU rfl B.len eU (aA (pv 1) aB)) (aL bU rfl B.len eU (aA (pv 2) aB)) (bJ _))))) (aF (aQ dO)) aW)
   (aF (aQ (aL (eY rfl) rfl B.all lK (aA
    (cM (own:=["hand", "able"]) (fr:=[]) (frn:=[]) (bA (aI uY) ["book", "thing", "works"] rfl rfl (by decide +kernel)) rfl (oJ .t .t rfl B.zip (aA (pv 1) (aA (pv 2) aB)))
     (fun _ _ _ _=>kL (K:=K) (n:=2) rfl rfl (aV (aK (i:=0) (show (["hand", "able"]:List Str).Nodup by decide +kernel) rfl (Or.inl rfl)) (aV (aK (i:=1) (show (["hand", "able"]:List Str).Nodup by decide +kernel) rfl (Or.inl rfl)) eF)))
     (fun _ _ _ _=>cW) (fun _ _ _ _=>pT (bB R.W OW hr1 rfl (aA (pv 0) aB)) (oG (kF (yU (K:=K) rfl) (pv 0) (pv 1) (by with_unfolding_all rfl))))) aB)))))),?_⟩
  refine ⟨_,rfl,x,cN n ws,rfl,hx,hb,fun H1 s1=>?_⟩
  have hx1:=s1.den _ _ hx
  have hd1:=s1.den _ _ hd
  obtain ⟨a,b,ys,rfl,ha,hb2,hys⟩:=cP hx1
  have hlw:=aJ hys
  rw [Qb] at hlw
  refine ⟨_,rfl,a,_,1,.ref b,rfl,rfl,ha,rfl,?_⟩
  refine ⟨_,rfl,y,jY d,rfl,hd1.kd,_,rfl,?_⟩
  refine gE (fun c=>?_) (fun c=>?_)
  ·refine eP ?_
   have e:false=gA ws d:=by
    cases d <;> first | rfl | (exfalso; simp [jY] at c)
   rw [e]; exact k H1 s1
  ·obtain ⟨hs,rfl⟩:∃ hs,d=.tuple hs:=by cases d <;> first | exact ⟨_,rfl⟩ | (exfalso; simp [jY] at c)
   obtain ⟨a2,xs,rfl,ha2,hxs⟩:=aO.mp hd1
   have hlx:=aJ hxs
   refine ⟨_,rfl,a2,xs,rfl,.inr ha2,_,rfl,b,ys,rfl,.inr hb2,rfl,_,rfl,?_⟩
   refine gE (fun c2=>?_) (fun c2=>?_)
   ·have e:false=gA ws (.tuple hs):=by
     show _=(decide (hs.length=ws.length) && (hs.zip ws).all fun p=>eK p.1 p.2)
     rw [decide_eq_false]
     ·rfl
     ·intro z
      have:(V.int (xs.length:Int)=V.int (ys.length:Int)):=by rw [hlx,hlw,z]
      simp [this] at c2
    rw [e]; exact k H1 s1
   ·have heq:xs.length=ys.length:=by
     have:V.int (xs.length:Int)=V.int (ys.length:Int):=by simpa using c2
     injection this with this
     omega
    have e0:gA ws (.tuple hs)=(hs.zip ws).all fun p=>eK p.1 p.2:=by
     show (decide (hs.length=ws.length) && _)=_
     rw [decide_eq_true (by omega:hs.length=ws.length),Jv]
    rw [e0] at k
    obtain ⟨_,_,h12,_⟩:=bM hb
    refine ⟨_,rfl,_,rfl,a2,b,xs,ys,rfl,ha2,hb2,qI (K:=K) (k1:=.t) (k2:=.t) (a:=a2) (b:=b) (xs:=xs) (ys:=ys) (fun σ=>∃ u v,σ = [u,v]) (fun i zs H2=>aD H1 H2/\zs=(((hs.zip ws).take i).map fun p=>eK p.1 p.2).map V.bl) ?_ heq ⟨none,none,rfl⟩ ⟨aD.refl H1,rfl⟩ ?_ ?_ ?_ ?_⟩
    ·rw [sizeLine_eq]; omega
    ·rintro i zs H2 ⟨_,rfl⟩
     rw [Qb,Qb,Qu]; omega
    ·rintro i zs H2 ⟨s2,_⟩
     exact ⟨s2.seqT ha2,s2.seqT hb2⟩
    ·rintro i zs σ u v p H2 hu hv ⟨u0,v0,rfl⟩ ⟨s2,rfl⟩ hp hz
     obtain ⟨du,hdu,denu⟩:=cI hxs hu
     obtain ⟨dv,hdv,denv⟩:=cI hys hv
     rw [Qi] at hdv
     obtain ⟨l,hl,rfl⟩:∃ l,ws[i]?=some l/\bP l=dv:=by
      cases q:ws[i]? with
      | none=>rw [q] at hdv; cases hdv
      | some l=>rw [q] at hdv; exact ⟨l,rfl,Option.some.inj hdv⟩
     have s3:aD H1 (upd H2 p (.tup [u,v])):=s2.trans (aD.new hp)
     have hzip:(hs.zip ws)[i]?=some (du,l):=by rw [Jl]; exact ⟨hdu,hl⟩
     have enext:(((hs.zip ws).take (i+1)).map fun p=>eK p.1 p.2).map V.bl=(((hs.zip ws).take i).map fun p=>eK p.1 p.2).map V.bl++[V.bl (eK du l)]:=by
      rw [Jn,hzip]; simp
     refine ⟨p,_,rfl,SqT.of aC,rfl,_,_,rfl,_,_,rfl,rfl,?_⟩
     refine vC ?_
     refine ⟨_,rfl,u,du,rfl,s3.den _ _ denu,_,rfl,?_⟩
     refine gE (fun c3=>?_) (fun c3=>?_)
     ·obtain ⟨j,rfl⟩:∃ j,du=.int j:=by cases du <;> first | exact ⟨_,rfl⟩ | (exfalso; simp [iL] at c3)
      obtain rfl:=bV.mp denu
      obtain ⟨av,rfl,hav⟩:=aR.mp denv
      refine ⟨_,rfl,_,rfl,av,_,rfl,.inr (s3.seqT hav),rfl,tF l,hz,⟨_,_,rfl⟩,s3,?_⟩
      rw [enext]
      show _++[V.bl (inV (.int j) (l.map V.int))]=_
      rw [aAi]
      rfl
     ·have e:eK du l=false:=by cases du <;> first | rfl | (exfalso; simp [iL] at c3)
      refine ⟨hz,⟨_,_,rfl⟩,s3,?_⟩
      rw [enext,e]
    ·rintro zs H2 ⟨s2,rfl⟩ p hp
     refine ⟨p,_,rfl,SqL.of aC,?_⟩
     have e2:(((hs.zip ws).take xs.length).map fun p=>eK p.1 p.2).all id=(hs.zip ws).all fun p=>eK p.1 p.2:=by
      rw [Jj (by rw [Yl]; omega),Xw]
      rfl
     rw [e2]
     exact k _ (s1.trans (s2.trans (aD.new hp)))
end
def dZ (n:Int) (hs:List Int):List Int:=(yG n.toNat).map fun h=>((hs.count h:Nat):Int)
theorem xF {n i:Nat} (h:i < n):(yG n)[i]?=some (i:Int):=by
 unfold yG
 rw [Qi,Yr h]
 rfl
theorem lO (n:Nat):(yG n).length=n:=by unfold yG; rw [Qb,List.length_range]
theorem vH {X:Cx} {K:PySem.W.Frag} {o e:Expr} {es:List Expr} {to:TE} {t:TA} {name:Str} {apos cpos:Pos} {T id:String} {r:V->List V->Hp->VK->Prop} (hK:X.K=K) (pa:PlainAttrs T) (slot:Slot T name id) (hty:typeOf (.builtin id)=pure (.type "method_descriptor")) (hm:MtR X id r) (ho:PE X o to) (ha:PA X (e::es) t)
  (hbase:attributeBase o name X.env (eval o X.env)=eval o X.env:=by rfl)
  (hfew:((backTo cpos (starEach (e::es) X.env)).all (fun x=>!x.1) && (backToKw cpos (keywordEach [] X.env)).all (fun x=>x.1.isSome)
   && decide ((e::es).length+([]:List Keyword).length+(if ([]:List Keyword).isEmpty then 0 else 1) < 30))=true:=by rfl)
  (hline:(apos.endLine==cpos.line)=true:=by rfl) (hs:starEach (e::es) X.env=(false,eval e X.env)::starEach es X.env:=by rfl) (hplain:(backTo cpos (starEach es X.env)).any (·.1)=false:=by rfl) :
  PE X (.Call (.Attribute o name apos) (e::es) [] cpos) (tBM K T r to t):=by
 subst hK
 exact gZ pa slot hty hm ho ha hbase hfew hline hs hplain
section
variable {P:Program} {w:World} {K:PySem.W.Frag} {mg:Str->Option Value} {base:Heap}
variable {fW fH fK fB fNB fD fND:Addr} {dW dH dK dB dNB dD dND:FuncData}
def kM (K:PySem.W.Frag) (H:Hp) (x y:V) (n:Int) (ws:List (List Int)) (hs:List Int):Prop:=Den K H (cN n ws) x/\bZ (cN n ws)=true/\Den K H (lN hs) y/\gA ws (lN hs)=true
theorem kM.same {H H':Hp} {x y:V} {n:Int} {ws:List (List Int)} {hs:List Int} (g:kM K H x y n ws hs) (e:aD H H'):kM K H' x y n ws hs:=⟨e.den _ _ g.1,g.2.1,e.den _ _ g.2.2.1,g.2.2.2⟩
theorem kM.len {H:Hp} {x y:V} {n:Int} {ws:List (List Int)} {hs:List Int} (g:kM K H x y n ws hs):hs.length<=12/\1<=n/\n<=6:=by
 obtain ⟨h1,h2,h3,_⟩:=bM g.2.1
 have h:(decide ((hs.map PyData.int).length=ws.length) && ((hs.map PyData.int).zip ws).all fun p=>eK p.1 p.2)=true:=g.2.2.2
 simp only [Jg,decide_eq_true_eq,Qb] at h
 omega
def nV (K:PySem.W.Frag):Sp:=fun vs H Q _=>∃ x y n ws hs,vs = [x,y]/\kM K H x y n ws hs/\∀ H',aD H H'->Q .non H'
theorem aAk:FnScope ["book", "deal"] ["book", "deal"] (aI yT):=⟨rfl,rfl,rfl,by decide +kernel,rfl,by decide +kernel,by decide +kernel⟩
theorem nW (B:Bl mg) (R:Pr K mg fW fH fK fB fNB fD fND dW dH dK dB dNB dD dND):FnOk P w K mg base CX0 6 fND dND ["book", "deal"] (nV K):=by
 have OD:FnOk P w K mg base CX0 5 fD dD ["book", "thing"] (vF K):=xE B R
 refine R.ND.fn.ok aAk (fun vs H Q E h=>?_) (fun cdv A outer s H vs Q E hr h=>?_)
 ·obtain ⟨x,y,n,ws,hs,rfl,_⟩:=h
  rfl
 ·obtain ⟨x,y,n,ws,hs,rfl,⟨g1,g2,g3,g4⟩,k⟩:=h
  refine ⟨_,aF (cF (cV (cU (bB R.D OD hr rfl (aA (pv 0) (aA (pv 1) aB))))) gO aW),?_⟩
  refine ⟨_,rfl,_,rfl,x,y,n,ws,lN hs,rfl,g1,g2,g3,fun H' hs=>⟨_,rfl,?_⟩⟩
  rw [g4]
  refine eO ?_
  exact k H' hs
end
def But (t:Addr) (H H':Hp):Prop:=∀ b o,b≠t->H b=some o->H' b=some o
theorem But.refl (t:Addr) (H:Hp):But t H H:=fun _ _ _ h=>h
theorem But.trans {t:Addr} {H H1 H2:Hp} (a:But t H H1) (b:But t H1 H2):But t H H2:=fun c o n h=>b c o n (a c o n h)
theorem But.of {t:Addr} {H H':Hp} (a:aD H H'):But t H H':=fun c o _ h=>a c o h
theorem But.at {t:Addr} {H:Hp} {u:HO}:But t H (upd H t u):=fun c o n h=>by rw [aH n]; exact h
theorem But.free {t:Addr} {H H':Hp} (e:But t H H') {l:Addr} (h:H' l=none) (n:l≠t):H l=none:=by
 cases q:H l with
 | none=>rfl
 | some o=>rw [e l o n q] at h; cases h
theorem But.rdL {t a:Addr} {H H':Hp} {xs:List V} (e:But t H H') (n:a≠t) (h:Rd H a (.lst xs)):Rd H' a (.lst xs):=by
 rcases h with h | ⟨o,h⟩
 ·exact .inl (e a _ n h)
 ·exact .inr ⟨o,e a _ n h⟩
section
variable {K:PySem.W.Frag} {t:Addr} {H H':Hp} {ys:List V}
theorem But.seqT {a:Addr} {xs:List V} (e:But t H H') (ht:H t=some (.lst ys)) (h:SqT K H a xs):SqT K H' a xs:=by
 rcases h with (h | ⟨o,h⟩) | h
 ·exact .inl (.inl (e a _ (fun z=>by rw [z,ht] at h; cases h) h))
 ·exact .inl (.inr ⟨o,e a _ (fun z=>by rw [z,ht] at h; cases h) h⟩)
 ·exact .inr h
theorem But.seqL {a:Addr} {xs:List V} (e:But t H H') (n:a≠t) (h:SqL K H a xs):SqL K H' a xs:=by
 rcases h with h | h
 ·exact .inl (e.rdL n h)
 ·exact .inr h
mutual
def eS:PyData->Bool
 | .dict _=>false
 | .list _=>false
 | .tuple ds=>hX ds
 | _=>true
def hX:List PyData->Bool
 | []=>true
 | d::ds=>eS d && hX ds
end
mutual
theorem But.den (e:But t H H') (ht:H t=some (.lst ys)):∀ (d:PyData) (v:V),eS d=true->Den K H d v->Den K H' d v
 | .none,v,_,h=>by unfold Den at h ⊢; exact h
 | .bool b,v,_,h=>by unfold Den at h ⊢; exact h
 | .int i,v,_,h=>by unfold Den at h ⊢; exact h
 | .str x,v,_,h=>by unfold Den at h ⊢; exact h
 | .list ds,v,n,h=>by unfold eS at n; cases n
 | .tuple ds,v,n,h=>by unfold eS at n; unfold Den at h ⊢; obtain ⟨a,xs,h1,h2,h3⟩:=h; exact ⟨a,xs,h1,e.seqT ht h2,But.denAll e ht ds xs n h3⟩
 | .dict kvs,v,n,h=>by unfold eS at n; cases n
theorem But.denAll (e:But t H H') (ht:H t=some (.lst ys)):∀ (ds:List PyData) (xs:List V),hX ds=true->aU K H ds xs->aU K H' ds xs
 | [],xs,_,h=>by unfold aU at h ⊢; exact h
 | d::ds,xs,n,h=>by
  unfold hX at n; rw [Jg] at n
  unfold aU at h ⊢; obtain ⟨x,r,h1,h2,h3⟩:=h; exact ⟨x,r,h1,But.den e ht d x n.1 h2,But.denAll e ht ds r n.2 h3⟩
end
end
theorem cK {α:Type} (f:α->PyData) (h:∀ x,eS (f x)=true):∀ l:List α,hX (l.map f)=true
 | []=>by unfold List.map hX; rfl
 | x::r=>by rw [Jf]; unfold hX; rw [h x,cK f h r]; rfl
theorem rB (i:Int):eS (.int i)=true:=by unfold eS; rfl
theorem cT (l:List Int):eS (bP l)=true:=by unfold bP eS; exact cK _ rB l
theorem lP (l:List Int):eS (lN l)=true:=cT l
theorem iQ (n:Int) (ws:List (List Int)):eS (cN n ws)=true:=by
 unfold cN eS hX
 rw [rB]
 unfold hX eS
 rw [cK _ cT ws]
 unfold hX
 rfl
theorem sz1 (x:V) : [x].length<=sizeLine:=by rw [sizeLine_eq]; simp
theorem sz2 (x y:V) : [x,y].length<=sizeLine:=by rw [sizeLine_eq]; simp
theorem eA {n:Nat} (h:n<=1000):n<=sizeLine:=by rw [sizeLine_eq]; omega
def fL (K:PySem.W.Frag) (H:Hp) (t a:Addr) (ns:List Int):Prop:=∃ q:Int,H t=some (.lst [.int q])
theorem fL.same {K:PySem.W.Frag} {H H':Hp} {t a:Addr} {ns:List Int} (h:fL K H t a ns) (e:aD H H'):fL K H' t a ns:=by
 obtain ⟨q,h2⟩:=h
 exact ⟨q,e t _ h2⟩
theorem fL.den {K:PySem.W.Frag} {H H':Hp} {t a:Addr} {ns:List Int} (h:fL K H t a ns) (e:But t H H') {d:PyData} {v:V} (n:eS d=true) (hd:Den K H d v):Den K H' d v:=by
 obtain ⟨q,h2⟩:=h
 exact e.den h2 d v n hd
theorem fL.denAll {K:PySem.W.Frag} {H H':Hp} {t a:Addr} {ns:List Int} (h:fL K H t a ns) (e:But t H H') {ds:List PyData} {vs:List V} (n:hX ds=true) (hd:aU K H ds vs):aU K H' ds vs:=by
 obtain ⟨q,h2⟩:=h
 exact e.denAll h2 ds vs n hd
theorem fL.seqT {K:PySem.W.Frag} {H H':Hp} {t a:Addr} {ns:List Int} (h:fL K H t a ns) (e:But t H H') {b:Addr} {xs:List V} (hd:SqT K H b xs):SqT K H' b xs:=by
 obtain ⟨q,h2⟩:=h
 exact e.seqT h2 hd
theorem fL.ne {K:PySem.W.Frag} {H:Hp} {t a:Addr} {ns:List Int} (h:fL K H t a ns) {b:Addr} (hb:H b=none):b≠t:=by
 obtain ⟨q,h2⟩:=h
 intro z
 rw [z,h2] at hb
 cases hb
theorem fL.wr {K:PySem.W.Frag} {H H':Hp} {t a f:Addr} {ns:List Int} (T:fL K H t a ns) (b:But f H H') (n:t≠f):fL K H' t a ns:=by
 obtain ⟨q,h2⟩:=T
 exact ⟨q,b t _ n h2⟩
section
variable {P:Program} {w:World} {K:PySem.W.Frag} {mg:Str->Option Value} {base:Heap}
theorem lQ (ns:List Int):gC (.list (ns.map .int))=true:=by
 unfold gC
 induction ns with
 | nil=>unfold List.map kH; rfl
 | cons n r ih=>rw [Jf]; unfold kH; rw [ih]; unfold gC; rfl
theorem mR {α:Type} (f:α->PyData) (h:∀ x,(f x).canLay0=true):∀ l:List α,PyData.canLayAll0 (l.map f)=true
 | []=>by unfold List.map PyData.canLayAll0; rfl
 | x::r=>by rw [Jf]; unfold PyData.canLayAll0; rw [h x,mR f h r]; rfl
theorem oO {α:Type} {k:Nat} (f:α->PyData) (h:∀ x,(f x).depth<=k):∀ l:List α,PyData.depthAll (l.map f)<=k
 | []=>by unfold List.map PyData.depthAll; exact Jh _
 | x::r=>by rw [Jf]; unfold PyData.depthAll; exact Nat.max_le.mpr ⟨h x,oO f h r⟩
theorem rC (i:Int):(PyData.int i).canLay0=true:=by unfold PyData.canLay0; rfl
theorem tG (i:Int):(PyData.int i).depth<=0:=by unfold PyData.depth; exact Qg _
theorem vI (ns:List Int):(PyData.list (ns.map .int)).canLay0=true:=by unfold PyData.canLay0; exact mR _ rC ns
theorem vJ (ns:List Int):(PyData.tuple (ns.map .int)).canLay0=true:=by unfold PyData.canLay0; exact mR _ rC ns
theorem xG (ns:List Int):(PyData.list (ns.map .int)).depth<=1:=by unfold PyData.depth; exact Yh (oO _ tG ns)
theorem xH (ns:List Int):(PyData.tuple (ns.map .int)).depth<=1:=by unfold PyData.depth; exact Yh (oO _ tG ns)
theorem tH {d:PyData} (h1:d.canLay0=true) (h2:d.depth<=64):SeqAt.shaped d=true:=by
 unfold SeqAt.shaped
 rw [h1,decide_eq_true h2]
 rfl
theorem oZ (ns:List Int):SeqAt.shaped (.list (ns.map .int))=true:=tH (vI ns) (Qw (xG ns) (by decide))
theorem fY (ns:List Int):SeqAt.shaped (.tuple (ns.map .int))=true:=tH (vJ ns) (Qw (xH ns) (by decide))
theorem fZ (ns:List Int):gC (.tuple (ns.map .int))=true:=by
 have h:=lQ ns
 unfold gC at h ⊢
 exact h
theorem _root_.L2.Room.u64 {k:Nat} {A:Around} (r:Room k A):A.units+64 < cLine:=by have:=r.un; omega
def aCj (K:PySem.W.Frag):Sp:=fun vs H Q _=>∃ (a:Addr) (ns:List Int) (k:Nat),vs = [.ref a,.int k]/\SqL K H a (ns.map V.int)/\∀ r,Q (.int r) H
theorem aEl:FnScope ["script", "k"] ["script", "k"] (aI aAe):=⟨rfl,rfl,rfl,by decide +kernel,rfl,by decide +kernel,by decide +kernel⟩
theorem aDm {f:Addr} {fd:FuncData} (G:Fn K mg "_law_acell" aAe ["script", "k"] f fd) (B:Bl mg):FnOk P w K mg base CX0 1 f fd ["script", "k"] (aCj K):=by
 refine G.fn.ok aEl (fun vs H Q E h=>?_) (fun cdv A outer s H vs Q E hr h=>?_)
 ·obtain ⟨a,ns,n,rfl,_⟩:=h
  rfl
 ·obtain ⟨a,ns,n,rfl,ha,k⟩:=h
  refine ⟨_,(aE (cF (bE aBs (pv 1) (aL bU rfl B.len eU (aA (pv 0) aB)) (bJ _))
   (aF (aQ (bS iJ (pv 0) (pv 1) (fun _ _=>rfl))))
   aW)
  (aF (aQ aG))),?_⟩
  refine ⟨_,rfl,_,rfl,a,_,rfl,.inl ha,_,_,rfl,rfl,_,rfl,?_⟩
  rw [Qb]
  refine gE (fun c=>?_) (fun c=>?_)
  ·have hlt:n < ns.length:=by have:=of_decide_eq_true c; omega
   exact ⟨_,rfl,_,rfl,a,_,n,.int ns[n],rfl,rfl,ha,eR (by rw [Qi,Qc hlt]; rfl),k _⟩
  ·exact k _
def aCk (K:PySem.W.Frag):Sp:=fun vs H Q _=>∃ (a:Addr) (ns:List Int) (k:Nat),vs = [.ref a,.int k]/\SqL K H a (ns.map V.int)/\∀ t q,H t=none->Q (.ref t) (upd H t (.lst [.int q]))
theorem lR:FnScope ["script", "k", "cell", "p", "number", "last", "turn"] ["script", "k"] (aI aAf):=⟨rfl,rfl,rfl,by decide +kernel,rfl,by decide +kernel,by decide +kernel⟩
theorem aDn {f fC:Addr} {fd dC:FuncData} (G:Fn K mg "_law_atape" aAf ["script", "k"] f fd) (B:Bl mg) (GC:Fn K mg "_law_acell" aAe ["script", "k"] fC dC):FnOk P w K mg base CX0 2 f fd ["script", "k"] (aCk K):=by
 have OC:FnOk P w K mg base CX0 1 fC dC ["script", "k"] (aCj K):=aDm GC B
 refine G.fn.ok lR (fun vs H Q E h=>?_) (fun cdv A outer s H vs Q E hr h=>?_)
 ·obtain ⟨a,ns,n,rfl,_⟩:=h
  rfl
 ·obtain ⟨a,ns,n,rfl,ha,k⟩:=h
  have r1:Room 1 _:=hr
  refine ⟨_,(aE (aS (i:=2) lR.nd rfl (Or.inl rfl) (bB GC OC r1 rfl (aA (pv 0) (aA (pv 1) aB))))
  (aE (cF (bE wA (aT pW (pv 2) aG) aG (bJ _))
   (aF (aQ (bW (aA (aT aCS (pv 2) aG) aB))))
   aW)
  (aE (aS (i:=3) lR.nd rfl (Or.inl rfl) aG)
  (aE (aS (i:=4) lR.nd rfl (Or.inl rfl) aG)
  (aE (aS (i:=5) lR.nd rfl (Or.inl rfl) (aT pW (aT eX (aT eX (aT pV (aT pW (pv 2) (pv 3)) aG) (aT pV aG (pv 1))) aG) (pv 3)))
  (aE (cO PassesOwn.never rfl (cL rfl B.range (aA aG aB)) (aK (i:=6) lR.nd rfl (Or.inl rfl))
   (aE (aS (i:=4) lR.nd rfl (Or.inl rfl) (aT eX (aT pV (pv 4) (pv 3)) (pv 5)))
  (aF (aS (i:=5) lR.nd rfl (Or.inl rfl) (aT pW (aT eX (aT eX (aT pV (pv 5) (pv 5)) (aT pV aG (pv 1))) (pv 6)) (pv 3))))))
  (aF (aQ (bW (aA (pv 4) aB)))))))))),?_⟩
  refine ⟨_,rfl,_,rfl,a,ns,n,rfl,ha,fun c=>?_⟩
  refine ⟨_,rfl,_,_,rfl,rfl,(show (0:Int) < _ by decide),rfl,_,rfl,?_⟩
  refine gE (fun c1=>?_) (fun c1=>?_)
  ·exact ⟨_,rfl,_,_,rfl,rfl,⟨by decide,by decide⟩,sz1 _,fun t ht=>k t _ ht⟩
  ·refine ⟨_,rfl,_,rfl,_,_,rfl,rfl,(show (0:Int) < _ by decide),_,_,rfl,rfl,.inr ⟨by decide,by decide⟩,_,rfl,_,_,rfl,rfl,.inl ⟨by decide,by decide⟩,_,_,rfl,rfl,_,_,rfl,rfl,_,rfl,_,_,rfl,rfl,(show (0:Int) < _ by decide),?_⟩
   have b0:0<=((c % 2305843009213693951*48271+69621*(n:Int)+11) % 2305843009213693951:Int)/\((c % 2305843009213693951*48271+69621*(n:Int)+11) % 2305843009213693951:Int) < 2305843009213693951:=⟨Ym _ (by decide),Zw _ (by decide)⟩
   refine ⟨18,rfl,by decide,by decide,fU (lo:=0) (n:=18) (fun i σ H2=>(∃ nu la v6,σ = [some (.ref a),some (.int n),some (.int c),some (.int 2305843009213693951),some (.int nu),some (.int la),v6]/\0<=la/\la < 2305843009213693951)/\H2=H) ⟨⟨0,_,none,rfl,b0.1,b0.2⟩,rfl⟩ ?_ ?_⟩
   ·rintro i σ H2 hi ⟨⟨nu,la,v6,rfl,h0,h1⟩,rfl⟩
    refine ⟨_,rfl,_,rfl,_,_,rfl,rfl,.inr ⟨by decide,by decide⟩,_,rfl,_,_,rfl,rfl,?_⟩
    refine ⟨_,rfl,_,rfl,_,_,rfl,rfl,.inl ⟨by omega,by omega⟩,_,rfl,_,_,rfl,rfl,.inl ⟨by decide,by decide⟩,_,_,rfl,rfl,_,rfl,_,_,rfl,rfl,_,rfl,_,_,rfl,rfl,(show (0:Int) < _ by decide),?_⟩
    exact ⟨⟨_,_,_,rfl,Ym _ (by decide),Zw _ (by decide)⟩,rfl⟩
   ·rintro σ H2 ⟨⟨nu,la,v6,rfl,h0,h1⟩,rfl⟩
    exact ⟨_,rfl,sz1 _,fun t ht=>k t _ ht⟩
def kN (K:PySem.W.Frag):Sp:=fun vs H Q _=>∃ (t a:Addr) (ns:List Int) (m:Int),vs = [.ref t,.int m]/\fL K H t a ns/\0 < m/\m < 1267650600228229401496703205376/\∀ r H',0<=r->r < m->But t H H'->fL K H' t a ns->Q (.int r) H'
theorem xI:FnScope ["tape", "many", "found"] ["tape", "many"] (aI jP):=⟨rfl,rfl,rfl,by decide +kernel,rfl,by decide +kernel,by decide +kernel⟩
theorem aCl {f:Addr} {fd:FuncData} (G:Fn K mg "_law_adigit" jP ["tape", "many"] f fd) (B:Bl mg):FnOk P w K mg base CX0 1 f fd ["tape", "many"] (kN K):=by
 refine G.fn.ok xI (fun vs H Q E h=>?_) (fun cdv A outer s H vs Q E hr h=>?_)
 ·obtain ⟨t,a,ns,m,rfl,_⟩:=h
  rfl
 ·obtain ⟨t,a,ns,m,rfl,⟨q,ht⟩,hm1,hm2,k⟩:=h
  refine ⟨_,(aE (aS (i:=2) xI.nd rfl (Or.inl rfl) (aT pW (bS iJ (pv 0) aG (fun _ _=>rfl)) (pv 1)))
  (aE (pU (aT aBH (bS iJ (pv 0) aG (fun _ _=>rfl)) (pv 1)) (aBp (pv 0) aG wD))
  (aF (aQ (pv 2))))),?_⟩
  refine ⟨_,rfl,t,_,0,.int q,rfl,rfl,SqL.of ht,rfl,_,rfl,_,_,rfl,rfl,hm1,?_⟩
  refine ⟨_,rfl,t,_,0,.int q,rfl,rfl,SqL.of ht,rfl,_,rfl,_,_,rfl,rfl,⟨hm1,hm2⟩,_,rfl,t,_,0,0,rfl,rfl,ht,rfl,?_⟩
  exact ⟨_,rfl,k _ _ (Ym _ (by omega)) (Zw _ hm1) But.at ⟨_,aC⟩⟩
theorem xJ (n:Int):∀ (l:List Int) (last:Int),(∀ x∈l,last < x)->l.Pairwise (· < ·)->(∀ x∈l,x < n)->dL n last (l.map .int)=true
 | [],_,_,_,_=>rfl
 | x::r,last,h1,h2,h3=>by
  rw [Jf,iU]
  have h2':=Zx.mp h2
  rw [decide_eq_true (h1 x (Qt ..)),decide_eq_true (h3 x (Qt ..)),xJ n r x h2'.1 h2'.2 (fun y hy=>h3 y (Qq _ hy))]
  rfl
theorem aAl {n:Int} {l:List Int} (h0:l≠[]) (h1:∀ x∈l,0<=x/\x < n) (h2:l.Pairwise (· < ·)):bR n (bP l)=true:=by
 have e:bR n (bP l)=(!(l.map PyData.int).isEmpty && dL n (-1) (l.map .int)):=rfl
 rw [e,xJ n l (-1) (fun x hx=>by have:=(h1 x hx).1; omega) h2 (fun x hx=>(h1 x hx).2)]
 cases l with
 | nil=>exact absurd rfl h0
 | cons _ _=>rfl
theorem pA (n:Int):∀ (l:List Int) (last:Int),dL n last (l.map .int)=true->l.Pairwise (· < ·)/\∀ x∈l,last < x/\x < n
 | [],_,_=>⟨.nil,fun _ h=>by cases h⟩
 | x::r,last,h=>by
  rw [Jf,iU,Jg,Jg] at h
  obtain ⟨⟨h1,h2⟩,h3⟩:=h
  have h1:=of_decide_eq_true h1
  have h2:=of_decide_eq_true h2
  obtain ⟨i1,i2⟩:=pA n r x h3
  refine ⟨Zx.mpr ⟨fun y hy=>(i2 y hy).1,i1⟩,fun y hy=>?_⟩
  rcases Qj.mp hy with rfl | hy
  ·exact ⟨h1,h2⟩
  ·exact ⟨by have:=(i2 y hy).1; omega,(i2 y hy).2⟩
theorem cY {n:Int} {l:List Int} (h:bR n (bP l)=true):l≠[]/\(∀ x∈l,0<=x/\x < n)/\l.Pairwise (· < ·):=by
 have e:(!(l.map PyData.int).isEmpty && dL n (-1) (l.map .int))=true:=h
 rw [Jg] at e
 obtain ⟨h1,h2⟩:=pA n l (-1) e.2
 refine ⟨fun z=>by rw [z] at e; simp at e,fun x hx=>⟨by have:=(h2 x hx).1; omega,(h2 x hx).2⟩,h1⟩
theorem rD {n:Int}:∀ (l:List Int) (lo:Int),lo<=n->(∀ x∈l,lo<=x/\x < n)->l.Pairwise (· < ·)->(l.length:Int)<=n - lo
 | [],lo,h,_,_=>by simp; omega
 | x::r,lo,h,h1,h2=>by
  have h2':=Zx.mp h2
  have hx:=h1 x (Qt ..)
  have:=rD r (x+1) (by omega) (fun y hy=>⟨by have:=h2'.1 y hy; omega,(h1 y (Qq _ hy)).2⟩) h2'.2
  rw [Jt]
  omega
theorem iF {n:Int} {l:List Int} (hn:0<=n) (h1:∀ x∈l,0<=x/\x < n) (h2:l.Pairwise (· < ·)):(l.length:Int)<=n:=by
 have:=rD l 0 hn h1 h2
 omega
theorem lS:∀ (a b:List Int),PyData.eqvAll (a.map .int) (b.map .int)=decide (a=b)
 | [],[]=>by simp [PyData.eqvAll]
 | [],_::_=>by simp [PyData.eqvAll]
 | _::_,[]=>by simp [PyData.eqvAll]
 | x::r,y::s=>by
  rw [Jf,Jf,PyData.eqvAll,lS r s,PyData.eqv]
  by_cases h:x=y
  ·by_cases h2:r=s
   ·simp [h,h2]
   ·simp [h,h2]
  ·simp [h]
theorem aA7 (a b:List Int):PyData.eqv (.list (a.map .int)) (.list (b.map .int))=decide (a=b):=by rw [PyData.eqv,lS]
theorem aA8 (a b:List Int):PyData.eqv (.tuple (a.map .int)) (.tuple (b.map .int))=decide (a=b):=by rw [PyData.eqv,lS]
theorem rE {h:Int} {l:List Int}:eK (.int h) l=true↔h∈l:=by
 show (l.any (·==h))=true↔_
 rw [Yi]
 constructor
 ·rintro ⟨x,hx,e⟩
  have:x=h:=by simpa using e
  exact this ▸ hx
 ·exact fun hx=>⟨h,hx,by simp⟩
theorem vK {ws:List (List Int)} {hs:List Int} (h1:hs.length=ws.length) (h2:∀ (j:Nat) (h:Int) (l:List Int),hs[j]?=some h->ws[j]?=some l->h∈l):gA ws (lN hs)=true:=by
 show (decide ((hs.map PyData.int).length=ws.length) && ((hs.map PyData.int).zip ws).all fun p=>eK p.1 p.2)=true
 rw [Qb,decide_eq_true h1,Jv,Jo]
 rintro ⟨d,l⟩ hm
 obtain ⟨j,hj⟩:=Jz.mp hm
 rw [Jl] at hj
 obtain ⟨hj1,hj2⟩:=hj
 have hj1:(hs.map PyData.int)[j]?=some d:=hj1
 have hj2:ws[j]?=some l:=hj2
 rw [Qi] at hj1
 cases q:hs[j]? with
 | none=>rw [q] at hj1; cases hj1
 | some h =>
  rw [q] at hj1
  obtain rfl:PyData.int h=d:=Option.some.inj hj1
  exact rE.mpr (h2 j h l q hj2)
theorem cZ {ws:List (List Int)} {hs:List Int} (h:gA ws (lN hs)=true):hs.length=ws.length/\∀ (j:Nat) (h:Int) (l:List Int),hs[j]?=some h->ws[j]?=some l->h∈l:=by
 have h':(decide ((hs.map PyData.int).length=ws.length) && ((hs.map PyData.int).zip ws).all fun p=>eK p.1 p.2)=true:=h
 rw [Qb,Jg,Jo] at h'
 refine ⟨of_decide_eq_true h'.1,fun j h l hj hl=>?_⟩
 refine rE.mp (h'.2 (.int h,l) (Qh (i:=j) ?_))
 rw [Jl]
 exact ⟨by rw [Qi,hj]; rfl,hl⟩
theorem aAm {n:Int} {ws:List (List Int)} (h1:1<=n) (h2:n<=6) (h3:ws.length<=12) (h4:∀ l∈ws,bR n (bP l)=true):bZ (cN n ws)=true:=by
 show (decide (1<=n) && decide (n<=6) && decide ((ws.map bP).length<=12) && (ws.map bP).all (bR n))=true
 rw [decide_eq_true h1,decide_eq_true h2,Qb,decide_eq_true h3,Jv,Jv,Jv,Jo]
 intro d hd
 obtain ⟨l,hl,rfl⟩:=Jw.mp hd
 exact h4 l hl
theorem tI {H:Hp} {n:Int} {ws:List (List Int)} {a b:Addr} {ys:List V} (h1:SqT K H a [.int n,.ref b]) (h2:SqT K H b ys) (h3:aU K H (ws.map bP) ys):Den K H (cN n ws) (.ref a) :=
 aO.mpr ⟨a,_,rfl,h1,aM.mpr ⟨_,_,rfl,bV.mpr rfl,aM.mpr ⟨_,_,rfl,aO.mpr ⟨b,ys,rfl,h2,h3⟩,aN.mpr rfl⟩⟩⟩
def aAn (K:PySem.W.Frag):Sp:=fun vs H Q _=>∃ (t a:Addr) (ns:List Int) (hm wm:Int),vs = [.ref t,.int hm,.int wm]/\fL K H t a ns/\1<=hm/\hm<=6/\0<=wm/\wm<=12/\∀ n ws p H',bZ (cN n ws)=true->(ws.length:Int)<=wm->But t H H'->fL K H' t a ns->Den K H' (cN n ws) (.ref p)->Q (.ref p) H'
theorem kO:FnScope ["tape", "hands", "works", "n", "often", "found", "k", "able"] ["tape", "hands", "works"] (aI qX):=⟨rfl,rfl,rfl,by decide +kernel,rfl,by decide +kernel,by decide +kernel⟩
theorem aCm {f fD:Addr} {fd fdD:FuncData} (G:Fn K mg "_law_abook" qX ["tape", "hands", "works"] f fd) (B:Bl mg) (GD:Fn K mg "_law_adigit" jP ["tape", "many"] fD fdD) (OD:FnOk P w K mg base CX0 1 fD fdD ["tape", "many"] (kN K)):FnOk P w K mg base CX0 2 f fd ["tape", "hands", "works"] (aAn K):=by
 refine G.fn.ok kO (fun vs H Q E h=>?_) (fun cdv A outer s H vs Q E hr h=>?_)
 ·obtain ⟨t,a,ns,hm,wm,rfl,_⟩:=h
  rfl
 ·obtain ⟨t,a,ns,hm,wm,rfl,hT,hh1,hh6,hw0,hw12,k⟩:=h
  have r1:Room 1 _:=hr
  refine ⟨_,(aE (aS (i:=3) kO.nd rfl (Or.inl rfl) (aT eX aG (bB GD OD r1 rfl (aA (pv 0) (aA (pv 1) aB)))))
  (aE (aS (i:=4) kO.nd rfl (Or.inr rfl) (aT eX aG (bB GD OD r1 rfl (aA (pv 0) (aA aG aB)))))
  (aE (aS (i:=5) kO.nd rfl (Or.inl rfl) (bW aB))
  (aE (cO PassesOwn.never rfl (cL rfl B.range (aA (bB GD OD r1 rfl (aA (pv 0) (aA (aT eX (pv 2) aG) aB))) aB)) (aK (i:=6) kO.nd rfl (Or.inl rfl))
   (aE (mM (i:=7) (own:=["hand"]) (fr:=[4,0]) (frn:=["often", "tape"]) (bA (aI qX) ["tape", "hands", "works", "n", "often", "found", "k", "able"] rfl rfl (by decide +kernel)) rfl kO.nd rfl rfl rfl (cL rfl B.range (aA (pv 3) aB))
    (fun _ _ _ _=>(aK (i:=0) (show (["hand", "often", "tape"]:List Str).Nodup by decide +kernel) rfl (Or.inl rfl))) (fun _ _ _ _=>aBC (bE aBs (bB GD OD r1 rfl (aA (pv 2) (aA aG aB))) (pv 1) (bJ _)))
    (fun _ _ _ _=>(pv 0)))
  (aE (cF (bE (aD7 hr.u64) (pv 7) (bW aB) (bJ _))
   (aF (aS (i:=7) kO.nd rfl (Or.inl rfl) (bW (aA (bB GD OD r1 rfl (aA (pv 0) (aA (pv 3) aB))) aB))))
   aW)
  (aF (bI (gZ PySem.F.plainAttrs_list PySem.F.slot_list_append PySem.F.type_list_append cC (pv 5) (aA (cA cG rfl B.tuple cQ (aA (pv 7) aB)) aB)))))))
  (aF (aQ (aX (aA (pv 3) (aA (cA cG rfl B.tuple cQ (aA (pv 5) aB)) aB))))))))),?_⟩
  refine ⟨_,rfl,_,rfl,t,a,ns,hm,rfl,hT,by omega,by omega,fun r H1 hr0 hr1 b1 T1=>⟨_,_,rfl,rfl,?_⟩⟩
  refine ⟨_,rfl,t,a,ns,4,rfl,T1,by decide,by decide,fun kd H2 hk0 hk1 b2 T2=>⟨_,_,rfl,rfl,?_⟩⟩
  refine ⟨eA (Jh _),fun fl hfl=>?_⟩
  have ntf:t≠fl:=fun z=>T2.ne hfl z.symm
  have s3:=aD.new (o:=.lst []) hfl
  have hfl0:H fl=none:=(b1.trans b2).free hfl (Ne.symm ntf)
  have T3:=T2.same s3
  have b03:=b1.trans (b2.trans (But.of s3))
  have hfl3:upd H2 fl (.lst []) fl=some (.lst []):=aC
  generalize hH3:upd H2 fl (.lst [])=H3 at T3 b03 hfl3 ⊢
  refine ⟨_,rfl,_,rfl,_,_,rfl,rfl,t,a,ns,wm+1,rfl,T3,by omega,by omega,fun m H4 hm0 hm1 b4 T4=>?_⟩
  refine ⟨m,rfl,by omega,by omega,fU (lo:=0) (n:=m.toNat) (fun i σ H5=>∃ (ws:List (List Int)) (xs:List V) (v v2:Option V),σ = [some (.ref t),some (.int hm),some (.int wm),some (.int (1+r)),some (.int (1+kd)),some (.ref fl),v,v2]/\ws.length=i /\
   (∀ l∈ws,bR (1+r) (bP l)=true)/\H5 fl=some (.lst xs)/\aU K H5 (ws.map bP) xs/\But t H H5/\fL K H5 t a ns)
   ⟨[],[],none,none,rfl,rfl,fun _ h=>(Qn h).elim,b4 fl _ (Ne.symm ntf) hfl3,aN.mpr rfl,b03.trans b4,T4⟩ ?_ ?_⟩
  ·rintro i σ H5 hi ⟨ws,xs,v,v2,rfl,hl,hw,hx,hd,b5,T5⟩
   have hxl:xs.length=i:=by rw [aJ hd,Qb,hl]
   have next:∀ (l:List Int) (p:Addr) (H7:Hp),bR (1+r) (bP l)=true->But t H5 H7->fL K H7 t a ns->SqT K H7 p (l.map V.int) ->
     ∃ xs',H7 fl=some (.lst xs)/\xs'=xs++[.ref p]/\(∀ l2∈ws++[l],bR (1+r) (bP l2)=true)/\aU K (upd H7 fl (.lst xs')) ((ws++[l]).map bP) xs'/\But t H (upd H7 fl (.lst xs'))/\fL K (upd H7 fl (.lst xs')) t a ns:=by
    intro l p H7 hwk b7 T7 hp7
    have hx7:H7 fl=some (.lst xs):=b7 fl _ (Ne.symm ntf) hx
    have hd7:=T5.denAll b7 (cK _ cT ws) hd
    have b8:But fl H7 (upd H7 fl (.lst (xs++[.ref p]))):=But.at
    refine ⟨_,hx7,rfl,fun l2 hl2=>?_,?_,fun b o nb hb=>?_,T7.wr b8 ntf⟩
    ·rcases Qx.mp hl2 with h | h
     ·exact hw l2 h
     ·rw [Qp.mp h]; exact hwk
    ·rw [Qz]
     exact bC (b8.denAll hx7 _ _ (cK _ cT ws) hd7) (aM.mpr ⟨_,_,rfl,aR.mpr ⟨p,rfl,b8.seqT hx7 hp7⟩,aN.mpr rfl⟩)
    ·rw [aH (fun z=>by rw [z,hfl0] at hb; cases hb)]
     exact (b5.trans b7) b o nb hb
   refine ⟨_,rfl,1+r,rfl,by omega,by omega,iE (lo:=0) (n:=(1+r).toNat) (fun σ=>∃ v,σ = [v,some (.int (1+kd)),some (.ref t)]) (fun j ys H6=>∃ l:List Int,ys=l.map V.int/\l.Pairwise (· < ·)/\(∀ x∈l,0<=x/\x < j)/\But t H5 H6/\fL K H6 t a ns) (eA (by omega)) ⟨none,rfl⟩
    ⟨[],rfl,.nil,fun _ h=>(Qn h).elim,But.refl t H5,T5⟩ ?_ ?_ ?_⟩
   ·rintro j ys H6 ⟨l,rfl,h1,h2,_⟩
    rw [Qb]
    have:=iF (n:=(j:Int)) (by omega) h2 h1
    omega
   ·rintro j ys σ H6 hj ⟨v,rfl⟩ ⟨l,rfl,h1,h2,b6,T6⟩ hz
    refine ⟨_,rfl,t,a,ns,5,rfl,T6,by decide,by decide,fun r7 H7 _ _ b7 T7=>⟨_,rfl,_,_,rfl,rfl,_,rfl,?_⟩⟩
    refine gE (fun c=>?_) (fun c=>?_)
    ·refine ⟨_,rfl,hz,⟨_,rfl⟩,l++[(j:Int)],by simp,Yn.mpr ⟨h1,by simp,fun x hx y hy=>?_⟩,fun x hx=>?_,b6.trans b7,T7⟩
     ·rw [Qp.mp hy]; exact (h2 x hx).2
     ·rcases Qx.mp hx with hx | hx
      ·have:=h2 x hx; omega
      ·rw [Qp.mp hx]; omega
    ·refine ⟨⟨_,rfl⟩,l,rfl,h1,fun x hx=>?_,b6.trans b7,T7⟩
     have:=h2 x hx; omega
   ·rintro ys H6 ⟨l,rfl,h1,h2,b6,T6⟩ ap hap
    have hapt:ap≠t:=T6.ne hap
    have s7:=aD.new (o:=.lst (l.map V.int)) hap
    have e7:upd H6 ap (.lst (l.map V.int)) ap=some (.lst (l.map V.int)):=aC
    have b7:=b6.trans (But.of (t:=t) s7)
    have T7:=T6.same s7
    generalize upd H6 ap (.lst (l.map V.int))=H7 at s7 e7 b7 T7 ⊢
    refine ⟨_,rfl,eA (Jh _),fun z hz=>?_⟩
    have s8:=aD.new (o:=.lst []) hz
    refine ⟨.list (l.map .int),.list (([]:List Int).map .int),sU.mpr ⟨ap,rfl,s8.seqL (SqL.of e7)⟩,sU.mpr ⟨z,rfl,SqL.of aC⟩,lQ _,lQ _,oZ _,oZ _,_,rfl,?_⟩
    rw [aA7]
    have e8:=s8 _ _ e7
    have b8:=b7.trans (But.of (t:=t) s8)
    have T8:=T7.same s8
    generalize upd H7 z (.lst [])=H8 at e8 b8 T8 ⊢
    by_cases hln:l = []
    ·rw [decide_eq_true hln]
     refine eP ?_
     refine ⟨_,rfl,_,rfl,t,a,ns,1+r,rfl,T8,by omega,by omega,fun r9 H9 h90 h91 b9 T9=>⟨sz1 _,fun l9 hl9=>?_⟩⟩
     have s10:=aD.new (o:=.lst [.int r9]) hl9
     have b10:=b8.trans (b9.trans (But.of s10))
     have T10:=T9.same s10
     have e10:upd H9 l9 (.lst [.int r9]) l9=some (.lst [.int r9]):=aC
     generalize upd H9 l9 (.lst [.int r9])=H10 at b10 T10 e10 ⊢
     have hx10:=b10 fl _ (Ne.symm ntf) hx
     refine ⟨_,rfl,.inl ⟨rfl,_,SqL.of hx10⟩,_,rfl,l9,_,rfl,.inl ⟨SqL.of e10,fun q hq=>?_⟩⟩
     have s11:=aD.new (o:=.tup [.int r9]) hq
     obtain ⟨xs',n1,n2,n3,n4,n5,n6⟩:=next [r9] q _ (aAl (by simp) (fun y hy=>by rw [Qp.mp hy]; omega) (by simp)) (b10.trans (But.of s11)) (T10.same s11) (SqT.of aC)
     subst n2
     exact ⟨fl,xs,.ref q,rfl,rfl,n1,by rw [sizeLine_eq]; omega,ws++[[r9]],_,_,_,rfl,by rw [Qe,hl]; rfl,n3,aC,n4,n5,n6⟩
    ·rw [decide_eq_false hln]
     refine eO ?_
     have hx8:=b8 fl _ (Ne.symm ntf) hx
     refine ⟨_,rfl,.inl ⟨rfl,_,SqL.of hx8⟩,_,rfl,ap,_,rfl,.inl ⟨SqL.of e8,fun q hq=>?_⟩⟩
     have s11:=aD.new (o:=.tup (l.map V.int)) hq
     obtain ⟨xs',n1,n2,n3,n4,n5,n6⟩:=next l q _ (aAl hln (fun y hy=>by have:=h2 y hy; omega) h1) (b8.trans (But.of s11)) (T8.same s11) (SqT.of aC)
     subst n2
     exact ⟨fl,xs,.ref q,rfl,rfl,n1,by rw [sizeLine_eq]; omega,ws++[l],_,_,_,rfl,by rw [Qe,hl]; rfl,n3,aC,n4,n5,n6⟩
  ·rintro σ H5 ⟨ws,xs,v,v2,rfl,hl,hw,hx,hd,b5,T5⟩
   refine ⟨_,rfl,_,rfl,fl,_,rfl,.inl ⟨SqL.of hx,fun q hq=>⟨sz2 _ _,fun p hp=>?_⟩⟩⟩
   have sm:=(aD.new (o:=.tup xs) hq).trans (aD.new (o:=.tup [.int (1+r),.ref q]) hp)
   refine k (1+r) ws p _ (aAm (by omega) (by omega) (by omega) hw) (by omega) (b5.trans (But.of sm)) (T5.same sm) ?_
   refine tI (SqT.of aC) ((aD.new hp).seqT (SqT.of aC)) (sm.denAll _ _ hd)
def aCn (K:PySem.W.Frag):Sp:=fun vs H Q _=>∃ (t a:Addr) (ns:List Int) (x:V) (n:Int) (ws:List (List Int)),vs = [.ref t,x]/\fL K H t a ns/\Den K H (cN n ws) x/\bZ (cN n ws)=true/\∀ hs p H',gA ws (lN hs)=true->But t H H'->fL K H' t a ns->Den K H' (lN hs) (.ref p)->Q (.ref p) H'
theorem aEm:FnScope ["tape", "book"] ["tape", "book"] (aI qY):=⟨rfl,rfl,rfl,by decide +kernel,rfl,by decide +kernel,by decide +kernel⟩
theorem aDo {f fD:Addr} {fd fdD:FuncData} (G:Fn K mg "_law_adeal" qY ["tape", "book"] f fd) (B:Bl mg) (GD:Fn K mg "_law_adigit" jP ["tape", "many"] fD fdD) (OD:FnOk P w K mg base CX0 1 fD fdD ["tape", "many"] (kN K)):FnOk P w K mg base CX0 2 f fd ["tape", "book"] (aCn K):=by
 refine G.fn.ok aEm (fun vs H Q E h=>?_) (fun cdv A outer s H vs Q E hr h=>?_)
 ·obtain ⟨t,a,ns,x,n,ws,rfl,_⟩:=h
  rfl
 ·obtain ⟨t,a,ns,x,n,ws,rfl,hT,hx,hb,k⟩:=h
  refine ⟨_,aF (aQ (cA cG rfl B.tuple cQ (aA
   (cM (own:=["able"]) (fr:=[0]) (frn:=["tape"]) (bA (aI qY) ["tape", "book"] rfl rfl (by decide +kernel)) rfl (gW (bS dU (pv 1) aG (fun _ _=>rfl)))
    (fun _ _ _ _=>aK (i:=0) (show (["able", "tape"]:List Str).Nodup by decide +kernel) rfl (Or.inl rfl)) (fun _ _ _ _=>cW)
    (fun _ _ _ _=>bS (eG (K:=K) rfl) (pv 0) (bB GD OD hr rfl (aA (pv 1) (aA (aL (bL (K:=K) rfl) rfl B.len eU (aA (pv 0) aB)) aB))) (fun _ _=>rfl))) aB))),?_⟩
  obtain ⟨hn1,hn6,h12,hws⟩:=bM hb
  obtain ⟨ba,bb,ys,rfl,ha,hb2,hys⟩:=cP hx
  have hlw:=aJ hys
  rw [Qb] at hlw
  refine ⟨_,rfl,ba,_,1,.ref bb,rfl,rfl,ha,rfl,bb,rfl,⟨_,hb2⟩,nI (K:=K) (a:=bb) (xs:=ys) (fun σ=>∃ v,σ = [v,some (.ref t)]) (fun i zs H3=>∃ hs:List Int,zs=hs.map V.int/\hs.length=i/\(∀ (j:Nat) (h:Int) (l:List Int),hs[j]?=some h->ws[j]?=some l->h∈l)/\But t H H3/\fL K H3 t a ns)
   (eA (by omega)) ⟨none,rfl⟩ ⟨[],rfl,rfl,fun j h l e=>by simp at e,But.refl t H,hT⟩ ?_ ?_ ?_ ?_⟩
  ·rintro i zs H3 ⟨hs,rfl,rfl,_⟩
   rw [Qb]
   exact Qg _
  ·rintro i zs H3 ⟨hs,rfl,rfl,_,b3,_⟩
   exact hT.seqT b3 hb2
  ·rintro i zs σ x H3 hxi ⟨v,rfl⟩ ⟨hs,rfl,hl,hg,b3,T3⟩ hz
   obtain ⟨dx,hdx,hden⟩:=cI hys hxi
   rw [Qi] at hdx
   obtain ⟨l,hli,rfl⟩:∃ l,ws[i]?=some l/\bP l=dx:=by
    cases q:ws[i]? with
    | none=>rw [q] at hdx; cases hdx
    | some l=>rw [q] at hdx; exact ⟨l,rfl,Option.some.inj hdx⟩
   obtain ⟨w1,w2,w3⟩:=cY (hws l (Qh hli))
   have hsh:=iF (by omega) w2 w3
   have hl1:0 < l.length:=Xy.mpr w1
   obtain ⟨av,rfl,hav⟩:=aR.mp hden
   refine cX ?_
   refine ⟨_,rfl,_,rfl,_,rfl,av,_,rfl,.inr (hT.seqT b3 hav),t,a,ns,_,rfl,T3,?_,?_,fun r H4 hr0 hr1 b4 T4=>?_⟩
   ·rw [Qb]; omega
   ·rw [Qb]; omega
   ·rw [Qb] at hr1
    have hlt:r.toNat < l.length:=by omega
    have hat:atI (l.map V.int) r=some (.int l[r.toNat]):=by
     have h1:(l.map V.int)[r.toNat]?=some (.int (l[r.toNat])):=by rw [Qi,Qc hlt]; rfl
     have h2:=eR h1
     rwa [Ys hr0] at h2
    refine ⟨av,_,_,_,rfl,rfl,hT.seqT (b3.trans b4) hav,hat,hz,⟨_,rfl⟩,hs++[l[r.toNat]],by simp,by rw [Qe,hl]; rfl,fun j h l2 e1 e2=>?_,b3.trans b4,T4⟩
    by_cases hj:j < hs.length
    ·rw [Qv hj] at e1
     exact hg j h l2 e1 e2
    ·rw [Jd (by omega)] at e1
     have e3:j - hs.length=0:=by
      have:=(Qd.mp e1).1
      simp at this
      omega
     rw [e3] at e1
     have e4:j=i:=by omega
     rw [e4,hli] at e2
     obtain rfl:=Option.some.inj e2
     have e5:l[r.toNat]=h:=by simpa using e1
     rw [<- e5]
     exact Xg hlt
  ·rintro zs H3 ⟨hs,rfl,hl,hg,b3,T3⟩ p hp
   refine ⟨p,_,rfl,.inl ⟨SqL.of aC,fun q hq=>?_⟩⟩
   have sm:=(aD.new (o:=.lst (hs.map V.int)) hp).trans (aD.new (o:=.tup (hs.map V.int)) hq)
   exact k hs q _ (vK (by omega) hg) (b3.trans (But.of sm)) (T3.same sm) (aR.mpr ⟨q,rfl,SqT.of aC⟩)
end
theorem jU {l:List Int} {i:Nat} {v:V} (h:(l.map V.int)[i]?=some v):∃ x,l[i]?=some x/\V.int x=v:=by
 rw [Qi] at h
 cases q:l[i]? with
 | none=>rw [q] at h; cases h
 | some x=>rw [q] at h; exact ⟨x,rfl,Option.some.inj h⟩
theorem nX {n i:Nat} {v:V} (h:((List.replicate n true).map V.bl)[i]?=some v):v=.bl true:=by
 obtain ⟨b,hb,rfl⟩:=Jw.mp (Qh h)
 rw [Xz hb]
def kP (m:Nat) (row:List Int):Prop:=row.length=m/\(∀ c∈row,0<=c/\c<=999)/\row.Pairwise (·<=·)
def gM (n:Int) (m:Nat) (cs:List (List Int)):Prop:=cs.length=n.toNat/\∀ row∈cs,kP m row
def iG (cs:List (List Int)):PyData:=.tuple (cs.map bP)
def iA (row:List Int) (load:Nat) (price:Int):Bool:=!(decide (0 < load) && decide (price < row.getD (load - 1) 0)) && (decide (load=row.length) || decide (price<=row.getD load 0))
theorem atD {row:List Int} {i:Nat} (h:i < row.length):atI (row.map V.int) (i:Int)=some (.int (row.getD i 0)):=eR (by rw [Qi,Jk,Qc h]; rfl)
section
variable {P:Program} {w:World} {K:PySem.W.Frag} {mg:Str->Option Value} {base:Heap}
variable {fW fH fK fB fNB fD fND:Addr} {dW dH dK dB dNB dD dND:FuncData}
def tJ (K:PySem.W.Frag):Sp:=fun vs H Q _=>∃ (m:Nat) (p:Addr) (row:List Int),vs = [.int m,.ref p]/\SqT K H p (row.map V.int)/\kP m row/\m<=12/\∀ H',aD H H'->Q (.bl true) H'
theorem tK:FnScope ["many", "thing"] ["many", "thing"] (aI fJ):=⟨rfl,rfl,rfl,by decide +kernel,rfl,by decide +kernel,by decide +kernel⟩
theorem yW {f:Addr} {fd:FuncData} (G:Fn K mg "is_cost_row" fJ ["many", "thing"] f fd) (B:Bl mg) (R:Pr K mg fW fH fK fB fNB fD fND dW dH dK dB dNB dD dND):FnOk P w K mg base CX0 2 f fd ["many", "thing"] (tJ K):=by
 have OW:FnOk P w K mg base CX0 1 fW dW ["thing"] (kK K):=kC R.W B
 refine G.fn.ok tK (fun vs H Q E h=>?_) (fun cdv A outer s H vs Q E hr h=>?_)
 ·obtain ⟨m,p,row,rfl,_⟩:=h
  rfl
 ·obtain ⟨m,p,row,rfl,hp,⟨hlen,hrng,hris⟩,hm12,k⟩:=h
  obtain ⟨t999,h999⟩:=B.mc
  have r1:Room 1 _:=hr
  refine ⟨_,(aE (cF (PW.pt (jX (cV (cU (aL cH rfl B.isinstance jO (aA (pv 1) (aA (gJ (v:=.ty "tuple") rfl B.tuple cQ rfl) aB))))) (jC (bE iX (aL bU rfl B.len eU (aA (pv 1) aB)) (pv 0) (bJ _)))))
   (aF (aQ dO))
   aW)
  (aE (cF (cV (cU (aL (eY rfl) rfl B.all lK (aA (cM (own:=["cost"]) (fr:=[]) (frn:=[]) (bA (aI fJ) ["many", "thing"] rfl rfl (by decide +kernel)) rfl (gW (pv 1))
    (fun _ _ _ _=>(aK (i:=0) (show (["cost"]:List Str).Nodup by decide +kernel) rfl (Or.inl rfl))) (fun _ _ _ _=>cW)
    (fun _ _ _ _=>(pT (bB R.W OW r1 rfl (aA (pv 0) aB)) (oG (pX lC lC aG (pv 0) (lV (v:=.int 999) rfl h999 ⟨t999,rfl⟩)))))) aB))))
   (aF (aQ dO))
   aW)
  (aF (aQ (aL (eY rfl) rfl B.all lK (aA (cM (own:=["cost", "behind"]) (fr:=[]) (frn:=[]) (bA (aI fJ) ["many", "thing"] rfl rfl (by decide +kernel)) rfl (oJ .t .t rfl B.zip (aA (pv 1) (aA (bD pK (pv 1) (bK aG) bN) aB)))
    (fun _ _ _ _=>(kL (K:=K) (n:=2) rfl rfl (aV (aK (i:=0) (show (["cost", "behind"]:List Str).Nodup by decide +kernel) rfl (Or.inl rfl)) (aV (aK (i:=1) (show (["cost", "behind"]:List Str).Nodup by decide +kernel) rfl (Or.inl rfl)) eF)))) (fun _ _ _ _=>cW)
    (fun _ _ _ _=>(kF lC (pv 0) (pv 1) (bJ _)))) aB)))))),?_⟩
  refine ⟨_,rfl,.ref p,.tup,rfl,.inr (.inl ⟨rfl,_,hp⟩),_,rfl,?_⟩
  refine eO ?_
  refine ⟨_,rfl,p,_,rfl,.inr hp,_,rfl,rfl,_,rfl,?_⟩
  rw [Qb,hlen,show (!decide (V.int (m:Int)=V.int (m:Int)))=false by simp]
  refine eO ?_
  refine ⟨_,rfl,p,rfl,⟨_,hp⟩,lJ (K:=K) (a:=p) (xs:=row.map V.int) (vs:=(List.replicate row.length true).map V.bl) (fun σ=>∃ v,σ = [v]) (by rw [Qb]; omega) (by rw [Qb,Jc,Qb]) hp ⟨none,rfl⟩ ?_ ?_⟩
  ·rintro i xv v σ H2 hxv hv ⟨v0,rfl⟩ s2 Q' hQ'
   obtain ⟨r,hr',rfl⟩:=jU hxv
   obtain ⟨r0,r12⟩:=hrng r (Qh hr')
   obtain rfl:=nX hv
   refine ⟨_,rfl,_,.int r,rfl,bV.mpr rfl,_,rfl,?_⟩
   refine eP ?_
   refine ⟨_,rfl,_,_,rfl,rfl,_,rfl,?_⟩
   rw [decide_eq_true r0]
   refine eP ?_
   refine ⟨_,_,rfl,rfl,?_⟩
   have e12:decide (r<=999)=true:=decide_eq_true r12
   dsimp only
   rw [e12]
   exact hQ' _ _ ⟨_,rfl⟩ (aD.refl _)
  ·rintro H2 s2 z hz
   refine ⟨z,_,rfl,SqL.of aC,_,rfl,?_⟩
   rw [show (List.replicate row.length true).all id=true by simp]
   refine eO ?_
   have s3:=s2.trans (aD.new (o:=.lst ((List.replicate row.length true).map V.bl)) hz)
   generalize upd H2 z (.lst ((List.replicate row.length true).map V.bl))=H3 at s3 ⊢
   have hp3:=s3.seqT hp
   refine ⟨_,rfl,_,rfl,_,rfl,p,_,rfl,hp3,fun q H4 s4 hq=>?_⟩
   rw [show (1:Int)=((1:Nat):Int) from rfl,eW] at hq
   have hp4:=s4.seqT hp3
   refine ⟨p,q,_,_,rfl,hp4,hq,sZ (K:=K) (k1:=.t) (k2:=.t) (a:=p) (b:=q) (xs:=row.map V.int) (zs:=(row.map V.int).drop 1) (vs:=(List.replicate (row.length - 1) true).map V.bl) (fun σ=>∃ v0 v1,σ = [v0,v1]) (by rw [Ja,Qb]; omega) (by rw [Ja]; omega) (by rw [Qb,Jc,Ja,Qb]) (fun H' s'=>⟨s'.seqT hp4,s'.seqT hq⟩) ⟨none,none,rfl⟩ ?_ ?_⟩
   ·rintro i xv zv v pr σ H5 hxv hzv hv hpr ⟨v0,v1,rfl⟩ s5 Q' hQ'
    obtain ⟨x,hx,rfl⟩:=jU hxv
    rw [Yv] at hzv
    obtain ⟨y,hy,rfl⟩:=jU hzv
    obtain rfl:=nX hv
    refine ⟨pr,_,rfl,SqT.of aC,rfl,_,_,rfl,_,_,rfl,rfl,?_⟩
    refine ⟨_,rfl,_,rfl,_,_,rfl,rfl,?_⟩
    have hle:x<=y:=by
     obtain ⟨h1,e1⟩:=Qd.mp hx
     obtain ⟨h2,e2⟩:=Qd.mp hy
     rw [<- e1,<- e2]
     exact Yb.mp hris _ _ h1 h2 (by omega)
    dsimp only
    rw [decide_eq_true hle]
    exact hQ' _ _ ⟨_,_,rfl⟩ (aD.new hpr)
   ·rintro H5 s5 z2 hz2
    refine ⟨z2,_,rfl,SqL.of aC,?_⟩
    rw [show (List.replicate (row.length - 1) true).all id=true by simp]
    exact k _ (s3.trans (s4.trans (s5.trans (aD.new hz2))))
def rF (K:PySem.W.Frag):Sp:=fun vs H Q _=>∃ (x:V) (q:Addr) (n:Int) (ws cs:List (List Int)),vs = [x,.ref q]/\Den K H (cN n ws) x/\bZ (cN n ws)=true/\Den K H (iG cs) (.ref q)/\gM n ws.length cs/\∀ H',aD H H'->Q (.bl true) H'
theorem mS:FnScope ["book", "thing"] ["book", "thing"] (aI fV):=⟨rfl,rfl,rfl,by decide +kernel,rfl,by decide +kernel,by decide +kernel⟩
theorem xK {f fC:Addr} {fd dC:FuncData} (G:Fn K mg "are_costs" fV ["book", "thing"] f fd) (B:Bl mg) (R:Pr K mg fW fH fK fB fNB fD fND dW dH dK dB dNB dD dND) (GCR:Fn K mg "is_cost_row" fJ ["many", "thing"] fC dC):FnOk P w K mg base CX0 5 f fd ["book", "thing"] (rF K):=by
 have ONB:FnOk P w K mg base CX0 4 fNB dNB ["book"] (pP K):=rA B R
 have OCR:FnOk P w K mg base CX0 2 fC dC ["many", "thing"] (tJ K):=yW GCR B R
 refine G.fn.ok mS (fun vs H Q E h=>?_) (fun cdv A outer s H vs Q E hr h=>?_)
 ·obtain ⟨x,q,n,ws,cs,rfl,_⟩:=h
  rfl
 ·obtain ⟨x,q,n,ws,cs,rfl,hx,hb,hq,⟨hcl,hcr⟩,k⟩:=h
  have r4:Room 4 _:=hr
  have r2:Room 2 _:=hr.mono (by decide)
  refine ⟨_,(aE (bI (bB R.NB ONB r4 rfl (aA (pv 0) aB)))
  (aE (cF (PW.pt (jX (cV (cU (aL cH rfl B.isinstance jO (aA (pv 1) (aA (gJ (v:=.ty "tuple") rfl B.tuple cQ rfl) aB))))) (jC (bE iX (aL bU rfl B.len eU (aA (pv 1) aB)) (bS dU (pv 0) aG (fun _ _=>rfl)) (bJ _)))))
   (aF (aQ dO))
   aW)
  (aF (aQ (aL (eY rfl) rfl B.all lK (aA (cM (own:=["row"]) (fr:=[0]) (frn:=["book"]) (bA (aI fV) ["book", "thing"] rfl rfl (by decide +kernel)) rfl (gW (pv 1))
    (fun _ _ _ _=>(aK (i:=0) (show (["row", "book"]:List Str).Nodup by decide +kernel) rfl (Or.inl rfl))) (fun _ _ _ _=>cW)
    (fun _ _ _ _=>(bB GCR OCR r2 rfl (aA (aL (bL (K:=K) rfl) rfl B.len eU (aA (bS (eG (K:=K) rfl) (pv 1) aG (fun _ _=>rfl)) aB)) (aA (pv 0) aB))))) aB)))))),?_⟩
  obtain ⟨hn1,hn6,hw12,hws⟩:=bM hb
  refine ⟨_,rfl,x,_,rfl,hx,hb,fun H1 s1=>?_⟩
  obtain ⟨a,b,ys,rfl,ha,hb2,hys⟩:=cP (s1.den _ _ hx)
  have hlw:=aJ hys
  rw [Qb] at hlw
  obtain ⟨q',rs,e,hq1,hrs⟩:=aO.mp (s1.den _ _ hq)
  obtain rfl:q=q':=by injection e
  have hlr:=aJ hrs
  rw [Qb] at hlr
  refine ⟨_,rfl,.ref q,.tup,rfl,.inr (.inl ⟨rfl,_,hq1⟩),_,rfl,?_⟩
  refine eO ?_
  refine ⟨_,rfl,q,_,rfl,.inr hq1,_,rfl,a,_,0,.int n,rfl,rfl,ha,rfl,rfl,_,rfl,?_⟩
  have el:decide (V.int (rs.length:Nat)=V.int n)=true:=decide_eq_true (by rw [hlr,hcl]; congr 1; omega)
  rw [el]
  refine eO ?_
  refine ⟨_,rfl,q,rfl,⟨_,hq1⟩,lJ (K:=K) (a:=q) (xs:=rs) (vs:=(List.replicate rs.length true).map V.bl) (fun σ=>∃ v,σ = [v,some (.ref a)]) (by omega) (by rw [Qb,Jc]) hq1 ⟨none,rfl⟩ ?_ ?_⟩
  ·rintro i xv v σ H2 hxv hv ⟨v0,rfl⟩ s2 Q' hQ'
   obtain rfl:=nX hv
   obtain ⟨dv,hdv,denv⟩:=cI hrs hxv
   rw [Qi] at hdv
   obtain ⟨row,hrow,rfl⟩:∃ l,cs[i]?=some l/\bP l=dv:=by
    cases q:cs[i]? with
    | none=>rw [q] at hdv; cases hdv
    | some l=>rw [q] at hdv; exact ⟨l,rfl,Option.some.inj hdv⟩
   obtain ⟨aw,rfl,haw⟩:=aR.mp denv
   refine ⟨_,rfl,a,_,1,.ref b,rfl,rfl,s2.seqT ha,rfl,b,ys,rfl,.inr (s2.seqT hb2),_,rfl,ys.length,aw,row,rfl,s2.seqT haw,by rw [hlw]; exact hcr row (Qh hrow),by omega,fun H3 s3=>?_⟩
   exact hQ' _ _ ⟨_,rfl⟩ s3
  ·rintro H2 s2 z hz
   refine ⟨z,_,rfl,SqL.of aC,?_⟩
   rw [show (List.replicate rs.length true).all id=true by simp]
   exact k _ ((s1.trans s2).trans (aD.new hz))
def nY (K:PySem.W.Frag):Sp:=fun vs H Q _=>∃ (x:V) (q:Addr) (n:Int) (ws cs:List (List Int)),vs = [x,.ref q]/\Den K H (cN n ws) x/\bZ (cN n ws)=true/\Den K H (iG cs) (.ref q)/\gM n ws.length cs/\∀ H',aD H H'->Q .non H'
theorem aAo:FnScope ["book", "costs"] ["book", "costs"] (aI jT):=⟨rfl,rfl,rfl,by decide +kernel,rfl,by decide +kernel,by decide +kernel⟩
theorem aCo {f fA:Addr} {fd dA:FuncData} (G:Fn K mg "need_costs" jT ["book", "costs"] f fd) (GA:Fn K mg "are_costs" fV ["book", "thing"] fA dA) (OA:FnOk P w K mg base CX0 5 fA dA ["book", "thing"] (rF K)):FnOk P w K mg base CX0 6 f fd ["book", "costs"] (nY K):=by
 refine G.fn.ok aAo (fun vs H Q E h=>?_) (fun cdv A outer s H vs Q E hr h=>?_)
 ·obtain ⟨x,q,n,ws,cs,rfl,_⟩:=h
  rfl
 ·obtain ⟨x,q,n,ws,cs,rfl,hx,hb,hq,hc,k⟩:=h
  refine ⟨_,aF (cF (cV (cU (bB GA OA hr rfl (aA (pv 0) (aA (pv 1) aB))))) gO aW),?_⟩
  refine ⟨_,rfl,_,rfl,x,q,n,ws,cs,rfl,hx,hb,hq,hc,fun H' s'=>⟨_,rfl,?_⟩⟩
  refine eO ?_
  exact k H' s'
def tL (K:PySem.W.Frag):Sp:=fun vs H Q _=>∃ (p:Addr) (row:List Int) (l:Nat) (pr:Int),vs = [.ref p,.int l,.int pr]/\SqT K H p (row.map V.int)/\l<=row.length/\Q (.bl (iA row l pr)) H
theorem aA9:FnScope ["row", "load", "price"] ["row", "load", "price"] (aI nQ):=⟨rfl,rfl,rfl,by decide +kernel,rfl,by decide +kernel,by decide +kernel⟩
theorem yX {f:Addr} {fd:FuncData} (G:Fn K mg "is_price" nQ ["row", "load", "price"] f fd) (B:Bl mg):FnOk P w K mg base CX0 1 f fd ["row", "load", "price"] (tL K):=by
 refine G.fn.ok aA9 (fun vs H Q E h=>?_) (fun cdv A outer s H vs Q E hr h=>?_)
 ·obtain ⟨p,row,l,pr,rfl,_⟩:=h
  rfl
 ·obtain ⟨p,row,l,pr,rfl,hp,hl,k⟩:=h
  refine ⟨_,(aE (cF (PW.pt (aDO (bE aBt (pv 1) aG (bJ _)) (aCQ (bE aBs (pv 2) (bS dU (pv 0) (aT uA (pv 1) aG) (fun _ _=>rfl)) (bJ _)))))
   (aF (aQ dO))
   aW)
  (aF (aQ (aEC (kF wA (pv 1) (aL bU rfl B.len eU (aA (pv 0) aB)) (bJ _)) (oG (kF lC (pv 2) (bS dU (pv 0) (pv 1) (fun _ _=>rfl)) (bJ _))))))),?_⟩
  refine ⟨_,rfl,_,_,rfl,rfl,_,rfl,?_⟩
  refine gE (fun c=>?_) (fun c=>?_)
  ·have h0:0 < l:=by have:=of_decide_eq_true c; omega
   refine ⟨_,rfl,_,rfl,_,rfl,_,_,rfl,rfl,p,_,((l - 1:Nat):Int),_,rfl,by rw [show ((l - 1:Nat):Int)=(l:Int) - 1 by omega],hp,atD (show l - 1 < row.length by omega),_,_,rfl,rfl,_,rfl,?_⟩
   refine gE (fun c2=>?_) (fun c2=>?_)
   ·have e2:iA row l pr=false:=by unfold iA; rw [decide_eq_true h0,decide_eq_true (of_decide_eq_true c2)]; rfl
    rw [e2] at k
    exact k
   ·have c2':¬ pr < row.getD (l - 1) 0:=fun z=>c2 (decide_eq_true z)
    refine ⟨_,rfl,_,rfl,p,_,rfl,.inr hp,rfl,_,rfl,?_⟩
    by_cases e:l=row.length
    ·rw [decide_eq_true (by rw [Qb,e]:V.int (l:Int)=V.int ((row.map V.int).length:Int))]
     refine eP ?_
     have e2:iA row l pr=true:=by unfold iA; rw [decide_eq_true h0,decide_eq_false c2',decide_eq_true e]; rfl
     rw [e2] at k
     exact k
    ·rw [decide_eq_false (fun z:V.int (l:Int)=V.int ((row.map V.int).length:Int)=>e (by rw [Qb] at z; injection z with z; omega))]
     refine eO ?_
     refine ⟨_,rfl,_,rfl,_,rfl,p,_,l,_,rfl,rfl,hp,atD (by omega),_,_,rfl,rfl,?_⟩
     have e2:iA row l pr=decide (pr<=row.getD l 0):=by unfold iA; rw [decide_eq_true h0,decide_eq_false c2',decide_eq_false e]; rfl
     rw [e2] at k
     exact k
  ·have h0:¬ 0 < l:=fun z=>c (decide_eq_true (by omega))
   refine ⟨_,rfl,_,rfl,p,_,rfl,.inr hp,rfl,_,rfl,?_⟩
   by_cases e:l=row.length
   ·rw [decide_eq_true (by rw [Qb,e]:V.int (l:Int)=V.int ((row.map V.int).length:Int))]
    refine eP ?_
    have e2:iA row l pr=true:=by unfold iA; rw [decide_eq_false h0,decide_eq_true e]; rfl
    rw [e2] at k
    exact k
   ·rw [decide_eq_false (fun z:V.int (l:Int)=V.int ((row.map V.int).length:Int)=>e (by rw [Qb] at z; injection z with z; omega))]
    refine eO ?_
    refine ⟨_,rfl,_,rfl,_,rfl,p,_,l,_,rfl,rfl,hp,atD (by omega),_,_,rfl,rfl,?_⟩
    have e2:iA row l pr=decide (pr<=row.getD l 0):=by unfold iA; rw [decide_eq_false h0,decide_eq_false e]; rfl
    rw [e2] at k
    exact k
def lY (K:PySem.W.Frag):Sp:=fun vs H Q _=>∃ (n:Int) (b:Addr) (hs:List Int),vs = [.int n,.ref b]/\SqT K H b (hs.map V.int)/\0<=n/\n<=6/\∀ p H',aD H H'->H' p=some (.tup ((dZ n hs).map V.int))->Q (.ref p) H'
theorem tM:FnScope ["hands", "deal"] ["hands", "deal"] (aI gH):=⟨rfl,rfl,rfl,by decide +kernel,rfl,by decide +kernel,by decide +kernel⟩
theorem mT {f:Addr} {fd:FuncData} (G:Fn K mg "counted" gH ["hands", "deal"] f fd) (B:Bl mg):FnOk P w K mg base CX0 1 f fd ["hands", "deal"] (lY K):=by
 refine G.fn.ok tM (fun vs H Q E h=>?_) (fun cdv A outer s H vs Q E hr h=>?_)
 ·obtain ⟨n,b,hs,rfl,_⟩:=h
  rfl
 ·obtain ⟨n,c,hs,rfl,hc,hn1,hn6,k⟩:=h
  refine ⟨_,aF (aQ (cA cG rfl B.tuple cQ (aA
    (cM (own:=["hand"]) (fr:=[1]) (frn:=["deal"]) (bA (aI gH) ["hands", "deal"] rfl rfl (by decide +kernel)) rfl (cL rfl B.range (aA (pv 0) aB))
     (fun _ _ _ _=>aK (i:=0) (show (["hand", "deal"]:List Str).Nodup by decide +kernel) rfl (Or.inl rfl)) (fun _ _ _ _=>cW)
     (fun _ _ _ _=>vH (K:=K) rfl PySem.F.plainAttrs_tuple PySem.F.slot_tuple_count PySem.F.type_tuple_count (yV (K:=K) rfl) (pv 1) (aA (pv 0) aB))) aB))),?_⟩
  refine ⟨_,rfl,n,rfl,by omega,by omega,iE (lo:=0) (n:=n.toNat) (fun σ=>∃ v,σ = [v,some (.ref c)]) (fun i zs H2=>H2=H/\zs=(((yG n.toNat).take i).map fun h=>((hs.count h:Nat):Int)).map V.int) ?_ ⟨none,rfl⟩ ⟨rfl,rfl⟩ ?_ ?_ ?_⟩
  ·rw [sizeLine_eq]; omega
  ·rintro i zs H2 ⟨_,rfl⟩
   rw [Qb,Qb,Qu]; omega
  ·rintro i zs σ H2 hi ⟨v,rfl⟩ ⟨rfl,rfl⟩ hz
   refine cX ?_
   refine ⟨_,rfl,.inr (.inl ⟨rfl,_,hc⟩),_,rfl,c,hs,_,rfl,rfl,hc,hz,⟨_,rfl⟩,rfl,?_⟩
   rw [Jn,xF hi]
   simp
  ·rintro zs H2 ⟨rfl,rfl⟩ p hp
   refine ⟨p,_,rfl,.inl ⟨SqL.of aC,fun l hl=>?_⟩⟩
   refine k l _ ((aD.new hp).trans (aD.new hl)) ?_
   rw [aC,Jj (by rw [lO]; exact Qg _)]
   rfl
def rG (K:PySem.W.Frag):Sp:=fun vs H Q _=>∃ (n:Int) (b:Addr) (hs:List Int),vs = [.int n,.ref b]/\SqL K H b (hs.map V.int)/\0<=n/\n<=6/\∀ p H',aD H H'->H' p=some (.tup ((dZ n hs).map V.int))->Q (.ref p) H'
theorem xL {f:Addr} {fd:FuncData} (G:Fn K mg "counted" gH ["hands", "deal"] f fd) (B:Bl mg):FnOk P w K mg base CX0 1 f fd ["hands", "deal"] (rG K):=by
 refine G.fn.ok tM (fun vs H Q E h=>?_) (fun cdv A outer s H vs Q E hr h=>?_)
 ·obtain ⟨n,b,hs,rfl,_⟩:=h
  rfl
 ·obtain ⟨n,c,hs,rfl,hc,hn1,hn6,k⟩:=h
  refine ⟨_,aF (aQ (cA cG rfl B.tuple cQ (aA
    (cM (own:=["hand"]) (fr:=[1]) (frn:=["deal"]) (bA (aI gH) ["hands", "deal"] rfl rfl (by decide +kernel)) rfl (cL rfl B.range (aA (pv 0) aB))
     (fun _ _ _ _=>aK (i:=0) (show (["hand", "deal"]:List Str).Nodup by decide +kernel) rfl (Or.inl rfl)) (fun _ _ _ _=>cW)
     (fun _ _ _ _=>vH (K:=K) rfl PySem.F.plainAttrs_list PySem.F.slot_list_count PySem.F.type_list_count (aA4 (K:=K) rfl) (pv 1) (aA (pv 0) aB))) aB))),?_⟩
  refine ⟨_,rfl,n,rfl,by omega,by omega,iE (lo:=0) (n:=n.toNat) (fun σ=>∃ v,σ = [v,some (.ref c)]) (fun i zs H2=>H2=H/\zs=(((yG n.toNat).take i).map fun h=>((hs.count h:Nat):Int)).map V.int) ?_ ⟨none,rfl⟩ ⟨rfl,rfl⟩ ?_ ?_ ?_⟩
  ·rw [sizeLine_eq]; omega
  ·rintro i zs H2 ⟨_,rfl⟩
   rw [Qb,Qb,Qu]; omega
  ·rintro i zs σ H2 hi ⟨v,rfl⟩ ⟨rfl,rfl⟩ hz
   refine cX ?_
   refine ⟨_,rfl,.inl ⟨rfl,_,hc⟩,_,rfl,c,hs,_,rfl,rfl,hc,hz,⟨_,rfl⟩,rfl,?_⟩
   rw [Jn,xF hi]
   simp
  ·rintro zs H2 ⟨rfl,rfl⟩ p hp
   refine ⟨p,_,rfl,.inl ⟨SqL.of aC,fun l hl=>?_⟩⟩
   refine k l _ ((aD.new hp).trans (aD.new hl)) ?_
   rw [aC,Jj (by rw [lO]; exact Qg _)]
   rfl
theorem jV (n:Int) (hs:List Int):(dZ n hs).length=n.toNat:=by unfold dZ; rw [Qb,lO]
theorem nZ {n:Int} {hs:List Int} {l:Int} (h:l∈dZ n hs):0<=l/\l<=hs.length:=by
 unfold dZ at h
 obtain ⟨i,_,rfl⟩:=Jw.mp h
 have:=List.count_le_length (a:=i) (l:=hs)
 omega
def rH (cs:List (List Int)) (ls:List Int):Prop:=cs.length=ls.length/\cs.length<=6/\∀ (i:Nat) row l,cs[i]?=some row->ls[i]?=some l->0<=l/\l<=row.length/\row.length<=12
def yY (K:PySem.W.Frag):Sp:=fun vs H Q _=>∃ (q p:Addr) (cs:List (List Int)) (ls:List Int),vs = [.ref q,.ref p]/\Den K H (iG cs) (.ref q)/\SqT K H p (ls.map V.int)/\rH cs ls/\∀ (r:Addr) (ns:List Int) H',aD H H'->H r=none->H' r=some (.lst (ns.map V.int))->ns.length=cs.length->Q (.ref r) H'
theorem aEn:FnScope ["costs", "many"] ["costs", "many"] (aI tE):=⟨rfl,rfl,rfl,by decide +kernel,rfl,by decide +kernel,by decide +kernel⟩
theorem aAp {f:Addr} {fd:FuncData} (G:Fn K mg "next_costs" tE ["costs", "many"] f fd) (B:Bl mg):FnOk P w K mg base CX0 1 f fd ["costs", "many"] (yY K):=by
 refine G.fn.ok aEn (fun vs H Q E h=>?_) (fun cdv A outer s H vs Q E hr h=>?_)
 ·obtain ⟨q,p,cs,ls,rfl,_⟩:=h
  rfl
 ·obtain ⟨q,p,cs,ls,rfl,hq,hp,⟨hl1,hl2,hfit⟩,k⟩:=h
  refine ⟨_,(aF (aQ (cM (own:=["row", "load"]) (fr:=[]) (frn:=[]) (bA (aI tE) ["costs", "many"] rfl rfl (by decide +kernel)) rfl (oJ .t .t rfl B.zip (aA (pv 0) (aA (pv 1) aB)))
    (fun _ _ _ _=>(kL (K:=K) (n:=2) rfl rfl (aV (aK (i:=0) (show (["row", "load"]:List Str).Nodup by decide +kernel) rfl (Or.inl rfl)) (aV (aK (i:=1) (show (["row", "load"]:List Str).Nodup by decide +kernel) rfl (Or.inl rfl)) eF)))) (fun _ _ _ _=>cW)
    (fun _ _ _ _=>(bS (eG (K:=K) rfl) (aT (bF (K:=K) rfl) (aT (bF (K:=K) rfl) (pv 0) (bD (bH (K:=K) rfl) (pv 0) (bK (kU iS aG)) bN)) (aX (aA aG aB))) (pv 1) (fun _ _=>rfl)))))),?_⟩
  obtain ⟨q',rs,e,hq1,hrs⟩:=aO.mp hq
  obtain rfl:q=q':=by injection e
  have hlr:=aJ hrs
  rw [Qb] at hlr
  refine ⟨_,rfl,_,rfl,q,p,_,_,rfl,hq1,hp,qI (K:=K) (k1:=.t) (k2:=.t) (a:=q) (b:=p) (xs:=rs) (ys:=ls.map V.int) (fun σ=>∃ v0 v1,σ = [v0,v1]) (fun i zs H2=>aD H H2/\∃ ns:List Int,zs=ns.map V.int/\ns.length=i) (eA (by omega)) (by rw [Qb]; omega) ⟨none,none,rfl⟩ ⟨aD.refl _,[],rfl,rfl⟩ ?_ ?_ ?_ ?_⟩
  ·rintro i zs H2 ⟨_,ns,rfl,hn⟩
   rw [Qb,hn]
   exact Qg _
  ·rintro i zs H2 ⟨s2,_⟩
   exact ⟨s2.seqT hq1,s2.seqT hp⟩
  ·rintro i zs σ xv yv pr H2 hxv hyv ⟨v0,v1,rfl⟩ ⟨s2,ns,rfl,hn⟩ hpr hz
   obtain ⟨l,hl,rfl⟩:=jU hyv
   obtain ⟨dv,hdv,denv⟩:=cI hrs hxv
   rw [Qi] at hdv
   obtain ⟨row,hrow,rfl⟩:∃ l,cs[i]?=some l/\bP l=dv:=by
    cases q:cs[i]? with
    | none=>rw [q] at hdv; cases hdv
    | some l=>rw [q] at hdv; exact ⟨l,rfl,Option.some.inj hdv⟩
   obtain ⟨aw,rfl,haw⟩:=aR.mp denv
   obtain ⟨f1,f2,f3⟩:=hfit i row l hrow hl
   have s3:=s2.trans (aD.new (o:=.tup [.ref aw,.int l]) hpr)
   refine ⟨pr,_,rfl,SqT.of aC,rfl,_,_,rfl,_,_,rfl,rfl,?_⟩
   generalize upd H2 pr (.tup [.ref aw,.int l])=H3 at s3 ⊢
   have haw3:=s3.seqT haw
   refine vC ?_
   refine ⟨_,rfl,_,rfl,1,rfl,_,rfl,aw,_,rfl,haw3,fun q1 H4 s4 hq1=>?_⟩
   have haw4:=s4.seqT haw3
   have hc1:(iY (row.map V.int) (some (-1)) none).length<=(row.map V.int).length:=cB _ _ _
   rw [Qb] at hc1
   refine ⟨aw,q1,_,_,rfl,rfl,haw4,hq1,by rw [Qb,sizeLine_eq]; omega,fun q2 H5 s5 hq2=>⟨sz1 _,fun q3 hq3=>?_⟩⟩
   have s6:=aD.new (o:=.tup [.int 0]) hq3
   refine ⟨q2,q3,_,_,rfl,rfl,s6.seqT hq2,SqT.of aC,by rw [Qe,Qb,sizeLine_eq]; show _+1<=_; omega,fun q4 H7 s7 hq4=>?_⟩
   have hlt:l.toNat < (row.map V.int++iY (row.map V.int) (some (-1)) none++[V.int 0]).length:=by
    rw [Qe,Qe,Qb]
    show _ < _+1
    omega
   have hmem:=Xg hlt
   obtain ⟨c,hc⟩:∃ c:Int,(row.map V.int++iY (row.map V.int) (some (-1)) none++[V.int 0])[l.toNat]=.int c:=by
    rcases Qx.mp hmem with h | h
    ·rcases Qx.mp h with h | h
     ·obtain ⟨c,_,e⟩:=Jw.mp h; exact ⟨c,e.symm⟩
     ·obtain ⟨c,_,e⟩:=Jw.mp (aBK h); exact ⟨c,e.symm⟩
    ·exact ⟨0,Qp.mp h⟩
   have hat:atI (row.map V.int++iY (row.map V.int) (some (-1)) none++[V.int 0]) l=some (.int c):=by
    have h2:=eR (Qc hlt)
    rwa [hc,Ys f1] at h2
   refine ⟨_,rfl,q4,_,l,_,rfl,rfl,hq4,hat,hz,⟨_,_,rfl⟩,s3.trans (s4.trans (s5.trans (s6.trans s7))),ns++[c],by rw [Qz]; rfl,by rw [Qe,hn]; rfl⟩
  ·rintro zs H2 ⟨s2,ns,rfl,hn⟩ z hz
   exact k z ns _ (s2.trans (aD.new hz)) (by
    cases e:H z with
    | none=>rfl
    | some o=>rw [s2 _ _ e] at hz; cases hz) aC (by rw [hn,hlr])
theorem tN:∀ {l:List Int},(∀ c∈l,0<=c/\c<=999)->0<=gR l/\gR l<=999*l.length
 | [],_=>⟨Zq _,Zq _⟩
 | x::l,h=>by
  have h1:=h x (Qt ..)
  have h2:=tN fun c hc=>h c (Qq _ hc)
  rw [show gR (x::l)=x+gR l from rfl,Jt]
  omega
theorem tO {n:Int} {ws cs:List (List Int)} {hs:List Int} (hn:n<=6) (hw:ws.length<=12) (hl:hs.length=ws.length) (hc:gM n ws.length cs):rH cs (dZ n hs):=by
 refine ⟨by rw [jV,hc.1],by rw [hc.1]; omega,fun i row l h1 h2=>?_⟩
 have hb:=nZ (Qh h2)
 have hr:=(hc.2 row (Qh h1)).1
 omega
theorem xM {H:Hp} {x y:V} {n:Int} {ws:List (List Int)} {hs:List Int} (g:kM K H x y n ws hs):hs.length=ws.length:=(cZ g.2.2.2).1
def rJ (K:PySem.W.Frag):Sp:=fun vs H Q _=>∃ (x y:V) (q:Addr) (n:Int) (ws cs:List (List Int)) (hs:List Int),vs = [x,.ref q,y]/\kM K H x y n ws hs/\Den K H (iG cs) (.ref q)/\gM n ws.length cs/\∀ c H',aD H H'->Q (.int c) H'
theorem xN:FnScope ["book", "costs", "deal"] ["book", "costs", "deal"] (aI kJ):=⟨rfl,rfl,rfl,by decide +kernel,rfl,by decide +kernel,by decide +kernel⟩
theorem tP {f fN fC:Addr} {fd dN dC:FuncData} (G:Fn K mg "cost_of" kJ ["book", "costs", "deal"] f fd) (B:Bl mg) (R:Pr K mg fW fH fK fB fNB fD fND dW dH dK dB dNB dD dND) (GNC:Fn K mg "need_costs" jT ["book", "costs"] fN dN) (ONC:FnOk P w K mg base CX0 6 fN dN ["book", "costs"] (nY K)) (GCo:Fn K mg "counted" gH ["hands", "deal"] fC dC):FnOk P w K mg base CX0 7 f fd ["book", "costs", "deal"] (rJ K):=by
 have OND:FnOk P w K mg base CX0 6 fND dND ["book", "deal"] (nV K):=nW B R
 have OCo:FnOk P w K mg base CX0 1 fC dC ["hands", "deal"] (lY K):=mT GCo B
 refine G.fn.ok xN (fun vs H Q E h=>?_) (fun cdv A outer s H vs Q E hr h=>?_)
 ·obtain ⟨x,y,q,n,ws,cs,hs,rfl,_⟩:=h
  rfl
 ·obtain ⟨x,y,q,n,ws,cs,hs,rfl,g,hq,hc,k⟩:=h
  have r6:Room 6 _:=hr
  have r1:Room 1 _:=hr.mono (by decide)
  refine ⟨_,(aE (bI (bB R.ND OND r6 rfl (aA (pv 0) (aA (pv 2) aB))))
  (aE (bI (bB GNC ONC r6 rfl (aA (pv 0) (aA (pv 1) aB))))
  (aF (aQ (aL (aBD rfl) rfl B.sum aDG (aA (cM (own:=["row", "load"]) (fr:=[]) (frn:=[]) (bA (aI kJ) ["book", "costs", "deal"] rfl rfl (by decide +kernel)) rfl (oJ .t .t rfl B.zip (aA (pv 1) (aA (bB GCo OCo r1 rfl (aA (bS dU (pv 0) aG (fun _ _=>rfl)) (aA (pv 2) aB))) aB)))
    (fun _ _ _ _=>(kL (K:=K) (n:=2) rfl rfl (aV (aK (i:=0) (show (["row", "load"]:List Str).Nodup by decide +kernel) rfl (Or.inl rfl)) (aV (aK (i:=1) (show (["row", "load"]:List Str).Nodup by decide +kernel) rfl (Or.inl rfl)) eF)))) (fun _ _ _ _=>cW)
    (fun _ _ _ _=>(aL (yQ (K:=K) rfl rfl) rfl B.sum aDG (aA (bD (bH (K:=K) rfl) (pv 0) bN (bK (pv 1))) aB)))) aB)))))),?_⟩
  obtain ⟨hn1,hn6,hw12,hws⟩:=bM g.2.1
  have hlen:=xM g
  refine ⟨_,rfl,_,rfl,x,y,n,ws,hs,rfl,g,fun H1 s1=>?_⟩
  refine ⟨_,rfl,_,rfl,x,q,n,ws,cs,rfl,s1.den _ _ g.1,g.2.1,s1.den _ _ hq,hc,fun H2 s2=>?_⟩
  have s12:=s1.trans s2
  obtain ⟨ba,bb,ys,rfl,ha,hb2,hys⟩:=cP (s12.den _ _ g.1)
  obtain ⟨dp,rfl,hdp⟩:=aR.mp (s12.den _ _ g.2.2.1)
  refine ⟨_,rfl,_,rfl,ba,_,0,.int n,rfl,rfl,ha,rfl,_,rfl,n,dp,hs,rfl,hdp,by omega,hn6,fun p H3 s3 hp=>?_⟩
  have s13:=s12.trans s3
  obtain ⟨q',rs,e,hq1,hrs⟩:=aO.mp (s13.den _ _ hq)
  obtain rfl:q=q':=by injection e
  have hlr:=aJ hrs
  rw [Qb] at hlr
  obtain ⟨hl1,hl2,hfit⟩:=tO hn6 hw12 hlen hc
  have hp3:SqT K H3 p ((dZ n hs).map V.int):=SqT.of hp
  refine ⟨q,p,_,_,rfl,hq1,hp3,qI (K:=K) (k1:=.t) (k2:=.t) (a:=q) (b:=p) (xs:=rs) (ys:=(dZ n hs).map V.int) (fun σ=>∃ v0 v1,σ = [v0,v1]) (fun i zs H4=>aD H3 H4/\∃ ns:List Int,zs=ns.map V.int/\ns.length=i/\∀ c∈ns,0<=c/\c < 1000000) (eA (by omega)) (by rw [Qb]; omega) ⟨none,none,rfl⟩ ⟨aD.refl _,[],rfl,rfl,fun _ h=>(Qn h).elim⟩ ?_ ?_ ?_ ?_⟩
  ·rintro i zs H4 ⟨_,ns,rfl,hn,_⟩
   rw [Qb,hn]
   exact Qg _
  ·rintro i zs H4 ⟨s4,_⟩
   exact ⟨s4.seqT hq1,s4.seqT hp3⟩
  ·rintro i zs σ xv yv pr H4 hxv hyv ⟨v0,v1,rfl⟩ ⟨s4,ns,rfl,hn,hns⟩ hpr hz
   obtain ⟨l,hl,rfl⟩:=jU hyv
   obtain ⟨dv,hdv,denv⟩:=cI hrs hxv
   rw [Qi] at hdv
   obtain ⟨row,hrow,rfl⟩:∃ l,cs[i]?=some l/\bP l=dv:=by
    cases q:cs[i]? with
    | none=>rw [q] at hdv; cases hdv
    | some l=>rw [q] at hdv; exact ⟨l,rfl,Option.some.inj hdv⟩
   obtain ⟨aw,rfl,haw⟩:=aR.mp denv
   obtain ⟨f1,f2,f3⟩:=hfit i row l hrow hl
   obtain ⟨ln,rfl⟩:∃ ln:Nat,l=ln:=⟨l.toNat,by omega⟩
   have s5:=s4.trans (aD.new (o:=.tup [.ref aw,.int ln]) hpr)
   refine ⟨pr,_,rfl,SqT.of aC,rfl,_,_,rfl,_,_,rfl,rfl,?_⟩
   generalize upd H4 pr (.tup [.ref aw,.int ln])=H5 at s5 ⊢
   refine vC ?_
   refine ⟨_,rfl,_,rfl,_,rfl,aw,_,rfl,s5.seqT haw,fun q1 H6 s6 hq1'=>?_⟩
   rw [kI,<- Yg] at hq1'
   have hrng:=(hc.2 row (Qh hrow)).2.1
   have hb:∀ c∈row.take ln,0<=c/\c<=999:=fun c hcm=>hrng c (Jq hcm)
   have hsb:=tN hb
   have htl:(row.take ln).length<=12:=by rw [Qu]; omega
   refine ⟨q1,row.take ln,rfl,hq1',fun c hcm=>by have:=hb c hcm; omega,by omega,hz,⟨_,_,rfl⟩,s5.trans s6,ns++[gR (row.take ln)],by rw [Qz]; rfl,by rw [Qe,hn]; rfl,fun c hcm=>?_⟩
   rcases Qx.mp hcm with h | h
   ·exact hns c h
   ·rw [Qp.mp h]; omega
  ·rintro zs H4 ⟨s4,ns,rfl,hn,hns⟩ z hz
   exact ⟨z,ns,rfl,SqL.of aC,hns,by omega,k _ _ (s13.trans (s4.trans (aD.new hz)))⟩
theorem aDp {X:Cx} {K:PySem.W.Frag} {tg l:Expr} {tl:TE} (hK:X.K=K) (hl:PE X l tl):PI X tg l (aEH K tl):=by subst hK; exact gW hl
theorem kQ {xs:List Int} {i:Nat} {v:V} (h:(xs.map V.int)[i]?=some v):∃ a,xs[i]?=some a/\v=.int a:=by
 rw [Qi] at h
 cases q:xs[i]? with
 | none=>rw [q] at h; cases h
 | some a=>rw [q] at h; exact ⟨a,rfl,(Option.some.inj h).symm⟩
theorem rK {xs:List Int} {h:Int} (h0:0<=h) (h1:h < xs.length):atI (xs.map V.int) h=some (.int (xs.getD h.toNat 0)):=by
 have hlt:h.toNat < xs.length:=by omega
 have h2:=eR (xs:=xs.map V.int) (j:=h.toNat) (v:=.int (xs.getD h.toNat 0)) (by rw [Qi,Qc hlt,Jk,Qc hlt]; rfl)
 rwa [show ((h.toNat:Nat):Int)=h by omega] at h2
def vL (ls:List Int) (p:Int×List Int):Bool:=p.2.all fun o=>decide (ls.getD p.1.toNat 0<=ls.getD o.toNat 0)
def oA (cs:List (List Int)) (ls ps:List Int):List Bool:=(List.range cs.length).map fun i=>iA (cs.getD i []) (ls.getD i 0).toNat (ps.getD i 0)
def mU (n:Int) (ws cs:List (List Int)) (hs ps:List Int):Bool:=decide (ps.length=n.toNat) && ((oA cs (dZ n hs) ps).all id && (hs.zip ws).all (vL ps))
theorem kM.hand {H:Hp} {x y:V} {n:Int} {ws:List (List Int)} {hs:List Int} (g:kM K H x y n ws hs) {i:Nat} {h:Int} (e:hs[i]?=some h):0<=h/\h < n:=by
 obtain ⟨_,_,_,hw⟩:=bM g.2.1
 obtain ⟨hl,hd⟩:=cZ g.2.2.2
 have hi:i < ws.length:=by rw [<- hl]; exact (Qd.mp e).1
 have hm:=hd i h ws[i] e (Qc hi)
 exact (cY (hw _ (Xg hi))).2.1 h hm
def aAq (K:PySem.W.Frag):Sp:=fun vs H Q _=>∃ (x y:V) (q p:Addr) (n:Int) (ws cs:List (List Int)) (hs ps:List Int),vs = [x,.ref q,y,.ref p]/\kM K H x y n ws hs/\Den K H (iG cs) (.ref q)/\gM n ws.length cs/\SqT K H p (ps.map V.int)/\ps.length<=100/\∀ H',aD H H'->Q (.bl (mU n ws cs hs ps)) H'
theorem vM:FnScope ["book", "costs", "deal", "prices", "many"] ["book", "costs", "deal", "prices"] (aI lM):=⟨rfl,rfl,rfl,by decide +kernel,rfl,by decide +kernel,by decide +kernel⟩
set_option maxHeartbeats 2000000 in
theorem aCp {f fN fC fI:Addr} {fd dN dC dI:FuncData} (G:Fn K mg "are_prices" lM ["book", "costs", "deal", "prices"] f fd) (B:Bl mg) (R:Pr K mg fW fH fK fB fNB fD fND dW dH dK dB dNB dD dND) (GNC:Fn K mg "need_costs" jT ["book", "costs"] fN dN) (ONC:FnOk P w K mg base CX0 6 fN dN ["book", "costs"] (nY K)) (GCo:Fn K mg "counted" gH ["hands", "deal"] fC dC) (GIP:Fn K mg "is_price" nQ ["row", "load", "price"] fI dI):FnOk P w K mg base CX0 7 f fd ["book", "costs", "deal", "prices"] (aAq K):=by
 have OND:FnOk P w K mg base CX0 6 fND dND ["book", "deal"] (nV K):=nW B R
 have OCo:FnOk P w K mg base CX0 1 fC dC ["hands", "deal"] (lY K):=mT GCo B
 have OW:FnOk P w K mg base CX0 1 fW dW ["thing"] (kK K):=kC R.W B
 have OIP:FnOk P w K mg base CX0 1 fI dI ["row", "load", "price"] (tL K):=yX GIP B
 refine G.fn.ok vM (fun vs H Q E h=>?_) (fun cdv A outer s H vs Q E hr h=>?_)
 ·obtain ⟨x,y,q,p,n,ws,cs,hs,ls,rfl,_⟩:=h
  rfl
 ·obtain ⟨x,y,q,p,n,ws,cs,hs,ls,rfl,g,hq,hc,hp,hl100,k⟩:=h
  have r6:Room 6 _:=hr
  have r1:Room 1 _:=hr.mono (by decide)
  refine ⟨_,(aE (bI (bB R.ND OND r6 rfl (aA (pv 0) (aA (pv 2) aB))))
  (aE (bI (bB GNC ONC r6 rfl (aA (pv 0) (aA (pv 1) aB))))
  (aE (cF (PW.pt (jX (cV (cU (aL cH rfl B.isinstance jO (aA (pv 3) (aA (gJ (v:=.ty "tuple") rfl B.tuple cQ rfl) aB))))) (jC (bE iX (aL bU rfl B.len eU (aA (pv 3) aB)) (bS dU (pv 0) aG (fun _ _=>rfl)) (bJ _)))))
   (aF (aQ dO))
   aW)
  (aE (cF (cV (cU (aL (eY rfl) rfl B.all lK (aA (cM (own:=["price"]) (fr:=[]) (frn:=[]) (bA (aI lM) ["book", "costs", "deal", "prices", "many"] rfl rfl (by decide +kernel)) rfl (gW (pv 3))
    (fun _ _ _ _=>(aK (i:=0) (show (["price"]:List Str).Nodup by decide +kernel) rfl (Or.inl rfl))) (fun _ _ _ _=>cW)
    (fun _ _ _ _=>(bB R.W OW r1 rfl (aA (pv 0) aB)))) aB))))
   (aF (aQ dO))
   aW)
  (aE (aS (i:=4) vM.nd rfl (Or.inl rfl) (bB GCo OCo r1 rfl (aA (bS dU (pv 0) aG (fun _ _=>rfl)) (aA (pv 2) aB))))
  (aE (cF (cV (cU (aL (eY rfl) rfl B.all lK (aA (cM (own:=["row", "load", "price"]) (fr:=[]) (frn:=[]) (bA (aI lM) ["book", "costs", "deal", "prices", "many"] rfl rfl (by decide +kernel)) rfl (aDi .t .t .t rfl B.zip (aA (pv 1) (aA (pv 4) (aA (pv 3) aB))))
    (fun _ _ _ _=>(kL (K:=K) (n:=3) rfl rfl (aV (aK (i:=0) (show (["row", "load", "price"]:List Str).Nodup by decide +kernel) rfl (Or.inl rfl)) (aV (aK (i:=1) (show (["row", "load", "price"]:List Str).Nodup by decide +kernel) rfl (Or.inl rfl)) (aV (aK (i:=2) (show (["row", "load", "price"]:List Str).Nodup by decide +kernel) rfl (Or.inl rfl)) eF))))) (fun _ _ _ _=>cW)
    (fun _ _ _ _=>(bB GIP OIP r1 rfl (aA (pv 0) (aA (pv 1) (aA (pv 2) aB)))))) aB))))
   (aF (aQ dO))
   aW)
  (aF (aQ (aL (eY rfl) rfl B.all lK (aA (aBU (own:=["hand", "able", "other"]) (fr:=[3]) (frn:=["prices"]) (bA (aI lM) ["book", "costs", "deal", "prices", "many"] rfl rfl (by decide +kernel)) rfl (oJ .t .t rfl B.zip (aA (pv 2) (aA (bS dU (pv 0) aG (fun _ _=>rfl)) aB)))
    (fun _ _ _ _=>(kL (K:=K) (n:=2) rfl rfl (aV (aK (i:=0) (show (["hand", "able", "other", "prices"]:List Str).Nodup by decide +kernel) rfl (Or.inl rfl)) (aV (aK (i:=1) (show (["hand", "able", "other", "prices"]:List Str).Nodup by decide +kernel) rfl (Or.inl rfl)) eF)))) (fun _ _ _ _=>(aDp (K:=K) rfl (pv 1))) (fun _ _ _ _=>(aK (i:=2) (show (["hand", "able", "other", "prices"]:List Str).Nodup by decide +kernel) rfl (Or.inl rfl)))
    (fun _ _ _ _=>(kF lC (bS (eG (K:=K) rfl) (pv 3) (pv 0) (fun _ _=>rfl)) (bS (eG (K:=K) rfl) (pv 3) (pv 2) (fun _ _=>rfl)) (bJ _)))) aB)))))))))),?_⟩
  obtain ⟨hn1,hn6,hw12,hws⟩:=bM g.2.1
  have hlen:=xM g
  refine ⟨_,rfl,_,rfl,x,y,n,ws,hs,rfl,g,fun H1 s1=>?_⟩
  refine ⟨_,rfl,_,rfl,x,q,n,ws,cs,rfl,s1.den _ _ g.1,g.2.1,s1.den _ _ hq,hc,fun H2 s2=>?_⟩
  have s12:=s1.trans s2
  have g2:=g.same s12
  obtain ⟨a,b,ys,rfl,ha2,_,_⟩:=cP g2.1
  have hp2:=s12.seqT hp
  refine ⟨_,rfl,.ref p,.tup,rfl,.inr (.inl ⟨rfl,_,hp2⟩),_,rfl,?_⟩
  refine eO ?_
  refine ⟨_,rfl,p,_,rfl,.inr hp2,_,rfl,a,_,0,.int n,rfl,rfl,ha2,rfl,rfl,_,rfl,?_⟩
  rw [Qb]
  by_cases heq:ls.length=n.toNat
  case neg =>
   rw [decide_eq_false (fun z:V.int (ls.length:Int)=V.int n=>heq (by injection z with z; omega))]
   refine eP ?_
   have e:mU n ws cs hs ls=false:=by unfold mU; rw [decide_eq_false heq]; rfl
   rw [e] at k
   exact k _ s12
  rw [decide_eq_true (by congr 1; omega:V.int (ls.length:Int)=V.int n)]
  refine eO ?_
  refine ⟨_,rfl,p,rfl,⟨_,hp2⟩,lJ (K:=K) (a:=p) (xs:=ls.map V.int) (vs:=(List.replicate ls.length true).map V.bl) (fun σ=>∃ v,σ = [v]) (by rw [Qb]; omega) (by rw [Qb,Jc,Qb]) hp2 ⟨none,rfl⟩ ?_ ?_⟩
  ·rintro i xv v σ H3 hxv hv ⟨v0,rfl⟩ s3 Q' hQ'
   obtain ⟨r,hr',rfl⟩:=jU hxv
   obtain rfl:=nX hv
   refine ⟨_,rfl,_,.int r,rfl,bV.mpr rfl,?_⟩
   exact hQ' _ _ ⟨_,rfl⟩ (aD.refl _)
  ·rintro H3 s3 z hz
   refine ⟨z,_,rfl,SqL.of aC,_,rfl,?_⟩
   rw [show (List.replicate ls.length true).all id=true by simp]
   refine eO ?_
   have s4:=(s12.trans s3).trans (aD.new (o:=.lst ((List.replicate ls.length true).map V.bl)) hz)
   generalize upd H3 z (.lst ((List.replicate ls.length true).map V.bl))=H4 at s4 ⊢
   have g4:=g.same s4
   obtain ⟨a',b',ys',e',ha4,hb4,hys4⟩:=cP g4.1
   obtain rfl:a=a':=by injection e'
   obtain ⟨dp,rfl,hdp4⟩:=aR.mp g4.2.2.1
   refine ⟨_,rfl,a,_,0,.int n,rfl,rfl,ha4,rfl,_,rfl,n,dp,hs,rfl,hdp4,by omega,hn6,fun mp H5 s5 hmp=>?_⟩
   have s05:=s4.trans s5
   obtain ⟨q',rs,e,hq1,hrs⟩:=aO.mp (s05.den _ _ hq)
   obtain rfl:q=q':=by injection e
   have hlr:=aJ hrs
   rw [Qb] at hlr
   obtain ⟨hl1,hl2,hfit⟩:=tO hn6 hw12 hlen hc
   have hmp5:SqT K H5 mp ((dZ n hs).map V.int):=SqT.of hmp
   have hp5:=s05.seqT hp
   have hll:=jV n hs
   refine ⟨_,rfl,_,rfl,_,rfl,q,mp,p,_,_,_,rfl,hq1,hmp5,hp5,aA3 (K:=K) (k1:=.t) (k2:=.t) (k3:=.t) (a:=q) (b:=mp) (d:=p) (xs:=rs) (zs:=(dZ n hs).map V.int) (us:=ls.map V.int) (vs:=(oA cs (dZ n hs) ls).map V.bl) (fun σ=>∃ v0 v1 v2,σ = [v0,v1,v2]) (by omega) (by rw [Qb]; omega) (by rw [Qb,hlr,hc.1]; exact heq) (by unfold oA; rw [Qb,Qb,List.length_range]; omega) (fun H' s'=>⟨s'.seqT hq1,s'.seqT hmp5,s'.seqT hp5⟩) ⟨none,none,none,rfl⟩ ?_ ?_⟩
   ·rintro i xv zv uv v pr σ H6 hxv hzv huv hv hpr ⟨v0,v1,v2,rfl⟩ s6 Q' hQ'
    obtain ⟨l,hl,rfl⟩:=jU hzv
    obtain ⟨c,hc',rfl⟩:=jU huv
    obtain ⟨dv,hdv,denv⟩:=cI hrs hxv
    rw [Qi] at hdv
    obtain ⟨row,hrow,rfl⟩:∃ l,cs[i]?=some l/\bP l=dv:=by
     cases q:cs[i]? with
     | none=>rw [q] at hdv; cases hdv
     | some l=>rw [q] at hdv; exact ⟨l,rfl,Option.some.inj hdv⟩
    obtain ⟨aw,rfl,haw⟩:=aR.mp denv
    obtain ⟨f1,f2,f3⟩:=hfit i row l hrow hl
    obtain ⟨ln,rfl⟩:∃ ln:Nat,l=ln:=⟨l.toNat,by omega⟩
    have hil:=(Qd.mp hrow).1
    have ev:v=V.bl (iA row ln c):=by
     unfold oA at hv
     rw [Qi,Qi,Yr hil] at hv
     have:=(Option.some.inj hv).symm
     rw [this]
     show V.bl (iA _ _ _)=_
     rw [Jk,Jk,Jk,hrow,hl,hc']
     rfl
    have s7:=aD.new (o:=.tup [.ref aw,.int ln,.int c]) hpr
    refine ⟨pr,_,rfl,SqT.of aC,rfl,_,_,rfl,_,_,rfl,_,_,rfl,rfl,?_⟩
    refine ⟨_,rfl,_,rfl,_,rfl,aw,row,ln,c,rfl,(s6.trans s7).seqT haw,by omega,?_⟩
    rw [ev] at hQ'
    exact hQ' _ _ ⟨_,_,_,rfl⟩ s7
   ·rintro H6 s6 z2 hz2
    refine ⟨z2,_,rfl,SqL.of aC,_,rfl,?_⟩
    have s3':=s05.trans (s6.trans (aD.new (o:=.lst ((oA cs (dZ n hs) ls).map V.bl)) hz2))
    generalize upd H6 z2 (.lst ((oA cs (dZ n hs) ls).map V.bl))=H3 at s3' ⊢
    refine gE (fun cb=>?_) (fun cb=>?_)
    ·have e:mU n ws cs hs ls=false:=by
      unfold mU
      rw [decide_eq_true heq]
      cases h:(oA cs (dZ n hs) ls).all id with
      | false=>rfl
      | true=>rw [h] at cb; cases cb
     rw [e] at k
     exact k _ s3'
    have hrb:(oA cs (dZ n hs) ls).all id=true:=by
     cases h:(oA cs (dZ n hs) ls).all id with
     | true=>rfl
     | false=>exact absurd (by rw [h]; rfl) cb
    have elev:mU n ws cs hs ls=(hs.zip ws).all (vL ls):=by unfold mU; rw [hrb,decide_eq_true heq,Jv,Jv]
    rw [elev] at k
    have s3:=s3'
    have g3:=g.same s3
    have hp3:=s3.seqT hp
    obtain ⟨a3,b,ys,e3,ha,hb2,hys⟩:=cP g3.1
    obtain rfl:a=a3:=by injection e3
    obtain ⟨c0,e0,hc0⟩:=aR.mp g3.2.2.1
    obtain rfl:dp=c0:=by injection e0
    have hdp:=hc0
    obtain ⟨hdl,hdg⟩:=cZ g.2.2.2
    have hlw:=aJ hys
    rw [Qb] at hlw
    let bss:List (List Bool):=(hs.zip ws).map fun p=>p.2.map fun o=>decide (ls.getD p.1.toNat 0<=ls.getD o.toNat 0)
    have hbl:bss.length=hs.length:=by show ((hs.zip ws).map _).length=_; rw [Qb,Yl]; omega
    have hbs:∀ l∈bss,l.length<=6:=fun l hl=>by
     obtain ⟨⟨h,wk⟩,hm,rfl⟩:=Jw.mp hl
     obtain ⟨w1,w2,w3⟩:=cY (hws wk (Zp hm).2)
     have:=iF (by omega) w2 w3
     rw [Qb]
     show wk.length<=6
     omega
    have hfl:(bss.map (List.map V.bl)).flatten.length<=1000:=by
     have:∀ (L:List (List Bool)),(∀ l∈L,l.length<=6)->(L.map (List.map V.bl)).flatten.length<=6*L.length:=fun L=>by
      induction L with
      | nil=>intro _; exact Jh _
      | cons l r ih =>
       intro h
       have h1:=ih fun l' hl'=>h l' (Qq _ hl')
       have h2:=h l (Qt ..)
       rw [Jf,Xh,Qe,Qb,Jt]
       omega
     have:=this bss hbs
     omega
    refine ⟨_,rfl,_,rfl,a,_,1,.ref b,rfl,rfl,ha,rfl,dp,b,_,_,rfl,hdp,hb2,aBW (J:=Itz K .t .t dp b) (n:=hs.length) (vss:=bss.map (List.map V.bl)) (fun σ=>∃ v0 v1 v2,σ = [v0,v1,v2,some (.ref p)]) hfl (by rw [Qb,hbl]) ⟨_,_,_,rfl⟩
     (fun H' s'=>⟨hs.map V.int,ys,s'.seqT hdp,s'.seqT hb2,by rw [Qb]; omega⟩) (fun i H' hi s'=>⟨hs.map V.int,ys,(hs.map V.int)[i]'(by rw [Qb]; exact hi),ys[i]'(by omega),s'.seqT hdp,s'.seqT hb2,Qc _,Qc _⟩) ?_ ?_⟩
    ·rintro i vs x σ H4 H5 hi hv ⟨v0,v1,v2,rfl⟩ s4 ⟨t,ht,rfl,hy⟩ P' hP
     obtain ⟨xh,xw,h1,h2,rfl⟩:=hy _ _ (s4.seqT hdp) (s4.seqT hb2)
     obtain ⟨h,hh,rfl⟩:=kQ h1
     obtain ⟨dv,hdv,denv⟩:=cI hys h2
     rw [Qi] at hdv
     obtain ⟨l,hl,rfl⟩:∃ l,ws[i]?=some l/\bP l=dv:=by
      cases q:ws[i]? with
      | none=>rw [q] at hdv; cases hdv
      | some l=>rw [q] at hdv; exact ⟨l,rfl,Option.some.inj hdv⟩
     obtain ⟨aw,rfl,haw⟩:=aR.mp denv
     obtain ⟨hh0,hh1⟩:=g.hand hh
     obtain ⟨w1,w2,w3⟩:=cY (hws l (Qh hl))
     have evs:vs=l.map fun o=>V.bl (decide (ls.getD h.toNat 0<=ls.getD o.toNat 0)):=by
      have hz:(hs.zip ws)[i]?=some (h,l):=Jl.mpr ⟨hh,hl⟩
      have:(bss.map (List.map V.bl))[i]?=some (l.map fun o=>V.bl (decide (ls.getD h.toNat 0<=ls.getD o.toNat 0))):=by
       show (((hs.zip ws).map _).map (List.map V.bl))[i]?=_
       rw [Qi,Qi,hz]
       show some (List.map V.bl (List.map _ l))=_
       rw [List.map_map]
       rfl
      rw [this] at hv
      exact (Option.some.inj hv).symm
     have s5:aD H4 (upd H4 t (.tup [.int h,.ref aw])):=aD.new ht
     have haw5:=(s4.trans s5).seqT haw
     refine ⟨t,_,rfl,SqT.of aC,rfl,_,_,rfl,_,_,rfl,rfl,?_⟩
     refine ⟨_,rfl,aw,rfl,⟨_,haw5⟩,hP _ _ _ s5 ⟨fun σ=>∃ v2,σ = [some (.int h),some (.ref aw),v2,some (.ref p)],⟨_,rfl⟩,fun σ3 ⟨_,e⟩=>⟨_,_,_,e⟩,fun H' s'=>⟨l.map V.int,s'.seqT haw5,by rw [evs,Qb,Qb]; exact Qg _⟩,fun j H' hj s'=>⟨l.map V.int,(l.map V.int)[j]'(by rw [evs,Qb] at hj; rw [Qb]; exact hj),s'.seqT haw5,Qc _⟩,?_⟩⟩
     rintro j v yv σ3 H6 H7 hvj ⟨v2',rfl⟩ s6 ⟨rfl,hy2⟩ Q' hQ'
     obtain ⟨o,ho,rfl⟩:=kQ (hy2 _ (s6.seqT haw5))
     obtain ⟨o0,o1⟩:=w2 o (Qh ho)
     have ev:v=V.bl (decide (ls.getD h.toNat 0<=ls.getD o.toNat 0)):=by
      rw [evs,Qi,ho] at hvj
      exact (Option.some.inj hvj).symm
     have hp7:=((s4.trans s5).trans s6).seqT hp3
     refine ⟨_,rfl,_,rfl,p,_,h,_,rfl,rfl,hp7,rK (xs:=ls) hh0 (by omega),_,rfl,_,rfl,p,_,o,_,rfl,rfl,hp7,rK (xs:=ls) o0 (by omega),_,_,rfl,rfl,?_⟩
     rw [ev] at hQ'
     exact hQ' _ _ ⟨_,rfl⟩ (aD.refl _)
    ·rintro H4 s4 l hl
     have ef:(bss.map (List.map V.bl)).flatten=bss.flatten.map V.bl:=by rw [List.map_flatten]
     have ea:bss.flatten.all id=(hs.zip ws).all (vL ls):=by
      show (List.map _ (hs.zip ws)).flatten.all id=_
      rw [List.all_flatten,Xw]
      congr 1
      funext p
      show (List.map _ p.2).all id=_
      rw [Xw]
      rfl
     refine ⟨l,bss.flatten,rfl,SqL.of (by rw [<- ef]; exact aC),?_⟩
     rw [ea]
     exact k _ (s3.trans (s4.trans (aD.new hl)))
end
section
variable {P:Program} {w:World} {K:PySem.W.Frag} {mg:Str->Option Value} {base:Heap}
def xO (K:PySem.W.Frag):Sp:=fun vs H Q _=>∃ (t a:Addr) (ns:List Int) (x:V) (n:Int) (ws:List (List Int)),vs = [.ref t,x]/\fL K H t a ns/\Den K H (cN n ws) x/\bZ (cN n ws)=true/\∀ cs p H',gM n ws.length cs->But t H H'->fL K H' t a ns->Den K H' (iG cs) (.ref p)->Q (.ref p) H'
theorem oB:FnScope ["tape", "book", "found", "hand", "most"] ["tape", "book"] (aI nR):=⟨rfl,rfl,rfl,by decide +kernel,rfl,by decide +kernel,by decide +kernel⟩
theorem aBa {f fD:Addr} {fd fdD:FuncData} (G:Fn K mg "_law_acosts" nR ["tape", "book"] f fd) (B:Bl mg) (GD:Fn K mg "_law_adigit" jP ["tape", "many"] fD fdD) (OD:FnOk P w K mg base CX0 1 fD fdD ["tape", "many"] (kN K)):FnOk P w K mg base CX0 2 f fd ["tape", "book"] (xO K):=by
 refine G.fn.ok oB (fun vs H Q E h=>?_) (fun cdv A outer s H vs Q E hr h=>?_)
 ·obtain ⟨t,a,ns,x,n,ws,rfl,_⟩:=h
  rfl
 ·obtain ⟨t,a,ns,x,n,ws,rfl,hT,hx,hb,k⟩:=h
  have r1:Room 1 _:=hr
  refine ⟨_,(aE (aS (i:=2) oB.nd rfl (Or.inl rfl) (bW aB))
  (aE (cO PassesOwn.never rfl (cL rfl B.range (aA (bS dU (pv 1) aG (fun _ _=>rfl)) aB)) (aK (i:=3) oB.nd rfl (Or.inl rfl))
   (aE (aS (i:=4) oB.nd rfl (Or.inr rfl) (bS iJ (bW (aA aG (aA aG (aA aG aB)))) (bB GD OD r1 rfl (aA (pv 0) (aA aG aB))) (fun _ _=>rfl)))
  (aF (bI (gZ PySem.F.plainAttrs_list PySem.F.slot_list_append PySem.F.type_list_append cC (pv 2) (aA (cA cG rfl B.tuple cQ (aA (aL wH rfl B.sorted aCf (aA (cM (own:=["able"]) (fr:=[4,0]) (frn:=["most", "tape"]) (bA (aI nR) ["tape", "book", "found", "hand", "most"] rfl rfl (by decide +kernel)) rfl (gW (bS dU (pv 1) aG (fun _ _=>rfl)))
    (fun _ _ _ _=>(aK (i:=0) (show (["able", "most", "tape"]:List Str).Nodup by decide +kernel) rfl (Or.inl rfl))) (fun _ _ _ _=>cW)
    (fun _ _ _ _=>(bB GD OD r1 rfl (aA (pv 2) (aA (pv 1) aB))))) aB)) aB)) aB))))))
  (aF (aQ (cA cG rfl B.tuple cQ (aA (pv 2) aB)))))),?_⟩
  obtain ⟨hn1,hn6,h12,hws⟩:=bM hb
  obtain ⟨ba,bb,ys,rfl,ha,hb2,hys⟩:=cP hx
  have hlw:=aJ hys
  rw [Qb] at hlw
  refine ⟨eA (Jh _),fun fl hfl=>?_⟩
  have ntf:t≠fl:=fun z=>hT.ne hfl z.symm
  have s1:=aD.new (o:=.lst []) hfl
  have T1:=hT.same s1
  have hfl1:upd H fl (.lst []) fl=some (.lst []):=aC
  generalize upd H fl (.lst [])=H1 at s1 T1 hfl1 ⊢
  refine ⟨_,rfl,ba,_,0,.int n,rfl,rfl,s1.seqT ha,rfl,n,rfl,by omega,by omega,fU (lo:=0) (n:=n.toNat) (fun i σ H2=>∃ (cs:List (List Int)) (xs:List V) (v3 v4:Option V),σ = [some (.ref t),some (.ref ba),some (.ref fl),v3,v4]/\cs.length=i/\(∀ row∈cs,kP ws.length row)/\H2 fl=some (.lst xs)/\aU K H2 (cs.map bP) xs/\But t H H2/\fL K H2 t a ns)
   ⟨[],[],none,none,rfl,rfl,fun _ h=>(Qn h).elim,hfl1,aN.mpr rfl,But.of s1,T1⟩ ?_ ?_⟩
  ·rintro i σ H2 hi ⟨cs,xs,v3,v4,rfl,hl,hw,hx,hd,b2,T2⟩
   have hxl:xs.length=i:=by rw [aJ hd,Qb,hl]
   refine ⟨eA (by show 3<=_; decide),fun l0 hl0=>?_⟩
   have s3:=aD.new (o:=.lst [.int 3,.int 12,.int 1000]) hl0
   have e3:upd H2 l0 (.lst [.int 3,.int 12,.int 1000]) l0=some (.lst [.int 3,.int 12,.int 1000]):=aC
   have T3:=T2.same s3
   have hlt:l0≠t:=T2.ne hl0
   generalize upd H2 l0 (.lst [.int 3,.int 12,.int 1000])=H3 at s3 e3 T3 ⊢
   refine ⟨_,rfl,t,a,ns,3,rfl,T3,by decide,by decide,fun r H4 hr0 hr1 b4 T4=>?_⟩
   have hl4:=b4 l0 _ hlt e3
   obtain ⟨m,hm,hm1,hm2⟩:∃ m:Int,atI [V.int 3,V.int 12,V.int 1000] r=some (.int m)/\1<=m/\m<=1000:=by
    have:r=0∨r=1∨r=2:=by omega
    rcases this with rfl | rfl | rfl
    ·exact ⟨3,rfl,by decide,by decide⟩
    ·exact ⟨12,rfl,by decide,by decide⟩
    ·exact ⟨1000,rfl,by decide,by decide⟩
   have b24:=(But.of (t:=t) s3).trans b4
   have b04:=b2.trans b24
   have hx4:=b24 fl _ (Ne.symm ntf) hx
   refine ⟨l0,_,r,_,rfl,rfl,SqL.of hl4,hm,?_⟩
   refine ⟨_,rfl,.inl ⟨rfl,_,SqL.of hx4⟩,_,rfl,ba,_,1,.ref bb,rfl,rfl,hT.seqT b04 ha,rfl,bb,rfl,⟨_,hT.seqT b04 hb2⟩,nI (K:=K) (a:=bb) (xs:=ys) (fun σ=>∃ v,σ = [v,some (.int m),some (.ref t)]) (fun j zs H5=>∃ l:List Int,zs=l.map V.int/\l.length=j/\(∀ x∈l,0<=x/\x < m)/\But t H4 H5/\fL K H5 t a ns)
    (eA (by omega)) ⟨none,rfl⟩ ⟨[],rfl,rfl,fun _ h=>(Qn h).elim,But.refl t H4,T4⟩ ?_ ?_ ?_ ?_⟩
   ·rintro j zs H5 ⟨l,rfl,rfl,_⟩
    rw [Qb]
    exact Qg _
   ·rintro j zs H5 ⟨l,rfl,rfl,_,b5,_⟩
    exact hT.seqT (b04.trans b5) hb2
   ·rintro j zs σ y H5 hyj ⟨v,rfl⟩ ⟨l,rfl,hlj,hg,b5,T5⟩ hz
    refine cX ?_
    refine ⟨_,rfl,_,rfl,t,a,ns,m,rfl,T5,by omega,by omega,fun r6 H6 h60 h61 b6 T6=>?_⟩
    refine ⟨hz,⟨_,rfl⟩,l++[r6],by rw [Qz]; rfl,by rw [Qe,hlj]; rfl,fun x hx=>?_,b5.trans b6,T6⟩
    rcases Qx.mp hx with hx | hx
    ·exact hg x hx
    ·rw [Qp.mp hx]; exact ⟨h60,h61⟩
   ·rintro zs H5 ⟨l,rfl,hlj,hg,b5,T5⟩ p hp
    have s6:=aD.new (o:=.lst (l.map V.int)) hp
    refine ⟨p,l,rfl,.inl (SqL.of aC),by omega,fun q ms hq hpm hsr=>?_⟩
    have s7:=aD.new (o:=.lst (ms.map V.int)) hq
    refine ⟨q,_,rfl,.inl ⟨SqL.of aC,fun u hu=>?_⟩⟩
    have s8:=s6.trans (s7.trans (aD.new (o:=.tup (ms.map V.int)) hu))
    have hu8:SqT K (upd (upd (upd H5 p (.lst (l.map V.int))) q (.lst (ms.map V.int))) u (.tup (ms.map V.int))) u (ms.map V.int):=SqT.of aC
    generalize upd (upd (upd H5 p (.lst (l.map V.int))) q (.lst (ms.map V.int))) u (.tup (ms.map V.int))=H8 at s8 hu8 ⊢
    have b28:=b24.trans (b5.trans (But.of (t:=t) s8))
    have T8:=T5.same s8
    have hx8:H8 fl=some (.lst xs):=b28 fl _ (Ne.symm ntf) hx
    have hd8:=T2.denAll b28 (cK _ cT cs) hd
    have b9:But fl H8 (upd H8 fl (.lst (xs++[.ref u]))):=But.at
    have hrow:kP ws.length ms:=⟨by rw [hpm.length_eq]; omega,fun c hc=>by have:=hg c (hpm.mem_iff.mp hc); omega,hsr⟩
    refine ⟨fl,xs,.ref u,rfl,rfl,hx8,by rw [sizeLine_eq]; omega,cs++[ms],_,_,_,rfl,by rw [Qe,hl]; rfl,fun l2 hl2=>?_,aC,?_,fun b o nb hb=>?_,T8.wr b9 ntf⟩
    ·rcases Qx.mp hl2 with h | h
     ·exact hw l2 h
     ·rw [Qp.mp h]; exact hrow
    ·rw [Qz]
     exact bC (b9.denAll hx8 _ _ (cK _ cT cs) hd8) (aM.mpr ⟨_,_,rfl,aR.mpr ⟨u,rfl,b9.seqT hx8 hu8⟩,aN.mpr rfl⟩)
    ·rw [aH (fun z=>by rw [z,hfl] at hb; cases hb)]
     exact (b2.trans b28) b o nb hb
  ·rintro σ H2 ⟨cs,xs,v3,v4,rfl,hl,hw,hx,hd,b2,T2⟩
   refine ⟨_,rfl,fl,_,rfl,.inl ⟨SqL.of hx,fun p hp=>?_⟩⟩
   have sm:=aD.new (o:=.tup xs) hp
   exact k cs p _ ⟨hl,hw⟩ (b2.trans (But.of sm)) (T2.same sm) (aO.mpr ⟨p,xs,rfl,SqT.of aC,sm.denAll _ _ hd⟩)
end
end Ab
namespace Ab
def iR (ws:List (List Int)) (hs:List Int) (g:Int) (w:Nat) (t:Int):Prop:=hs[w]?=some g/\∃ l,ws[w]?=some l/\t∈l/\t≠g
def RL (ws:List (List Int)) (hs:List Int):Nat->Int->Int->Prop
 | 0,h,x=>h=x
 | k+1,h,x=>h=x∨∃ w o,iR ws hs h w o/\RL ws hs k o x
def jI (ws:List (List Int)) (hs:List Int):Int->List (Nat×Int×Int)->Int->Prop
 | h,[],x=>h=x
 | h,s::r,x=>s.2.1=h/\iR ws hs h s.1 s.2.2/\jI ws hs s.2.2 r x
section
variable {ws:List (List Int)} {hs:List Int}
theorem RL.refl:∀ (k:Nat) (h:Int),RL ws hs k h h
 | 0,_=>rfl
 | _+1,_=>.inl rfl
theorem RL.succ:∀ {k:Nat} {h x:Int},RL ws hs k h x->RL ws hs (k+1) h x
 | 0,_,_,e=>.inl e
 | k+1,_,_,.inl e=>.inl e
 | k+1,_,_,.inr ⟨w,o,e,r⟩=>.inr ⟨w,o,e,RL.succ r⟩
theorem RL.mono {k m:Nat} {h x:Int} (r:RL ws hs k h x) (le:k<=m):RL ws hs m h x:=by
 induction le with
 | refl=>exact r
 | step _ ih=>exact ih.succ
theorem RL.snoc:∀ {k:Nat} {h g t:Int} {w:Nat},RL ws hs k h g->iR ws hs g w t->RL ws hs (k+1) h t
 | 0,_,_,_,w,e,d=>by subst e; exact .inr ⟨w,_,d,rfl⟩
 | k+1,_,_,_,w,.inl e,d=>by subst e; exact .inr ⟨w,_,d,RL.refl _ _⟩
 | k+1,_,_,_,_,.inr ⟨w',o,e,r⟩,d=>.inr ⟨w',o,e,RL.snoc r d⟩
theorem jI.snoc:∀ {h g:Int} {r:List (Nat×Int×Int)} {w:Nat} {t:Int},jI ws hs h r g->iR ws hs g w t->jI ws hs h (r++[(w,g,t)]) t
 | _,_,[],_,_,e,d=>by cases e; exact ⟨rfl,d,rfl⟩
 | _,_,_::_,_,_,⟨e1,e2,e3⟩,d=>⟨e1,e2,jI.snoc e3 d⟩
def aDH (ws:List (List Int)) (hs:List Int) (n:Nat) (h v:Int):Prop:=(∃ x,RL ws hs n h x/\v=((hs.count x:Nat):Int))/\∀ k x,RL ws hs k h x->v<=((hs.count x:Nat):Int)
theorem aDH.le {n:Nat} {h v:Int} (m:aDH ws hs n h v):v<=((hs.count h:Nat):Int):=m.2 0 h rfl
end
theorem oP:∀ (n:Nat) (l:List Int),l.Nodup->(∀ x∈l,0<=x/\x < (n:Int))->l.length<=n
 | 0,[],_,_=>Qg _
 | 0,x::_,_,h=>by have:=h x (.head _); omega
 | n+1,l,hn,h=>by
  by_cases hm:(n:Int)∈l
  ·have h1:=oP n (l.erase (n:Int)) (hn.erase _) fun x hx=>by
    have h2:=(hn.mem_erase_iff).mp hx
    have h3:=h x h2.2
    have:=h2.1
    omega
   rw [List.length_erase_of_mem hm] at h1
   omega
  ·have h1:=oP n l hn fun x hx=>by
    have h3:=h x hx
    have:x≠(n:Int):=fun z=>hm (z ▸ hx)
    omega
   omega
end Ab
namespace L2
open PySem
theorem aD.wr {H H':Hp} {a:Addr} {u:HO} (e:aD H H') (h:H a=none):aD H (upd H' a u):=fun b o q=>by
 rw [aH (fun z=>by rw [z,h] at q; cases q)]
 exact e b o q
end L2
namespace Ab
open PySem L2
theorem aEo {n:Nat} {k:Int} (h0:0<=k) (h1:k < n):ixN n k=some k.toNat:=by
 unfold ixN
 rw [if_pos h0,if_pos (by omega)]
def oQ (E:Nat->Int->Prop) (r:List (Key×V)):Prop:=(∀ k v,eQ r k=some v->∃ (w:Nat) (t:Int),k=.inl t/\v=.int (w:Nat)/\E w t)/\∀ w t,E w t->(eQ r (.inl t)).isSome=true
theorem oQ.nil {E:Nat->Int->Prop} (h:∀ w t,¬ E w t):oQ E []:=⟨fun k v e=>(by rw [aBX] at e; cases e),fun w t e=>(h w t e).elim⟩
theorem oQ.put {E:Nat->Int->Prop} {r:List (Key×V)} (h:oQ E r) (w:Nat) (t:Int):oQ (fun w' t'=>E w' t'∨(w'=w/\t'=t)) (iT r (.inl t) (.int (w:Nat))):=by
 refine ⟨fun k v e=>?_,fun w' t' e=>?_⟩
 ·rw [wU] at e
  by_cases hk:k=Sum.inl t
  ·rw [if_pos hk] at e
   exact ⟨w,t,hk,(Option.some.inj e).symm,.inr ⟨rfl,rfl⟩⟩
  ·rw [if_neg hk] at e
   obtain ⟨w',t',h1,h2,h3⟩:=h.1 k v e
   exact ⟨w',t',h1,h2,.inl h3⟩
 ·rw [wU]
  by_cases hk:(Sum.inl t':Key)=Sum.inl t
  ·rw [if_pos hk]; rfl
  ·rw [if_neg hk]
   rcases e with e | ⟨_,e⟩
   ·exact h.2 w' t' e
   ·exact absurd (by rw [e]) hk
theorem oQ.congr {E E':Nat->Int->Prop} {r:List (Key×V)} (h:oQ E r) (e:∀ w t,E w t↔E' w t):oQ E' r:=⟨fun k v q=>let ⟨w,t,a,b,c⟩:=h.1 k v q; ⟨w,t,a,b,(e w t).mp c⟩,fun w t q=>h.2 w t ((e w t).mpr q)⟩
structure Rows (H:Hp) (rp:Addr) (qs:List Addr) (rs:List (List (Key×V))):Prop where
 lst:H rp=some (.lst (qs.map V.ref))
 len:qs.length=rs.length
 nd:qs.Nodup
 row:∀ (g:Nat) q r,qs[g]?=some q->rs[g]?=some r->H q=some (.dK r)
theorem Rows.same {H H':Hp} {rp:Addr} {qs:List Addr} {rs:List (List (Key×V))} (h:Rows H rp qs rs) (s:aD H H'):Rows H' rp qs rs:=⟨s _ _ h.lst,h.len,h.nd,fun g q r a b=>s _ _ (h.row g q r a b)⟩
theorem Rows.put {H:Hp} {rp:Addr} {qs:List Addr} {rs:List (List (Key×V))} (h:Rows H rp qs rs) {g:Nat} {q:Addr} {r r':List (Key×V)} (hq:qs[g]?=some q) (hr:rs[g]?=some r):Rows (upd H q (.dK r')) rp qs (rs.set g r'):=by
 have hg:=h.row g q r hq hr
 have nq:rp≠q:=fun z=>by have:=h.lst; rw [z,hg] at this; cases this
 refine ⟨by rw [aH nq]; exact h.lst,by rw [Xt]; exact h.len,h.nd,fun g2 q2 r2 h1 h2=>?_⟩
 rw [Zh] at h2
 by_cases e:g=g2
 ·subst e
  rw [if_pos rfl] at h2
  rw [hq] at h1
  cases h1
  by_cases hl:g < rs.length
  ·rw [if_pos hl] at h2; cases h2; exact aC
  ·rw [if_neg hl] at h2; cases h2
 ·rw [if_neg e] at h2
  have n2:q2≠q:=fun z=>by
   subst z
   have hlt:g < qs.length:=(Qd.mp hq).1
   exact e ((Ye hlt h.nd).mp (hq.trans h1.symm))
  rw [aH n2]
  exact h.row g2 q2 r2 h1 h2
theorem Rows.other {H:Hp} {rp a:Addr} {u:HO} {qs:List Addr} {rs:List (List (Key×V))} (h:Rows H rp qs rs) (hn:H a=none):Rows (upd H a u) rp qs rs:=h.same (aD.new hn)
def pB (E:Int->Nat->Int->Prop) (rs:List (List (Key×V))) (m:Nat):Prop:=∀ (g:Nat) r,rs[g]?=some r->oQ (E g) r/\r.length<=m
section
variable {P:Program} {w:World} {K:PySem.W.Frag} {mg:Str->Option Value} {base:Heap}
def tQ (K:PySem.W.Frag):Sp:=fun vs H Q _=>∃ x y n ws hs,vs = [x,y]/\kM K H x y n ws hs/\∀ rp H' qs rs,aD H H'->H rp=none->(∀ q∈qs,H q=none)->Rows H' rp qs rs->rs.length=n.toNat->pB (iR ws hs) rs 100->Q (.ref rp) H'
theorem dM:FnScope ["book", "deal", "rows", "work", "giver", "able", "taker"] ["book", "deal"] (aI iP):=⟨rfl,rfl,rfl,by decide +kernel,rfl,by decide +kernel,by decide +kernel⟩
theorem yZ {f:Addr} {fd:FuncData} (G:Fn K mg "handing" iP ["book", "deal"] f fd) (B:Bl mg):FnOk P w K mg base CX0 1 f fd ["book", "deal"] (tQ K):=by
 refine G.fn.ok dM (fun vs H Q E h=>?_) (fun cdv A outer s H vs Q E hr h=>?_)
 ·obtain ⟨x,y,n,ws,hs,rfl,_⟩:=h
  rfl
 ·obtain ⟨x,y,n,ws,hs,rfl,g,k⟩:=h
  refine ⟨_,(aE (mM (i:=2) (own:=["hand"]) (fr:=[]) (frn:=[]) (bA (aI iP) ["book", "deal", "rows", "work", "giver", "able", "taker"] rfl rfl (by decide +kernel)) rfl dM.nd rfl rfl rfl (cL rfl B.range (aA (bS dU (pv 0) aG (fun _ _=>rfl)) aB))
    (fun _ _ _ _=>(aK (i:=0) (show (["hand"]:List Str).Nodup by decide +kernel) rfl (Or.inl rfl))) (fun _ _ _ _=>cW)
    (fun _ _ _ _=>wX))
   (aE (cO PassesOwn.never rfl (qR .t .t rfl B.enumerate rfl B.zip (aA (pv 1) (aA (bS dU (pv 0) aG (fun _ _=>rfl)) aB))) (jR rfl (aV (aK (i:=3) dM.nd rfl (Or.inl rfl)) (aV (jR rfl (aV (aK (i:=4) dM.nd rfl (Or.inl rfl)) (aV (aK (i:=5) dM.nd rfl (Or.inl rfl)) eF))) eF)))
    (aF (cO PassesOwn.never rfl (gW (pv 5)) (aK (i:=6) dM.nd rfl (Or.inl rfl))
     (aF (cF (bE iX (pv 6) (pv 4) (bJ _))
      (aF (uP (qF hr) (bS iJ (pv 2) (pv 4) (fun _ _=>rfl)) (pv 6) (pv 3) rfl))
      aW)))))
   (aF (aQ (pv 2))))),?_⟩
  obtain ⟨hl12,hn1,hn6⟩:=g.len
  obtain ⟨a,b,ys,rfl,ha,hb2,hys⟩:=cP g.1
  obtain ⟨c0,rfl,hc0⟩:=aR.mp g.2.2.1
  obtain ⟨hdl,hdg⟩:=cZ g.2.2.2
  obtain ⟨_,_,hw12,hws⟩:=bM g.2.1
  have hlw:=aJ hys
  rw [Qb] at hlw
  refine ⟨_,rfl,a,_,0,.int n,rfl,rfl,ha,rfl,n,rfl,by omega,by omega,iE (lo:=0) (n:=n.toNat) (fun σ=>∃ v,σ = [v]) (fun i zs H2=>∃ qs:List Addr,zs=qs.map V.ref/\qs.length=i/\aD H H2/\qs.Nodup/\∀ q∈qs,H q=none/\H2 q=some (.dK [])) ?_ ⟨none,rfl⟩ ⟨[],rfl,rfl,aD.refl H,List.nodup_nil,fun _ h=>(Qn h).elim⟩ ?_ ?_ ?_⟩
  ·rw [sizeLine_eq]; omega
  ·rintro i zs H2 ⟨qs,rfl,hq,_⟩
   rw [Qb]; omega
  ·rintro i zs σ H2 hi ⟨v,rfl⟩ ⟨qs,rfl,hq,s2,nd,hqs⟩ hz
   refine cX ?_
   intro p hp
   refine ⟨hz,⟨_,rfl⟩,qs++[p],by rw [Qz]; rfl,by rw [Qe,hq]; rfl,s2.trans (aD.new hp),?_,fun q hq'=>?_⟩
   ·rw [Zi]
    refine ⟨nd,by simp,fun x hx y hy e=>?_⟩
    rw [Qp.mp hy] at e
    have:=(hqs x hx).2
    rw [e,hp] at this; cases this
   ·rcases Qx.mp hq' with h | h
    ·exact ⟨(hqs q h).1,(aD.new hp) _ _ (hqs q h).2⟩
    ·rw [Qp.mp h]
     exact ⟨s2.free hp,aC⟩
  ·rintro zs H2 ⟨qs,rfl,hq,s2,nd,hqs⟩ rp hrp
   have s3:=s2.trans (aD.new (o:=.lst (qs.map V.ref)) hrp)
   have hrp0:H rp=none:=s2.free hrp
   have R3:Rows (upd H2 rp (.lst (qs.map V.ref))) rp qs (List.replicate n.toNat []):=⟨aC,by rw [Jc]; exact hq,nd,fun g q r h1 h2=>by
    have er:r = []:=by
     rw [Xb] at h2
     split at h2
     ·exact (Option.some.inj h2).symm
     ·cases h2
    rw [er]
    exact (aD.new hrp) _ _ (hqs q (Qh h1)).2⟩
   generalize upd H2 rp (.lst (qs.map V.ref))=H3 at s3 R3 ⊢
   have h6:∀ l∈ws,l.length<=6:=fun l hl=>by
    obtain ⟨_,w2,w3⟩:=cY (hws l hl)
    have:=iF (by omega) w2 w3
    omega
   refine ⟨_,rfl,_,rfl,a,_,1,.ref b,rfl,rfl,s3.seqT ha,rfl,c0,b,_,_,rfl,s3.seqT hc0,s3.seqT hb2,oY (K:=K) (k1:=.t) (k2:=.t) (a:=c0) (b:=b) (xs:=hs.map V.int) (ys:=ys)
    (fun i σ H4=>(∃ v3 v4 v5 v6,σ = [some (.ref a),some (.ref c0),some (.ref rp),v3,v4,v5,v6])/\aD H H4/\∃ rs,Rows H4 rp qs rs/\rs.length=n.toNat/\pB (fun g w t=>w < i/\iR ws hs g w t) rs (6*i))
    (by rw [Qb]; omega) ⟨⟨_,_,_,_,rfl⟩,s3,_,R3,Jc,fun g r hr=>?_⟩ (fun _ σ H4 _ ⟨_,s4,_⟩=>⟨s4.seqT hc0,s4.seqT hb2⟩) ?_ ?_⟩
   ·have er:r = []:=by
     rw [Xb] at hr
     split at hr
     ·exact (Option.some.inj hr).symm
     ·cases hr
    rw [er]
    exact ⟨oQ.nil fun w t h=>by omega,Jh _⟩
   ·rintro i u v p q σ H4 hu hv ⟨⟨v3,v4,v5,v6,rfl⟩,s4,rs,R4,hl4,E4⟩ hp hq hne
    obtain ⟨h,hh,rfl⟩:=kQ hu
    obtain ⟨dv,hdv,denv⟩:=cI hys hv
    rw [Qi] at hdv
    obtain ⟨l,hl,rfl⟩:∃ l,ws[i]?=some l/\bP l=dv:=by
     cases q:ws[i]? with
     | none=>rw [q] at hdv; cases hdv
     | some l=>rw [q] at hdv; exact ⟨l,rfl,Option.some.inj hdv⟩
    obtain ⟨aw,rfl,haw⟩:=aR.mp denv
    obtain ⟨hh0,hh1⟩:=g.hand hh
    have hl6:=h6 l (Qh hl)
    have hi12:i < 12:=by
     have:=(Qd.mp hh).1
     omega
    have sp:=aD.new (o:=.tup [.int h,.ref aw]) hp
    have hq1:upd H4 p (.tup [.int h,.ref aw]) q=none:=by rw [aH hne]; exact hq
    have sq:=aD.new (o:=.tup [.int (i:Nat),.ref p]) hq1
    have ep:upd (upd H4 p (.tup [.int h,.ref aw])) q (.tup [.int (i:Nat),.ref p]) p=some (.tup [.int h,.ref aw]):=sq _ _ aC
    have eq:upd (upd H4 p (.tup [.int h,.ref aw])) q (.tup [.int (i:Nat),.ref p]) q=some (.tup [.int (i:Nat),.ref p]):=aC
    have s5:=s4.trans (sp.trans sq)
    have R5:=R4.same (sp.trans sq)
    generalize upd (upd H4 p (.tup [.int h,.ref aw])) q (.tup [.int (i:Nat),.ref p])=H5 at ep eq s5 R5 ⊢
    refine ⟨q,_,rfl,SqT.of eq,rfl,_,_,rfl,_,_,rfl,p,_,rfl,SqT.of ep,rfl,_,_,rfl,_,_,rfl,rfl,rfl,?_⟩
    have hgl:h.toNat < qs.length:=by rw [R5.len,hl4]; omega
    obtain ⟨qh,hqh⟩:∃ qh,qs[h.toNat]?=some qh:=⟨_,Qc hgl⟩
    have hcast:((h.toNat:Nat):Int)=h:=by omega
    refine ⟨_,rfl,aw,rfl,⟨_,s5.seqT haw⟩,tZ (K:=K) (a:=aw) (xs:=l.map V.int) (fun j σ H6=>(∃ v6,σ = [some (.ref a),some (.ref c0),some (.ref rp),some (.int (i:Nat)),some (.int h),some (.ref aw),v6])/\aD H H6/\∃ rs,Rows H6 rp qs rs/\rs.length=n.toNat/\pB (fun g w t=>(w < i/\iR ws hs g w t)∨(w=i/\g=h/\t∈l.take j/\t≠h)) rs (6*i+j))
     ⟨⟨_,rfl⟩,s5,rs,R5,hl4,fun g r hr=>⟨(E4 g r hr).1.congr fun w t=>⟨.inl,fun z=>z.elim id fun z=>by rw [Zk] at z; exact (Qn z.2.2.1).elim⟩,(E4 g r hr).2⟩⟩ (fun _ σ H6 _ ⟨_,s6,_⟩=>s6.seqT haw) ?_ ?_⟩
    ·rintro j tv σ H6 htv ⟨⟨v6,rfl⟩,s6,rs,R6,hl6',E6⟩
     obtain ⟨t,ht,rfl⟩:=kQ htv
     have hj:j < l.length:=(Qd.mp ht).1
     have etake:l.take (j+1)=l.take j++[t]:=by rw [Jn,ht]; rfl
     refine ⟨_,rfl,_,rfl,rfl,_,rfl,?_⟩
     refine gE (fun c=>?_) (fun c=>?_)
     ·have hth:t≠h:=fun z=>by rw [z] at c; simp at c
      obtain ⟨r,hr⟩:∃ r,rs[h.toNat]?=some r:=⟨_,Qc (by rw [hl6']; omega)⟩
      have hat:atI (qs.map V.ref) h=some (.ref qh):=by
       have:=eR (xs:=qs.map V.ref) (j:=h.toNat) (v:=.ref qh) (by rw [Qi,hqh]; rfl)
       rwa [hcast] at this
      have hrow:=R6.row _ _ _ hqh hr
      have hrl:=(E6 _ _ hr).2
      have hqH:H qh=none:=(hqs qh (Qh hqh)).1
      refine ⟨_,rfl,_,rfl,_,rfl,rp,_,h,_,rfl,rfl,SqL.of R6.lst,hat,_,rfl,qh,_,rfl,uM.k (k:=.inl t) hrow (by rw [sizeLine_eq]; omega),?_⟩
      refine ⟨⟨_,rfl⟩,s6.wr hqH,rs.set h.toNat (iT r (.inl t) (.int (i:Nat))),R6.put hqh hr,by rw [Xt]; exact hl6',fun g2 r2 hr2=>?_⟩
      rw [Zh] at hr2
      by_cases eg:h.toNat=g2
      ·rw [if_pos eg,if_pos (by rw [hl6']; omega)] at hr2
       cases hr2
       have eg':((g2:Nat):Int)=h:=by omega
       refine ⟨((E6 _ _ hr).1.put i t).congr fun w t'=>?_,Qw (gS _ _ _) (by omega)⟩
       rw [hcast,eg',etake]
       constructor
       ·rintro ((z | ⟨z1,z2,z3,z4⟩) | ⟨z1,z2⟩)
        ·exact .inl z
        ·exact .inr ⟨z1,z2,Ji _ z3,z4⟩
        ·exact .inr ⟨z1,rfl,by rw [z2]; simp,by rw [z2]; exact hth⟩
       ·rintro (z | ⟨z1,z2,z3,z4⟩)
        ·exact .inl (.inl z)
        ·rcases Qx.mp z3 with z3 | z3
         ·exact .inl (.inr ⟨z1,z2,z3,z4⟩)
         ·exact .inr ⟨z1,Qp.mp z3⟩
      ·rw [if_neg eg] at hr2
       refine ⟨(E6 _ _ hr2).1.congr fun w t'=>?_,Qw (E6 _ _ hr2).2 (by omega)⟩
       have ng:¬ ((g2:Nat):Int)=h:=by omega
       constructor
       ·rintro (z | ⟨_,z2,_⟩)
        ·exact .inl z
        ·exact absurd z2 ng
       ·rintro (z | ⟨_,z2,_⟩)
        ·exact .inl z
        ·exact absurd z2 ng
     ·have hth:t=h:=by simpa using c
      refine ⟨⟨_,rfl⟩,s6,rs,R6,hl6',fun g2 r2 hr2=>⟨(E6 _ _ hr2).1.congr fun w t'=>?_,Qw (E6 _ _ hr2).2 (by omega)⟩⟩
      rw [etake]
      constructor
      ·rintro (z | ⟨z1,z2,z3,z4⟩)
       ·exact .inl z
       ·exact .inr ⟨z1,z2,Ji _ z3,z4⟩
      ·rintro (z | ⟨z1,z2,z3,z4⟩)
       ·exact .inl z
       ·rcases Qx.mp z3 with z3 | z3
        ·exact .inr ⟨z1,z2,z3,z4⟩
        ·exact absurd ((Qp.mp z3).trans hth) z4
    ·rintro σ H6 ⟨⟨v6,rfl⟩,s6,rs,R6,hl6',E6⟩
     refine ⟨⟨_,_,_,_,rfl⟩,s6,rs,R6,hl6',fun g2 r2 hr2=>⟨(E6 _ _ hr2).1.congr fun w t'=>?_,Qw (E6 _ _ hr2).2 (by rw [Qb]; omega)⟩⟩
     rw [Qb,Ju]
     constructor
     ·rintro (⟨z1,z2⟩ | ⟨z1,z2,z3,z4⟩)
      ·exact ⟨by omega,z2⟩
      ·subst z1
       exact ⟨by omega,by rw [hh,z2],l,hl,z3,by rw [z2]; exact z4⟩
     ·rintro ⟨z1,z2⟩
      by_cases hw:w < i
      ·exact .inl ⟨hw,z2⟩
      ·have ew:w=i:=by omega
       subst ew
       obtain ⟨z3,l',z4,z5,z6⟩:=z2
       rw [hh] at z3
       rw [hl] at z4
       cases z4
       have ez:h=g2:=Option.some.inj z3
       exact .inr ⟨rfl,ez.symm,z5,by rw [ez]; exact z6⟩
   ·rintro σ H4 ⟨⟨v3,v4,v5,v6,rfl⟩,s4,rs,R4,hl4,E4⟩
    refine ⟨_,rfl,k rp H4 qs rs s4 hrp0 (fun q hq=>(hqs q hq).1) R4 hl4 fun g r hr=>⟨(E4 g r hr).1.congr fun w t=>⟨fun z=>z.2,fun z=>⟨?_,z⟩⟩,Qw (E4 g r hr).2 (by rw [Qb]; omega)⟩⟩
    rw [Qb]
    exact (Qd.mp z.1).1
def rM (K:PySem.W.Frag) (H:Hp) (x:V) (y:Addr) (n:Int) (ws:List (List Int)) (hs:List Int):Prop:=Den K H (cN n ws) x/\bZ (cN n ws)=true/\SqL K H y (hs.map V.int)/\gA ws (lN hs)=true
theorem rM.len {H:Hp} {x:V} {y:Addr} {n:Int} {ws:List (List Int)} {hs:List Int} (g:rM K H x y n ws hs):hs.length<=12/\1<=n/\n<=6:=by
 obtain ⟨h1,h2,h3,_⟩:=bM g.2.1
 have:=(cZ g.2.2.2).1
 omega
theorem rM.hand {H:Hp} {x:V} {y:Addr} {n:Int} {ws:List (List Int)} {hs:List Int} (g:rM K H x y n ws hs) {i:Nat} {h:Int} (e:hs[i]?=some h):0<=h/\h < n:=by
 obtain ⟨_,_,_,hws⟩:=bM g.2.1
 obtain ⟨hl,hm⟩:=cZ g.2.2.2
 have hi:i < ws.length:=by rw [<- hl]; exact (Qd.mp e).1
 have hw:=Qc hi
 exact (cY (hws _ (Qh hw))).2.1 h (hm i h _ e hw)
def rN (K:PySem.W.Frag):Sp:=fun vs H Q _=>∃ x y n ws hs,vs = [x,.ref y]/\rM K H x y n ws hs/\∀ rp H' qs rs,aD H H'->H rp=none->(∀ q∈qs,H q=none)->Rows H' rp qs rs->rs.length=n.toNat->pB (iR ws hs) rs 100->Q (.ref rp) H'
theorem xP {f:Addr} {fd:FuncData} (G:Fn K mg "handing" iP ["book", "deal"] f fd) (B:Bl mg):FnOk P w K mg base CX0 1 f fd ["book", "deal"] (rN K):=by
 refine G.fn.ok dM (fun vs H Q E h=>?_) (fun cdv A outer s H vs Q E hr h=>?_)
 ·obtain ⟨x,y,n,ws,hs,rfl,_⟩:=h
  rfl
 ·obtain ⟨x,y,n,ws,hs,rfl,g,k⟩:=h
  refine ⟨_,(aE (mM (i:=2) (own:=["hand"]) (fr:=[]) (frn:=[]) (bA (aI iP) ["book", "deal", "rows", "work", "giver", "able", "taker"] rfl rfl (by decide +kernel)) rfl dM.nd rfl rfl rfl (cL rfl B.range (aA (bS dU (pv 0) aG (fun _ _=>rfl)) aB))
    (fun _ _ _ _=>(aK (i:=0) (show (["hand"]:List Str).Nodup by decide +kernel) rfl (Or.inl rfl))) (fun _ _ _ _=>cW)
    (fun _ _ _ _=>wX))
   (aE (cO PassesOwn.never rfl (qR .l .t rfl B.enumerate rfl B.zip (aA (pv 1) (aA (bS dU (pv 0) aG (fun _ _=>rfl)) aB))) (jR rfl (aV (aK (i:=3) dM.nd rfl (Or.inl rfl)) (aV (jR rfl (aV (aK (i:=4) dM.nd rfl (Or.inl rfl)) (aV (aK (i:=5) dM.nd rfl (Or.inl rfl)) eF))) eF)))
    (aF (cO PassesOwn.never rfl (gW (pv 5)) (aK (i:=6) dM.nd rfl (Or.inl rfl))
     (aF (cF (bE iX (pv 6) (pv 4) (bJ _))
      (aF (uP (qF hr) (bS iJ (pv 2) (pv 4) (fun _ _=>rfl)) (pv 6) (pv 3) rfl))
      aW)))))
   (aF (aQ (pv 2))))),?_⟩
  obtain ⟨hl12,hn1,hn6⟩:=g.len
  obtain ⟨a,b,ys,rfl,ha,hb2,hys⟩:=cP g.1
  have hy:=g.2.2.1
  obtain ⟨hdl,hdg⟩:=cZ g.2.2.2
  obtain ⟨_,_,hw12,hws⟩:=bM g.2.1
  have hlw:=aJ hys
  rw [Qb] at hlw
  refine ⟨_,rfl,a,_,0,.int n,rfl,rfl,ha,rfl,n,rfl,by omega,by omega,iE (lo:=0) (n:=n.toNat) (fun σ=>∃ v,σ = [v]) (fun i zs H2=>∃ qs:List Addr,zs=qs.map V.ref/\qs.length=i/\aD H H2/\qs.Nodup/\∀ q∈qs,H q=none/\H2 q=some (.dK [])) ?_ ⟨none,rfl⟩ ⟨[],rfl,rfl,aD.refl H,List.nodup_nil,fun _ h=>(Qn h).elim⟩ ?_ ?_ ?_⟩
  ·rw [sizeLine_eq]; omega
  ·rintro i zs H2 ⟨qs,rfl,hq,_⟩
   rw [Qb]; omega
  ·rintro i zs σ H2 hi ⟨v,rfl⟩ ⟨qs,rfl,hq,s2,nd,hqs⟩ hz
   refine cX ?_
   intro p hp
   refine ⟨hz,⟨_,rfl⟩,qs++[p],by rw [Qz]; rfl,by rw [Qe,hq]; rfl,s2.trans (aD.new hp),?_,fun q hq'=>?_⟩
   ·rw [Zi]
    refine ⟨nd,by simp,fun x hx y hy e=>?_⟩
    rw [Qp.mp hy] at e
    have:=(hqs x hx).2
    rw [e,hp] at this; cases this
   ·rcases Qx.mp hq' with h | h
    ·exact ⟨(hqs q h).1,(aD.new hp) _ _ (hqs q h).2⟩
    ·rw [Qp.mp h]
     exact ⟨s2.free hp,aC⟩
  ·rintro zs H2 ⟨qs,rfl,hq,s2,nd,hqs⟩ rp hrp
   have s3:=s2.trans (aD.new (o:=.lst (qs.map V.ref)) hrp)
   have hrp0:H rp=none:=s2.free hrp
   have R3:Rows (upd H2 rp (.lst (qs.map V.ref))) rp qs (List.replicate n.toNat []):=⟨aC,by rw [Jc]; exact hq,nd,fun g q r h1 h2=>by
    have er:r = []:=by
     rw [Xb] at h2
     split at h2
     ·exact (Option.some.inj h2).symm
     ·cases h2
    rw [er]
    exact (aD.new hrp) _ _ (hqs q (Qh h1)).2⟩
   generalize upd H2 rp (.lst (qs.map V.ref))=H3 at s3 R3 ⊢
   have h6:∀ l∈ws,l.length<=6:=fun l hl=>by
    obtain ⟨_,w2,w3⟩:=cY (hws l hl)
    have:=iF (by omega) w2 w3
    omega
   refine ⟨_,rfl,_,rfl,a,_,1,.ref b,rfl,rfl,s3.seqT ha,rfl,y,b,_,_,rfl,s3.seqL hy,s3.seqT hb2,oY (K:=K) (k1:=.l) (k2:=.t) (a:=y) (b:=b) (xs:=hs.map V.int) (ys:=ys)
    (fun i σ H4=>(∃ v3 v4 v5 v6,σ = [some (.ref a),some (.ref y),some (.ref rp),v3,v4,v5,v6])/\aD H H4/\∃ rs,Rows H4 rp qs rs/\rs.length=n.toNat/\pB (fun g w t=>w < i/\iR ws hs g w t) rs (6*i))
    (by rw [Qb]; omega) ⟨⟨_,_,_,_,rfl⟩,s3,_,R3,Jc,fun g r hr=>?_⟩ (fun _ σ H4 _ ⟨_,s4,_⟩=>⟨s4.seqL hy,s4.seqT hb2⟩) ?_ ?_⟩
   ·have er:r = []:=by
     rw [Xb] at hr
     split at hr
     ·exact (Option.some.inj hr).symm
     ·cases hr
    rw [er]
    exact ⟨oQ.nil fun w t h=>by omega,Jh _⟩
   ·rintro i u v p q σ H4 hu hv ⟨⟨v3,v4,v5,v6,rfl⟩,s4,rs,R4,hl4,E4⟩ hp hq hne
    obtain ⟨h,hh,rfl⟩:=kQ hu
    obtain ⟨dv,hdv,denv⟩:=cI hys hv
    rw [Qi] at hdv
    obtain ⟨l,hl,rfl⟩:∃ l,ws[i]?=some l/\bP l=dv:=by
     cases q:ws[i]? with
     | none=>rw [q] at hdv; cases hdv
     | some l=>rw [q] at hdv; exact ⟨l,rfl,Option.some.inj hdv⟩
    obtain ⟨aw,rfl,haw⟩:=aR.mp denv
    obtain ⟨hh0,hh1⟩:=g.hand hh
    have hl6:=h6 l (Qh hl)
    have hi12:i < 12:=by
     have:=(Qd.mp hh).1
     omega
    have sp:=aD.new (o:=.tup [.int h,.ref aw]) hp
    have hq1:upd H4 p (.tup [.int h,.ref aw]) q=none:=by rw [aH hne]; exact hq
    have sq:=aD.new (o:=.tup [.int (i:Nat),.ref p]) hq1
    have ep:upd (upd H4 p (.tup [.int h,.ref aw])) q (.tup [.int (i:Nat),.ref p]) p=some (.tup [.int h,.ref aw]):=sq _ _ aC
    have eq:upd (upd H4 p (.tup [.int h,.ref aw])) q (.tup [.int (i:Nat),.ref p]) q=some (.tup [.int (i:Nat),.ref p]):=aC
    have s5:=s4.trans (sp.trans sq)
    have R5:=R4.same (sp.trans sq)
    generalize upd (upd H4 p (.tup [.int h,.ref aw])) q (.tup [.int (i:Nat),.ref p])=H5 at ep eq s5 R5 ⊢
    refine ⟨q,_,rfl,SqT.of eq,rfl,_,_,rfl,_,_,rfl,p,_,rfl,SqT.of ep,rfl,_,_,rfl,_,_,rfl,rfl,rfl,?_⟩
    have hgl:h.toNat < qs.length:=by rw [R5.len,hl4]; omega
    obtain ⟨qh,hqh⟩:∃ qh,qs[h.toNat]?=some qh:=⟨_,Qc hgl⟩
    have hcast:((h.toNat:Nat):Int)=h:=by omega
    refine ⟨_,rfl,aw,rfl,⟨_,s5.seqT haw⟩,tZ (K:=K) (a:=aw) (xs:=l.map V.int) (fun j σ H6=>(∃ v6,σ = [some (.ref a),some (.ref y),some (.ref rp),some (.int (i:Nat)),some (.int h),some (.ref aw),v6])/\aD H H6/\∃ rs,Rows H6 rp qs rs/\rs.length=n.toNat/\pB (fun g w t=>(w < i/\iR ws hs g w t)∨(w=i/\g=h/\t∈l.take j/\t≠h)) rs (6*i+j))
     ⟨⟨_,rfl⟩,s5,rs,R5,hl4,fun g r hr=>⟨(E4 g r hr).1.congr fun w t=>⟨.inl,fun z=>z.elim id fun z=>by rw [Zk] at z; exact (Qn z.2.2.1).elim⟩,(E4 g r hr).2⟩⟩ (fun _ σ H6 _ ⟨_,s6,_⟩=>s6.seqT haw) ?_ ?_⟩
    ·rintro j tv σ H6 htv ⟨⟨v6,rfl⟩,s6,rs,R6,hl6',E6⟩
     obtain ⟨t,ht,rfl⟩:=kQ htv
     have hj:j < l.length:=(Qd.mp ht).1
     have etake:l.take (j+1)=l.take j++[t]:=by rw [Jn,ht]; rfl
     refine ⟨_,rfl,_,rfl,rfl,_,rfl,?_⟩
     refine gE (fun c=>?_) (fun c=>?_)
     ·have hth:t≠h:=fun z=>by rw [z] at c; simp at c
      obtain ⟨r,hr⟩:∃ r,rs[h.toNat]?=some r:=⟨_,Qc (by rw [hl6']; omega)⟩
      have hat:atI (qs.map V.ref) h=some (.ref qh):=by
       have:=eR (xs:=qs.map V.ref) (j:=h.toNat) (v:=.ref qh) (by rw [Qi,hqh]; rfl)
       rwa [hcast] at this
      have hrow:=R6.row _ _ _ hqh hr
      have hrl:=(E6 _ _ hr).2
      have hqH:H qh=none:=(hqs qh (Qh hqh)).1
      refine ⟨_,rfl,_,rfl,_,rfl,rp,_,h,_,rfl,rfl,SqL.of R6.lst,hat,_,rfl,qh,_,rfl,uM.k (k:=.inl t) hrow (by rw [sizeLine_eq]; omega),?_⟩
      refine ⟨⟨_,rfl⟩,s6.wr hqH,rs.set h.toNat (iT r (.inl t) (.int (i:Nat))),R6.put hqh hr,by rw [Xt]; exact hl6',fun g2 r2 hr2=>?_⟩
      rw [Zh] at hr2
      by_cases eg:h.toNat=g2
      ·rw [if_pos eg,if_pos (by rw [hl6']; omega)] at hr2
       cases hr2
       have eg':((g2:Nat):Int)=h:=by omega
       refine ⟨((E6 _ _ hr).1.put i t).congr fun w t'=>?_,Qw (gS _ _ _) (by omega)⟩
       rw [hcast,eg',etake]
       constructor
       ·rintro ((z | ⟨z1,z2,z3,z4⟩) | ⟨z1,z2⟩)
        ·exact .inl z
        ·exact .inr ⟨z1,z2,Ji _ z3,z4⟩
        ·exact .inr ⟨z1,rfl,by rw [z2]; simp,by rw [z2]; exact hth⟩
       ·rintro (z | ⟨z1,z2,z3,z4⟩)
        ·exact .inl (.inl z)
        ·rcases Qx.mp z3 with z3 | z3
         ·exact .inl (.inr ⟨z1,z2,z3,z4⟩)
         ·exact .inr ⟨z1,Qp.mp z3⟩
      ·rw [if_neg eg] at hr2
       refine ⟨(E6 _ _ hr2).1.congr fun w t'=>?_,Qw (E6 _ _ hr2).2 (by omega)⟩
       have ng:¬ ((g2:Nat):Int)=h:=by omega
       constructor
       ·rintro (z | ⟨_,z2,_⟩)
        ·exact .inl z
        ·exact absurd z2 ng
       ·rintro (z | ⟨_,z2,_⟩)
        ·exact .inl z
        ·exact absurd z2 ng
     ·have hth:t=h:=by simpa using c
      refine ⟨⟨_,rfl⟩,s6,rs,R6,hl6',fun g2 r2 hr2=>⟨(E6 _ _ hr2).1.congr fun w t'=>?_,Qw (E6 _ _ hr2).2 (by omega)⟩⟩
      rw [etake]
      constructor
      ·rintro (z | ⟨z1,z2,z3,z4⟩)
       ·exact .inl z
       ·exact .inr ⟨z1,z2,Ji _ z3,z4⟩
      ·rintro (z | ⟨z1,z2,z3,z4⟩)
       ·exact .inl z
       ·rcases Qx.mp z3 with z3 | z3
        ·exact .inr ⟨z1,z2,z3,z4⟩
        ·exact absurd ((Qp.mp z3).trans hth) z4
    ·rintro σ H6 ⟨⟨v6,rfl⟩,s6,rs,R6,hl6',E6⟩
     refine ⟨⟨_,_,_,_,rfl⟩,s6,rs,R6,hl6',fun g2 r2 hr2=>⟨(E6 _ _ hr2).1.congr fun w t'=>?_,Qw (E6 _ _ hr2).2 (by rw [Qb]; omega)⟩⟩
     rw [Qb,Ju]
     constructor
     ·rintro (⟨z1,z2⟩ | ⟨z1,z2,z3,z4⟩)
      ·exact ⟨by omega,z2⟩
      ·subst z1
       exact ⟨by omega,by rw [hh,z2],l,hl,z3,by rw [z2]; exact z4⟩
     ·rintro ⟨z1,z2⟩
      by_cases hw:w < i
      ·exact .inl ⟨hw,z2⟩
      ·have ew:w=i:=by omega
       subst ew
       obtain ⟨z3,l',z4,z5,z6⟩:=z2
       rw [hh] at z3
       rw [hl] at z4
       cases z4
       have ez:h=g2:=Option.some.inj z3
       exact .inr ⟨rfl,ez.symm,z5,by rw [ez]; exact z6⟩
   ·rintro σ H4 ⟨⟨v3,v4,v5,v6,rfl⟩,s4,rs,R4,hl4,E4⟩
    refine ⟨_,rfl,k rp H4 qs rs s4 hrp0 (fun q hq=>(hqs q hq).1) R4 hl4 fun g r hr=>⟨(E4 g r hr).1.congr fun w t=>⟨fun z=>z.2,fun z=>⟨?_,z⟩⟩,Qw (E4 g r hr).2 (by rw [Qb]; omega)⟩⟩
    rw [Qb]
    exact (Qd.mp z.1).1
end
def Tp (H H':Hp):Prop:=∀ p xs,H p=some (.tup xs)->H' p=some (.tup xs)
theorem Tp.of {H H':Hp} (s:aD H H'):Tp H H':=fun _ _ h=>s _ _ h
theorem Tp.trans {H H1 H2:Hp} (a:Tp H H1) (b:Tp H1 H2):Tp H H2:=fun p xs h=>b p xs (a p xs h)
theorem Tp.upd {H:Hp} {a:Addr} {u:HO} (h:∀ xs,H a≠some (.tup xs)):Tp H (upd H a u):=fun p xs e=>by
 have ne:p≠a:=fun z=>h xs (by rw [<- z]; exact e)
 rw [aH ne]; exact e
theorem vN {fs:List (Key×V)} {os:List Int} (h:fs.map (·.1)=os.map Sum.inl) (t:Int):(eQ fs (.inl t)).isSome=decide (t∈os):=by
 rw [<- iO]
 have:(fs.any fun kv=>decide (kv.1=Sum.inl t))=((fs.map (·.1)).any fun k=>decide (k=Sum.inl t)):=by rw [Wb]; rfl
 rw [this,h,Wb,Xs]
 simp
structure Tree (ws:List (List Int)) (hs:List Int) (n first:Int) (H:Hp) (fs:List (Key×V)) (os:List Int):Prop where
 keys:fs.map (·.1)=os.map Sum.inl
 nd:os.Nodup
 rng:∀ o∈os,0<=o/\o < n
 head:os[0]?=some first
 v0:eQ fs (.inl first)=some .non
 par:∀ (j:Nat) (t:Int),0 < j->os[j]?=some t->∃ (p:Addr) (w:Nat) (g:Int) (i:Nat),eQ fs (.inl t)=some (.ref p)/\H p=some (.tup [.int (w:Nat),.int g,.int t])/\iR ws hs g w t/\i < j/\os[i]?=some g
section
variable {ws:List (List Int)} {hs:List Int} {n first:Int} {H H':Hp} {fs:List (Key×V)} {os:List Int}
theorem Tree.tp (T:Tree ws hs n first H fs os) (e:Tp H H'):Tree ws hs n first H' fs os :=
 ⟨T.keys,T.nd,T.rng,T.head,T.v0,fun j t h0 h1=>let ⟨p,w,g,i,a,b,c⟩:=T.par j t h0 h1; ⟨p,w,g,i,a,e _ _ b,c⟩⟩
theorem Tree.len (T:Tree ws hs n first H fs os):os.length<=n.toNat:=oP _ _ T.nd fun x hx=>by have:=T.rng x hx; omega
theorem Tree.flen (T:Tree ws hs n first H fs os):fs.length=os.length:=by
 have:=congrArg Yo T.keys
 rwa [Qb,Qb] at this
theorem Tree.one (h0:0<=first) (h1:first < n):Tree ws hs n first H [(.inl first,.non)] [first] :=
 ⟨rfl,by simp,fun o ho=>by rw [Qp.mp ho]; exact ⟨h0,h1⟩,rfl,eT rfl,fun j t h2 h3=>by
  cases j with
  | zero=>omega
  | succ j=>simp at h3⟩
theorem Tree.grow (T:Tree ws hs n first H fs os) {p:Addr} {w:Nat} {g t:Int} {i:Nat} (hp:H p=some (.tup [.int (w:Nat),.int g,.int t])) (e:iR ws hs g w t) (hi:os[i]?=some g) (ht:t∉os) (r0:0<=t) (r1:t < n) :
  Tree ws hs n first H (fs++[(.inl t,.ref p)]) (os++[t]):=by
 have hv:eQ fs (.inl t)=none:=by
  have:=vN T.keys t
  rw [decide_eq_false ht] at this
  cases q:eQ fs (.inl t) with
  | none=>rfl
  | some v=>rw [q] at this; cases this
 have hlt:i < os.length:=(Qd.mp hi).1
 have val:∀ j:Key,eQ (fs++[(.inl t,.ref p)]) j=if j=.inl t then some (.ref p) else eQ fs j:=fun j=>oM _ _ _ _ hv
 have hf:first∈os:=Qh T.head
 refine ⟨by rw [Qz,Qz,T.keys]; rfl,?_,fun o ho=>?_,?_,?_,fun j t' h0 h1=>?_⟩
 ·rw [Zi]
  exact ⟨T.nd,by simp,fun x hx y hy z=>ht (by rw [<- Qp.mp hy,<- z]; exact hx)⟩
 ·rcases Qx.mp ho with h | h
  ·exact T.rng o h
  ·rw [Qp.mp h]; exact ⟨r0,r1⟩
 ·rw [Qv (by omega)]; exact T.head
 · rw [val, if_neg (fun z => ht (by have : first = t := by simpa using z
                                    rw [<- this]; exact hf))]
   exact T.v0
 ·by_cases hj:j < os.length
  ·rw [Qv hj] at h1
   obtain ⟨p',w',g',i',a,b,c,d,e'⟩:=T.par j t' h0 h1
   have ne : (Sum.inl t' : Key) ≠ Sum.inl t := fun z => ht (by have : t' = t := by simpa using z
                                                               rw [<- this]; exact Qh h1)
   exact ⟨p',w',g',i',by rw [val,if_neg ne]; exact a,b,c,d,by rw [Qv (by omega)]; exact e'⟩
  ·have ej:j=os.length:=by
    have:=(Qd.mp h1).1
    rw [Qe] at this
    simp at this
    omega
   subst ej
   rw [Jd (Qg _),Xm] at h1
   have et:t'=t:=by simpa using h1.symm
   subst et
   exact ⟨p,w,g,i,by rw [val,if_pos rfl],hp,e,hlt,by rw [Qv hlt]; exact hi⟩
end
section
variable {P:Program} {w:World} {K:PySem.W.Frag} {mg:Str->Option Value} {base:Heap}
def aCq (ws:List (List Int)) (hs os:List Int):Prop:=∀ g∈os,∀ w t,iR ws hs g w t->t∈os
def oR (K:PySem.W.Frag):Sp:=fun vs H Q _=>∃ rp first qs rs n ws hs,vs = [.ref rp,.int first]/\Rows H rp qs rs/\rs.length=n.toNat/\pB (iR ws hs) rs 100/\(∀ g w t,iR ws hs g w t->0<=t/\t < n)/\n<=7/\0<=first/\first < n /\
 ∀ fd H' fs os,aD H H'->H fd=none->H' fd=some (.dK fs)->Tree ws hs n first H' fs os->aCq ws hs os->Q (.ref fd) H'
theorem kD:FnScope ["rows", "first", "found", "waiting", "giver", "taker"] ["rows", "first"] (aI lL):=⟨rfl,rfl,rfl,by decide +kernel,rfl,by decide +kernel,by decide +kernel⟩
theorem rO {f:Addr} {fd:FuncData} (G:Fn K mg "reached" lL ["rows", "first"] f fd) (B:Bl mg):FnOk P w K mg base CX0 1 f fd ["rows", "first"] (oR K):=by
 refine G.fn.ok kD (fun vs H Q E h=>?_) (fun cdv A outer s H vs Q E hr h=>?_)
 ·obtain ⟨rp,first,qs,rs,n,ws,hs,rfl,_⟩:=h
  rfl
 ·obtain ⟨rp,first,qs,rs,n,ws,hs,rfl,R,hlr,ER,hedge,hn6,hf0,hf1,k⟩:=h
  refine ⟨_,(aE (aS (i:=2) kD.nd rfl (Or.inl rfl) (aB1 (pv 1) gU))
   (aE (aS (i:=3) kD.nd rfl (Or.inl rfl) (bW (aA (pv 1) aB)))
   (aE (vY PassesOwn.never (aBu (pv 3) (fun _=>rfl))
    (aE (aS (i:=4) kD.nd rfl (Or.inl rfl) (gZ PySem.F.plainAttrs_list PySem.F.slot_list_pop PySem.F.type_list_pop aBA (pv 3) (aA aG aB)))
    (aF (aDd (cO PassesOwn.never rfl (aAa (bS iJ (pv 0) (pv 4) (fun _ _=>rfl))) (aK (i:=5) kD.nd rfl (Or.inl rfl))
     (aF (cF (aBn (aAX (qF hr) (pv 5) (pv 2)) (by with_unfolding_all rfl))
      (aE (uP (qF hr) (pv 2) (pv 5) (aX (aA (uO (qF hr) (bS iJ (pv 0) (pv 4) (fun _ _=>rfl)) (pv 5) (fun _ _=>rfl)) (aA (pv 4) (aA (pv 5) aB)))) rfl)
      (aF (bI (gZ PySem.F.plainAttrs_list PySem.F.slot_list_append PySem.F.type_list_append cC (pv 3) (aA (pv 5) aB)))))
      aW)))))))
   (aF (aQ (pv 2)))))),?_⟩
  intro fd0 hfd0
  refine ⟨_,rfl,.inl first,rfl,aC,?_⟩
  rw [aCM]
  have s1:=aD.new (o:=.dK [(.inl first,.non)]) hfd0
  have e1:upd H fd0 (.dK [(.inl first,.non)]) fd0=some (.dK [(.inl first,.non)]):=aC
  generalize upd H fd0 (.dK [(.inl first,.non)])=H1 at s1 e1 ⊢
  refine ⟨_,rfl,sz1 _,fun wt hwt=>?_⟩
  have hwt0:H wt=none:=s1.free hwt
  have nfw:fd0≠wt:=fun z=>by rw [z,hwt] at e1; cases e1
  have s2:=s1.trans (aD.new (o:=.lst [.int first]) hwt)
  have e2:=(aD.new (o:=.lst [.int first]) hwt) _ _ e1
  have w2:upd H1 wt (.lst [.int first]) wt=some (.lst [.int first]):=aC
  generalize upd H1 wt (.lst [.int first])=H2 at s2 e2 w2 ⊢
  -- the while
  refine ⟨fun m σ H3=>∃ (v4 v5:Option V) (mm:Nat) (fs:List (Key×V)) (os:List Int),σ = [some (.ref rp),some (.int first),some (.ref fd0),some (.ref wt),v4,v5]/\m=n.toNat - mm/\aD H H3/\H3 fd0=some (.dK fs)/\H3 wt=some (.lst ((os.drop mm).map V.int))/\Tree ws hs n first H3 fs os/\mm<=os.length /\
    ∀ (i:Nat) (g:Int),i < mm->os[i]?=some g->∀ w t,iR ws hs g w t->t∈os,
   ⟨n.toNat - 0,none,none,0,_,[first],rfl,rfl,s2,e2,w2,Tree.one hf0 hf1,Jh _,fun i g hi=>absurd hi (Nat.not_lt_zero _)⟩,?_⟩
  rintro m σ H3 ⟨v4,v5,mm,fs,os,rfl,rfl,s3,e3,w3,T3,hmm,pr3⟩
  refine ⟨_,rfl,!((os.drop mm).map V.int).isEmpty,.inl ⟨_,SqL.of w3,rfl⟩,?_⟩
  by_cases hend:mm < os.length
  ·-- a turn
   have hne:(os.drop mm)≠[]:=by
    intro z
    have:=congrArg Yo z
    rw [Ja] at this
    simp at this
    omega
   have hb:(!((os.drop mm).map V.int).isEmpty)=true:=by
    cases q:os.drop mm with
    | nil=>exact absurd q hne
    | cons _ _=>rfl
   rw [hb]
   refine eP ?_
   have hdrop:os.drop mm=os[mm]::os.drop (mm+1):=Xl hend
   have hgm:os[mm]?=some (os[mm]):=Qc hend
   generalize os[mm]=g at hdrop hgm
   obtain ⟨hg0,hg1⟩:=T3.rng g (Qh hgm)
   have holen:=T3.len
   refine ⟨fun σ' H'=>∃ m',m' < n.toNat - mm/\∃ (v4 v5:Option V) (mm:Nat) (fs:List (Key×V)) (os:List Int),σ' = [some (.ref rp),some (.int first),some (.ref fd0),some (.ref wt),v4,v5]/\m'=n.toNat - mm/\aD H H'/\H' fd0=some (.dK fs)/\H' wt=some (.lst ((os.drop mm).map V.int))/\Tree ws hs n first H' fs os/\mm<=os.length /\
    ∀ (i:Nat) (g:Int),i < mm->os[i]?=some g->∀ w t,iR ws hs g w t->t∈os,fun σ' H' z=>z,?_⟩
   refine ⟨_,rfl,.inl ⟨rfl,_,SqL.of w3⟩,?_⟩
   have hx0:((os.drop mm).map V.int)[0]?=some (.int g):=by rw [hdrop]; rfl
   have hxl:0 < ((os.drop mm).map V.int).length:=(Qd.mp hx0).1
   refine ⟨wt,_,0,0,.int g,rfl,rfl,w3,by decide,by decide,nO (i:=0) (by decide) hxl,hx0,?_⟩
   have her:((os.drop mm).map V.int).eraseIdx 0=(os.drop (mm+1)).map V.int:=by rw [hdrop]; rfl
   rw [her]
   have s4:=s3.wr (u:=.lst ((os.drop (mm+1)).map V.int)) hwt0
   have e4:upd H3 wt (.lst ((os.drop (mm+1)).map V.int)) fd0=some (.dK fs):=by rw [aH nfw]; exact e3
   have w4:upd H3 wt (.lst ((os.drop (mm+1)).map V.int)) wt=some (.lst ((os.drop (mm+1)).map V.int)):=aC
   have T4:=T3.tp (Tp.upd (a:=wt) (u:=.lst ((os.drop (mm+1)).map V.int)) fun xs z=>by rw [w3] at z; cases z)
   generalize upd H3 wt (.lst ((os.drop (mm+1)).map V.int))=H4 at s4 e4 w4 T4 ⊢
   -- the row
   have R4:=R.same s4
   have hgl:g.toNat < qs.length:=by rw [R.len,hlr]; omega
   have hcast:((g.toNat:Nat):Int)=g:=by omega
   obtain ⟨qg,hqg⟩:∃ q,qs[g.toNat]?=some q:=⟨_,Qc hgl⟩
   obtain ⟨r,hr⟩:∃ r,rs[g.toNat]?=some r:=⟨_,Qc (by rw [hlr]; omega)⟩
   have hat:atI (qs.map V.ref) g=some (.ref qg):=by
    have:=eR (xs:=qs.map V.ref) (j:=g.toNat) (v:=.ref qg) (by rw [Qi,hqg]; rfl)
    rwa [hcast] at this
   have hrow:=R.row _ _ _ hqg hr
   have hrow4:=s4 _ _ hrow
   obtain ⟨hRE,hRl⟩:=ER _ _ hr
   rw [hcast] at hRE
   have nqf:qg≠fd0:=fun z=>by rw [z,hfd0] at hrow; cases hrow
   have nqw:qg≠wt:=fun z=>by rw [z,hwt0] at hrow; cases hrow
   have nqr:rp≠qg:=fun z=>by have:=R.lst; rw [z,hrow] at this; cases this
   refine ⟨_,rfl,_,rfl,rp,_,g,_,rfl,rfl,SqL.of R4.lst,hat,qg,r,rfl,hrow4,fun o nf=>?_⟩
   have z5:upd H4 qg (.frz o (.dK r)) qg=some (.frz o (.dK r)):=aC
   have b5:But qg H (upd H4 qg (.frz o (.dK r))):=fun b u nb hb=>by rw [aH nb]; exact s4 _ _ hb
   have e5:upd H4 qg (.frz o (.dK r)) fd0=some (.dK fs):=by rw [aH (Ne.symm nqf)]; exact e4
   have w5:upd H4 qg (.frz o (.dK r)) wt=some (.lst ((os.drop (mm+1)).map V.int)):=by rw [aH (Ne.symm nqw)]; exact w4
   have T5:=T4.tp (Tp.upd (a:=qg) (u:=.frz o (.dK r)) fun xs z=>by rw [hrow4] at z; cases z)
   generalize upd H4 qg (.frz o (.dK r))=H5 at z5 b5 e5 w5 T5 ⊢
   refine aB0 (a:=qg) (o:=o) (kvs:=r) (fun j σ H6=>∃ (v5:Option V) (fs:List (Key×V)) (os:List Int),σ = [some (.ref rp),some (.int first),some (.ref fd0),some (.ref wt),some (.int g),v5]/\H6 qg=some (.frz o (.dK r))/\But qg H H6/\H6 fd0=some (.dK fs)/\H6 wt=some (.lst ((os.drop (mm+1)).map V.int))/\Tree ws hs n first H6 fs os/\mm+1<=os.length/\os[mm]?=some g /\
     (∀ (i:Nat) (g:Int),i < mm->os[i]?=some g->∀ w t,iR ws hs g w t->t∈os)/\∀ (i:Nat) k v t,i < j->r[i]?=some (k,v)->k=.inl t->t∈os)
    ⟨v5,fs,os,rfl,z5,b5,e5,w5,T5,hend,hgm,pr3,fun i k v t hi=>absurd hi (Nat.not_lt_zero _)⟩ (fun j σ H6 _ ⟨_,_,_,_,h,_⟩=>h) ?_ ?_
   ·rintro j ⟨key,val⟩ σ H6 hj ⟨v5,fs,os,rfl,z6,b6,e6,w6,T6,hl6,hg6,pr6,dn6⟩
    -- the key is a hand,its value a work
    obtain ⟨val',hval⟩:∃ v,eQ r key=some v:=by
     have:(eQ r key).isSome=true:=by
      rw [<- iO,Yi]
      exact ⟨_,Qh hj,by simp⟩
     cases q:eQ r key with
     | none=>rw [q] at this; cases this
     | some v=>exact ⟨v,rfl⟩
    obtain ⟨wk,t,rfl,rfl,hE⟩:=hRE.1 _ _ hval
    obtain ⟨ht0,ht1⟩:=hedge _ _ _ hE
    dsimp only [kV]
    have dn:∀ (os':List Int),t∈os'->(∀ x∈os,x∈os')->∀ (i:Nat) k v t',i < j+1->r[i]?=some (k,v)->k=.inl t'->t'∈os':=fun os' h1 h2 i k v t' hi hk he=>by
     by_cases hij:i < j
     ·exact h2 _ (dn6 i k v t' hij hk he)
     ·have:i=j:=by omega
      subst this
      rw [hj] at hk
      cases hk
      have:t=t':=by simpa using he
      rw [<- this]; exact h1
    refine ⟨_,rfl,_,rfl,fd0,_,rfl,sG.k (k:=.inl t) e6,_,rfl,?_⟩
    rw [vN T6.keys]
    by_cases htm:t∈os
    ·rw [decide_eq_true htm]
     refine eO ?_
     exact ⟨_,fs,os,rfl,z6,b6,e6,w6,T6,hl6,hg6,pr6,dn os htm fun _ h=>h⟩
    ·rw [decide_eq_false htm]
     refine eP ?_
     have hR6:H6 rp=some (.lst (qs.map V.ref)):=b6 _ _ nqr R.lst
     refine ⟨_,rfl,_,rfl,rp,_,g,_,rfl,rfl,SqL.of hR6,hat,_,rfl,qg,.int (wk:Nat),rfl,.inl ⟨r,.inl t,.inr ⟨o,z6⟩,rfl,hval.symm⟩,_,rfl,_,rfl,eA (show 3<=1000 by decide),fun p hp=>?_⟩
     have sp:=aD.new (o:=.tup [.int (wk:Nat),.int g,.int t]) hp
     have ep:upd H6 p (.tup [.int (wk:Nat),.int g,.int t]) p=_:=aC
     have b7:But qg H (upd H6 p (.tup [.int (wk:Nat),.int g,.int t])):=b6.trans (But.of sp)
     have z7:=sp _ _ z6
     have e7:=sp _ _ e6
     have w7:=sp _ _ w6
     have T7:=T6.tp (Tp.of sp)
     generalize upd H6 p (.tup [.int (wk:Nat),.int g,.int t])=H7 at sp ep b7 z7 e7 w7 T7 ⊢
     have hv:eQ fs (.inl t)=none:=by
      have:=vN T7.keys t
      rw [decide_eq_false htm] at this
      cases q:eQ fs (.inl t) with
      | none=>rfl
      | some v=>rw [q] at this; cases this
     have T7l:=T7.len
     have T7f:=T7.flen
     have T8:=T7.grow ep hE hg6 htm ht0 ht1
     have hput:iT fs (.inl t) (.ref p)=fs++[(.inl t,.ref p)]:=aBY _ hv
     refine ⟨_,rfl,_,rfl,fd0,_,rfl,uM.k (k:=.inl t) e7 (by rw [sizeLine_eq]; omega),?_⟩
     rw [hput]
     have b8:But qg H (upd H7 fd0 (.dK (fs++[(.inl t,.ref p)]))):=fun b u nb hb=>by
      rw [aH (fun z=>by rw [z,hfd0] at hb; cases hb)]
      exact b7 b u nb hb
     have z8:upd H7 fd0 (.dK (fs++[(.inl t,.ref p)])) qg=some (.frz o (.dK r)):=by rw [aH nqf]; exact z7
     have e8:upd H7 fd0 (.dK (fs++[(.inl t,.ref p)])) fd0=_:=aC
     have w8:upd H7 fd0 (.dK (fs++[(.inl t,.ref p)])) wt=some (.lst ((os.drop (mm+1)).map V.int)):=by rw [aH (Ne.symm nfw)]; exact w7
     have T8':=T8.tp (Tp.upd (a:=fd0) (u:=.dK (fs++[(.inl t,.ref p)])) fun xs z=>by rw [e7] at z; cases z)
     generalize upd H7 fd0 (.dK (fs++[(.inl t,.ref p)]))=H8 at b8 z8 e8 w8 T8' ⊢
     refine ⟨_,rfl,.inl ⟨rfl,_,SqL.of w8⟩,_,rfl,wt,_,.int t,rfl,rfl,w8,by rw [Qb,Ja,sizeLine_eq]; omega,?_⟩
     have hdr:(os.drop (mm+1)).map V.int++[V.int t]=((os++[t]).drop (mm+1)).map V.int:=by
      rw [List.drop_append_of_le_length hl6,Qz]; rfl
     rw [hdr]
     refine ⟨_,_,os++[t],rfl,by rw [aH nqw]; exact z8,fun b u nb hb=>?_,by rw [aH nfw]; exact e8,aC,T8'.tp (Tp.upd fun xs z=>by rw [w8] at z; cases z),by rw [Qe]; omega,by rw [Qv (by omega)]; exact hg6,fun i g' hi hg' w t' e'=>?_,dn _ (by simp) fun x hx=>Ji _ hx⟩
     ·rw [aH (fun z=>by rw [z,hwt0] at hb; cases hb)]
      exact b8 b u nb hb
     ·rw [Qv (by omega)] at hg'
      exact Ji _ (pr6 i g' hi hg' w t' e')
   ·rintro σ H6 ⟨v5,fs,os,rfl,z6,b6,e6,w6,T6,hl6,hg6,pr6,dn6⟩
    refine ⟨qg,o,r,z6,nf,?_⟩
    have hole:=T6.len
    have s7:aD H (upd H6 qg (.dK r)):=fun b u hb=>by
     by_cases hbq:b=qg
     ·rw [hbq] at hb ⊢
      rw [aC,<- hrow]; exact hb
     ·rw [aH hbq]; exact b6 b u hbq hb
    refine ⟨n.toNat - (mm+1),by omega,_,_,mm+1,fs,os,rfl,rfl,s7,by rw [aH (Ne.symm nqf)]; exact e6,by rw [aH (Ne.symm nqw)]; exact w6,T6.tp (Tp.upd fun xs z=>by rw [z6] at z; cases z),hl6,fun i g' hi hg' w t e=>?_⟩
    by_cases him:i < mm
    ·exact pr6 i g' him hg' w t e
    ·have:i=mm:=by omega
     subst this
     rw [hg6] at hg'
     cases hg'
     have hs:=hRE.2 w t e
     rw [<- iO,Yi] at hs
     obtain ⟨⟨k,v⟩,hk,he⟩:=hs
     obtain ⟨j,hj⟩:=Jz.mp hk
     exact dn6 j k v t (Qd.mp hj).1 hj (by simpa using he)
  ·have hlen:mm=os.length:=by omega
   have hb:(!((os.drop mm).map V.int).isEmpty)=false:=by rw [hlen,List.drop_length]; rfl
   rw [hb]
   refine eO ?_
   refine ⟨_,rfl,k fd0 H3 fs os s3 hfd0 e3 T3 fun g hg w t e=>?_⟩
   obtain ⟨i,hi⟩:=Jz.mp hg
   exact pr3 i g (by have:=(Qd.mp hi).1; omega) hi w t e
structure StepsAt (H:Hp) (ps:List Addr) (ss:List (Nat×Int×Int)):Prop where
 len:ps.length=ss.length
 at_:∀ (i:Nat) p s,ps[i]?=some p->ss[i]?=some s->H p=some (.tup [.int (s.1:Nat),.int s.2.1,.int s.2.2])
theorem StepsAt.nil {H:Hp}:StepsAt H [] []:=⟨rfl,fun i p s h=>by simp at h⟩
theorem StepsAt.cons {H:Hp} {ps:List Addr} {ss:List (Nat×Int×Int)} (h:StepsAt H ps ss) {p:Addr} {w:Nat} {g t:Int} (hp:H p=some (.tup [.int (w:Nat),.int g,.int t])):StepsAt H (p::ps) ((w,g,t)::ss):=by
 refine ⟨by rw [Jt,Jt,h.len],fun i p' s h1 h2=>?_⟩
 cases i with
 | zero =>
  have e1:p=p':=by simpa using h1
  have e2:(w,g,t)=s:=by simpa using h2
  subst e1 e2
  exact hp
 | succ i=>exact h.at_ i p' s (by simpa using h1) (by simpa using h2)
theorem StepsAt.tp {H H':Hp} {ps:List Addr} {ss:List (Nat×Int×Int)} (h:StepsAt H ps ss) (e:Tp H H'):StepsAt H' ps ss:=⟨h.len,fun i p s a b=>e _ _ (h.at_ i p s a b)⟩
def aAr (K:PySem.W.Frag):Sp:=fun vs H Q _=>∃ fdp last fs os first n ws hs jl,vs = [.ref fdp,.int last]/\H fdp=some (.dK fs)/\Tree ws hs n first H fs os/\n<=7/\os[jl]?=some last /\
 ∀ p H' ps ss,aD H H'->H p=none->H' p=some (.lst (ps.map V.ref))->StepsAt H' ps ss->jI ws hs first ss last->(first::ss.map (·.2.2)).Nodup->(∀ s∈ss,s.2.2∈os)->(0 < jl->ss≠[])->Q (.ref p) H'
theorem pQ:FnScope ["found", "last", "some", "step"] ["found", "last"] (aI uZ):=⟨rfl,rfl,rfl,by decide +kernel,rfl,by decide +kernel,by decide +kernel⟩
theorem aCr {f:Addr} {fd:FuncData} (G:Fn K mg "way_to" uZ ["found", "last"] f fd) (B:Bl mg):FnOk P w K mg base CX0 1 f fd ["found", "last"] (aAr K):=by
 refine G.fn.ok pQ (fun vs H Q E h=>?_) (fun cdv A outer s H vs Q E hr h=>?_)
 ·obtain ⟨fdp,last,fs,os,first,n,ws,hs,jl,rfl,_⟩:=h
  rfl
 ·obtain ⟨fdp,last,fs,os,first,n,ws,hs,jl,rfl,hfd,T,hn6,hjl,k⟩:=h
  refine ⟨_,(aE (aS (i:=2) pQ.nd rfl (Or.inl rfl) (bW aB))
   (aE (aS (i:=3) pQ.nd rfl (Or.inl rfl) (uO (qF hr) (pv 0) (pv 1) (fun _ _=>rfl)))
   (aE (vY PassesOwn.never (aBn (aCP (pv 3)))
    (aE (bI (gZ PySem.F.plainAttrs_list PySem.F.slot_list_append PySem.F.type_list_append cC (pv 2) (aA (pv 3) aB)))
    (aF (aS (i:=3) pQ.nd rfl (Or.inl rfl) (uO (qF hr) (pv 0) (bS dU (pv 3) aG (fun _ _=>rfl)) (fun _ _=>rfl))))))
   (aF (aQ (aC8 (pv 2) (kU iS aG))))))),?_⟩
  have Tl:=T.len
  have hnsz:n.toNat < sizeLine:=by rw [sizeLine_eq]; omega
  refine ⟨eA (show 0<=1000 by decide),fun sm hsm=>?_⟩
  have s1:=aD.new (o:=.lst []) hsm
  have e1:upd H sm (.lst []) sm=some (.lst []):=aC
  generalize upd H sm (.lst [])=H1 at s1 e1 ⊢
  -- what stands at a found hand
  have vals:∀ (j:Nat) (t:Int),os[j]?=some t->∃ v,eQ fs (.inl t)=some v/\((j=0/\v=.non)∨∃ p w g i,0 < j/\v=.ref p/\H p=some (.tup [.int (w:Nat),.int g,.int t])/\iR ws hs g w t/\i < j/\os[i]?=some g):=fun j t ht=>by
   by_cases hj:j=0
   ·subst hj
    rw [T.head] at ht
    cases ht
    exact ⟨_,T.v0,.inl ⟨rfl,rfl⟩⟩
   ·obtain ⟨p,w,g,i,a,b,c,d,e⟩:=T.par j t (by omega) ht
    exact ⟨_,a,.inr ⟨p,w,g,i,by omega,rfl,b,c,d,e⟩⟩
  obtain ⟨v0,hv0,_⟩:=vals jl last hjl
  refine ⟨_,rfl,_,rfl,fdp,v0,rfl,.inl ⟨fs,.inl last,.inl (s1 _ _ hfd),rfl,hv0.symm⟩,?_⟩
  refine ⟨fun m σ H2=>∃ (j:Nat) (t:Int) (v:V) (rps:List Addr) (ss:List (Nat×Int×Int)),m=j/\σ = [some (.ref fdp),some (.int last),some (.ref sm),some v]/\os[j]?=some t/\eQ fs (.inl t)=some v/\aD H H2/\H2 sm=some (.lst (rps.map V.ref))/\StepsAt H2 rps.reverse ss/\jI ws hs t ss last/\(t::ss.map (·.2.2)).Nodup /\
    (∀ x∈ss.map (·.2.2),∃ i:Nat,j < i/\os[i]?=some x)/\rps.length+j<=jl/\(j < jl->ss≠[]),
   ⟨jl,jl,last,v0,[],[],rfl,rfl,hjl,hv0,s1,e1,StepsAt.nil,rfl,by simp,fun x h=>by simp at h,by simp,fun h=>by omega⟩,?_⟩
  rintro j σ H2 ⟨_,t,v,rps,ss,rfl,rfl,hj,hv,s2,e2,S2,P2,N2,I2,L2',L3⟩
  have hjo:jl < os.length:=(Qd.mp hjl).1
  obtain ⟨v',hv',cs⟩:=vals j t hj
  rw [hv] at hv'
  cases hv'
  rcases cs with ⟨rfl,rfl⟩ | ⟨p,w,g,i,hj0,rfl,hp,hE,hij,hg⟩
  ·refine ⟨_,rfl,_,rfl,?_⟩
   refine eO ?_
   rw [T.head] at hj
   cases hj
   refine ⟨_,rfl,_,rfl,rfl,sm,_,rfl,SqL.of e2,fun p hp=>?_⟩
   have s3:=aD.new (o:=.lst (rps.map V.ref).reverse) hp
   refine k p _ rps.reverse ss (s2.trans s3) (s2.free hp) (by rw [aC,List.map_reverse]) (S2.tp (Tp.of s3)) P2 N2 (fun x hx=>?_) L3
   obtain ⟨i,_,hi⟩:=I2 _ (Jw.mpr ⟨x,hx,rfl⟩)
   exact Qh hi
  ·refine ⟨_,rfl,_,rfl,?_⟩
   refine eP ?_
   obtain ⟨vg,hvg,_⟩:=vals i g hg
   refine ⟨fun σ' H'=>∃ m',m' < j/\∃ (j:Nat) (t:Int) (v:V) (rps:List Addr) (ss:List (Nat×Int×Int)),m'=j/\σ' = [some (.ref fdp),some (.int last),some (.ref sm),some v]/\os[j]?=some t/\eQ fs (.inl t)=some v/\aD H H'/\H' sm=some (.lst (rps.map V.ref))/\StepsAt H' rps.reverse ss/\jI ws hs t ss last/\(t::ss.map (·.2.2)).Nodup /\
    (∀ x∈ss.map (·.2.2),∃ i:Nat,j < i/\os[i]?=some x)/\rps.length+j<=jl/\(j < jl->ss≠[]),fun σ' H' z=>z,?_⟩
   have hsz:(rps.map V.ref).length < sizeLine:=by
    rw [Qb]
    exact Zu (Qw (Qw (Jp _ _) L2') (Qw (Xr hjo) Tl)) hnsz
   refine ⟨_,rfl,.inl ⟨rfl,_,SqL.of e2⟩,_,rfl,sm,_,.ref p,rfl,rfl,e2,hsz,?_⟩
   have s3:aD H (upd H2 sm (.lst (rps.map V.ref++[.ref p]))):=s2.wr hsm
   have e3:upd H2 sm (.lst (rps.map V.ref++[.ref p])) sm=_:=aC
   have S3:=S2.tp (Tp.upd (a:=sm) (u:=.lst (rps.map V.ref++[.ref p])) fun xs z=>by rw [e2] at z; cases z)
   generalize upd H2 sm (.lst (rps.map V.ref++[.ref p]))=H3 at s3 e3 S3 ⊢
   have hp3:=s3 _ _ hp
   refine ⟨_,rfl,_,rfl,p,_,1,.int g,rfl,rfl,SqT.of hp3,rfl,fdp,vg,rfl,.inl ⟨fs,.inl g,.inl (s3 _ _ hfd),rfl,hvg.symm⟩,?_⟩
   refine ⟨i,hij,i,g,vg,rps++[p],(w,g,t)::ss,rfl,rfl,hg,hvg,s3,by rw [Qz]; exact e3,?_,⟨rfl,hE,P2⟩,?_,?_,?_,fun _=>by simp⟩
   ·rw [List.reverse_append]
    exact S3.cons hp3
   ·show (g::t::ss.map (·.2.2)).Nodup
    rw [Xi]
    refine ⟨fun hm=>?_,N2⟩
    have inj:∀ i',i < i'->os[i']?=some g->False:=fun i' h1 h2=>by
     have:=(Ye (Qd.mp hg).1 T.nd).mp (hg.trans h2.symm)
     omega
    rcases Qj.mp hm with e | hm
    ·exact inj j hij (by rw [e]; exact hj)
    ·obtain ⟨i',h1,h2⟩:=I2 g hm
     exact inj i' (by omega) h2
   ·intro x hx
    rcases Qj.mp (show x∈t::ss.map (·.2.2) from hx) with rfl | hx
    ·exact ⟨j,hij,hj⟩
    ·obtain ⟨i',h1,h2⟩:=I2 x hx
     exact ⟨i',by omega,h2⟩
   ·rw [Qe]
    show rps.length+1+i<=jl
    omega
def vO:Str:=("steps_to_least" : Str) ++ ".<locals>." ++ "<lambda>"
theorem kE {ws:List (List Int)} {hs able:List Int} {n g t:Int} {w:Nat} (hl:hs.length=ws.length):iR (ws++[able]) (hs++[n]) g w t↔iR ws hs g w t∨(w=hs.length/\g=n/\t∈able/\t≠n):=by
 unfold iR
 rcases Nat.lt_trichotomy w hs.length with h | h | h
 ·rw [Qv h,Qv (by omega)]
  exact ⟨.inl,fun z=>z.elim id fun z=>by omega⟩
 ·subst h
  rw [Jd (Qg _),Xm,hl,Jd (Qg _),Xm,Zl (by omega:hs.length<=ws.length)]
  constructor
  ·rintro ⟨e,l,e2,h1,h2⟩
   have e:n=g:=by simpa using e
   have e2:able=l:=by simpa using e2
   subst e e2
   exact .inr ⟨rfl,rfl,h1,h2⟩
  ·rintro (⟨e,_⟩ | ⟨_,rfl,h1,h2⟩)
   ·cases e
   ·exact ⟨rfl,able,rfl,h1,h2⟩
 ·rw [Zl (by rw [Qe]; show hs.length+1<=w; omega),Zl (by omega:hs.length<=w)]
  constructor
  ·rintro ⟨e,_⟩; cases e
  ·rintro (⟨e,_⟩ | ⟨e,_⟩)
   ·cases e
   ·omega
def aAs (K:PySem.W.Frag) (Pt:Addr):Sp:=fun vs H Q _=>∃ (x:V) (dp ap mp:Addr) (n:Int) (ws:List (List Int)) (hs able ms:List Int),vs = [x,.ref dp,.ref ap,.ref mp]/\rM K H x dp n ws hs/\SqT K H ap (able.map V.int)/\bR n (bP able)=true/\SqL K H mp (ms.map V.int)/\ms.length=n.toNat/\H Pt=some (.tab vO) /\
 ∀ p H' ps ss os last,aD H H'->H p=none->H' p=some (.lst (ps.map V.ref))->StepsAt H' ps ss->jI (ws++[able]) (hs++[n]) n ss last->(n::ss.map (·.2.2)).Nodup->ss≠[]->aCq (ws++[able]) (hs++[n]) os->n∈os ->
  (∀ o∈os,o≠n->0<=o/\o < n/\ms.getD last.toNat 0<=ms.getD o.toNat 0)->last∈os->last≠n->(∀ s∈ss,s.2.2∈os)->Q (.ref p) H'
theorem pR:FnScope ["book", "deal", "able", "measures", "nobody", "found", "last"] ["book", "deal", "able", "measures"] (aI kB):=⟨rfl,rfl,rfl,by decide +kernel,rfl,by decide +kernel,by decide +kernel⟩
theorem aCs {f fHd fR fW' c Pt:Addr} {fd dHd dR dW':FuncData} (G:Fn K mg "steps_to_least" kB ["book", "deal", "able", "measures"] f fd) (hc:fd.code=.ref c) (Z:Lm K mg base c Pt) (B:Bl mg)
  (GH:Fn K mg "handing" iP ["book", "deal"] fHd dHd) (GR:Fn K mg "reached" lL ["rows", "first"] fR dR) (GW:Fn K mg "way_to" uZ ["found", "last"] fW' dW'):FnOk P w K mg base CX0 2 f fd ["book", "deal", "able", "measures"] (aAs K Pt):=by
 have OH:FnOk P w K mg base CX0 1 fHd dHd ["book", "deal"] (rN K):=xP GH B
 have OR:FnOk P w K mg base CX0 1 fR dR ["rows", "first"] (oR K):=rO GR B
 have OW:FnOk P w K mg base CX0 1 fW' dW' ["found", "last"] (aAr K):=aCr GW B
 refine G.fn.okC hc pR (fun vs H Q E h=>?_) (fun A outer s H vs Q E hr h=>?_)
 ·obtain ⟨x,dp,ap,mp,n,ws,hs,able,ms,rfl,_⟩:=h
  rfl
 ·obtain ⟨x,dp,ap,mp,n,ws,hs,able,ms,rfl,g,hap,hwk,hmp,hml,hT,k⟩:=h
  have r1:Room 1 _:=hr
  refine ⟨_,(aE (aS (i:=4) pR.nd rfl (Or.inr rfl) (bS dU (pv 0) aG (fun _ _=>rfl)))
   (aE (aS (i:=5) pR.nd rfl (Or.inl rfl) (bB GR OR r1 rfl (aA (aT lF (bB GH OH r1 rfl (aA (pv 0) (aA (pv 1) aB)))
     (bW (aA (aCe (own:=["hand"]) (fr:=[1]) (frn:=["deal"]) (bA (aI kB) ["book", "deal", "able", "measures", "nobody", "found", "last"] rfl rfl (by decide +kernel)) rfl (gW (pv 2))
      (fun _ _ _ _=>aK (i:=0) (show (["hand", "deal"]:List Str).Nodup by decide +kernel) rfl (Or.inl rfl)) (fun _ _ _ _=>cW) (fun _ _ _ _=>pv 0) (fun _ _ _ _=>aL (bL (K:=K) rfl) rfl B.len eU (aA (pv 1) aB))) aB)))
     (aA (pv 4) aB))))
   (aE (aS (i:=6) pR.nd rfl (Or.inl rfl) (aAZ 3 rfl r1 rfl B.min Z rfl (q:=vO) rfl
     (xC (own:=["hand"]) (fr:=[4]) (frn:=["nobody"]) (bA (aI kB) ["book", "deal", "able", "measures", "nobody", "found", "last"] rfl rfl (by decide +kernel)) rfl (pv 5)
      (fun _ _ _ _=>aK (i:=0) (show (["hand", "nobody"]:List Str).Nodup by decide +kernel) rfl (Or.inl rfl)) (fun _ _ _ _=>aBC (bE iX (pv 0) (pv 1) (bJ _))) (fun _ _ _ _=>pv 0)) rfl rfl))
   (aF (aQ (bB GW OW r1 rfl (aA (pv 5) (aA (pv 6) aB)))))))),?_⟩
  obtain ⟨hl12,hn1,hn6⟩:=g.len
  obtain ⟨a,b,ys,rfl,ha,hb2,hys⟩:=cP g.1
  obtain ⟨_,_,hw12,hws⟩:=bM g.2.1
  obtain ⟨hdl,hdm⟩:=cZ g.2.2.2
  obtain ⟨able0,able1,able2⟩:=cY hwk
  have hab6:able.length<=6:=by have:=iF (by omega) able1 able2; omega
  have hedge:∀ g w t,iR (ws++[able]) (hs++[n]) g w t->0<=t/\t < n+1:=fun g w t e=>by
   rcases (kE hdl).mp e with ⟨_,l,h1,h2,_⟩ | ⟨_,_,h2,_⟩
   ·have:=(cY (hws l (Qh h1))).2.1 t h2; omega
   ·have:=able1 t h2; omega
  refine ⟨_,rfl,a,_,0,.int n,rfl,rfl,ha,rfl,?_⟩
  refine ⟨_,rfl,_,rfl,.ref a,dp,n,ws,hs,rfl,g,fun rp H2 qs rs s2 hrp hqs R2 hlr ER=>?_⟩
  refine ⟨_,rfl,ap,rfl,⟨_,s2.seqT hap⟩,aA6 (K:=K) (a:=ap) (xs:=able.map V.int) (fun σ=>∃ v,σ = [v,some (.ref dp)]) (fun i zs H3=>H3=H2/\zs.length<=i/\oQ (fun w t=>w=hs.length/\t∈able.take i) zs) (eA (by rw [Qb]; omega)) ⟨_,rfl⟩ ⟨rfl,Qg _,oQ.nil fun w t z=>by simp at z⟩
   (fun i zs H3 z=>z.2.1) (fun i zs H3 z=>by rw [z.1]; exact s2.seqT hap) ?_ ?_⟩
  ·rintro i zs σ v H3 hv ⟨v0,rfl⟩ ⟨rfl,hz,hE⟩ hsz
   obtain ⟨t,ht,rfl⟩:=kQ hv
   refine cX ?_
   refine ⟨_,rfl,_,rfl,dp,_,rfl,.inl (s2.seqL g.2.2.1),.inl t,rfl,hsz,⟨_,rfl⟩,rfl,Qw (gS _ _ _) (by omega),?_⟩
   rw [Qb]
   refine (hE.put hs.length t).congr fun w t'=>?_
   rw [Jn,ht]
   constructor
   ·rintro (⟨h1,h2⟩ | ⟨h1,h2⟩)
    ·exact ⟨h1,Ji _ h2⟩
    ·exact ⟨h1,by rw [h2]; simp⟩
   ·rintro ⟨h1,h2⟩
    rcases Qx.mp h2 with h | h
    ·exact .inl ⟨h1,h⟩
    ·exact .inr ⟨h1,by simpa using h⟩
  ·rintro zs H3 ⟨rfl,hz,hE⟩ dq hdq
   have hrp2:H3 rp=some (.lst (qs.map V.ref)):=R2.lst
   have sd:=aD.new (o:=.dK zs) hdq
   have hdq0:H dq=none:=s2.free hdq
   have ed:upd H3 dq (.dK zs) dq=some (.dK zs):=aC
   have Rd:=R2.same sd
   have s3:=s2.trans sd
   generalize upd H3 dq (.dK zs)=H4 at sd ed Rd s3 ⊢
   refine ⟨sz1 _,fun lq hlq=>?_⟩
   have sl:=aD.new (o:=.lst [.ref dq]) hlq
   have el:upd H4 lq (.lst [.ref dq]) lq=some (.lst [.ref dq]):=aC
   have s4:=s3.trans sl
   have Rl:=Rd.same sl
   have edl:=sl _ _ ed
   generalize upd H4 lq (.lst [.ref dq])=H5 at sl el s4 Rl edl ⊢
   have hqn:qs.length=n.toNat:=by rw [R2.len,hlr]
   refine ⟨rp,lq,_,_,rfl,rfl,Rl.lst,el,by rw [Qb,sizeLine_eq]; show _+1<=_; omega,fun rq hrq=>?_⟩
   have sr:=aD.new (o:=.lst (qs.map V.ref++[.ref dq])) hrq
   have s5:=s4.trans sr
   have er:upd H5 rq (.lst (qs.map V.ref++[.ref dq])) rq=some (.lst ((qs++[dq]).map V.ref)):=by rw [aC,Qz]; rfl
   have edr:=sr _ _ edl
   have Rr:=Rl.same sr
   generalize upd H5 rq (.lst (qs.map V.ref++[.ref dq]))=H6 at sr s5 er edr Rr ⊢
   have R6:Rows H6 rq (qs++[dq]) (rs++[zs]):=by
    refine ⟨er,by rw [Qe,Qe,R2.len]; rfl,?_,fun g q r h1 h2=>?_⟩
    ·rw [Zi]
     refine ⟨R2.nd,by simp,fun x hx y hy e=>?_⟩
     rw [Qp.mp hy] at e
     obtain ⟨i,hi⟩:=Jz.mp hx
     have hil:i < rs.length:=by rw [<- R2.len]; exact (Qd.mp hi).1
     have:=R2.row i x _ hi (Qc hil)
     rw [e,hdq] at this; cases this
    ·by_cases hg:g < qs.length
     ·rw [Qv hg] at h1
      rw [Qv (by rw [<- R2.len]; exact hg)] at h2
      exact Rr.row g q r h1 h2
     ·have eg:g=qs.length:=by
       have:=(Qd.mp h1).1
       rw [Qe] at this
       simp at this
       omega
      subst eg
      rw [Jd (Qg _),Xm] at h1
      rw [R2.len,Jd (Qg _),Xm] at h2
      have e1:dq=q:=by simpa using h1
      have e2:zs=r:=by simpa using h2
      subst e1 e2
      exact edr
   have E6:pB (iR (ws++[able]) (hs++[n])) (rs++[zs]) 100:=by
    intro g r hgr
    by_cases hg:g < rs.length
    ·rw [Qv hg] at hgr
     obtain ⟨e1,e2⟩:=ER g r hgr
     refine ⟨e1.congr fun w t=>?_,e2⟩
     rw [kE hdl]
     exact ⟨.inl,fun z=>z.elim id fun z=>by omega⟩
    ·have eg:g=rs.length:=by
      have:=(Qd.mp hgr).1
      rw [Qe] at this
      simp at this
      omega
     subst eg
     rw [Jd (Qg _),Xm] at hgr
     have e2:zs=r:=by simpa using hgr
     subst e2
     refine ⟨hE.congr fun w t=>?_,by rw [Qb] at hz; omega⟩
     rw [kE hdl,Qb,Ju]
     constructor
     ·rintro ⟨h1,h2⟩
      have:=able1 t h2
      exact .inr ⟨h1,by omega,h2,by omega⟩
     ·rintro (⟨h1,_⟩ | ⟨h1,_,h2,_⟩)
      ·have h3:hs[w]?=some ((rs.length:Nat):Int):=h1
       have:=g.hand h3
       omega
      ·exact ⟨h1,h2⟩
   refine ⟨_,rfl,rq,n,qs++[dq],rs++[zs],n+1,ws++[able],hs++[n],rfl,R6,by rw [Qe,hlr]; show _+1=_; omega,E6,hedge,by omega,by omega,by omega,fun fdp H7 fs os s7 hfd e7 T7 C7=>?_⟩
   have s57:=s5.trans s7
   have T7l:=T7.len
   have hfl:=T7.flen
   have hnos:n∈os:=Qh T7.head
   refine ⟨_,rfl,fdp,fs,rfl,e7,fun o=>tD (a:=fdp) (o:=o) (kvs:=fs) (fun σ=>∃ v,σ = [v,some (.int n)]) (fun i zs H8=>H8=upd H7 fdp (.frz o (.dK fs))/\zs=((os.take i).filter fun o=>decide (o≠n)).map V.int) (eA (by omega)) ⟨_,rfl⟩ ⟨rfl,rfl⟩ (fun i zs H8 z=>?_) (fun i zs H8 z=>by rw [z.1]; exact aC) ?_ ?_⟩
   ·rw [z.2,Qb]
    exact Qw (List.length_filter_le _ _) (by rw [Qu]; omega)
   ·rintro i zs' σ p H8 hp ⟨v,rfl⟩ ⟨rfl,rfl⟩ hsz
    obtain ⟨ov,hov,hpe⟩:∃ ov,os[i]?=some ov/\p.1=.inl ov:=by
     have e:=congrArg (fun l=>l[i]?) T7.keys
     simp only [Qi] at e
     rw [hp] at e
     cases q:os[i]? with
     | none=>rw [q] at e; cases e
     | some ov=>rw [q] at e; exact ⟨ov,rfl,Option.some.inj e⟩
    have etake:os.take (i+1)=os.take i++[ov]:=by rw [Jn,hov]; rfl
    rw [hpe]
    refine ⟨_,rfl,_,rfl,rfl,_,rfl,?_⟩
    refine gE (fun c=>?_) (fun c=>?_)
    ·have hne:ov≠n:=fun z=>by rw [z] at c; simp [kV] at c
     refine ⟨_,rfl,hsz,⟨_,rfl⟩,rfl,?_⟩
     rw [etake,Yw,Qz]
     congr 1
     simp [hne,kV]
    ·have hne:ov=n:=by simpa [kV] using c
     refine ⟨⟨_,rfl⟩,rfl,?_⟩
     rw [etake,Yw,hne]
     simp
   ·rintro zs' H8 ⟨rfl,rfl⟩ lp hlp
    rw [hfl,Ju] at *
    have nlf:fdp≠lp:=fun z=>by rw [<- z,aC] at hlp; cases hlp
    have hlp7:H7 lp=none:=by rw [aH (Ne.symm nlf)] at hlp; exact hlp
    have s8:aD H7 (upd (upd (upd H7 fdp (.frz o (.dK fs))) lp (.lst ((os.filter fun o=>decide (o≠n)).map V.int))) fdp (.dK fs)):=fun b u hb=>by
     by_cases hbf:b=fdp
     ·rw [hbf] at hb ⊢
      rw [aC,<- e7]; exact hb
     ·rw [aH hbf,aH (fun z=>by rw [z,hlp7] at hb; cases hb),aH hbf]
      exact hb
    have l8:(upd (upd (upd H7 fdp (.frz o (.dK fs))) lp (.lst ((os.filter fun o=>decide (o≠n)).map V.int))) fdp (.dK fs)) lp=some (.lst ((os.filter fun o=>decide (o≠n)).map V.int)):=by
     rw [aH (Ne.symm nlf),aC]
    generalize upd (upd (upd H7 fdp (.frz o (.dK fs))) lp (.lst ((os.filter fun o=>decide (o≠n)).map V.int))) fdp (.dK fs)=H8 at s8 l8 ⊢
    have s58:=s57.trans s8
    have hrng:∀ o∈os,o≠n->0<=o/\o < n:=fun o ho hne=>by
     have:=T7.rng o ho
     omega
    obtain ⟨t0,ht0⟩:∃ t,t∈able:=List.exists_mem_of_ne_nil _ able0
    have ht0n:=able1 t0 ht0
    have ht0o:t0∈os:=C7 n hnos hs.length t0 ((kE hdl).mpr (.inr ⟨rfl,rfl,ht0,by omega⟩))
    refine ⟨os.filter fun o=>decide (o≠n),fun o=>ms.getD o.toNat 0,.ref mp,⟨lp,rfl,.inl (SqL.of l8)⟩,List.length_pos_of_mem (a:=t0) (Xq.mpr ⟨ht0o,decide_eq_true (by omega)⟩),s58 _ _ hT,rfl,fun o ho=>?_,fun j m H9 s9 hj hmin _=>?_⟩
    ·obtain ⟨ho1,ho2⟩:=Xq.mp ho
     obtain ⟨o0,o1⟩:=hrng o ho1 (of_decide_eq_true ho2)
     refine ⟨o0,by omega,mp,_,rfl,.inr (s58.seqL hmp),?_⟩
     rw [Qi,Qc (by omega)]
     show some (V.int _)=some (V.int (ms.getD o.toNat 0))
     rw [Jk,Qc (by omega)]
     rfl
    ·obtain ⟨hm1,hm2⟩:=Xq.mp (Qh hj)
     have hmn:m≠n:=of_decide_eq_true hm2
     obtain ⟨jl,hjl⟩:=Jz.mp hm1
     have s59:=s58.trans s9
     have s79:=s8.trans s9
     refine ⟨_,rfl,_,rfl,fdp,m,fs,os,n,n+1,ws++[able],hs++[n],jl,rfl,s79 _ _ e7,T7.tp (Tp.of s79),by omega,hjl,fun p H10 ps ss s10 hp hps S10 P10 N10 in10 ne10=>?_⟩
     refine k p H10 ps ss os m (s59.trans s10) (s59.free hp) hps S10 P10 N10 (ne10 ?_) C7 hnos (fun o ho hne=>⟨(hrng o ho hne).1,(hrng o ho hne).2,hmin o (Xq.mpr ⟨ho,decide_eq_true hne⟩)⟩) hm1 hmn in10
     rcases Nat.eq_zero_or_pos jl with z | z
     ·rw [z,T7.head] at hjl
      exact absurd (Option.some.inj hjl).symm hmn
     ·exact z
def aDq (hs:List Int) (ss:List (Nat×Int×Int)):List Int:=ss.foldl (fun l s=>l.set s.1 s.2.2) hs
def lT (xs:List V) (ss:List (Nat×Int×Int)):List V:=ss.foldl (fun l s=>l.set s.1 (.int s.2.2)) xs
theorem tR:∀ (ss:List (Nat×Int×Int)) (xs:List V),(lT xs ss).length=xs.length
 | [],_=>rfl
 | s::r,xs=>(tR r _).trans Xt
theorem zD (xs:List V) (ss:List (Nat×Int×Int)) (s:Nat×Int×Int):lT xs (ss++[s])=(lT xs ss).set s.1 (.int s.2.2):=by
 unfold lT
 rw [List.foldl_append]
 rfl
theorem tS:∀ (ss:List (Nat×Int×Int)) (hs:List Int),lT (hs.map V.int) ss=(aDq hs ss).map V.int
 | [],_=>rfl
 | s::r,hs=>by
  show lT ((hs.map V.int).set s.1 (.int s.2.2)) r=_
  rw [show (hs.map V.int).set s.1 (.int s.2.2)=(hs.set s.1 s.2.2).map V.int by rw [List.map_set]]
  exact tS r _
theorem xQ:∀ (ss:List (Nat×Int×Int)) (hs:List Int),(aDq hs ss).length=hs.length
 | [],_=>rfl
 | s::r,hs=>(xQ r _).trans Xt
theorem aAt {ws:List (List Int)}:∀ (ss:List (Nat×Int×Int)) (hs:List Int),(∀ (j:Nat) (h:Int) (l:List Int),hs[j]?=some h->ws[j]?=some l->h∈l)->(∀ s∈ss,∀ l,ws[s.1]?=some l->s.2.2∈l) ->
  ∀ (j:Nat) (h:Int) (l:List Int),(aDq hs ss)[j]?=some h->ws[j]?=some l->h∈l
 | [],_,h0,_=>h0
 | s::r,hs,h0,h1=>by
  refine aAt r (hs.set s.1 s.2.2) (fun j h l e1 e2=>?_) fun s' h'=>h1 s' (Qq _ h')
  rw [Zh] at e1
  by_cases e:s.1=j
  ·rw [if_pos e] at e1
   split at e1
   ·rw [<- Option.some.inj e1]
    exact h1 s (Qt ..) l (by rw [e]; exact e2)
   ·cases e1
  ·rw [if_neg e] at e1
   exact h0 j h l e1 e2
theorem mV {ws:List (List Int)} {hs:List Int}:∀ {ss:List (Nat×Int×Int)} {h x:Int},jI ws hs h ss x->∀ s∈ss,iR ws hs s.2.1 s.1 s.2.2
 | [],_,_,_,_,m=>(Qn m).elim
 | s::r,h,x,⟨e1,e2,e3⟩,s',m=>by
  rcases Qj.mp m with rfl | m
  ·rw [e1]; exact e2
  ·exact mV e3 s' m
theorem aCt {ws:List (List Int)} {hs able:List Int} {n last:Int} {ss:List (Nat×Int×Int)} (hl:hs.length=ws.length) (hh:∀ (j:Nat) (h:Int),hs[j]?=some h->h < n) (hd:∀ (j:Nat) (h:Int) (l:List Int),hs[j]?=some h->ws[j]?=some l->h∈l)
  (P:jI (ws++[able]) (hs++[n]) n ss last) (ne:ss≠[]):∃ hs2:List Int,lT (hs.map V.int++[V.non]) ss=hs2.map V.int/\hs2.length=hs.length+1/\∀ (j:Nat) (h:Int) (l:List Int),hs2[j]?=some h->(ws++[able])[j]?=some l->h∈l:=by
 cases ss with
 | nil=>exact absurd rfl ne
 | cons s r =>
  obtain ⟨e1,e2,e3⟩:=P
  have ed:∀ s'∈s::r,∀ l,(ws++[able])[s'.1]?=some l->s'.2.2∈l:=fun s' m l el=>by
   obtain ⟨_,l',h1,h2,_⟩:=mV (ws:=ws++[able]) (hs:=hs++[n]) (ss:=s::r) (h:=n) (x:=last) ⟨e1,e2,e3⟩ s' m
   rw [el] at h1; cases h1; exact h2
  rcases (kE hl).mp e2 with ⟨z,_⟩ | ⟨hw,_,ht,_⟩
  ·exact absurd (hh _ _ z) (by omega)
  ·refine ⟨aDq (hs++[s.2.2]) r,?_,by rw [xQ,Qe]; rfl,aAt r _ (fun j h l a b=>?_) fun s' m=>ed s' (Qq _ m)⟩
   ·rw [<- tS]
    show lT ((hs.map V.int++[V.non]).set s.1 (.int s.2.2)) r=_
    rw [hw,List.set_append_right _ _ (by rw [Qb]; exact Qg _),Qb,Xm,Qz]
    rfl
   ·by_cases hj:j < hs.length
    ·rw [Qv hj] at a
     rw [Qv (by omega)] at b
     exact hd j h l a b
    ·have ej:j=hs.length:=by
      have:=(Qd.mp a).1
      rw [Qe] at this
      simp at this
      omega
     subst ej
     rw [Jd (Qg _),Xm] at a
     rw [hl,Jd (Qg _),Xm] at b
     have ea:s.2.2=h:=by simpa using a
     have eb:able=l:=by simpa using b
     rw [<- ea,<- eb]; exact ht
theorem rP {n:Int} {m:Nat} {cs:List (List Int)} {hs:List Int} (hn:n<=6) (hw:m<=12) (hl:hs.length<=m) (hc:gM n m cs):rH cs (dZ n hs):=by
 refine ⟨by rw [jV,hc.1],by rw [hc.1]; omega,fun i row l h1 h2=>?_⟩
 have hb:=nZ (Qh h2)
 have hr:=(hc.2 row (Qh h1)).1
 omega
theorem aBb (ws:List (List Int)) (i:Nat):(ws.take i).map bP=(ws.map bP).take i:=by rw [Yg]
theorem eZ {K:PySem.W.Frag} {H:Hp}:∀ (i:Nat) {ds:List PyData} {vs:List V},aU K H ds vs->aU K H (ds.take i) (vs.take i)
 | 0,_,_,_=>aN.mpr rfl
 | i+1,[],vs,h=>by rw [aN.mp h]; exact aN.mpr rfl
 | i+1,d::ds,vs,h=>by
  obtain ⟨v,r,rfl,h1,h2⟩:=aM.mp h
  exact aM.mpr ⟨v,r.take i,rfl,h1,eZ i h2⟩
def xR (K:PySem.W.Frag) (Pt:Addr):Sp:=fun vs H Q _=>∃ (x:V) (q:Addr) (n:Int) (ws cs:List (List Int)),vs = [x,.ref q]/\Den K H (cN n ws) x/\bZ (cN n ws)=true/\Den K H (iG cs) (.ref q)/\gM n ws.length cs/\H Pt=some (.tab vO) /\
 ∀ (p:Addr) H' (hs:List Int),aD H H'->H p=none->H' p=some (.tup (hs.map V.int))->gA ws (lN hs)=true->Q (.ref p) H'
theorem fM:FnScope ["book", "costs", "hands", "works", "deal", "work", "able", "nexts", "steps", "moved", "giver", "taker"] ["book", "costs"] (aI pN):=⟨rfl,rfl,rfl,by decide +kernel,rfl,by decide +kernel,by decide +kernel⟩
set_option maxHeartbeats 2000000 in
theorem aBc {f fC fN fS:Addr} {fd dC dN dS:FuncData} (G:Fn K mg "cheapest_deal" pN ["book", "costs"] f fd) (B:Bl mg) {Pt:Addr}
  (GCo:Fn K mg "counted" gH ["hands", "deal"] fC dC) (GNx:Fn K mg "next_costs" tE ["costs", "many"] fN dN) (GST:Fn K mg "steps_to_least" kB ["book", "deal", "able", "measures"] fS dS) (OST:FnOk P w K mg base CX0 2 fS dS ["book", "deal", "able", "measures"] (aAs K Pt)):FnOk P w K mg base CX0 3 f fd ["book", "costs"] (xR K Pt):=by
 have OCo:FnOk P w K mg base CX0 1 fC dC ["hands", "deal"] (rG K):=xL GCo B
 have ONx:FnOk P w K mg base CX0 1 fN dN ["costs", "many"] (yY K):=aAp GNx B
 refine G.fn.ok fM (fun vs H Q E h=>?_) (fun cdv A outer s H vs Q E hr h=>?_)
 ·obtain ⟨x,q,n,ws,cs,rfl,_⟩:=h
  rfl
 ·obtain ⟨x,q,n,ws,cs,rfl,hx,hbk,hq,hc,hT,k⟩:=h
  have r1:Room 1 _:=hr.mono (by decide)
  have r2:Room 2 _:=hr
  refine ⟨_,(aE (pU (pv 0) (jR rfl (aV (aK (i:=2) fM.nd rfl (Or.inl rfl)) (aV (aK (i:=3) fM.nd rfl (Or.inl rfl)) eF))))
  (aE (aS (i:=4) fM.nd rfl (Or.inl rfl) (bW aB))
  (aE (cO PassesOwn.never rfl (aC5 .t rfl B.enumerate (aA (pv 3) aB)) (jR rfl (aV (aK (i:=5) fM.nd rfl (Or.inl rfl)) (aV (aK (i:=6) fM.nd rfl (Or.inl rfl)) eF)))
   (aE (aS (i:=7) fM.nd rfl (Or.inl rfl) (bB GNx ONx r1 rfl (aA (pv 1) (aA (bB GCo OCo r1 rfl (aA (pv 2) (aA (pv 4) aB))) aB))))
  (aE (aS (i:=8) fM.nd rfl (Or.inl rfl) (bB GST OST r2 rfl (aA (aX (aA (pv 2) (aA (bD pK (pv 3) bN (bK (pv 5))) aB))) (aA (pv 4) (aA (pv 6) (aA (pv 7) aB))))))
  (aE (bI (gZ PySem.F.plainAttrs_list PySem.F.slot_list_append PySem.F.type_list_append cC (pv 4) (aA gU aB)))
  (aF (cO PassesOwn.never rfl (iI (pv 8)) (jR rfl (aV (aK (i:=9) fM.nd rfl (Or.inl rfl)) (aV (aK (i:=10) fM.nd rfl (Or.inl rfl)) (aV (aK (i:=11) fM.nd rfl (Or.inl rfl)) eF))))
   (aF (pU (pv 11) (aBp (pv 4) (pv 9) wD)))))))))
  (aF (aQ (cA cG rfl B.tuple cQ (aA (pv 4) aB))))))),?_⟩
  obtain ⟨hn1,hn6,hw12,hws⟩:=bM hbk
  obtain ⟨a,b,ys,rfl,ha,hb2,hys⟩:=cP hx
  have hlw:=aJ hys
  rw [Qb] at hlw
  refine ⟨_,rfl,a,_,rfl,ha,rfl,_,_,rfl,_,_,rfl,rfl,?_⟩
  refine ⟨eA (show 0<=1000 by decide),fun dl hdl=>?_⟩
  have s1:=aD.new (o:=.lst []) hdl
  have e1:upd H dl (.lst []) dl=some (.lst []):=aC
  generalize upd H dl (.lst [])=H1 at s1 e1 ⊢
  refine ⟨_,rfl,b,ys,rfl,s1.seqT hb2,aBQ (K:=K) (k:=.t) (a:=b) (xs:=ys) (fun i σ H2=>∃ (v5 v6 v7 v8 v9 v10 v11:Option V) (hs:List Int),σ = [some (.ref a),some (.ref q),some (.int n),some (.ref b),some (.ref dl),v5,v6,v7,v8,v9,v10,v11]/\aD H H2/\H2 dl=some (.lst (hs.map V.int))/\hs.length=i /\
    ∀ (j:Nat) (h:Int) (l:List Int),hs[j]?=some h->ws[j]?=some l->h∈l)
   ⟨_,_,_,_,_,_,_,[],rfl,s1,e1,rfl,fun j h l z=>by simp at z⟩ (fun i σ H2 _ ⟨_,_,_,_,_,_,_,_,_,s2,_⟩=>s2.seqT hb2) ?_ ?_⟩
  ·rintro i u pr σ H2 hu ⟨v5,v6,v7,v8,v9,v10,v11,hs,rfl,s2,e2,hhl,hd⟩ hpr
   obtain ⟨dv,hdv,denv⟩:=cI hys hu
   rw [Qi] at hdv
   obtain ⟨l,hl,rfl⟩:∃ l,ws[i]?=some l/\bP l=dv:=by
    cases q:ws[i]? with
    | none=>rw [q] at hdv; cases hdv
    | some l=>rw [q] at hdv; exact ⟨l,rfl,Option.some.inj hdv⟩
   obtain ⟨aw,rfl,haw⟩:=aR.mp denv
   have hil:i < ws.length:=(Qd.mp hl).1
   have hwk:=hws l (Qh hl)
   have s3:=aD.new (o:=.tup [.int (i:Nat),.ref aw]) hpr
   have p3:upd H2 pr (.tup [.int (i:Nat),.ref aw]) pr=some (.tup [.int (i:Nat),.ref aw]):=aC
   have e3:=s3 _ _ e2
   have s03:=s2.trans s3
   generalize upd H2 pr (.tup [.int (i:Nat),.ref aw])=H3 at s3 p3 e3 s03 ⊢
   refine ⟨pr,_,rfl,SqT.of p3,rfl,_,_,rfl,_,_,rfl,rfl,?_⟩
   refine ⟨_,rfl,_,rfl,_,rfl,n,dl,hs,rfl,SqL.of e3,by omega,hn6,fun mp H4 s4 hmp=>?_⟩
   have s04:=s03.trans s4
   refine ⟨q,mp,cs,dZ n hs,rfl,s04.den _ _ hq,SqT.of hmp,rP hn6 hw12 (by omega) hc,fun nx ns H5 s5 hnx0 hnx hnl=>?_⟩
   have s05:=s04.trans s5
   have e5:=s5 _ _ (s4 _ _ e3)
   refine ⟨_,rfl,_,rfl,_,rfl,_,rfl,b,_,rfl,s05.seqT hb2,fun q1 H6 s6 hq1=>⟨sz2 _ _,fun bk hbk=>?_⟩⟩
   rw [kI] at hq1
   have s06:=s05.trans s6
   have s7:=aD.new (o:=.tup [.int n,.ref q1]) hbk
   have b7:upd H6 bk (.tup [.int n,.ref q1]) bk=some (.tup [.int n,.ref q1]):=aC
   have s07:=s06.trans s7
   have e7:=s7 _ _ (s6 _ _ e5)
   have n7:=s7 _ _ (s6 _ _ hnx)
   have q7:=s7.seqT hq1
   generalize upd H6 bk (.tup [.int n,.ref q1])=H7 at s7 b7 s07 e7 n7 q7 ⊢
   have hbkT:bZ (cN n (ws.take i))=true:=aAm hn1 hn6 (by rw [Qu]; omega) fun l h=>hws l (Jq h)
   have hlT:hs.length=(ws.take i).length:=by rw [Qu]; omega
   have hdT:∀ (j:Nat) (h:Int) (l:List Int),hs[j]?=some h->(ws.take i)[j]?=some l->h∈l:=fun j h l a b=>by
    have hji:j < i:=by have:=(Qd.mp a).1; omega
    rw [Yx,if_pos hji] at b
    exact hd j h l a b
   have gL:rM K H7 (.ref bk) dl n (ws.take i) hs:=⟨tI (SqT.of b7) q7 (by rw [aBb]; exact eZ i (s07.denAll _ _ hys)),hbkT,SqL.of e7,vK hlT hdT⟩
   refine ⟨_,rfl,_,rfl,_,rfl,.ref bk,dl,aw,nx,n,ws.take i,hs,l,ns,rfl,gL,s07.seqT haw,hwk,SqL.of n7,by rw [hnl,hc.1],s07 _ _ hT,fun sp H8 ps ss os last s8 hsp hps S8 P8 N8 ne8 _ _ _ _ _ _=>?_⟩
   have s08:=s07.trans s8
   have e8:=s8 _ _ e7
   have ndl:dl≠sp:=fun z=>by rw [z,hsp] at e7; cases e7
   have hi12:hs.length < 12:=by omega
   refine ⟨_,rfl,.inl ⟨rfl,_,SqL.of e8⟩,dl,_,.non,rfl,rfl,e8,by rw [Qb,sizeLine_eq]; omega,?_⟩
   have s09:aD H (upd H8 dl (.lst (hs.map V.int++[V.non]))):=s08.wr hdl
   have e9:upd H8 dl (.lst (hs.map V.int++[V.non])) dl=some (.lst (hs.map V.int++[V.non])):=aC
   have p9:upd H8 dl (.lst (hs.map V.int++[V.non])) sp=some (.lst (ps.map V.ref)):=by rw [aH (Ne.symm ndl)]; exact hps
   have S9:=S8.tp (Tp.upd (a:=dl) (u:=.lst (hs.map V.int++[V.non])) fun xs z=>by rw [e8] at z; cases z)
   generalize upd H8 dl (.lst (hs.map V.int++[V.non]))=H9 at s09 e9 p9 S9 ⊢
   have hlt:∀ s∈ss,s.1 < hs.length+1:=fun s hs'=>by
    obtain ⟨h1,_⟩:=mV P8 s hs'
    have:=(Qd.mp h1).1
    rw [Qe] at this
    exact this
   refine ⟨_,rfl,sp,rfl,⟨_,SqL.of p9⟩,gX (K:=K) (a:=sp) (xs:=ps.map V.ref) (fun j σ H10=>∃ (v9 v10 v11:Option V),σ = [some (.ref a),some (.ref q),some (.int n),some (.ref b),some (.ref dl),some (.int (i:Nat)),some (.ref aw),some (.ref nx),some (.ref sp),v9,v10,v11]/\aD H H10/\H10 sp=some (.lst (ps.map V.ref))/\StepsAt H10 ps ss/\H10 dl=some (.lst (lT (hs.map V.int++[V.non]) (ss.take j))))
    ⟨_,_,_,rfl,s09,p9,S9,e9⟩ (fun j σ H10 _ ⟨_,_,_,_,_,h,_⟩=>SqL.of h) ?_ ?_⟩
   ·rintro j pv σ H10 hpv ⟨v9,v10,v11,rfl,s10,p10,S10,e10⟩
    rw [Qi] at hpv
    obtain ⟨p,hp,rfl⟩:∃ p,ps[j]?=some p/\V.ref p=pv:=by
     cases z:ps[j]? with
     | none=>rw [z] at hpv; cases hpv
     | some p=>rw [z] at hpv; exact ⟨p,rfl,Option.some.inj hpv⟩
    have hjs:j < ss.length:=by rw [<- S10.len]; exact (Qd.mp hp).1
    have es:ss[j]?=some ss[j]:=Qc hjs
    generalize ss[j]=s at es
    have hp10:=S10.at_ j p s hp es
    have hsl:=hlt s (Qh es)
    refine ⟨p,_,rfl,SqT.of hp10,rfl,_,_,rfl,_,_,rfl,_,_,rfl,rfl,?_⟩
    refine ⟨_,rfl,_,rfl,_,rfl,dl,_,(s.1:Int),s.1,rfl,rfl,e10,?_,?_⟩
    ·have:=aEo (n:=(lT (hs.map V.int++[V.non]) (ss.take j)).length) (k:=(s.1:Int)) (by omega) (by rw [tR,Qe,Qb]; show (s.1:Int) < ((hs.length+1:Nat):Int); omega)
     rwa [Zg] at this
    ·refine ⟨_,_,_,rfl,s10.wr hdl,by rw [aH (Ne.symm ndl)]; exact p10,S10.tp (Tp.upd fun xs z=>by rw [e10] at z; cases z),?_⟩
     rw [aC,Jn,es]
     show _=some (HO.lst (lT _ (ss.take j++[s])))
     rw [zD]
   ·rintro σ H10 ⟨v9,v10,v11,rfl,s10,p10,S10,e10⟩
    rw [Qb,S10.len,Ju] at e10
    obtain ⟨hs2,q1',q2,q3⟩:=aCt hlT (fun j h z=>(gL.hand z).2) hdT P8 ne8
    rw [q1'] at e10
    refine ⟨_,_,_,_,_,_,_,hs2,rfl,s10,e10,by omega,fun j h l' z1 z2=>?_⟩
    have hji:j < i+1:=by have:=(Qd.mp z1).1; omega
    have et:ws.take i++[l]=ws.take (i+1):=by rw [Jn,hl]; rfl
    exact q3 j h l' z1 (by rw [et,Yx,if_pos hji]; exact z2)
  ·rintro σ H2 ⟨v5,v6,v7,v8,v9,v10,v11,hs,rfl,s2,e2,hhl,hd⟩
   refine ⟨_,rfl,dl,_,rfl,.inl ⟨SqL.of e2,fun p hp=>?_⟩⟩
   exact k p _ hs (s2.trans (aD.new hp)) (s2.free hp) aC (vK (by omega) hd)
end
theorem zF {X:Cx} {K:PySem.W.Frag} (hK:X.K=K) (hc:X.calm=true):eJ X (.builtin "min") (fun xs H Q=>∃ (p:Addr) (ns:List Int),xs = [.ref p]/\SqL K H p (ns.map V.int)/\0 < ns.length/\∀ M,M∈ns->(∀ a∈ns,M<=a)->Q (.int M) H):=by
 subst hK; exact aAS hc
def aEp:Scope:=aFz { kind:=.function,names:=[(".0",.local),("hand",.local),("min",.globalImplicit),("reached",.globalImplicit),("nexts",.free),("rows",.free)],isGenerator:=false,isCoroutine:=false } (aI mQ)
section
variable {P:Program} {w:World} {K:PySem.W.Frag} {mg:Str->Option Value} {base:Heap}
variable {fW fH fK fB fNB fD fND:Addr} {dW dH dK dB dNB dD dND:FuncData}
def aAu (K:PySem.W.Frag) (Pt:Addr):Sp:=fun vs H Q _=>∃ (x:V) (q:Addr) (n:Int) (ws cs:List (List Int)),vs = [x,.ref q]/\Den K H (cN n ws) x/\bZ (cN n ws)=true/\Den K H (iG cs) (.ref q)/\gM n ws.length cs/\H Pt=some (.tab vO) /\
 ∀ (p dp pp:Addr) (c:Int) (hs ps:List Int) H',aD H H'->H' p=some (.tup [.int c,.ref dp,.ref pp])->H' dp=some (.tup (hs.map V.int))->gA ws (lN hs)=true->H' pp=some (.tup (ps.map V.int))->ps.length=n.toNat->Q (.ref p) H'
theorem lZ:FnScope ["book", "costs", "deal", "nexts", "rows", "prices"] ["book", "costs"] (aI mQ):=⟨rfl,rfl,rfl,by decide +kernel,rfl,by decide +kernel,by decide +kernel⟩
set_option maxHeartbeats 2000000 in
theorem aCu {f fN fC fX fS fHd fR fF:Addr} {fd dN dC dX dS dHd dR dF:FuncData} (G:Fn K mg "cheapest" mQ ["book", "costs"] f fd) (B:Bl mg) {Pt:Addr} (R:Pr K mg fW fH fK fB fNB fD fND dW dH dK dB dNB dD dND)
  (GNC:Fn K mg "need_costs" jT ["book", "costs"] fN dN) (ONC:FnOk P w K mg base CX0 6 fN dN ["book", "costs"] (nY K)) (GCo:Fn K mg "counted" gH ["hands", "deal"] fC dC) (GNx:Fn K mg "next_costs" tE ["costs", "many"] fX dX)
  (GCD:Fn K mg "cheapest_deal" pN ["book", "costs"] fS dS) (OCD:FnOk P w K mg base CX0 3 fS dS ["book", "costs"] (xR K Pt)) (GH:Fn K mg "handing" iP ["book", "deal"] fHd dHd) (GR:Fn K mg "reached" lL ["rows", "first"] fR dR)
  (GCF:Fn K mg "cost_of" kJ ["book", "costs", "deal"] fF dF):FnOk P w K mg base CX0 8 f fd ["book", "costs"] (aAu K Pt):=by
 have OCo:FnOk P w K mg base CX0 1 fC dC ["hands", "deal"] (lY K):=mT GCo B
 have ONx:FnOk P w K mg base CX0 1 fX dX ["costs", "many"] (yY K):=aAp GNx B
 have OH:FnOk P w K mg base CX0 1 fHd dHd ["book", "deal"] (tQ K):=yZ GH B
 have OR:FnOk P w K mg base CX0 1 fR dR ["rows", "first"] (oR K):=rO GR B
 have OCF:FnOk P w K mg base CX0 7 fF dF ["book", "costs", "deal"] (rJ K):=tP GCF B R GNC ONC GCo
 refine G.fn.ok lZ (fun vs H Q E h=>?_) (fun cdv A outer s H vs Q E hr h=>?_)
 ·obtain ⟨x,q,n,ws,cs,rfl,_⟩:=h
  rfl
 ·obtain ⟨x,q,n,ws,cs,rfl,hx,hbk,hq,hc,hT,k⟩:=h
  have r1:Room 1 _:=hr.mono (by decide)
  have r3:Room 3 _:=hr.mono (by decide)
  have r6:Room 6 _:=hr.mono (by decide)
  have r7:Room 7 _:=hr
  refine ⟨_,(aE (bI (bB GNC ONC r6 rfl (aA (pv 0) (aA (pv 1) aB))))
  (aE (aS (i:=2) lZ.nd rfl (Or.inl rfl) (bB GCD OCD r3 rfl (aA (pv 0) (aA (pv 1) aB))))
  (aE (aS (i:=3) lZ.nd rfl (Or.inr rfl) (bB GNx ONx r1 rfl (aA (pv 1) (aA (bB GCo OCo r1 rfl (aA (bS dU (pv 0) aG (fun _ _=>rfl)) (aA (pv 2) aB))) aB))))
  (aE (aS (i:=4) lZ.nd rfl (Or.inr rfl) (bB GH OH r1 rfl (aA (pv 0) (aA (pv 2) aB))))
  (aE (aS (i:=5) lZ.nd rfl (Or.inl rfl) (cA cG rfl B.tuple cQ (aA (cM (own:=["hand"]) (fr:=[3,4]) (frn:=["nexts", "rows"]) (bA (aI mQ) ["book", "costs", "deal", "nexts", "rows", "prices"] rfl rfl (by decide +kernel)) rfl (cL rfl B.range (aA (bS dU (pv 0) aG (fun _ _=>rfl)) aB))
    (fun _ _ _ _=>(aK (i:=0) (show (["hand", "nexts", "rows"]:List Str).Nodup by decide +kernel) rfl (Or.inl rfl))) (fun _ _ _ _=>cW)
    (fun _ _ _ _=>(aL (zF (K:=K) rfl rfl) rfl B.min aDB (aA (xC (own:=["other"]) (fr:=[1]) (frn:=["nexts"]) (bA aEp ["hand", "nexts", "rows"] rfl rfl (by decide +kernel)) rfl (bB GR OR r1 rfl (aA (pv 2) (aA (pv 0) aB)))
    (fun _ _ _ _=>(aK (i:=0) (show (["other", "nexts"]:List Str).Nodup by decide +kernel) rfl (Or.inl rfl))) (fun _ _ _ _=>cW)
    (fun _ _ _ _=>(bS (aBT (K:=K) rfl) (pv 1) (pv 0) (fun _ _=>rfl)))) aB)))) aB)))
  (aF (aQ (aX (aA (bB GCF OCF r7 rfl (aA (pv 0) (aA (pv 1) (aA (pv 2) aB)))) (aA (pv 2) (aA (pv 5) aB))))))))))),?_⟩
  obtain ⟨hn1,hn6,hw12,hws⟩:=bM hbk
  refine ⟨_,rfl,_,rfl,x,q,n,ws,cs,rfl,hx,hbk,hq,hc,fun H1 s1=>?_⟩
  refine ⟨_,rfl,_,rfl,x,q,n,ws,cs,rfl,s1.den _ _ hx,hbk,s1.den _ _ hq,hc,s1 _ _ hT,fun dp H2 hs s2 hdp0 hdp hd=>?_⟩
  have s12:=s1.trans s2
  obtain ⟨a,b,ys,rfl,ha,hb2,hys⟩:=cP (s12.den _ _ hx)
  have g2:kM K H2 (.ref a) (.ref dp) n ws hs:=⟨s12.den _ _ hx,hbk,aR.mpr ⟨dp,rfl,SqT.of hdp⟩,hd⟩
  obtain ⟨hdl,hdm⟩:=cZ hd
  refine ⟨_,rfl,_,rfl,a,_,0,.int n,rfl,rfl,ha,rfl,_,rfl,n,dp,hs,rfl,SqT.of hdp,by omega,hn6,fun mp H3 s3 hmp=>?_⟩
  have s13:=s12.trans s3
  refine ⟨q,mp,cs,dZ n hs,rfl,s13.den _ _ hq,SqT.of hmp,rP hn6 hw12 (by omega) hc,fun nx ns H4 s4 hnx0 hnx hnl=>?_⟩
  have s14:=s13.trans s4
  have s24:=s3.trans s4
  have hnn:ns.length=n.toNat:=by rw [hnl,hc.1]
  refine ⟨_,rfl,_,rfl,.ref a,.ref dp,n,ws,hs,rfl,g2.same s24,fun rp H5 qs rs s5 hrp hqs R5 hlr ER=>?_⟩
  have s15:=s14.trans s5
  have s25:=s24.trans s5
  have nx5:=s5 _ _ hnx
  have hedge:∀ g w t,iR ws hs g w t->0<=t/\t < n:=fun g w t e=>by
   obtain ⟨_,l,h1,h2,_⟩:=e
   exact (cY (hws l (Qh h1))).2.1 t h2
  refine ⟨_,rfl,a,_,0,.int n,rfl,rfl,s25.seqT ha,rfl,n,rfl,by omega,by omega,iE (lo:=0) (n:=n.toNat) (fun σ=>∃ v,σ = [v,some (.ref nx),some (.ref rp)]) (fun i zs H6=>aD H5 H6/\∃ vs:List Int,zs=vs.map V.int/\vs.length=i) (eA (by omega)) ⟨none,rfl⟩ ⟨aD.refl _,[],rfl,rfl⟩ ?_ ?_ ?_⟩
  ·rintro i zs H6 ⟨_,vs,rfl,hv⟩
   rw [Qb,hv]
   exact Qg _
  ·rintro i zs σ H6 hi ⟨v,rfl⟩ ⟨s6,vs,rfl,hv⟩ hz
   refine cX ?_
   refine ⟨_,rfl,_,rfl,rp,0+(i:Int),qs,rs,n,ws,hs,rfl,R5.same s6,hlr,ER,hedge,by omega,by omega,by omega,fun fdp H7 fs os s7 hfd e7 T7 C7=>?_⟩
   have T7l:=T7.len
   have hfl:=T7.flen
   have s57:=s6.trans s7
   have hpos:0 < os.length:=(Qd.mp T7.head).1
   refine ⟨fdp,fs,rfl,e7,fun o=>tD (a:=fdp) (o:=o) (kvs:=fs) (fun σ=>∃ v,σ = [v,some (.ref nx)]) (fun j zs H8=>H8=upd H7 fdp (.frz o (.dK fs))/\zs=((os.take j).map fun o=>ns.getD o.toNat 0).map V.int) (eA (by omega)) ⟨_,rfl⟩ ⟨rfl,rfl⟩ (fun j zs H8 z=>?_) (fun j zs H8 z=>by rw [z.1]; exact aC) ?_ ?_⟩
   ·rw [z.2,Qb,Qb,Qu]
    omega
   ·rintro j zs' σ p H8 hp ⟨v',rfl⟩ ⟨rfl,rfl⟩ hsz
    obtain ⟨ov,hov,hpe⟩:∃ ov,os[j]?=some ov/\p.1=.inl ov:=by
     have e:=congrArg (fun l=>l[j]?) T7.keys
     simp only [Qi] at e
     rw [hp] at e
     cases q:os[j]? with
     | none=>rw [q] at e; cases e
     | some ov=>rw [q] at e; exact ⟨ov,rfl,Option.some.inj e⟩
    obtain ⟨o0,o1⟩:=T7.rng ov (Qh hov)
    have nfx:nx≠fdp:=fun z=>by have:=s6 _ _ nx5; rw [z,hfd] at this; cases this
    have nx8:upd H7 fdp (.frz o (.dK fs)) nx=some (.lst (ns.map V.int)):=by rw [aH nfx]; exact s57 _ _ nx5
    rw [hpe]
    refine cX ?_
    refine ⟨_,rfl,_,rfl,nx,_,ov,_,rfl,rfl,SqL.of nx8,rK o0 (by omega),hsz,⟨_,rfl⟩,rfl,?_⟩
    rw [Jn,hov,Qz,Qz]
    rfl
   ·rintro zs' H8 ⟨rfl,rfl⟩ lp hlp
    rw [hfl,Ju] at *
    have nlf:fdp≠lp:=fun z=>by rw [<- z,aC] at hlp; cases hlp
    have hlp7:H7 lp=none:=by rw [aH (Ne.symm nlf)] at hlp; exact hlp
    have s8:aD H7 (upd (upd (upd H7 fdp (.frz o (.dK fs))) lp (.lst ((os.map fun o=>ns.getD o.toNat 0).map V.int))) fdp (.dK fs)):=fun b u hb=>by
     by_cases hbf:b=fdp
     ·rw [hbf] at hb ⊢
      rw [aC,<- e7]; exact hb
     ·rw [aH hbf,aH (fun z=>by rw [z,hlp7] at hb; cases hb),aH hbf]
      exact hb
    have l8:(upd (upd (upd H7 fdp (.frz o (.dK fs))) lp (.lst ((os.map fun o=>ns.getD o.toNat 0).map V.int))) fdp (.dK fs)) lp=some (.lst ((os.map fun o=>ns.getD o.toNat 0).map V.int)):=by
     rw [aH (Ne.symm nlf),aC]
    generalize upd (upd (upd H7 fdp (.frz o (.dK fs))) lp (.lst ((os.map fun o=>ns.getD o.toNat 0).map V.int))) fdp (.dK fs)=H8 at s8 l8 ⊢
    refine ⟨lp,_,rfl,SqL.of l8,by rw [Qb]; exact hpos,fun M _ _=>⟨hz,⟨_,rfl⟩,s57.trans s8,vs++[M],by rw [Qz]; rfl,by rw [Qe,hv]; rfl⟩⟩
  ·rintro zs H6 ⟨s6,vs,rfl,hv⟩ lq hlq
   refine ⟨lq,_,rfl,.inl ⟨SqL.of aC,fun pp hpp=>?_⟩⟩
   have s7:=(aD.new (o:=.lst (vs.map V.int)) hlq).trans (aD.new (o:=.tup (vs.map V.int)) hpp)
   have p7:upd (upd H6 lq (.lst (vs.map V.int))) pp (.tup (vs.map V.int)) pp=some (.tup (vs.map V.int)):=aC
   generalize upd (upd H6 lq (.lst (vs.map V.int))) pp (.tup (vs.map V.int))=H7 at s7 p7 ⊢
   have s27:=s25.trans (s6.trans s7)
   refine ⟨_,rfl,_,rfl,_,rfl,.ref a,.ref dp,q,n,ws,cs,hs,rfl,g2.same s27,(s12.trans s27).den _ _ hq,hc,fun c H8 s8=>?_⟩
   refine ⟨_,rfl,_,rfl,eA (show 3<=1000 by decide),fun p hp=>?_⟩
   have s9:=aD.new (o:=.tup [.int c,.ref dp,.ref pp]) hp
   exact k p dp pp c hs vs _ (s12.trans (s27.trans (s8.trans s9))) aC ((s27.trans (s8.trans s9)) _ _ hdp) hd ((s8.trans s9) _ _ p7) hv
end
end Ab
namespace L2
open PySem PySem.Spec PyProof.Rows
section
variable {P:Program} {w:World} {K:PySem.W.Frag} {mg:Str->Option Value} {base:Heap} {k:Nat} {f:Addr} {fd:FuncData} {ps:List Str} {sp sp':Sp} {CX:CXT}
theorem FnOk.cx1 (F:FnOk P w K mg base CX0 k f fd ps sp):FnOk P w K mg base (CX1 P w) k f fd ps sp :=
 ⟨F.len,fun A outer s H args us vs Q E hr he hb hv hs=>codeAny_mono (F.run A outer s H args us vs Q E hr he hb hv hs) fun r s' q=>by
  cases r with
  | error e=>exact False.elim q
  | ok fl=>cases fl <;> exact q⟩
def xS (a b:Sp):Sp:=fun vs H Q E=>a vs H Q E∨b vs H Q E
theorem FnOk.or (F:FnOk P w K mg base CX k f fd ps sp) (F':FnOk P w K mg base CX k f fd ps sp'):FnOk P w K mg base CX k f fd ps (xS sp sp') :=
 ⟨fun vs H Q E h=>h.elim (F.len vs H Q E) (F'.len vs H Q E),fun A outer s H args us vs Q E hr he hb hv hs=>hs.elim (F.run A outer s H args us vs Q E hr he hb hv) (F'.run A outer s H args us vs Q E hr he hb hv)⟩
end
theorem kR {X:Cx} {x:Str} {st:Stmt} {ps:List Str} {f:Addr} {fd:FuncData} {k:Nat} {sp:Sp} {E:XK} {p pos:Pos} {e:Expr} {es:List Expr} {t:TA} (G:Fn X.K X.mg x st ps f fd) (ok:FnOk X.prog X.w X.K X.mg X.base (CX1 X.prog X.w) k f fd ps sp) (hr:Room k X.A) (hg:Gl X x) (hp:qC (CX1 X.prog X.w) X E) (ha:PA X (e::es) t)
  (hdb:(x==("__debug__" : Str))=false:=by decide) (he:starEach (e::es) X.env=(false,eval e X.env)::starEach es X.env:=by rfl) (hpl:(backTo pos (starEach es X.env)).any (·.1)=false:=by rfl) :
  PE X (.Call (.Name x p) (e::es) [] pos) (wB sp [] E t):=zQ ok hr hg G.mgx G.kp G.bd .nil hp ha hdb he hpl
end L2
namespace Ab
open PySem L2
def cR:PyData->Bool
 | .int i=>decide (0<=i) && decide (i<=999)
 | _=>false
def pC:PyData->Int
 | .int i=>i
 | _=>0
def mW (l:List Int):Bool:=(l.zip (l.drop 1)).all fun p=>decide (p.1<=p.2)
def eV (m:Nat):PyData->Bool
 | .tuple ds=>decide (ds.length=m) && (ds.all cR && mW (ds.map pC))
 | _=>false
def rQ (n:Int) (m:Nat):PyData->Bool
 | .tuple ds=>decide (ds.length=n.toNat) && ds.all (eV m)
 | _=>false
def Sz:PyData->Prop
 | .tuple ds=>ds.length<=1000
 | _=>True
theorem aAv {K:PySem.W.Frag} {H:Hp}:∀ {ds:List PyData} {xs:List V},aU K H ds xs->(∀ d∈ds,cR d=true)->xs=(ds.map pC).map V.int
 | [],xs,h,_=>aN.mp h
 | d::ds,xs,h,k=>by
  obtain ⟨x,r,rfl,h1,h2⟩:=aM.mp h
  have kd:=k d (Qt ..)
  cases d with
  | int i =>
   rw [bV.mp h1,aAv h2 fun d hd=>k d (Qq _ hd)]
   rfl
  | none=>cases kd
  | bool _=>cases kd
  | str _=>cases kd
  | list _=>cases kd
  | tuple _=>cases kd
  | dict _=>cases kd
section
variable {P:Program} {w:World} {K:PySem.W.Frag} {mg:Str->Option Value} {base:Heap}
variable {fW fH fK fB fNB fD fND:Addr} {dW dH dK dB dNB dD dND:FuncData} {CB CD CC:Addr} {bmB bmD bmC:List Value}
structure Rf (K:PySem.W.Frag) (mg:Str->Option Value) (CB CD CC:Addr) (bmB bmD bmC:List Value):Prop where
 mB:mg "NoBook" = some (.ref CB)
 mD:mg "NoDeal" = some (.ref CD)
 mC:mg "NoCosts" = some (.ref CC)
 eB:∀ h:Heap,K.In h->EcH h CB bmB
 eD:∀ h:Heap,K.In h->EcH h CD bmD
 eC:∀ h:Heap,K.In h->EcH h CC bmC
def rR (K:PySem.W.Frag) (CB:Addr):Sp:=fun vs H _ E=>∃ x d,vs = [x]/\Den K H d x/\bZ d=false/\∀ H',aD H H'->E (.ref CB) none H'
theorem tT (B:Bl mg) (R:Pr K mg fW fH fK fB fNB fD fND dW dH dK dB dNB dD dND) (Z:Rf K mg CB CD CC bmB bmD bmC):FnOk P w K mg base (CX1 P w) 4 fNB dNB ["book"] (rR K CB):=by
 have OB:FnOk P w K mg base CX0 3 fB dB ["thing"] (vD K):=xD R.B B R.W R.H R.Kw
 refine R.NB.fn.okX aAj (fun vs H Q E h=>?_) (fun cdv A outer s H vs Q E hr h=>?_)
 ·obtain ⟨x,d,rfl,_⟩:=h
  rfl
 ·obtain ⟨x,d,rfl,hd,hb,k⟩:=h
  refine ⟨_,aF (cF (cV (cU (bB R.B OB hr rfl (aA (pv 0) aB)))) (aF (qO Z.eB rfl Z.mB rfl (fun _ _ _ _ _ _ _ I m q=>uH I m q))) aW),?_⟩
  refine ⟨_,rfl,x,d,rfl,hd,fun H' hs=>⟨_,rfl,?_⟩⟩
  rw [hb]
  refine eP ?_
  exact k H' hs
def oC (K:PySem.W.Frag) (CB:Addr):Sp:=fun vs H _ E=>∃ x y d,vs = [x,y]/\Den K H d x/\bZ d=false/\∀ H',aD H H'->E (.ref CB) none H'
theorem aBd (B:Bl mg) (R:Pr K mg fW fH fK fB fNB fD fND dW dH dK dB dNB dD dND) (Z:Rf K mg CB CD CC bmB bmD bmC):FnOk P w K mg base (CX1 P w) 5 fD dD ["book", "thing"] (oC K CB):=by
 have ON:FnOk P w K mg base (CX1 P w) 4 fNB dNB ["book"] (rR K CB):=tT B R Z
 refine R.D.fn.okX vG (fun vs H Q E h=>?_) (fun cdv A outer s H vs Q E hr h=>?_)
 ·obtain ⟨x,y,d,rfl,_⟩:=h
  rfl
 ·obtain ⟨x,y,d,rfl,hd,hb,k⟩:=h
  refine ⟨_,aE (bI (kR R.NB ON hr rfl nM (aA (pv 0) aB))) gO,?_⟩
  exact ⟨_,rfl,x,d,rfl,hd,hb,k⟩
def Bad (K:PySem.W.Frag) (CB CD:Addr) (H:Hp) (x y:V) (C:Addr):Prop:=(∃ d,Den K H d x/\bZ d=false/\C=CB)∨∃ n ws d,Den K H (cN n ws) x/\bZ (cN n ws)=true/\Den K H d y/\gA ws d=false/\C=CD
theorem Bad.same {H H':Hp} {x y:V} {C:Addr} (b:Bad K CB CD H x y C) (e:aD H H'):Bad K CB CD H' x y C:=by
 rcases b with ⟨d,h1,h2⟩ | ⟨n,ws,d,h1,h2,h3,h4⟩
 ·exact .inl ⟨d,e.den _ _ h1,h2⟩
 ·exact .inr ⟨n,ws,d,e.den _ _ h1,h2,e.den _ _ h3,h4⟩
def aCv (K:PySem.W.Frag) (CB CD:Addr):Sp:=fun vs H _ E=>∃ x y C,vs = [x,y]/\Bad K CB CD H x y C/\∀ H',aD H H'->E (.ref C) none H'
theorem tU (B:Bl mg) (R:Pr K mg fW fH fK fB fNB fD fND dW dH dK dB dNB dD dND) (Z:Rf K mg CB CD CC bmB bmD bmC):FnOk P w K mg base (CX1 P w) 6 fND dND ["book", "deal"] (aCv K CB CD):=by
 have OD:FnOk P w K mg base (CX1 P w) 5 fD dD ["book", "thing"] (xS (oC K CB) (vF K)):=(aBd B R Z).or (xE B R).cx1
 refine R.ND.fn.okX aAk (fun vs H Q E h=>?_) (fun cdv A outer s H vs Q E hr h=>?_)
 ·obtain ⟨x,y,C,rfl,_⟩:=h
  rfl
 ·obtain ⟨x,y,C,rfl,b,k⟩:=h
  refine ⟨_,aF (cF (cV (cU (kR R.D OD hr rfl nM (aA (pv 0) (aA (pv 1) aB))))) (aF (qO Z.eD rfl Z.mD rfl (fun _ _ _ _ _ _ _ I m q=>uH I m q))) aW),?_⟩
  rcases b with ⟨d,h1,h2,rfl⟩ | ⟨n,ws,d,h1,h2,h3,h4,rfl⟩
  ·exact ⟨_,rfl,_,rfl,.inl ⟨x,y,d,rfl,h1,h2,k⟩⟩
  ·refine ⟨_,rfl,_,rfl,.inr ⟨x,y,n,ws,d,rfl,h1,h2,h3,fun H' hs=>⟨_,rfl,?_⟩⟩⟩
   rw [h4]
   refine eP ?_
   exact k H' hs
def rS (K:PySem.W.Frag):Sp:=fun vs H Q _=>∃ (m:Nat) (y:V) (d:PyData),vs = [.int m,y]/\Den K H d y/\Sz d/\∀ H',aD H H'->Q (.bl (eV m d)) H'
theorem xT {f:Addr} {fd:FuncData} (G:Fn K mg "is_cost_row" fJ ["many", "thing"] f fd) (B:Bl mg) (R:Pr K mg fW fH fK fB fNB fD fND dW dH dK dB dNB dD dND):FnOk P w K mg base CX0 2 f fd ["many", "thing"] (rS K):=by
 have OW:FnOk P w K mg base CX0 1 fW dW ["thing"] (kK K):=kC R.W B
 refine G.fn.ok tK (fun vs H Q E h=>?_) (fun cdv A outer s H vs Q E hr h=>?_)
 ·obtain ⟨m,y,d,rfl,_⟩:=h
  rfl
 ·obtain ⟨m,y,d,rfl,hd,hsz,k⟩:=h
  obtain ⟨t999,h999⟩:=B.mc
  have r1:Room 1 _:=hr
  refine ⟨_,(aE (cF (PW.pt (jX (cV (cU (aL cH rfl B.isinstance jO (aA (pv 1) (aA (gJ (v:=.ty "tuple") rfl B.tuple cQ rfl) aB))))) (jC (bE iX (aL bU rfl B.len eU (aA (pv 1) aB)) (pv 0) (bJ _)))))
   (aF (aQ dO))
   aW)
  (aE (cF (cV (cU (aL (eY rfl) rfl B.all lK (aA (cM (own:=["cost"]) (fr:=[]) (frn:=[]) (bA (aI fJ) ["many", "thing"] rfl rfl (by decide +kernel)) rfl (gW (pv 1))
    (fun _ _ _ _=>(aK (i:=0) (show (["cost"]:List Str).Nodup by decide +kernel) rfl (Or.inl rfl))) (fun _ _ _ _=>cW)
    (fun _ _ _ _=>(pT (bB R.W OW r1 rfl (aA (pv 0) aB)) (oG (pX lC lC aG (pv 0) (lV (v:=.int 999) rfl h999 ⟨t999,rfl⟩)))))) aB))))
   (aF (aQ dO))
   aW)
  (aF (aQ (aL (eY rfl) rfl B.all lK (aA (cM (own:=["cost", "behind"]) (fr:=[]) (frn:=[]) (bA (aI fJ) ["many", "thing"] rfl rfl (by decide +kernel)) rfl (oJ .t .t rfl B.zip (aA (pv 1) (aA (bD pK (pv 1) (bK aG) bN) aB)))
    (fun _ _ _ _=>(kL (K:=K) (n:=2) rfl rfl (aV (aK (i:=0) (show (["cost", "behind"]:List Str).Nodup by decide +kernel) rfl (Or.inl rfl)) (aV (aK (i:=1) (show (["cost", "behind"]:List Str).Nodup by decide +kernel) rfl (Or.inl rfl)) eF)))) (fun _ _ _ _=>cW)
    (fun _ _ _ _=>(kF lC (pv 0) (pv 1) (bJ _)))) aB)))))),?_⟩
  refine ⟨_,rfl,y,jY d,rfl,hd.kd,_,rfl,?_⟩
  cases d with
  | tuple ds =>
   refine eO ?_
   obtain ⟨p,xs,rfl,hp,hxs⟩:=aO.mp hd
   have hxl:=aJ hxs
   have hz:ds.length<=1000:=hsz
   refine ⟨_,rfl,p,_,rfl,.inr hp,_,rfl,rfl,_,rfl,?_⟩
   by_cases hl:ds.length=m
   ·rw [hxl,hl,show (!decide (V.int (m:Int)=V.int (m:Int)))=false by simp]
    refine eO ?_
    have ecb:eV m (.tuple ds)=(ds.all cR && mW (ds.map pC)):=by
     show (decide (ds.length=m) && (ds.all cR && mW (ds.map pC)))=_
     rw [decide_eq_true hl,Jv]
    rw [ecb] at k
    refine ⟨_,rfl,p,rfl,⟨_,hp⟩,lJ (K:=K) (a:=p) (xs:=xs) (vs:=(ds.map cR).map V.bl) (fun σ=>∃ v,σ = [v]) (by omega) (by rw [Qb,Qb,hxl]) hp ⟨none,rfl⟩ ?_ ?_⟩
    ·rintro i xv v σ H2 hxv hv ⟨v0,rfl⟩ s2 Q' hQ'
     obtain ⟨di,hdi,hden⟩:=cI hxs hxv
     rw [Qi,Qi,hdi] at hv
     obtain rfl:V.bl (cR di)=v:=Option.some.inj hv
     refine ⟨_,rfl,xv,di,rfl,s2.den _ _ hden,_,rfl,?_⟩
     cases di with
     | int r =>
      refine eP ?_
      rw [bV.mp hden]
      refine ⟨_,rfl,_,_,rfl,rfl,_,rfl,?_⟩
      show _
      by_cases r0:(0:Int)<=r
      ·rw [decide_eq_true r0]
       refine eP ?_
       refine ⟨_,_,rfl,rfl,?_⟩
       have e12:cR (.int r)=decide (r<=999):=by show (decide (0<=r) && decide (r<=999))=_; rw [decide_eq_true r0,Jv]
       rw [e12] at hQ'
       exact hQ' _ _ ⟨_,rfl⟩ (aD.refl _)
      ·rw [decide_eq_false r0]
       refine eO ?_
       have e12:cR (.int r)=false:=by show (decide (0<=r) && decide (r<=999))=_; rw [decide_eq_false r0,Xa]
       rw [e12] at hQ'
       exact hQ' _ _ ⟨_,rfl⟩ (aD.refl _)
     | none=>exact eO (hQ' _ _ ⟨_,rfl⟩ (aD.refl _))
     | bool _=>exact eO (hQ' _ _ ⟨_,rfl⟩ (aD.refl _))
     | str _=>exact eO (hQ' _ _ ⟨_,rfl⟩ (aD.refl _))
     | list _=>exact eO (hQ' _ _ ⟨_,rfl⟩ (aD.refl _))
     | tuple _=>exact eO (hQ' _ _ ⟨_,rfl⟩ (aD.refl _))
     | dict _=>exact eO (hQ' _ _ ⟨_,rfl⟩ (aD.refl _))
    ·rintro H2 s2 z hz2
     refine ⟨z,_,rfl,SqL.of aC,_,rfl,?_⟩
     have eall:(ds.map cR).all id=ds.all cR:=by rw [Xw]; rfl
     rw [eall]
     have s3:=s2.trans (aD.new (o:=.lst ((ds.map cR).map V.bl)) hz2)
     generalize upd H2 z (.lst ((ds.map cR).map V.bl))=H3 at s3 ⊢
     by_cases ha:ds.all cR=true
     ·rw [ha]
      refine eO ?_
      rw [ha,Jv] at k
      have hxi:=aAv hxs (Jo.mp ha)
      generalize ds.map pC=row at hxi k
      subst hxi
      have hrl:row.length=ds.length:=by rw [<- hxl,Qb]
      have hp3:=s3.seqT hp
      refine ⟨_,rfl,_,rfl,_,rfl,p,_,rfl,hp3,fun q H4 s4 hq=>?_⟩
      rw [show (1:Int)=((1:Nat):Int) from rfl,eW] at hq
      have hp4:=s4.seqT hp3
      refine ⟨p,q,_,_,rfl,hp4,hq,sZ (K:=K) (k1:=.t) (k2:=.t) (a:=p) (b:=q) (xs:=row.map V.int) (zs:=(row.map V.int).drop 1) (vs:=((row.zip (row.drop 1)).map fun p=>decide (p.1<=p.2)).map V.bl) (fun σ=>∃ v0 v1,σ = [v0,v1]) (by rw [Ja,Qb]; omega) (by rw [Ja]; omega) (by rw [Qb,Qb,Yl,Ja,Ja,Qb]; omega) (fun H' s'=>⟨s'.seqT hp4,s'.seqT hq⟩) ⟨none,none,rfl⟩ ?_ ?_⟩
      ·rintro i xv zv v pr σ H5 hxv hzv hv hpr ⟨v0,v1,rfl⟩ s5 Q' hQ'
       obtain ⟨x,hx,rfl⟩:=jU hxv
       rw [<- List.map_drop] at hzv
       obtain ⟨y,hy,rfl⟩:=jU hzv
       rw [Qi,Qi,(Jl (z:=(x,y))).mpr ⟨hx,hy⟩] at hv
       obtain rfl:V.bl (decide (x<=y))=v:=Option.some.inj hv
       refine ⟨pr,_,rfl,SqT.of aC,rfl,_,_,rfl,_,_,rfl,rfl,?_⟩
       refine ⟨_,rfl,_,rfl,_,_,rfl,rfl,?_⟩
       exact hQ' _ _ ⟨_,_,rfl⟩ (aD.new hpr)
      ·rintro H5 s5 z2 hz2
       refine ⟨z2,_,rfl,SqL.of aC,?_⟩
       rw [Xw]
       exact k _ (s3.trans (s4.trans (s5.trans (aD.new hz2))))
     ·rw [Bool.not_eq_true] at ha
      rw [ha]
      refine eP ?_
      rw [ha,Xa] at k
      exact k _ s3
   ·rw [show (!decide (V.int (xs.length:Int)=V.int (m:Int)))=true by
     rw [decide_eq_false (fun z:V.int (xs.length:Int)=V.int (m:Int)=>hl (by injection z with z; omega))]; rfl]
    refine eP ?_
    have e:eV m (.tuple ds)=false:=by show (decide (ds.length=m) && _)=_; rw [decide_eq_false hl,Xa]
    rw [e] at k
    exact k _ (aD.refl _)
  | none=>exact eP (k _ (aD.refl _))
  | bool _=>exact eP (k _ (aD.refl _))
  | str _=>exact eP (k _ (aD.refl _))
  | list _=>exact eP (k _ (aD.refl _))
  | int _=>exact eP (k _ (aD.refl _))
  | dict _=>exact eP (k _ (aD.refl _))
def Sz2:PyData->Prop
 | .tuple ds=>ds.length<=1000/\∀ d∈ds,Sz d
 | _=>True
def pD (K:PySem.W.Frag):Sp:=fun vs H Q _=>∃ (x y:V) (n:Int) (ws:List (List Int)) (d:PyData),vs = [x,y]/\Den K H (cN n ws) x/\bZ (cN n ws)=true/\Den K H d y/\Sz2 d/\∀ H',aD H H'->Q (.bl (rQ n ws.length d)) H'
theorem vP {f fC:Addr} {fd dC:FuncData} (G:Fn K mg "are_costs" fV ["book", "thing"] f fd) (B:Bl mg) (R:Pr K mg fW fH fK fB fNB fD fND dW dH dK dB dNB dD dND) (GCR:Fn K mg "is_cost_row" fJ ["many", "thing"] fC dC):FnOk P w K mg base CX0 5 f fd ["book", "thing"] (pD K):=by
 have ONB:FnOk P w K mg base CX0 4 fNB dNB ["book"] (pP K):=rA B R
 have OCR:FnOk P w K mg base CX0 2 fC dC ["many", "thing"] (rS K):=xT GCR B R
 refine G.fn.ok mS (fun vs H Q E h=>?_) (fun cdv A outer s H vs Q E hr h=>?_)
 ·obtain ⟨x,y,n,ws,d,rfl,_⟩:=h
  rfl
 ·obtain ⟨x,y,n,ws,d,rfl,hx,hb,hd,hsz,k⟩:=h
  have r4:Room 4 _:=hr
  have r2:Room 2 _:=hr.mono (by decide)
  refine ⟨_,(aE (bI (bB R.NB ONB r4 rfl (aA (pv 0) aB)))
  (aE (cF (PW.pt (jX (cV (cU (aL cH rfl B.isinstance jO (aA (pv 1) (aA (gJ (v:=.ty "tuple") rfl B.tuple cQ rfl) aB))))) (jC (bE iX (aL bU rfl B.len eU (aA (pv 1) aB)) (bS dU (pv 0) aG (fun _ _=>rfl)) (bJ _)))))
   (aF (aQ dO))
   aW)
  (aF (aQ (aL (eY rfl) rfl B.all lK (aA (cM (own:=["row"]) (fr:=[0]) (frn:=["book"]) (bA (aI fV) ["book", "thing"] rfl rfl (by decide +kernel)) rfl (gW (pv 1))
    (fun _ _ _ _=>(aK (i:=0) (show (["row", "book"]:List Str).Nodup by decide +kernel) rfl (Or.inl rfl))) (fun _ _ _ _=>cW)
    (fun _ _ _ _=>(bB GCR OCR r2 rfl (aA (aL (bL (K:=K) rfl) rfl B.len eU (aA (bS (eG (K:=K) rfl) (pv 1) aG (fun _ _=>rfl)) aB)) (aA (pv 0) aB))))) aB)))))),?_⟩
  obtain ⟨hn1,hn6,hw12,hws⟩:=bM hb
  refine ⟨_,rfl,x,_,rfl,hx,hb,fun H1 s1=>?_⟩
  obtain ⟨a,b,ys,rfl,ha,hb2,hys⟩:=cP (s1.den _ _ hx)
  have hlw:=aJ hys
  rw [Qb] at hlw
  have hd1:=s1.den _ _ hd
  refine ⟨_,rfl,y,jY d,rfl,hd1.kd,_,rfl,?_⟩
  cases d with
  | tuple ds =>
   refine eO ?_
   obtain ⟨q,rs,rfl,hq1,hrs⟩:=aO.mp hd1
   have hlr:=aJ hrs
   obtain ⟨hz,hzr⟩:ds.length<=1000/\∀ d∈ds,Sz d:=hsz
   refine ⟨_,rfl,q,_,rfl,.inr hq1,_,rfl,a,_,0,.int n,rfl,rfl,ha,rfl,rfl,_,rfl,?_⟩
   by_cases hl:ds.length=n.toNat
   ·rw [show (!decide (V.int (rs.length:Int)=V.int n))=false by rw [hlr,hl,show ((n.toNat:Nat):Int)=n by omega]; simp]
    refine eO ?_
    refine ⟨_,rfl,q,rfl,⟨_,hq1⟩,lJ (K:=K) (a:=q) (xs:=rs) (vs:=(ds.map (eV ws.length)).map V.bl) (fun σ=>∃ v,σ = [v,some (.ref a)]) (by omega) (by rw [Qb,Qb,hlr]) hq1 ⟨none,rfl⟩ ?_ ?_⟩
    ·rintro i xv v σ H2 hxv hv ⟨v0,rfl⟩ s2 Q' hQ'
     obtain ⟨di,hdi,hden⟩:=cI hrs hxv
     rw [Qi,Qi,hdi] at hv
     obtain rfl:V.bl (eV ws.length di)=v:=Option.some.inj hv
     refine ⟨_,rfl,a,_,1,.ref b,rfl,rfl,s2.seqT ha,rfl,b,ys,rfl,.inr (s2.seqT hb2),_,rfl,ys.length,xv,di,rfl,s2.den _ _ hden,hzr di (Qh hdi),fun H3 s3=>?_⟩
     rw [hlw]
     exact hQ' _ _ ⟨_,rfl⟩ s3
    ·rintro H2 s2 z hz2
     refine ⟨z,_,rfl,SqL.of aC,?_⟩
     have e:rQ n ws.length (.tuple ds)=(ds.map (eV ws.length)).all id:=by
      show (decide (ds.length=n.toNat) && ds.all (eV ws.length))=_
      rw [decide_eq_true hl,Jv,Xw]
      rfl
     rw [<- e]
     exact k _ ((s1.trans s2).trans (aD.new hz2))
   ·rw [show (!decide (V.int (rs.length:Int)=V.int n))=true by
     rw [decide_eq_false (fun z:V.int (rs.length:Int)=V.int n=>hl (by injection z with z; omega))]; rfl]
    refine eP ?_
    have e:rQ n ws.length (.tuple ds)=false:=by show (decide (ds.length=n.toNat) && ds.all (eV ws.length))=_; rw [decide_eq_false hl,Xa]
    rw [e] at k
    exact k _ s1
  | none=>exact eP (k _ s1)
  | bool _=>exact eP (k _ s1)
  | str _=>exact eP (k _ s1)
  | list _=>exact eP (k _ s1)
  | int _=>exact eP (k _ s1)
  | dict _=>exact eP (k _ s1)
theorem vQ {f:Addr} {fd:FuncData} (G:Fn K mg "are_costs" fV ["book", "thing"] f fd) (B:Bl mg) (R:Pr K mg fW fH fK fB fNB fD fND dW dH dK dB dNB dD dND) (Z:Rf K mg CB CD CC bmB bmD bmC):FnOk P w K mg base (CX1 P w) 5 f fd ["book", "thing"] (oC K CB):=by
 have ON:FnOk P w K mg base (CX1 P w) 4 fNB dNB ["book"] (rR K CB):=tT B R Z
 refine G.fn.okX mS (fun vs H Q E h=>?_) (fun cdv A outer s H vs Q E hr h=>?_)
 ·obtain ⟨x,y,d,rfl,_⟩:=h
  rfl
 ·obtain ⟨x,y,d,rfl,hd,hb,k⟩:=h
  refine ⟨_,aE (bI (kR R.NB ON hr rfl nM (aA (pv 0) aB))) gO,?_⟩
  exact ⟨_,rfl,x,d,rfl,hd,hb,k⟩
def zG (K:PySem.W.Frag) (CB CC:Addr) (H:Hp) (x y:V) (C:Addr):Prop:=(∃ d,Den K H d x/\bZ d=false/\C=CB)∨∃ n ws d,Den K H (cN n ws) x/\bZ (cN n ws)=true/\Den K H d y/\Sz2 d/\rQ n ws.length d=false/\C=CC
theorem zG.same {H H':Hp} {x y:V} {C:Addr} (b:zG K CB CC H x y C) (e:aD H H'):zG K CB CC H' x y C:=by
 rcases b with ⟨d,h1,h2⟩ | ⟨n,ws,d,h1,h2,h3,h4⟩
 ·exact .inl ⟨d,e.den _ _ h1,h2⟩
 ·exact .inr ⟨n,ws,d,e.den _ _ h1,h2,e.den _ _ h3,h4⟩
def mX (K:PySem.W.Frag) (CB CC:Addr):Sp:=fun vs H _ E=>∃ x y C,vs = [x,y]/\zG K CB CC H x y C/\∀ H',aD H H'->E (.ref C) none H'
theorem aBe {f fA fC:Addr} {fd dA dC:FuncData} (G:Fn K mg "need_costs" jT ["book", "costs"] f fd) (B:Bl mg) (R:Pr K mg fW fH fK fB fNB fD fND dW dH dK dB dNB dD dND) (GA:Fn K mg "are_costs" fV ["book", "thing"] fA dA) (GCR:Fn K mg "is_cost_row" fJ ["many", "thing"] fC dC) (Z:Rf K mg CB CD CC bmB bmD bmC):FnOk P w K mg base (CX1 P w) 6 f fd ["book", "costs"] (mX K CB CC):=by
 have OA:FnOk P w K mg base (CX1 P w) 5 fA dA ["book", "thing"] (xS (oC K CB) (pD K)):=(vQ GA B R Z).or (vP GA B R GCR).cx1
 refine G.fn.okX aAo (fun vs H Q E h=>?_) (fun cdv A outer s H vs Q E hr h=>?_)
 ·obtain ⟨x,y,C,rfl,_⟩:=h
  rfl
 ·obtain ⟨x,y,C,rfl,b,k⟩:=h
  refine ⟨_,aF (cF (cV (cU (kR GA OA hr rfl nM (aA (pv 0) (aA (pv 1) aB))))) (aF (qO Z.eC rfl Z.mC rfl (fun _ _ _ _ _ _ _ I m q=>uH I m q))) aW),?_⟩
  rcases b with ⟨d,h1,h2,rfl⟩ | ⟨n,ws,d,h1,h2,h3,h4,h5,rfl⟩
  ·exact ⟨_,rfl,_,rfl,.inl ⟨x,y,d,rfl,h1,h2,k⟩⟩
  ·refine ⟨_,rfl,_,rfl,.inr ⟨x,y,n,ws,d,rfl,h1,h2,h3,h4,fun H' s'=>⟨_,rfl,?_⟩⟩⟩
   rw [h5]
   refine eP ?_
   exact k H' s'
theorem aBf {f fN:Addr} {fd dN:FuncData} (G:Fn K mg "cheapest" mQ ["book", "costs"] f fd) (GNC:Fn K mg "need_costs" jT ["book", "costs"] fN dN) (ON:FnOk P w K mg base (CX1 P w) 6 fN dN ["book", "costs"] (mX K CB CC)):FnOk P w K mg base (CX1 P w) 8 f fd ["book", "costs"] (mX K CB CC):=by
 refine G.fn.okX lZ (fun vs H Q E h=>?_) (fun cdv A outer s H vs Q E hr h=>?_)
 ·obtain ⟨x,y,C,rfl,_⟩:=h
  rfl
 ·obtain ⟨x,y,C,rfl,b,k⟩:=h
  have r6:Room 6 _:=hr.mono (by decide)
  refine ⟨_,aE (bI (kR GNC ON r6 rfl nM (aA (pv 0) (aA (pv 1) aB)))) gO,?_⟩
  exact ⟨_,rfl,_,rfl,x,y,C,rfl,b,k⟩
def aCw (K:PySem.W.Frag) (CB CD CC:Addr) (H:Hp) (x y z:V) (C:Addr):Prop:=Bad K CB CD H x z C∨∃ n ws hs,kM K H x z n ws hs/\zG K CB CC H x y C
def aAw (K:PySem.W.Frag) (CB CD CC:Addr):Sp:=fun vs H _ E=>∃ x y z C,vs = [x,y,z]/\aCw K CB CD CC H x y z C/\∀ H',aD H H'->E (.ref C) none H'
theorem aCx {f fN:Addr} {fd dN:FuncData} (G:Fn K mg "cost_of" kJ ["book", "costs", "deal"] f fd) (B:Bl mg) (R:Pr K mg fW fH fK fB fNB fD fND dW dH dK dB dNB dD dND) (Z:Rf K mg CB CD CC bmB bmD bmC) (GNC:Fn K mg "need_costs" jT ["book", "costs"] fN dN) (ON:FnOk P w K mg base (CX1 P w) 6 fN dN ["book", "costs"] (mX K CB CC)):FnOk P w K mg base (CX1 P w) 7 f fd ["book", "costs", "deal"] (aAw K CB CD CC):=by
 have OND:FnOk P w K mg base (CX1 P w) 6 fND dND ["book", "deal"] (xS (aCv K CB CD) (nV K)):=(tU B R Z).or (nW B R).cx1
 refine G.fn.okX xN (fun vs H Q E h=>?_) (fun cdv A outer s H vs Q E hr h=>?_)
 ·obtain ⟨x,y,z,C,rfl,_⟩:=h
  rfl
 ·obtain ⟨x,y,z,C,rfl,b,k⟩:=h
  have r6:Room 6 _:=hr
  refine ⟨_,aE (bI (kR R.ND OND r6 rfl nM (aA (pv 0) (aA (pv 2) aB)))) (aE (bI (kR GNC ON r6 rfl nM (aA (pv 0) (aA (pv 1) aB)))) gO),?_⟩
  rcases b with b | ⟨n,ws,hs,g,b⟩
  ·exact ⟨_,rfl,_,rfl,.inl ⟨x,z,C,rfl,b,k⟩⟩
  ·exact ⟨_,rfl,_,rfl,.inr ⟨x,z,n,ws,hs,rfl,g,fun H1 s1=>⟨_,rfl,_,rfl,x,y,C,rfl,b.same s1,fun H' s2=>k H' (s1.trans s2)⟩⟩⟩
def aDI (K:PySem.W.Frag) (CB CD CC:Addr):Sp:=fun vs H _ E=>∃ x y z u C,vs = [x,y,z,u]/\aCw K CB CD CC H x y z C/\∀ H',aD H H'->E (.ref C) none H'
theorem aEq {f fN:Addr} {fd dN:FuncData} (G:Fn K mg "are_prices" lM ["book", "costs", "deal", "prices"] f fd) (B:Bl mg) (R:Pr K mg fW fH fK fB fNB fD fND dW dH dK dB dNB dD dND) (Z:Rf K mg CB CD CC bmB bmD bmC) (GNC:Fn K mg "need_costs" jT ["book", "costs"] fN dN) (ON:FnOk P w K mg base (CX1 P w) 6 fN dN ["book", "costs"] (mX K CB CC)):FnOk P w K mg base (CX1 P w) 7 f fd ["book", "costs", "deal", "prices"] (aDI K CB CD CC):=by
 have OND:FnOk P w K mg base (CX1 P w) 6 fND dND ["book", "deal"] (xS (aCv K CB CD) (nV K)):=(tU B R Z).or (nW B R).cx1
 refine G.fn.okX vM (fun vs H Q E h=>?_) (fun cdv A outer s H vs Q E hr h=>?_)
 ·obtain ⟨x,y,z,u,C,rfl,_⟩:=h
  rfl
 ·obtain ⟨x,y,z,u,C,rfl,b,k⟩:=h
  have r6:Room 6 _:=hr
  refine ⟨_,aE (bI (kR R.ND OND r6 rfl nM (aA (pv 0) (aA (pv 2) aB)))) (aE (bI (kR GNC ON r6 rfl nM (aA (pv 0) (aA (pv 1) aB)))) gO),?_⟩
  rcases b with b | ⟨n,ws,hs,g,b⟩
  ·exact ⟨_,rfl,_,rfl,.inl ⟨x,z,C,rfl,b,k⟩⟩
  ·exact ⟨_,rfl,_,rfl,.inr ⟨x,z,n,ws,hs,rfl,g,fun H1 s1=>⟨_,rfl,_,rfl,x,y,C,rfl,b.same s1,fun H' s2=>k H' (s1.trans s2)⟩⟩⟩
end
def nms:List Str:=["NoBook", "NoDeal", "NoCosts", "NoWeights", "TooMany", "NoWay", "NoRooms", "NoWork", "NoHand", "NoText", "NoRow"]
structure Cl (K:PySem.W.Frag) (mg:Str->Option Value) (cE:Addr) (c:Nat->Addr):Prop where
 mc:∀ (i:Nat) (n:Str),nms[i]?=some n->mg n=some (.ref (c i))
 ec:∀ i,i < 11->∀ h:Heap,K.In h->EcH h (c i) (.ref cE::vbm)
 inj:∀ i j,i < 11->j < 11->c i=c j->i=j
 ne:∀ i,i < 11->c i≠cE
 mE:mg "DealError" = some (.ref cE)
 eE:∀ h:Heap,K.In h->EcH h cE vbm
section
variable {P:Program} {w:World} {K:PySem.W.Frag} {mg:Str->Option Value} {base:Heap} {cE:Addr} {c:Nat->Addr}
theorem Cl.has (Z:Cl K mg cE c) {i j:Nat} (hi:i < 11) (hj:j < 11):(Value.ref (c j)::.ref cE::vbm).contains (.ref (c i))=decide (j=i):=by
 by_cases e:j=i
 ·subst e; simp
 ·have h1:(Value.ref (c i)==Value.ref (c j))=false:=by
   rw [beq_eq_false_iff_ne]
   intro z
   injection z with z
   exact e (Z.inj j i hj hi z.symm)
  have h2:(Value.ref (c i)==Value.ref cE)=false:=by
   rw [beq_eq_false_iff_ne]
   intro z
   injection z with z
   exact Z.ne i hi z
  rw [Zv,Zv,h1,h2,decide_eq_false e]
  rfl
theorem Cl.up (Z:Cl K mg cE c) {j:Nat}:(Value.ref (c j)::.ref cE::vbm).contains (.ref cE)=true:=by simp
def aFC (c:Nat->Addr) (i:Nat):TE:=fun σ H Q=>∃ (a:Addr) (j:Nat),σ[0]?=some (some (.ref a))/\H a=some (ExO (c j) a)/\j < 11/\Q (.bl (decide (j=i))) H
theorem jJ {X:Cx} {n x:Str} {i:Nat} {p p1 p2 pos:Pos} (Z:Cl K mg cE c) (B:Bl mg) (hK:X.K=K) (hmg:X.mg=mg) (hN:nms[i]?=some n) (hg:Gl X "isinstance") (hgn:Gl X n) (h0:X.N[0]?=some x) (hx:X.env.scope.names.lookup x=some .local)
  (hd:(x==("__debug__" : Str))=false:=by decide) (hcd:(x==("__classdict__" : Str))=false:=by decide) (hdn:(n==("__debug__" : Str))=false:=by decide)
  (he:starEach [.Name x p1,.Name n p2] X.env=(false,eval (.Name x p1) X.env)::starEach [.Name n p2] X.env:=by rfl) (hpl:(backTo pos (starEach [.Name n p2] X.env)).any (·.1)=false:=by rfl) :
  PE X (.Call (.Name "isinstance" p) [.Name x p1,.Name n p2] [] pos) (aFC c i):=by
 have hi:i < 11:=(Qd.mp hN).1
 have hC':∀ h:Heap,K.In h->∃ dd cd sl,h.get? (c i)=some { cls:=.type "type",dict:=dd,data:=.cls cd,slots:=sl }:=fun h hin=>by
  obtain ⟨N,nm,q,bs,hdct,sn,sub,ab,col,dd,k0,k1,k2,k3,k5,mN,hC,_⟩:=Z.ec i hi h hin
  exact ⟨_,_,_,hC⟩
 have J:PE X (.Call (.Name "isinstance" p) [.Name x p1,.Name n p2] [] pos) _:=aL (nN (X:=X) (K:=K) (C':=c i) hK hC') hg (by rw [hmg]; exact B.isinstance) jO (aA (pv 0 h0 (.inl hx) hd hcd) (aA (lV (v:=.ref (c i)) hgn (by rw [hmg]; exact Z.mc i n hN) rfl hdn) aB)) (by decide) (by decide) he hpl
 intro pins s σ H Q I h
 obtain ⟨a,j,e0,hH,hj,q⟩:=h
 refine J pins s σ H Q I ⟨_,e0,a,c j,_,rfl,hH,Z.ec j hj,?_⟩
 rw [Z.has hi hj]
 exact q
def zH (j:Nat):List Bool:=[decide (j=0),decide (j=1),decide (j=2),decide (j=3),decide (j=4),decide (j=5),decide (j=6),decide (j=7),decide (j=8),decide (j=9),decide (j=10)]
theorem sz3 (x y z:V) : [x,y,z].length<=sizeLine:=by rw [sizeLine_eq]; simp
def aFa (c:Nat->Addr):TE:=fun σ H Q=>∃ (a:Addr) (j:Nat),σ[0]?=some (some (.ref a))/\H a=some (ExO (c j) a)/\j < 11/\Q (.bl true) H
theorem aDr {X:Cx} {x:Str} {p p1 p2 pos:Pos} (Z:Cl K mg cE c) (B:Bl mg) (hK:X.K=K) (hmg:X.mg=mg) (hg:Gl X "isinstance") (hgn:Gl X "DealError") (h0:X.N[0]?=some x) (hx:X.env.scope.names.lookup x=some .local)
  (hd:(x==("__debug__" : Str))=false:=by decide) (hcd:(x==("__classdict__" : Str))=false:=by decide)
  (he:starEach [.Name x p1,.Name "DealError" p2] X.env=(false,eval (.Name x p1) X.env)::starEach [.Name "DealError" p2] X.env:=by rfl) (hpl:(backTo pos (starEach [.Name "DealError" p2] X.env)).any (·.1)=false:=by rfl) :
  PE X (.Call (.Name "isinstance" p) [.Name x p1,.Name "DealError" p2] [] pos) (aFa c):=by
 have hC':∀ h:Heap,K.In h->∃ dd cd sl,h.get? cE=some { cls:=.type "type",dict:=dd,data:=.cls cd,slots:=sl }:=fun h hin=>by
  obtain ⟨N,nm,q,bs,hdct,sn,sub,ab,col,dd,k0,k1,k2,k3,k5,mN,hC,_⟩:=Z.eE h hin
  exact ⟨_,_,_,hC⟩
 have J:PE X (.Call (.Name "isinstance" p) [.Name x p1,.Name "DealError" p2] [] pos) _:=aL (nN (X:=X) (K:=K) (C':=cE) hK hC') hg (by rw [hmg]; exact B.isinstance) jO (aA (pv 0 h0 (.inl hx) hd hcd) (aA (lV (v:=.ref cE) hgn (by rw [hmg]; exact Z.mE) rfl (by decide)) aB)) (by decide) (by decide) he hpl
 intro pins s σ H Q I h
 obtain ⟨a,j,e0,hH,hj,q⟩:=h
 refine J pins s σ H Q I ⟨_,e0,a,c j,_,rfl,hH,Z.ec j hj,?_⟩
 rw [Z.up]
 exact q
theorem aFD:bootBuiltins "ValueError" = some (.type "ValueError"):=by decide +kernel
theorem aCy:∀ j,j < 11->(zH j).count true=1:=by decide +kernel
theorem aFb:∀ j,j < 11->(zH j)[j]?=some true:=by decide +kernel
theorem aFc:∀ j,j < 11->∀ m,m < j->(zH j)[m]?≠some true:=by decide +kernel
def aCz:List Str:=["book", "deal", "costs"]
def aAx (c:Nat->Addr):Sp:=fun vs H Q _=>∃ (a:Addr) (j:Nat) (t:Str),vs = [.ref a]/\H a=some (ExO (c j) a)/\j < 3/\aCz[j]?=some t/\∀ H',aD H H'->Q (.str t) H'
theorem oE:FnScope ["caught", "some"] ["caught"] (aI vA):=⟨rfl,rfl,rfl,by decide +kernel,rfl,by decide +kernel,by decide +kernel⟩
set_option maxHeartbeats 2000000 in
theorem aCA {f:Addr} {fd:FuncData} (G:Fn K mg "_law_akind2" vA ["caught"] f fd) (B:Bl mg) (Z:Cl K mg cE c):FnOk P w K mg base CX0 1 f fd ["caught"] (aAx c):=by
 refine G.fn.ok oE (fun vs H Q E h=>?_) (fun cdv A outer s H vs Q E hr h=>?_)
 ·obtain ⟨a,j,t,rfl,_⟩:=h
  rfl
 ·obtain ⟨a,j,t,rfl,hH,hj3,ht,k⟩:=h
  have hj:j < 11:=by omega
  refine ⟨_,PSso.go (kA ⟨aS (i:=1) oE.nd rfl (Or.inl rfl) (bW (aA (jJ (i:=0) Z B rfl rfl rfl rfl rfl rfl rfl) (aA (jJ (i:=1) Z B rfl rfl rfl rfl rfl rfl rfl) (aA (jJ (i:=2) Z B rfl rfl rfl rfl rfl rfl rfl) aB))))⟩
   (kA ⟨aS (i:=1) oE.nd rfl (Or.inl rfl) (aT lF (pv 1) (bW (aA (jJ (i:=3) Z B rfl rfl rfl rfl rfl rfl rfl) (aA (jJ (i:=4) Z B rfl rfl rfl rfl rfl rfl rfl) (aA (jJ (i:=5) Z B rfl rfl rfl rfl rfl rfl rfl) aB)))))⟩
   (kA ⟨aS (i:=1) oE.nd rfl (Or.inl rfl) (aT lF (pv 1) (bW (aA (jJ (i:=6) Z B rfl rfl rfl rfl rfl rfl rfl) (aA (jJ (i:=7) Z B rfl rfl rfl rfl rfl rfl rfl) (aA (jJ (i:=8) Z B rfl rfl rfl rfl rfl rfl rfl) aB)))))⟩
   (kA ⟨aS (i:=1) oE.nd rfl (Or.inl rfl) (aT lF (pv 1) (bW (aA (jJ (i:=9) Z B rfl rfl rfl rfl rfl rfl rfl) (aA (jJ (i:=10) Z B rfl rfl rfl rfl rfl rfl rfl) aB))))⟩
   (kA ⟨cF (PW.pt (jX (bE iX (vH (K:=K) rfl PySem.F.plainAttrs_list PySem.F.slot_list_count PySem.F.type_list_count (yL (K:=K) rfl) (pv 1) (aA dO aB)) aG (bJ _)) (jX (cV (cU (aDr Z B rfl rfl rfl rfl rfl rfl)))
    (jC (cV (cU (aL (wN (K:=K) rfl) rfl B.isinstance jO (aA (pv 0) (aA (gJ (v:=.ty "ValueError") rfl B.ve aFD rfl) aB))))))))) (aF (aQ gB)) aW⟩
   (aBM ⟨aQ (bS iJ (aT lF (bW (aA gB (aA gB (aA gB aB)))) (aT aD6 (bW (aA gB aB)) aG)) (vH (K:=K) rfl PySem.F.plainAttrs_list PySem.F.slot_list_index PySem.F.type_list_index (yM (K:=K) rfl) (pv 1) (aA dO aB)) (fun _ _=>rfl))⟩)))))),?_⟩
  refine ⟨a,j,rfl,hH,hj,a,j,rfl,hH,hj,a,j,rfl,hH,hj,sz3 _ _ _,fun p1 hp1=>?_⟩
  have s1:=aD.new (o:=.lst [.bl (decide (j=0)),.bl (decide (j=1)),.bl (decide (j=2))]) hp1
  have e1:upd H p1 (.lst [.bl (decide (j=0)),.bl (decide (j=1)),.bl (decide (j=2))]) p1=_:=aC
  have h1:=s1 _ _ hH
  generalize upd H p1 (.lst [.bl (decide (j=0)),.bl (decide (j=1)),.bl (decide (j=2))])=H1 at s1 e1 h1 ⊢
  refine ⟨_,rfl,a,j,rfl,h1,hj,a,j,rfl,h1,hj,a,j,rfl,h1,hj,sz3 _ _ _,fun p2 hp2=>?_⟩
  refine ⟨_,_,_,_,rfl,rfl,(aD.new hp2) _ _ e1,aC,by rw [sizeLine_eq]; simp,fun p3 hp3=>?_⟩
  have s3:=(aD.new (o:=.lst [.bl (decide (j=3)),.bl (decide (j=4)),.bl (decide (j=5))]) hp2).trans (aD.new (o:=.lst ([.bl (decide (j=0)),.bl (decide (j=1)),.bl (decide (j=2))]++[.bl (decide (j=3)),.bl (decide (j=4)),.bl (decide (j=5))])) hp3)
  have e3:upd (upd H1 p2 (.lst [.bl (decide (j=3)),.bl (decide (j=4)),.bl (decide (j=5))])) p3 (.lst ([.bl (decide (j=0)),.bl (decide (j=1)),.bl (decide (j=2))]++[.bl (decide (j=3)),.bl (decide (j=4)),.bl (decide (j=5))])) p3=_:=aC
  have h3:=s3 _ _ h1
  generalize upd (upd H1 p2 (.lst [.bl (decide (j=3)),.bl (decide (j=4)),.bl (decide (j=5))])) p3 (.lst ([.bl (decide (j=0)),.bl (decide (j=1)),.bl (decide (j=2))]++[.bl (decide (j=3)),.bl (decide (j=4)),.bl (decide (j=5))]))=H3 at s3 e3 h3 ⊢
  refine ⟨_,rfl,a,j,rfl,h3,hj,a,j,rfl,h3,hj,a,j,rfl,h3,hj,sz3 _ _ _,fun p4 hp4=>?_⟩
  have s4:=aD.new (o:=.lst [.bl (decide (j=6)),.bl (decide (j=7)),.bl (decide (j=8))]) hp4
  have e4:upd H3 p4 (.lst [.bl (decide (j=6)),.bl (decide (j=7)),.bl (decide (j=8))]) p4=_:=aC
  have e34:=s4 _ _ e3
  generalize upd H3 p4 (.lst [.bl (decide (j=6)),.bl (decide (j=7)),.bl (decide (j=8))])=H4 at s4 e4 e34 ⊢
  refine ⟨_,_,_,_,rfl,rfl,e34,e4,by rw [sizeLine_eq]; simp,fun p5 hp5=>?_⟩
  have s5:=aD.new (o:=.lst ([.bl (decide (j=0)),.bl (decide (j=1)),.bl (decide (j=2))]++[.bl (decide (j=3)),.bl (decide (j=4)),.bl (decide (j=5))]++[.bl (decide (j=6)),.bl (decide (j=7)),.bl (decide (j=8))])) hp5
  have e5:upd H4 p5 (.lst ([.bl (decide (j=0)),.bl (decide (j=1)),.bl (decide (j=2))]++[.bl (decide (j=3)),.bl (decide (j=4)),.bl (decide (j=5))]++[.bl (decide (j=6)),.bl (decide (j=7)),.bl (decide (j=8))])) p5=_:=aC
  have h5:=s5 _ _ (s4 _ _ h3)
  generalize upd H4 p5 (.lst ([.bl (decide (j=0)),.bl (decide (j=1)),.bl (decide (j=2))]++[.bl (decide (j=3)),.bl (decide (j=4)),.bl (decide (j=5))]++[.bl (decide (j=6)),.bl (decide (j=7)),.bl (decide (j=8))]))=H5 at s5 e5 h5 ⊢
  refine ⟨_,rfl,a,j,rfl,h5,hj,a,j,rfl,h5,hj,sz2 _ _,fun p6 hp6=>?_⟩
  have s6:=aD.new (o:=.lst [.bl (decide (j=9)),.bl (decide (j=10))]) hp6
  have e6:upd H5 p6 (.lst [.bl (decide (j=9)),.bl (decide (j=10))]) p6=_:=aC
  have e56:=s6 _ _ e5
  generalize upd H5 p6 (.lst [.bl (decide (j=9)),.bl (decide (j=10))])=H6 at s6 e6 e56 ⊢
  refine ⟨_,_,_,_,rfl,rfl,e56,e6,by rw [sizeLine_eq]; simp,fun p hp0=>?_⟩
  have s7:=aD.new (o:=.lst ([.bl (decide (j=0)),.bl (decide (j=1)),.bl (decide (j=2))]++[.bl (decide (j=3)),.bl (decide (j=4)),.bl (decide (j=5))]++[.bl (decide (j=6)),.bl (decide (j=7)),.bl (decide (j=8))]++[.bl (decide (j=9)),.bl (decide (j=10))])) hp0
  have hp:upd H6 p (.lst ([.bl (decide (j=0)),.bl (decide (j=1)),.bl (decide (j=2))]++[.bl (decide (j=3)),.bl (decide (j=4)),.bl (decide (j=5))]++[.bl (decide (j=6)),.bl (decide (j=7)),.bl (decide (j=8))]++[.bl (decide (j=9)),.bl (decide (j=10))])) p=some (.lst ((zH j).map V.bl)):=by rw [aC]; rfl
  have h7:=s7 _ _ (s6 _ _ h5)
  generalize upd H6 p (.lst ([.bl (decide (j=0)),.bl (decide (j=1)),.bl (decide (j=2))]++[.bl (decide (j=3)),.bl (decide (j=4)),.bl (decide (j=5))]++[.bl (decide (j=6)),.bl (decide (j=7)),.bl (decide (j=8))]++[.bl (decide (j=9)),.bl (decide (j=10))]))=H7 at s7 hp h7 ⊢
  have s07:=s1.trans (s3.trans (s4.trans (s5.trans (s6.trans s7))))
  have ec:((zH j).count true:Int)=1:=by rw [aCy j hj]; rfl
  refine ⟨_,rfl,.inl ⟨rfl,_,SqL.of hp⟩,p,zH j,true,rfl,rfl,SqL.of hp,rfl,_,rfl,?_⟩
  rw [ec]
  refine eO ?_
  refine ⟨a,j,rfl,h7,hj,_,rfl,?_⟩
  refine eO ?_
  refine ⟨_,rfl,a,c j,_,rfl,h7,Z.ec j hj,_,rfl,?_⟩
  refine eO ?_
  refine ⟨sz3 _ _ _,fun q1 hq1=>⟨sz1 _,fun q2 hq2=>?_⟩⟩
  have g1:=aD.new (o:=.lst [.str "book",.str "deal",.str "costs"]) hq1
  have f1:upd H7 q1 (.lst [.str "book",.str "deal",.str "costs"]) q1=_:=aC
  generalize upd H7 q1 (.lst [.str "book",.str "deal",.str "costs"])=H8 at g1 f1 hq2 ⊢
  have g2:=aD.new (o:=.lst [.str "odd"]) hq2
  have f2:upd H8 q2 (.lst [.str "odd"]) q2=_:=aC
  have f12:=g2 _ _ f1
  generalize upd H8 q2 (.lst [.str "odd"])=H9 at g2 f2 f12 ⊢
  refine ⟨q2,8,_,rfl,rfl,f2,by decide,by decide,eA (by simp),fun q3 hq3=>?_⟩
  have g3:=aD.new (o:=.lst (List.replicate (Int.toNat 8) [V.str "odd"]).flatten) hq3
  have f3:upd H9 q3 (.lst (List.replicate (Int.toNat 8) [V.str "odd"]).flatten) q3=_:=aC
  have f13:=g3 _ _ f12
  generalize upd H9 q3 (.lst (List.replicate (Int.toNat 8) [V.str "odd"]).flatten)=H10 at g3 f3 f13 ⊢
  refine ⟨q1,q3,_,_,rfl,rfl,f13,f3,eA (by decide),fun q4 hq4=>?_⟩
  have g4:=aD.new (o:=.lst ([.str "book",.str "deal",.str "costs"]++(List.replicate (Int.toNat 8) [V.str "odd"]).flatten)) hq4
  have f4:upd H10 q4 (.lst ([.str "book",.str "deal",.str "costs"]++(List.replicate (Int.toNat 8) [V.str "odd"]).flatten)) q4=_:=aC
  have g04:=g1.trans (g2.trans (g3.trans g4))
  generalize upd H10 q4 (.lst ([.str "book",.str "deal",.str "costs"]++(List.replicate (Int.toNat 8) [V.str "odd"]).flatten))=H11 at g4 f4 g04 ⊢
  have hp11:=g04 _ _ hp
  have hat:atI ([V.str "book",.str "deal",.str "costs"]++(List.replicate (Int.toNat 8) [V.str "odd"]).flatten) (j:Int)=some (.str t):=by
   refine eR ?_
   rw [Qv (show j < 3 from hj3)]
   match j,hj3,ht with
   | 0,_,e=>cases e; rfl
   | 1,_,e=>cases e; rfl
   | 2,_,e=>cases e; rfl
  refine ⟨_,rfl,.inl ⟨rfl,_,SqL.of hp11⟩,p,zH j,true,j,rfl,rfl,SqL.of hp11,aFb j hj,aFc j hj,q4,_,j,.str t,rfl,rfl,SqL.of f4,hat,?_⟩
  exact k _ (s07.trans g04)
theorem Cl.rf (Z:Cl K mg cE c):Rf K mg (c 0) (c 1) (c 2) (.ref cE::vbm) (.ref cE::vbm) (.ref cE::vbm):=⟨Z.mc 0 _ rfl,Z.mc 1 _ rfl,Z.mc 2 _ rfl,Z.ec 0 (by decide),Z.ec 1 (by decide),Z.ec 2 (by decide)⟩
variable {fW fH fK fB fNB fD fND:Addr} {dW dH dK dB dNB dD dND:FuncData}
def aEr (K:PySem.W.Frag) (CB CD CC:Addr) (H:Hp) (door:Int) (x y z:V) (C:Addr):Prop:=(∃ d,Den K H d x/\bZ d=false/\C=CB)∨(door=0/\zG K CB CC H x y C)∨(1<=door/\aCw K CB CD CC H x y z C)
structure Told (K:PySem.W.Frag) (Pt:Addr) (H:Hp) (x y z:V) (n:Int) (ws cs:List (List Int)) (hs:List Int) (q:Addr):Prop where
 g:kM K H x z n ws hs
 ey:y=.ref q
 co:Den K H (iG cs) (.ref q)
 cok:gM n ws.length cs
 tb:H Pt=some (.tab vO)
def vR (K:PySem.W.Frag) (c:Nat->Addr) (Pt:Addr):Sp:=fun vs H Q _=>∃ door x y z,vs = [.int door,x,y,z]/\0<=door/\door<=2 /\
 ((∃ n ws cs hs q,Told K Pt H x y z n ws cs hs q/\∀ H',aD H H'->Q (.str "") H')∨∃ (j:Nat) (t:Str),j < 3/\aCz[j]?=some t/\aEr K (c 0) (c 1) (c 2) H door x y z (c j)/\∀ H',aD H H'->Q (.str t) H')
theorem vS:FnScope ["door", "book", "costs", "deal", "caught", "e"] ["door", "book", "costs", "deal"] (aI vB):=⟨rfl,rfl,rfl,by decide +kernel,rfl,by decide +kernel,by decide +kernel⟩
set_option maxHeartbeats 2000000 in
theorem aCB {f fK' fCh fCF fAP Pt:Addr} {fd dK' dCh dCF dAP:FuncData} (G:Fn K mg "_law_aword" vB ["door", "book", "costs", "deal"] f fd) (GK:Fn K mg "_law_akind2" vA ["caught"] fK' dK') (B:Bl mg) (Z:Cl K mg cE c)
  (GCh:Fn K mg "cheapest" mQ ["book", "costs"] fCh dCh) (OCh:FnOk P w K mg base (CX1 P w) 8 fCh dCh ["book", "costs"] (xS (mX K (c 0) (c 2)) (aAu K Pt)))
  (GCF:Fn K mg "cost_of" kJ ["book", "costs", "deal"] fCF dCF) (OCF:FnOk P w K mg base (CX1 P w) 7 fCF dCF ["book", "costs", "deal"] (xS (aAw K (c 0) (c 1) (c 2)) (rJ K)))
  (GAP:Fn K mg "are_prices" lM ["book", "costs", "deal", "prices"] fAP dAP) (OAP:FnOk P w K mg base (CX1 P w) 7 fAP dAP ["book", "costs", "deal", "prices"] (xS (aDI K (c 0) (c 1) (c 2)) (aAq K))):FnOk P w K mg base CX0 9 f fd ["door", "book", "costs", "deal"] (vR K c Pt):=by
 have OK:FnOk P w K mg base CX0 1 fK' dK' ["caught"] (aAx c):=aCA GK B Z
 refine G.fn.ok vS (fun vs H Q E h=>?_) (fun cdv A outer s H vs Q E hr h=>?_)
 ·obtain ⟨door,x,y,z,rfl,_⟩:=h
  rfl
 ·obtain ⟨door,x,y,z,rfl,w0,w2,k⟩:=h
  have h1:Room 1 _:=hr.mono (by decide)
  have h7:Room 7 _:=hr.mono (by decide)
  have h8:Room 8 _:=hr
  refine ⟨_,aE (aS (i:=4) vS.nd rfl (Or.inl rfl) gU)
   (aE (aEd (i:=4) (j:=5) (aDC (bE wA (pv 0) aG (bJ _)) (uJ OCh h8 rfl GCh.mgx GCh.kp GCh.bd .nil (aA (pv 1) (aA (pv 2) aB)))
    (aDC (bE wA (pv 0) aG (bJ _)) (uJ OCF h7 rfl GCF.mgx GCF.kp GCF.bd .nil (aA (pv 1) (aA (pv 2) (aA (pv 3) aB))))
     (uJ OAP h7 rfl GAP.mgx GAP.kp GAP.bd .nil (aA (pv 1) (aA (pv 2) (aA (pv 3) (aA (aX (aA aG (aA aG aB))) aB))))))) rfl rfl rfl rfl Z.mE Z.eE vS.nd rfl rfl (by decide) rfl rfl)
   (aE (cF (bE aDW (pv 4) gU (bJ _)) (aF (aQ gB)) aW)
   (aF (aQ (bB GK OK h1 rfl (aA (pv 4) aB)))))),?_⟩
  have iw:∀ {n:Int},decide (V.int door=V.int n)=true->door=n:=fun {n} c=>by
   have:=of_decide_eq_true c
   injection this
  have nw:∀ {n:Int},¬ decide (V.int door=V.int n)=true->door≠n:=fun {n} c z=>c (decide_eq_true (by rw [z]))
  refine ⟨_,rfl,rfl,_,rfl,?_⟩
  refine gE (fun cc=>?_) (fun cc=>?_)
  ·have e:=iw cc
   refine ⟨_,rfl,_,rfl,?_⟩
   rcases k with ⟨n,ws,cs,hs,q,T,k⟩ | ⟨j,t,hj,ht,r,k⟩
   ·obtain rfl:=T.ey
    refine .inr ⟨x,q,n,ws,cs,rfl,T.g.1,T.g.2.1,T.co,T.cok,T.tb,fun p dp pp c0 hs2 ps2 H1 s1 _ _ _ _ _=>?_⟩
    refine ⟨_,rfl,rfl,_,rfl,?_⟩
    exact eP (k H1 s1)
   ·refine .inl ⟨x,y,c j,rfl,?_,fun H' s1=>⟨c j,_,rfl,Z.ec j (by omega),Z.up,fun a ha=>?_⟩⟩
    ·rcases r with r | ⟨_,r⟩ | ⟨r,_⟩
     ·exact .inl r
     ·exact r
     ·omega
    ·refine ⟨_,rfl,rfl,_,rfl,?_⟩
     refine eO ?_
     exact ⟨_,rfl,a,j,t,rfl,aC,hj,ht,fun H2 s2=>k H2 (s1.trans ((aD.new ha).trans s2))⟩
  have d0:=nw cc
  have bad:∀ {j:Nat},aEr K (c 0) (c 1) (c 2) H door x y z (c j)->aCw K (c 0) (c 1) (c 2) H x y z (c j):=fun r=>by
   rcases r with r | ⟨h,_⟩ | ⟨_,r⟩
   ·exact .inl (.inl r)
   ·omega
   ·exact r
  refine ⟨_,rfl,rfl,_,rfl,?_⟩
  refine gE (fun cc=>?_) (fun cc=>?_)
  ·refine ⟨_,rfl,_,rfl,_,rfl,?_⟩
   rcases k with ⟨n,ws,cs,hs,q,T,k⟩ | ⟨j,t,hj,ht,r,k⟩
   ·obtain rfl:=T.ey
    refine .inr ⟨x,z,q,n,ws,cs,hs,rfl,T.g,T.co,T.cok,fun c0 H1 s1=>?_⟩
    refine ⟨_,rfl,rfl,_,rfl,?_⟩
    exact eP (k H1 s1)
   ·refine .inl ⟨x,y,z,c j,rfl,bad r,fun H' s1=>⟨c j,_,rfl,Z.ec j (by omega),Z.up,fun a ha=>?_⟩⟩
    refine ⟨_,rfl,rfl,_,rfl,?_⟩
    refine eO ?_
    exact ⟨_,rfl,a,j,t,rfl,aC,hj,ht,fun H2 s2=>k H2 (s1.trans ((aD.new ha).trans s2))⟩
  ·refine ⟨_,rfl,_,rfl,_,rfl,sz2 _ _,fun tp htp=>?_⟩
   have s0:=aD.new (o:=.tup [.int 1,.int 2]) htp
   rcases k with ⟨n,ws,cs,hs,q,T,k⟩ | ⟨j,t,hj,ht,r,k⟩
   ·obtain rfl:=T.ey
    refine .inr ⟨x,z,q,tp,n,ws,cs,hs,[1,2],rfl,T.g.same s0,s0.den _ _ T.co,T.cok,SqT.of aC,by decide,fun H1 s1=>?_⟩
    refine ⟨_,rfl,rfl,_,rfl,?_⟩
    exact eP (k H1 (s0.trans s1))
   ·have b3:aCw K (c 0) (c 1) (c 2) (upd H tp (.tup [.int 1,.int 2])) x y z (c j):=by
     rcases bad r with b | ⟨n,ws,hs,g,b⟩
     ·exact .inl (b.same s0)
     ·exact .inr ⟨n,ws,hs,g.same s0,b.same s0⟩
    refine .inl ⟨x,y,z,.ref tp,c j,rfl,b3,fun H' s1=>⟨c j,_,rfl,Z.ec j (by omega),Z.up,fun a ha=>?_⟩⟩
    refine ⟨_,rfl,rfl,_,rfl,?_⟩
    refine eO ?_
    exact ⟨_,rfl,a,j,t,rfl,aC,hj,ht,fun H2 s2=>k H2 (s0.trans (s1.trans ((aD.new ha).trans s2)))⟩
end
end Ab
namespace L2
open PySem
section
variable {K:PySem.W.Frag} {H:Hp} {σ:St}
theorem aEs {i j:Nat} {c:Addr} {m:Nat} {y:V} {xs:List V} {tx:TE} {Q:VK} (hi:σ[i]?=some (some (.ref c))) (hj:σ[j]?=some (some (.int m))) (hc:SqT K H c xs) (hl:xs.length<=100)
  (hx:∀ H1,aD H H1->∀ Q1:VK,(∀ H2,aD H1 H2->Q1 y H2)->tx σ H1 Q1) (k:∀ r H',aD H H'->SqT K H' r (xs.take m++[y]++xs.drop (m+1))->Q (.ref r) H') :
  tOp (kX K) (tOp (kX K) (tSl (pG K) (gT i) gK (kW (gT j))) (qB (gD tx jK))) (tSl (pG K) (gT i) (kW (tOp (rI0 fun i j=>.int (i+j)) (gT j) (tC (.int 1)))) gK) σ H Q:=by
 refine ⟨_,hi,_,hj,_,rfl,c,_,rfl,hc,fun r1 H1 s1 g1=>?_⟩
 rw [kI] at g1
 refine hx H1 s1 _ fun H2 s2=>⟨by rw [sizeLine_eq]; simp,fun r2 hr2=>?_⟩
 have l1:(xs.take m).length<=100:=by rw [Qu]; omega
 refine ⟨r1,r2,_,_,rfl,rfl,(s2.trans (aD.new hr2)).seqT g1,SqT.of aC,by rw [sizeLine_eq]; show _+1<=_; omega,fun r3 H3 s3 g3=>?_⟩
 have s03:=s1.trans (s2.trans ((aD.new (o:=.tup [y]) hr2).trans s3))
 refine ⟨_,hi,_,hj,_,_,rfl,rfl,_,rfl,c,_,rfl,s03.seqT hc,fun r4 H4 s4 g4=>?_⟩
 rw [show (m:Int)+1=((m+1:Nat):Int) by omega,eW] at g4
 have l4:(xs.drop (m+1)).length<=100:=by rw [Ja]; omega
 exact ⟨r3,r4,_,_,rfl,rfl,s4.seqT g3,g4,by rw [sizeLine_eq,Qe]; show _+1+_<=_; omega,fun r5 H5 s5 g5=>k r5 H5 (s03.trans (s4.trans s5)) g5⟩
theorem fO {t u:TS} {D:Ends} {σ:St} {H:Hp} (I:St->Hp->Prop) (h1:∀ N:St->Hp->Prop,(∀ σ' H',I σ' H'->N σ' H')->t { D with nx:=N } σ H) (h2:∀ σ' H',I σ' H'->u D σ' H'):aBo t u D σ H:=h1 _ h2
theorem Vw.nil {H:Hp}:aD H (Vw [] H):=fun b o h=>by rw [Vw.out (by simp)]; exact h
theorem Vw.grow {S:List Addr} {H:Hp} {p:Addr} {o:HO} (h:H p=none):aD (Vw S H) (Vw (p::S) (upd H p o)):=fun b u e=>by
 have hb:b∉S:=fun z=>by unfold Vw at e; rw [if_pos z] at e; cases e
 rw [Vw.out hb] at e
 have n:b≠p:=fun z=>by rw [z,h] at e; cases e
 rw [Vw.out (fun z=>by rcases Qj.mp z with z | z; exact n z; exact hb z),aH n]
 exact e
end
end L2
namespace Ab
open PySem L2
theorem rT {ws:List (List Int)} {ds:List PyData} (h:ds.length≠ws.length):gA ws (.tuple ds)=false:=by
 show (decide (ds.length=ws.length) && _)=false
 rw [decide_eq_false h,Xa]
theorem aBg {ws:List (List Int)} {dA dB:List PyData} {d:PyData} {l:List Int} (hl:ws[dA.length]?=some l) (h:eK d l=false):gA ws (.tuple (dA++[d]++dB))=false:=by
 show (decide ((dA++[d]++dB).length=ws.length) && ((dA++[d]++dB).zip ws).all fun p=>eK p.1 p.2)=false
 have hlt:dA.length < ws.length:=(Qd.mp hl).1
 have:((dA++[d]++dB).zip ws).all (fun p=>eK p.1 p.2)=false:=by
  rw [Zj]
  refine ⟨(d,l),?_,by simp [h]⟩
  refine Jz.mpr ⟨dA.length,?_⟩
  rw [Jl]
  exact ⟨by simp,hl⟩
 rw [this,Xo]
theorem mY {i:Int} {l:List Int} (h:∀ x∈l,x≠i):eK (.int i) l=false:=by
 show l.any (·==i)=false
 rw [List.any_eq_false]
 intro x hx
 simpa using h x hx
theorem But.vw {t:Addr} {S:List Addr} {H H':Hp} (e:But t H H') (h:t∈S):aD (Vw S H) (Vw S H'):=Vw.keep fun b o n q=>e b o (fun z=>n (z ▸ h)) q
def DeP (K:PySem.W.Frag) (R:PyData->Prop) (S:List Addr) (H:Hp) (z:V):Prop:=∃ d,Den K (Vw S H) d z/\R d
theorem DeP.keep {K:PySem.W.Frag} {R:PyData->Prop} {S S':List Addr} {H H':Hp} {z:V} (h:DeP K R S H z) (e:aD (Vw S H) (Vw S' H')):DeP K R S' H' z:=let ⟨d,h1,h2⟩:=h; ⟨d,e.den _ _ h1,h2⟩
structure LI (K:PySem.W.Frag) (R:PyData->Prop) (H0:Hp) (fl:Addr) (N:Nat) (H:Hp):Prop where
 same:aD H0 H
 has:∃ xs,H fl=some (.lst xs)/\xs.length<=N/\∀ z∈xs,DeP K R [fl] H z
theorem LI.fx {K:PySem.W.Frag} {R:PyData->Prop} {H0 H:Hp} {fl:Addr} {N:Nat} (I:LI K R H0 fl N H):Fx [fl] H:=fun b hb=>by rw [Qp.mp hb]; obtain ⟨xs,h,_⟩:=I.has; exact ⟨_,h⟩
theorem LI.next {K:PySem.W.Frag} {R:PyData->Prop} {H0 H H':Hp} {fl:Addr} {N M:Nat} (I:LI K R H0 fl N H) (s:aD H H') (h:N<=M):LI K R H0 fl M H' :=
 ⟨I.same.trans s,let ⟨xs,h1,h2,h3⟩:=I.has; ⟨xs,s _ _ h1,Qw h2 h,fun z hz=>(h3 z hz).keep (Vw.same s)⟩⟩
theorem LI.app {K:PySem.W.Frag} {R:PyData->Prop} {H0 H H1:Hp} {fl:Addr} {N:Nat} {z:V} (hf:H0 fl=none) (I:LI K R H0 fl N H) (s:aD H H1) (hz:DeP K R [fl] H1 z) (hN:N<=1000) :
  ∃ xs,H1 fl=some (.lst xs)/\xs.length < sizeLine/\LI K R H0 fl (N+1) (upd H1 fl (.lst (xs++[z]))):=by
 obtain ⟨xs,h1,h2,h3⟩:=I.has
 refine ⟨xs,s _ _ h1,by rw [sizeLine_eq]; omega,fun b o h=>?_,_,aC,by rw [Qe]; show _+1<=_; omega,fun y hy=>?_⟩
 ·rw [aH (fun e=>by rw [e,hf] at h; cases h)]
  exact s _ _ (I.same _ _ h)
 ·have kp:aD (Vw [fl] H1) (Vw [fl] (upd H1 fl (.lst (xs++[z])))):=But.vw (t:=fl) But.at (Qp.mpr rfl)
  rcases Qx.mp hy with hy | hy
  ·exact ((h3 y hy).keep (Vw.same s)).keep kp
  ·rw [Qp.mp hy]
   exact hz.keep kp
theorem vT {K:PySem.W.Frag} {R:PyData->Prop} {H0 H:Hp} {fl:Addr} {N:Nat} {σ:St} {D:Ends} {q:Nat} {te:TE} (hf:H0 fl=none) (I:LI K R H0 fl N H) (hN:N<=1000) (hq:σ[q]?=some (some (.ref fl)))
  (he:∀ Q:VK,(∀ z H',aD H H'->DeP K R [fl] H' z->Q z H')->te σ H Q) (k:∀ H',But fl H H'->LI K R H0 fl (N+1) H'->D.nx σ H'):zL (tBM K "list" pJ (gT q) (gD te jK)) D σ H:=by
 obtain ⟨xs0,h1,_⟩:=I.has
 refine ⟨_,hq,.inl ⟨rfl,_,SqL.of h1⟩,he _ fun z H1 s1 hz=>?_⟩
 obtain ⟨xs,e1,e2,I2⟩:=LI.app hf I s1 hz hN
 exact ⟨fl,xs,z,rfl,rfl,e1,e2,k _ ((But.of s1).trans But.at) I2⟩
theorem aAy {K:PySem.W.Frag} {R:PyData->Prop} {H0 H:Hp} {fl c:Addr} {N i j e m:Nat} {σ:St} {xs:List V} {y:V} (I:LI K R H0 fl N H) (hi:σ[i]?=some (some (.ref c))) (hj:σ[j]?=some (some (.int m))) (he:σ[e]?=some (some y)) (hc:SqT K H c xs) (hl:xs.length<=100)
  (hd:∀ r H',aD H H'->SqT K (Vw [fl] H') r (xs.take m++[y]++xs.drop (m+1))->DeP K R [fl] H' (.ref r)):∀ Q:VK,(∀ z H',aD H H'->DeP K R [fl] H' z->Q z H') ->
  tOp (kX K) (tOp (kX K) (tSl (pG K) (gT i) gK (kW (gT j))) (qB (gD (gT e) jK))) (tSl (pG K) (gT i) (kW (tOp (rI0 fun i j=>.int (i+j)) (gT j) (tC (.int 1)))) gK) σ H Q:=fun Q hQ =>
 aEs hi hj hc hl (fun H1 _ Q1 q=>⟨_,he,q H1 (aD.refl _)⟩) fun r H' s' g'=>hQ _ _ s' (hd r H' s' ((I.fx.same s').seqT g'))
def NoD (K:PySem.W.Frag) (ws:List (List Int)) (S:List Addr) (H:Hp) (z:V):Prop:=DeP K (fun d=>gA ws d=false) S H z
theorem NoD.keep {K:PySem.W.Frag} {ws:List (List Int)} {S S':List Addr} {H H':Hp} {z:V} (h:NoD K ws S H z) (e:aD (Vw S H) (Vw S' H')):NoD K ws S' H' z:=DeP.keep h e
theorem mF (hs:List Int) (m:Nat):(hs.map V.int).take m=(hs.take m).map V.int:=(Yg ..).symm
theorem iH (hs:List Int) (m:Nat):(hs.map V.int).drop m=(hs.drop m).map V.int:=(List.map_drop ..).symm
section
variable {P:Program} {w:World} {K:PySem.W.Frag} {mg:Str->Option Value} {base:Heap}
def tV (K:PySem.W.Frag):Sp:=fun vs H Q _=>∃ (x y:V) (n:Int) (ws:List (List Int)) (hs:List Int),vs = [x,y]/\kM K H x y n ws hs/\∀ p xs H',aD H H'->H p=none->H' p=some (.lst xs)->(∀ z∈xs,NoD K ws [p] H' z)->Q (.ref p) H'
theorem jA:FnScope ["book", "deal", "found", "at", "hand"] ["book", "deal"] (aI nU):=⟨rfl,rfl,rfl,by decide +kernel,rfl,by decide +kernel,by decide +kernel⟩
set_option maxHeartbeats 2000000 in
theorem zI {f:Addr} {fd:FuncData} (G:Fn K mg "_law_ano_deals" nU ["book", "deal"] f fd) (B:Bl mg):FnOk P w K mg base CX0 1 f fd ["book", "deal"] (tV K):=by
 refine G.fn.ok jA (fun vs H Q E h=>?_) (fun cdv A outer s H vs Q E hr h=>?_)
 ·obtain ⟨x,y,n,ws,hs,rfl,_⟩:=h
  rfl
 ·obtain ⟨x,y,n,ws,hs,rfl,g,k⟩:=h
  refine ⟨_,(aE (aS (i:=2) jA.nd rfl (Or.inl rfl) (bW (aA (aT (bF (K:=K) rfl) (pv 1) (aX (aA aG aB))) (aA (cA (iK (K:=K) rfl) rfl B.list uX (aA (pv 1) aB)) (aA gU (aA gB aB))))))
  (aE (cF (bE (uF hr.u64) (pv 1) (aX aB) (bJ _))
   (aF (aS (i:=2) jA.nd rfl (Or.inl rfl) (aT lF (pv 2) (bW (aA (bD (bH (K:=K) rfl) (pv 1) (bK aG) bN) (aA (aX aB) aB))))))
   aW)
  (aE (cO PassesOwn.never rfl (cL rfl B.range (aA (aL (bL (K:=K) rfl) rfl B.len eU (aA (pv 1) aB)) aB)) (aK (i:=3) jA.nd rfl (Or.inl rfl))
   (aE (cO PassesOwn.never rfl (iI (bW (aA (kU iS aG) (aA (bS (eG (K:=K) rfl) (pv 0) aG (fun _ _=>rfl)) (aA gU (aA gB (aA (cA qA rfl B.bool yR (aA (bS (eG (K:=K) rfl) (pv 1) (pv 3) (fun _ _=>rfl)) aB)) (aA (aT aDV aG aG) aB)))))))) (aK (i:=4) jA.nd rfl (Or.inl rfl))
   (aF (bI (gZ PySem.F.plainAttrs_list PySem.F.slot_list_append PySem.F.type_list_append cC (pv 2) (aA (aT (bF (K:=K) rfl) (aT (bF (K:=K) rfl) (bD (bH (K:=K) rfl) (pv 1) bN (bK (pv 3))) (aX (aA (pv 4) aB))) (bD (bH (K:=K) rfl) (pv 1) (bK (aT eX (pv 3) aG)) bN)) aB)))))
  (aF (cO PassesOwn.never rfl (cL rfl B.range (aA (bS (eG (K:=K) rfl) (pv 0) aG (fun _ _=>rfl)) aB)) (aK (i:=4) jA.nd rfl (Or.inl rfl))
   (aF (cF (bE uB (pv 4) (bS (eG (K:=K) rfl) (bS (eG (K:=K) rfl) (pv 0) aG (fun _ _=>rfl)) (pv 3) (fun _ _=>rfl)) (by with_unfolding_all rfl))
   (aF (bI (gZ PySem.F.plainAttrs_list PySem.F.slot_list_append PySem.F.type_list_append cC (pv 2) (aA (aT (bF (K:=K) rfl) (aT (bF (K:=K) rfl) (bD (bH (K:=K) rfl) (pv 1) bN (bK (pv 3))) (aX (aA (pv 4) aB))) (bD (bH (K:=K) rfl) (pv 1) (bK (aT eX (pv 3) aG)) bN)) aB))))
   aW))))))
  (aF (aQ (pv 2)))))),?_⟩
  obtain ⟨hl12,hn1,hn6⟩:=g.len
  obtain ⟨a,b,ys,rfl,ha,hb2,hys⟩:=cP g.1
  obtain ⟨c,rfl,hc⟩:=aR.mp g.2.2.1
  have hlen:=(cZ g.2.2.2).1
  have hdm:=(cZ g.2.2.2).2
  have hm:(hs.map V.int).length=hs.length:=Qb ..
  have hlw:=aJ hys
  rw [Qb] at hlw
  refine ⟨_,rfl,sz1 _,fun q1 hq1=>⟨c,q1,_,_,rfl,rfl,(aD.new hq1).seqT hc,SqT.of aC,by rw [sizeLine_eq,hm]; show _+1<=_; omega,fun p1 H1 s1' g1=>?_⟩⟩
  have s1:=(aD.new (o:=.tup [.int 0]) hq1).trans s1'
  refine ⟨_,rfl,c,_,rfl,.inr (s1.seqT hc),fun l1 hl1=>⟨eA (show 4<=1000 by decide),fun f0 hf0=>?_⟩⟩
  have s2:=aD.new (o:=.lst (hs.map V.int)) hl1
  have e2:upd H1 l1 (.lst (hs.map V.int)) l1=some (.lst (hs.map V.int)):=aC
  generalize upd H1 l1 (.lst (hs.map V.int))=H2 at s2 e2 hf0 ⊢
  have s3:=aD.new (o:=.lst [.ref p1,.ref l1,.non,.str "deal"]) hf0
  have e3:upd H2 f0 (.lst [.ref p1,.ref l1,.non,.str "deal"]) f0=some (.lst [.ref p1,.ref l1,.non,.str "deal"]):=aC
  have vg:=Vw.grow (S:=[]) (o:=.lst [.ref p1,.ref l1,.non,.str "deal"]) hf0
  have hf0H:H f0=none:=(s1.trans s2).free hf0
  have n0:∀ z∈[V.ref p1,.ref l1,.non,.str "deal"],NoD K ws [f0] (upd H2 f0 (.lst [.ref p1,.ref l1,.non,.str "deal"])) z:=by
   have f2:Fx [] H2:=Fx.nil
   intro z hz
   refine NoD.keep ?_ vg
   simp only [Qj,Qn,or_false] at hz
   rcases hz with rfl | rfl | rfl | rfl
   ·exact ⟨_,aO.mpr ⟨p1,_,rfl,f2.seqT (s2.seqT g1),bC (bQ.mpr rfl) (aM.mpr ⟨_,_,rfl,bV.mpr rfl,aN.mpr rfl⟩)⟩,rT (by rw [Qe,Qb]; show _+1≠_; omega)⟩
   ·exact ⟨.list (hs.map .int),gF.mpr ⟨l1,_,rfl,SqL.of (by rw [Vw.out (by simp)]; exact e2),bQ.mpr rfl⟩,rfl⟩
   ·exact ⟨.none,iN.mpr rfl,rfl⟩
   ·exact ⟨.str "deal",iZ.mpr rfl,rfl⟩
  generalize upd H2 f0 (.lst [.ref p1,.ref l1,.non,.str "deal"])=H3 at s3 e3 n0 ⊢
  clear vg
  have s03:=s1.trans (s2.trans s3)
  dsimp only [jL]
  refine fO (fun σ H4=>∃ (fl:Addr) (xs:List V),σ = [some (.ref a),some (.ref c),some (.ref fl),none,none]/\aD H H4/\H fl=none/\H4 fl=some (.lst xs)/\xs.length<=6/\∀ z∈xs,NoD K ws [fl] H4 z) (fun N hN=>?_) ?_
  ·refine ⟨_,rfl,eA (Jh _),fun z0 hz0=>?_⟩
   have s4:=aD.new (o:=.tup []) hz0
   have hc4:=(s03.trans s4).seqT hc
   refine ⟨.tuple (hs.map .int),.tuple (([]:List Int).map .int),aR.mpr ⟨c,rfl,hc4⟩,aR.mpr ⟨z0,rfl,SqT.of aC⟩,fZ _,fZ _,fY _,fY _,_,rfl,?_⟩
   have e4:=s4 _ _ e3
   have n4:∀ z∈[V.ref p1,.ref l1,.non,.str "deal"],NoD K ws [f0] _ z:=fun z hz=>(n0 z hz).keep (Vw.same s4)
   have s04:=s03.trans s4
   generalize upd H3 z0 (.tup [])=H4 at s4 hc4 e4 n4 s04 ⊢
   refine gE (fun c1=>?_) (fun c1=>?_)
   ·have hne:hs≠[]:=fun z=>by rw [z] at c1; exact absurd c1 (by decide +kernel)
    have hpos:0 < hs.length:=Xy.mpr hne
    refine ⟨_,rfl,_,rfl,1,rfl,c,_,rfl,hc4,fun r1 H5 s5 g5=>⟨eA (Jh _),fun r2 hr2=>⟨sz2 _ _,fun r3 hr3=>?_⟩⟩⟩
    rw [show (1:Int)=((1:Nat):Int) from rfl,eW] at g5
    have s6:=aD.new (o:=.tup []) hr2
    have e6:upd H5 r2 (.tup []) r2=some (.tup []):=aC
    generalize upd H5 r2 (.tup [])=H6 at s6 e6 hr3 ⊢
    have s7:=aD.new (o:=.lst [.ref r1,.ref r2]) hr3
    have e7:upd H6 r3 (.lst [.ref r1,.ref r2]) r3=some (.lst [.ref r1,.ref r2]):=aC
    generalize upd H6 r3 (.lst [.ref r1,.ref r2])=H7 at s7 e7 ⊢
    have s47:=s5.trans (s6.trans s7)
    refine ⟨f0,r3,_,_,rfl,rfl,s47 _ _ e4,e7,by rw [sizeLine_eq]; simp,fun fl hfl=>?_⟩
    have vg:=Vw.grow (S:=[]) (o:=.lst ([.ref p1,.ref l1,.non,.str "deal"]++[.ref r1,.ref r2])) hfl
    have s8:=aD.new (o:=.lst ([.ref p1,.ref l1,.non,.str "deal"]++[.ref r1,.ref r2])) hfl
    refine hN _ _ ⟨fl,_,rfl,s04.trans (s47.trans s8),(s04.trans s47).free hfl,aC,by simp,fun z hz=>?_⟩
    refine NoD.keep (S:=[]) (H:=H7) ?_ vg
    rcases Qx.mp hz with hz | hz
    ·obtain ⟨d,d1,d2⟩:=n4 z hz
     exact ⟨d,(Vw.same s47).den _ _ (Vw.nil.den _ _ (Vw.sub.den _ _ d1)),d2⟩
    ·have f7:Fx [] H7:=Fx.nil
     simp only [Qj,Qn,or_false] at hz
     rcases hz with rfl | rfl
     ·exact ⟨.tuple ((hs.drop 1).map .int),aR.mpr ⟨r1,rfl,f7.seqT ((s6.trans s7).seqT (by rw [<- iH]; exact g5))⟩,rT (by rw [Qb,Ja]; omega)⟩
     ·exact ⟨.tuple [],aO.mpr ⟨r2,_,rfl,f7.seqT (SqT.of (s7 _ _ e6)),aN.mpr rfl⟩,rT (by show 0≠_; omega)⟩
   ·exact hN _ _ ⟨f0,_,rfl,s04,hf0H,e4,by simp,n4⟩
  ·rintro σ H4 ⟨fl,xs0,rfl,s4,hflH,e4,hx6,n4⟩
   have I4:LI K (fun d=>gA ws d=false) H fl 6 H4:=⟨s4,xs0,e4,hx6,n4⟩
   clear n4 e4 hx6
   have hwm:∀ (m:Nat),m < hs.length->∃ l pw,ws[m]?=some l/\bR n (bP l)=true/\ys[m]?=some (.ref pw)/\SqT K H pw (l.map V.int):=fun m hmm=>by
    have hmw:m < ws.length:=by omega
    obtain ⟨y,hy,hdy⟩:=kG (i:=m) (d:=bP ws[m]) hys (by rw [Qi,Qc hmw]; rfl)
    obtain ⟨pw,rfl,hpw⟩:=aR.mp hdy
    exact ⟨ws[m],pw,Qc hmw,(bM g.2.1).2.2.2 ws[m] (Xg hmw),hy,hpw⟩
   have bad:∀ (m:Nat) (l:List Int) (y:V) (d:PyData) (r:Addr) (H':Hp),m < hs.length->ws[m]?=some l->Den K (Vw [fl] H') d y->eK d l=false->SqT K (Vw [fl] H') r ((hs.map V.int).take m++[y]++(hs.map V.int).drop (m+1))->DeP K (fun d=>gA ws d=false) [fl] H' (.ref r):=fun m l y d r H' hmm hl hd hh hr=>by
    rw [mF,iH] at hr
    refine ⟨.tuple ((hs.take m).map .int++[d]++(hs.drop (m+1)).map .int),aO.mpr ⟨r,_,rfl,hr,bC (bC (bQ.mpr rfl) (aM.mpr ⟨_,_,rfl,hd,aN.mpr rfl⟩)) (bQ.mpr rfl)⟩,aBg (l:=l) ?_ hh⟩
    rw [Qb,Qu,Zd (by omega)]
    exact hl
   refine fO (fun σ H5=>∃ v3 v4,σ = [some (.ref a),some (.ref c),some (.ref fl),v3,v4]/\LI K (fun d=>gA ws d=false) H fl (6+12*hs.length) H5) (fun N hN=>?_) ?_
   ·refine ⟨_,rfl,c,_,rfl,.inr (s4.seqT hc),_,rfl,by rw [hm]; omega,by rw [hm]; omega,fU (fun i σ H5=>∃ v3 v4,σ = [some (.ref a),some (.ref c),some (.ref fl),v3,v4]/\LI K (fun d=>gA ws d=false) H fl (6+12*i) H5) ⟨none,none,rfl,I4⟩ ?_ ?_⟩
    ·rintro m σ H5 hmm ⟨v3,v4,rfl,I5⟩
     have hmm:m < hs.length:=by have h:m < ((((hs.map V.int).length:Nat):Int)).toNat:=hmm; rw [hm] at h; omega
     obtain ⟨l,pw,hwl,hwk,hyw,hpw⟩:=hwm m hmm
     obtain ⟨w1,w2,w3⟩:=cY hwk
     dsimp only [jL]
     rw [Int.zero_add]
     have hhm:(hs.map V.int)[m]?=some (.int hs[m]):=by rw [Qi,Qc hmm]; rfl
     refine fO (fun σ H6=>∃ v4,σ = [some (.ref a),some (.ref c),some (.ref fl),some (.int m),v4]/\LI K (fun d=>gA ws d=false) H fl (6+12*m+6) H6) (fun N2 hN2=>?_) ?_
     ·refine ⟨_,rfl,_,rfl,a,_,0,.int n,rfl,rfl,I5.same.seqT ha,rfl,_,rfl,_,rfl,c,_,(m:Int),.int hs[m],rfl,rfl,I5.same.seqT hc,eR hhm,.inl ⟨_,rfl,_,_,rfl,rfl,⟨by decide,by decide,by decide⟩,eA (show 6<=1000 by decide),fun l6 hl6=>?_⟩⟩
      have s6:=aD.new (o:=.lst [.int (-1),.int n,.non,.str "0",.bl (hs[m] !=0),.int (10^20)]) hl6
      have e6:upd H5 l6 (.lst [.int (-1),.int n,.non,.str "0",.bl (hs[m] !=0),.int (10^20)]) l6=some (.lst [.int (-1),.int n,.non,.str "0",.bl (hs[m] !=0),.int (10^20)]):=aC
      have n6:l6≠fl:=fun z=>by obtain ⟨xs,h,_⟩:=I5.has; rw [z,h] at hl6; cases hl6
      have I6:=I5.next s6 (Qg _)
      refine ⟨l6,rfl,⟨_,SqL.of e6⟩,gX (K:=K) (xs:=[.int (-1),.int n,.non,.str "0",.bl (hs[m] !=0),.int (10^20)]) (fun i σ H6=>∃ v4,σ = [some (.ref a),some (.ref c),some (.ref fl),some (.int m),v4]/\H6 l6=some (.lst [.int (-1),.int n,.non,.str "0",.bl (hs[m] !=0),.int (10^20)])/\LI K (fun d=>gA ws d=false) H fl (6+12*m+i) H6) ⟨_,rfl,e6,I6⟩ ?_ ?_ ?_⟩
      ·rintro i σ H6 _ ⟨_,_,e,_⟩
       exact SqL.of e
      ·rintro i x σ H6 hx ⟨v4',rfl,e6',I6'⟩
       have hi6:i < 6:=(Qd.mp hx).1
       have hxd:∃ d,(∀ H':Hp,Den K H' d x)/\eK d l=false:=by
        rcases Qh hx with _ | ⟨_,hx⟩
        ·exact ⟨.int (-1),fun _=>bV.mpr rfl,mY fun x hx=>by have:=w2 x hx; omega⟩
        rcases hx with _ | ⟨_,hx⟩
        ·exact ⟨.int n,fun _=>bV.mpr rfl,mY fun x hx=>by have:=w2 x hx; omega⟩
        rcases hx with _ | ⟨_,hx⟩
        ·exact ⟨.none,fun _=>iN.mpr rfl,rfl⟩
        rcases hx with _ | ⟨_,hx⟩
        ·exact ⟨.str "0",fun _=>iZ.mpr rfl,rfl⟩
        rcases hx with _ | ⟨_,hx⟩
        ·exact ⟨.bool (hs[m] !=0),fun _=>jG.mpr rfl,rfl⟩
        rcases hx with _ | ⟨_,hx⟩
        ·exact ⟨.int (10^20),fun _=>bV.mpr rfl,mY fun x hx=>by have:=w2 x hx; omega⟩
        exact (Qn hx).elim
       obtain ⟨d,hd,hh⟩:=hxd
       refine vT (fl:=fl) (N:=6+12*m+i) hflH I6' (by omega) rfl (aAy (m:=m) I6' rfl rfl rfl (I6'.same.seqT hc) (by rw [hm]; omega) fun r H' s' g'=>bad m l x d r H' hmm hwl (hd _) hh g') fun H' b' I'=>?_
       exact ⟨_,rfl,b' _ _ n6 e6',I'⟩
      ·rintro σ H6 ⟨v4',rfl,_,I6'⟩
       exact hN2 _ _ ⟨_,rfl,I6'⟩
     ·rintro σ H6 ⟨v4',rfl,I6⟩
      refine ⟨_,rfl,a,_,0,.int n,rfl,rfl,I6.same.seqT ha,rfl,n,rfl,by omega,by omega,fU (fun i σ H7=>∃ v4,σ = [some (.ref a),some (.ref c),some (.ref fl),some (.int m),v4]/\LI K (fun d=>gA ws d=false) H fl (6+12*m+6+i) H7) ⟨_,rfl,I6⟩ ?_ ?_⟩
      ·rintro i σ H7 hi ⟨v4'',rfl,I7⟩
       dsimp only [jL]
       refine ⟨_,rfl,_,rfl,a,_,1,.ref b,rfl,rfl,I7.same.seqT ha,rfl,_,rfl,b,ys,m,.ref pw,rfl,rfl,I7.same.seqT hb2,eR hyw,pw,l.map V.int,rfl,.inr (I7.same.seqT hpw),rfl,tF _,_,rfl,?_⟩
       refine gE (fun c2=>?_) (fun c2=>?_)
       ·have c3:inV (.int (0+(i:Int))) (l.map V.int)=false:=by simpa using c2
        rw [aAi] at c3
        refine vT (fl:=fl) (N:=6+12*m+6+i) hflH I7 (by omega) rfl (aAy (m:=m) I7 rfl rfl rfl (I7.same.seqT hc) (by rw [hm]; omega) fun r H' s' g'=>bad m l _ (.int (0+(i:Int))) r H' hmm hwl (bV.mpr rfl) c3 g') fun H' b' I'=>?_
        exact ⟨_,rfl,I'⟩
       ·exact ⟨_,rfl,I7.next (aD.refl _) (by omega)⟩
      ·rintro σ H7 ⟨v4'',rfl,I7⟩
       exact ⟨_,_,rfl,I7.next (aD.refl _) (by omega)⟩
    ·rintro σ H5 ⟨v3,v4,rfl,I5⟩
     rw [hm] at I5
     exact hN _ _ ⟨_,_,rfl,I5⟩
   ·rintro σ H5 ⟨v3,v4,rfl,I5⟩
    obtain ⟨xs,e5,_,n5⟩:=I5.has
    exact ⟨_,rfl,k fl xs H5 I5.same hflH e5 n5⟩
end
end Ab
namespace L2
open PySem
section
variable {K:PySem.W.Frag} {S:List Addr} {H H0:Hp} {σ:St} {te ta tb ts:TE} {tl th:TO} {xs ys:List V}
def TQ (K:PySem.W.Frag) (S:List Addr) (xs:List V):Hp->V->Prop:=fun H v=>∃ p,v=.ref p/\SqT K (Vw S H) p xs
instance:Mo (TQ K S xs):=⟨fun e ⟨p,h,g⟩=>⟨p,h,(Vw.same e).seqT g⟩⟩
theorem dP {i:Nat} {c:Addr} (h:σ[i]?=some (some (.ref c))) (r:SqT K (Vw S H0) c xs):Al H0 S (gT i) σ (TQ K S xs):=yH h ⟨c,rfl,r⟩
theorem iB {i:Nat} {v:V} (h:σ[i]?=some (some v)):Al H0 S (gT i) σ (fun _ x=>x=v):=yH h rfl
theorem eI {v:V}:Al H0 S (tC v) σ (fun _ x=>x=v):=sB rfl
theorem rV {g:Int->Int->Int} {i j:Int} (ha:Al H0 S ta σ fun _ v=>v=.int i) (hb:Al H0 S tb σ fun _ v=>v=.int j):Al H0 S (tOp (rI0 fun i j=>.int (g i j)) ta tb) σ (fun _ v=>v=.int (g i j)):=fun H s f Q k=>ha H s f _ fun v H1 s1 e=>hb H1 (s.trans s1) (f.same s1) _ fun u H2 s2 e'=>⟨i,j,e,e',k _ H2 (s1.trans s2) rfl⟩
theorem aCC {i:Int} {x:V} (ha:Al H0 S ta σ (TQ K S xs)) (hb:Al H0 S tb σ fun _ v=>v=.int i) (hx:atI xs i=some x):Al H0 S (tOp (aD2 K) ta tb) σ (fun _ v=>v=x):=fun H s f Q k=>ha H s f _ fun v H1 s1 ⟨p,e,g⟩=>hb H1 (s.trans s1) (f.same s1) _ fun u H2 s2 e'=>⟨p,xs,i,x,e,e',Vw.sub.seqT ((Vw.same s2).seqT g),hx,k _ H2 (s1.trans s2) rfl⟩
theorem aAz (ha:Al H0 S ta σ (TQ K S xs)):Al H0 S (tCB (fun xs H Q=>∃ p ys,xs = [V.ref p]/\(SqL K H p ys∨SqT K H p ys)/\Q (V.int ys.length) H) (gD ta jK)) σ (fun _ v=>v=.int xs.length):=fun H s f Q k=>ha H s f _ fun v H1 s1 ⟨p,e,g⟩=>⟨p,xs,by rw [e],.inr (Vw.sub.seqT g),k _ H1 s1 rfl⟩
theorem aCD {i:Int} (ha:Al H0 S ta σ fun _ v=>v=.int i):Al H0 S (tCB (fun xs H Q=>(∃ i,xs = [V.int i]/\Q (V.bl (i !=0)) H)∨∃ k,xs = [V.bl k]/\Q (V.bl k) H) (gD ta jK)) σ (fun _ v=>v=.bl (i !=0)):=fun H s f Q k=>ha H s f _ fun v H1 s1 e=>.inl ⟨i,by rw [e],k _ H1 s1 rfl⟩
theorem gI {y:V} (h:Al H0 S te σ (fun _ v=>v=y)):Al H0 S (qB (gD te jK)) σ (TQ K S [y]):=fun H s f Q k=>h H s f _ fun v H1 s1 e=>⟨by rw [sizeLine_eq]; simp,fun p hp=>k _ _ (s1.trans (aD.new hp)) ⟨p,rfl,by rw [<- e]; exact SqT.of (Vw.at (f.same s1) hp)⟩⟩
theorem gN (ha:Al H0 S ta σ (TQ K S xs)) (hb:Al H0 S tb σ (TQ K S ys)) (hn:xs.length+ys.length<=1000):Al H0 S (tOp (kX K) ta tb) σ (TQ K S (xs++ys)):=fun H s f Q k=>ha H s f _ fun v H1 s1 ⟨p,e,g⟩=>hb H1 (s.trans s1) (f.same s1) _ fun u H2 s2 ⟨q,e',g'⟩ =>
 ⟨p,q,xs,ys,e,e',Vw.sub.seqT ((Vw.same s2).seqT g),Vw.sub.seqT g',by rw [sizeLine_eq]; omega,fun r H3 s3 g3=>k _ _ (s1.trans (s2.trans s3)) ⟨r,rfl,(((f.same s1).same s2).same s3).seqT g3⟩⟩
def AlP (H0:Hp) (S:List Addr) (t:TO) (σ:St) (o:Option Int):Prop:=∀ H,aD H0 H->Fx S H->∀ Q:Option Int->Hp->Prop,(∀ H',aD H H'->Q o H')->t σ H Q
theorem fP:AlP H0 S gK σ none:=fun H _ _ Q k=>k H (aD.refl H)
theorem eL {i:Int} (h:Al H0 S te σ fun _ v=>v=.int i):AlP H0 S (kW te) σ (some i):=fun H s f Q k=>h H s f _ fun v H' s' e=>⟨i,e,k H' s'⟩
theorem iV {lo hi:Option Int} (h:Al H0 S te σ (TQ K S xs)) (hl:AlP H0 S tl σ lo) (hh:AlP H0 S th σ hi):Al H0 S (tSl (pG K) te tl th) σ (TQ K S (iY xs lo hi)):=fun H s f Q k=>h H s f _ fun v H1 s1 ⟨p,e,g⟩=>hl H1 (s.trans s1) (f.same s1) _ fun H2 s2=>hh H2 ((s.trans s1).trans s2) ((f.same s1).same s2) _ fun H3 s3 =>
 ⟨p,xs,e,Vw.sub.seqT ((Vw.same (s2.trans s3)).seqT g),fun q H' s' hq=>k _ H' (s1.trans (s2.trans (s3.trans s'))) ⟨q,rfl,((((f.same s1).same s2).same s3).same s').seqT hq⟩⟩
theorem aDs (h:Al H0 S te σ (TQ K S xs)) (hs:Al H0 S ts σ fun _ v=>v=.int (-1)):Al H0 S (aEV K te ts) σ (TQ K S xs.reverse):=fun H s f Q k=>h H s f _ fun v H1 s1 ⟨p,e0,g⟩=>hs H1 (s.trans s1) (f.same s1) _ fun u H2 s2 e =>
 ⟨e,p,xs,e0,Vw.sub.seqT ((Vw.same s2).seqT g),fun q hq=>k _ _ (s1.trans (s2.trans (aD.new hq))) ⟨q,rfl,SqT.of (Vw.at ((f.same s1).same s2) hq)⟩⟩
theorem vU {c:Nat} (ha:Al H0 S ta σ (TQ K S xs)) (hb:Al H0 S tb σ fun _ v=>v=.int c) (h2:c<=1000) (hn:xs.length<=1000):Al H0 S (tOp (aCb K) ta tb) σ (TQ K S (List.replicate c xs).flatten):=fun H s f Q k=>ha H s f _ fun v H1 s1 ⟨p,e,g⟩=>hb H1 (s.trans s1) (f.same s1) _ fun u H2 s2 e' =>
 ⟨p,c,xs,e,e',Vw.sub.seqT ((Vw.same s2).seqT g),h2,hn,fun q H' s' hq=>k _ H' (s1.trans (s2.trans s')) ⟨q,rfl,(((f.same s1).same s2).same s').seqT hq⟩⟩
theorem xU (h:Al H0 S te σ (TQ K S xs)):Al H0 S (tCB (uG K) (gD te jK)) σ (fun H v=>∃ p,v=.ref p/\SqL K (Vw S H) p xs):=fun H s f Q k=>h H s f _ fun v H1 s1 ⟨p,e,g⟩=>⟨p,xs,by rw [e],.inr (Vw.sub.seqT g),fun q hq=>k _ _ (s1.trans (aD.new hq)) ⟨q,rfl,SqL.of (Vw.at (f.same s1) hq)⟩⟩
theorem mG {E:Hp->V->Prop} {t:TA} {Q:VK} {n:Nat} (f:Fx S H) (h:AlE H S E n t σ) (k:∀ p xs H1,aD H H1->H1 p=none->xs.length=n->(∀ x∈xs,E H1 x)->Q (.ref p) (upd H1 p (.lst xs))) (hn:n<=1000:=by decide):aBw t σ H Q :=
 h H (aD.refl H) f _ fun vs H1 s1 l d=>⟨by rw [l]; exact Xr (aAN hn),fun p hp=>k p vs H1 s1 hp l d⟩
theorem aBh (xs:List V):iY xs none (some (-1))=xs.take (xs.length - 1):=by
 unfold iY
 have e:HT.sIx xs.length xs.length (some (-1))=xs.length - 1:=by
  show (if (-1:Int) < 0 then ((-1:Int)+(xs.length:Int)).toNat else min (-1:Int).toNat xs.length)=_
  rw [if_pos (by decide)]
  omega
 rw [HT.sIx_none,e,Ya,Wa]
theorem aCE (xs:List V) (i j:Nat) (h:i<=xs.length) (h2:j<=xs.length):iY xs (some (i:Int)) (some (j:Int))=(xs.drop i).take (j - i):=by
 unfold iY
 rw [HT.sIx_nat,HT.sIx_nat,Zd h,Zd h2]
theorem Vw.less {S:List Addr} {H:Hp} {p:Addr}:aD (Vw (p::S) H) (Vw S H):=fun b u e=>by
 have hb:b∉p::S:=fun z=>by unfold Vw at e; rw [if_pos z] at e; cases e
 rw [Vw.out hb] at e
 rw [Vw.out (fun z=>hb (Qq _ z))]
 exact e
end
end L2
namespace Ab
open PySem L2
instance {K:PySem.W.Frag} {R:PyData->Prop} {S:List Addr}:Mo (DeP K R S):=⟨fun e h=>h.keep (Vw.same e)⟩
def fQ (m:Nat) (d:PyData):Prop:=Sz d/\eV m d=false
def dJ (n:Int) (m:Nat) (d:PyData):Prop:=Sz2 d/\rQ n m d=false
theorem tW {m:Nat} {ds:List PyData} (h:ds.length≠m) (h2:ds.length<=1000):fQ m (.tuple ds):=⟨h2,by
 show (decide (ds.length=m) && _)=_
 rw [decide_eq_false h,Xa]⟩
theorem tX {m:Nat} {ds:List PyData} {d:PyData} (hd:d∈ds) (h:cR d=false) (h2:ds.length<=1000):fQ m (.tuple ds):=⟨h2,by
 show (decide (ds.length=m) && (ds.all cR && mW (ds.map pC)))=_
 have e:ds.all cR=false:=by
  rw [Zj]
  exact ⟨d,hd,by rw [h]; decide⟩
 rw [e,Xa,Xo]⟩
theorem aCF {A B:List Int} {x y:Int} (h:y < x):mW (A++[x,y]++B)=false:=by
 unfold mW
 rw [Zj]
 refine ⟨(x,y),Qh (i:=A.length) ((Jl (z:=(x,y))).mpr ⟨?_,?_⟩),?_⟩
 ·simp
 ·rw [Yv]
  simp [List.getElem?_append]
 ·simp
  exact h
theorem mZ {m:Nat} {A B l:List Int} {x y:Int} (h:y < x) (e:l=A++[x,y]++B) (h2:l.length<=1000):fQ m (.tuple (l.map .int)):=⟨by rw [show Sz (.tuple (l.map .int))=((l.map PyData.int).length<=1000) from rfl,Qb]; exact h2,by
 show (decide ((l.map PyData.int).length=m) && ((l.map PyData.int).all cR && mW ((l.map PyData.int).map pC)))=_
 have e2:(l.map PyData.int).map pC=l:=by rw [List.map_map]; exact List.map_id' l
 rw [e2,e,aCF h,Xo,Xo]⟩
theorem lU {n:Int} {m:Nat} {ds:List PyData} (h:ds.length≠n.toNat) (h2:ds.length<=1000) (h3:∀ d∈ds,Sz d):dJ n m (.tuple ds):=⟨⟨h2,h3⟩,by
 show (decide (ds.length=n.toNat) && _)=_
 rw [decide_eq_false h,Xa]⟩
theorem xV {n:Int} {m:Nat} {ds:List PyData} {d:PyData} (hd:d∈ds) (h:fQ m d) (h2:ds.length<=1000) (h3:∀ d∈ds,Sz d):dJ n m (.tuple ds):=⟨⟨h2,h3⟩,by
 show (decide (ds.length=n.toNat) && ds.all (eV m))=_
 have e:ds.all (eV m)=false:=by
  rw [Zj]
  exact ⟨d,hd,by rw [h.2]; decide⟩
 rw [e,Xo]⟩
theorem oS {K:PySem.W.Frag} {R:PyData->Prop} {S:List Addr} {H:Hp} {z:V} {xs:List V} {ds:List PyData} (h:TQ K S xs H z) (e:aU K (Vw S H) ds xs) (r:R (.tuple ds)):DeP K R S H z:=by
 obtain ⟨p,rfl,g⟩:=h
 exact ⟨.tuple ds,aO.mpr ⟨p,xs,rfl,g,e⟩,r⟩
theorem aDt {m:Nat} {l:List Int} (h:kP m l) (hm:m<=12):Sz (bP l):=by
 show (l.map PyData.int).length<=1000
 rw [Qb,h.1]
 omega
def Lst (K:PySem.W.Frag) (R:PyData->Prop) (S:List Addr) (p:Addr) (N:Nat) (H:Hp):Prop:=∃ xs,H p=some (.lst xs)/\xs.length<=N/\∀ z∈xs,DeP K R S H z
theorem Lst.move {K:PySem.W.Frag} {R:PyData->Prop} {S S':List Addr} {p:Addr} {N M:Nat} {H H':Hp} (h:Lst K R S p N H) (e:aD (Vw S H) (Vw S' H')) (k:∀ o,H p=some o->H' p=some o) (l:N<=M:=by omega):Lst K R S' p M H' :=
 let ⟨xs,h1,h2,h3⟩:=h; ⟨xs,k _ h1,Qw h2 l,fun z hz=>(h3 z hz).keep e⟩
structure Two (K:PySem.W.Frag) (H0:Hp) (t a:Addr) (ns:List Int) (RF RO:PyData->Prop) (fl ol:Addr) (NF NO:Nat) (H:Hp):Prop where
 but:But t H0 H
 T:fL K H t a ns
 F:Lst K RF [ol,fl,t] fl NF H
 O:Lst K RO [ol,fl,t] ol NO H
section
variable {K:PySem.W.Frag} {H0 H H':Hp} {t a:Addr} {ns:List Int} {RF RO:PyData->Prop} {fl ol:Addr} {NF NO:Nat}
theorem Two.fx (I:Two K H0 t a ns RF RO fl ol NF NO H):Fx [ol,fl,t] H:=fun b hb=>by
 simp only [Qj,Qn,or_false] at hb
 obtain ⟨q,hq⟩:=I.T
 obtain ⟨x1,h1,_⟩:=I.F
 obtain ⟨x2,h2,_⟩:=I.O
 rcases hb with rfl | rfl | rfl
 ·exact ⟨_,h2⟩
 ·exact ⟨_,h1⟩
 ·exact ⟨_,hq⟩
theorem Two.same (I:Two K H0 t a ns RF RO fl ol NF NO H) (s:aD H H'):Two K H0 t a ns RF RO fl ol NF NO H':=⟨I.but.trans (But.of s),I.T.same s,I.F.move (Vw.same s) fun o h=>s _ _ h,I.O.move (Vw.same s) fun o h=>s _ _ h⟩
theorem Two.up {NO':Nat} (I:Two K H0 t a ns RF RO fl ol NF NO H) (h:NO<=NO'):Two K H0 t a ns RF RO fl ol NF NO' H:=⟨I.but,I.T,I.F,I.O.move (aD.refl _) (fun o h=>h) h⟩
theorem Two.tape (I:Two K H0 t a ns RF RO fl ol NF NO H) (b:But t H H') (T:fL K H' t a ns) (h1:fl≠t) (h2:ol≠t):Two K H0 t a ns RF RO fl ol NF NO H':=⟨I.but.trans b,T,I.F.move (But.vw b (by simp)) fun o h=>b _ _ h1 h,I.O.move (But.vw b (by simp)) fun o h=>b _ _ h2 h⟩
theorem kS {σ:St} {D:Ends} {q:Nat} {te:TE} (h0:H0 ol=none) (h2:ol≠t) (h3:fl≠ol) (I:Two K H0 t a ns RF RO fl ol NF NO H) (hN:NO<=1000) (hq:σ[q]?=some (some (.ref ol))) (he:Al H [ol,fl,t] te σ (DeP K RO [ol,fl,t])) (k:∀ H',But ol H H'->Two K H0 t a ns RF RO fl ol NF (NO+1) H'->D.nx σ H'):zL (tBM K "list" pJ (gT q) (gD te jK)) D σ H:=by
 obtain ⟨xs0,e0,_⟩:=I.O
 refine ⟨_,hq,.inl ⟨rfl,_,SqL.of e0⟩,he H (aD.refl H) I.fx _ fun z H1 s1 hz=>?_⟩
 have I1:=I.same s1
 obtain ⟨xs,e1,e2,e3⟩:=I1.O
 have b1:But ol H1 (upd H1 ol (.lst (xs++[z]))):=But.at
 have v1:aD (Vw [ol,fl,t] H1) (Vw [ol,fl,t] (upd H1 ol (.lst (xs++[z])))):=But.vw b1 (by simp)
 refine ⟨ol,xs,z,rfl,rfl,e1,by rw [sizeLine_eq]; omega,k _ ((But.of s1).trans b1) ⟨?_,?_,I1.F.move v1 fun o h=>b1 _ _ h3 h,?_⟩⟩
 ·exact fun b o n h=>b1 b o (fun z=>by rw [z,h0] at h; cases h) (I1.but b o n h)
 ·obtain ⟨q,hq⟩:=I1.T
  exact ⟨q,b1 _ _ (Ne.symm h2) hq⟩
 ·refine ⟨_,aC,by rw [Qe]; show _+1<=_; omega,fun y hy=>?_⟩
  rcases Qx.mp hy with hy | hy
  ·exact (e3 y hy).keep v1
  ·rw [Qp.mp hy]
   exact hz.keep v1
theorem aDu {σ:St} {D:Ends} {q:Nat} {te:TE} (h0:H0 fl=none) (h2:fl≠t) (h3:fl≠ol) (I:Two K H0 t a ns RF RO fl ol NF NO H) (hN:NF<=1000) (hq:σ[q]?=some (some (.ref fl))) (he:Al H [ol,fl,t] te σ (DeP K RF [ol,fl,t])) (k:∀ H',But fl H H'->Two K H0 t a ns RF RO fl ol (NF+1) NO H'->D.nx σ H'):zL (tBM K "list" pJ (gT q) (gD te jK)) D σ H:=by
 obtain ⟨xs0,e0,_⟩:=I.F
 refine ⟨_,hq,.inl ⟨rfl,_,SqL.of e0⟩,he H (aD.refl H) I.fx _ fun z H1 s1 hz=>?_⟩
 have I1:=I.same s1
 obtain ⟨xs,e1,e2,e3⟩:=I1.F
 have b1:But fl H1 (upd H1 fl (.lst (xs++[z]))):=But.at
 have v1:aD (Vw [ol,fl,t] H1) (Vw [ol,fl,t] (upd H1 fl (.lst (xs++[z])))):=But.vw b1 (by simp)
 refine ⟨fl,xs,z,rfl,rfl,e1,by rw [sizeLine_eq]; omega,k _ ((But.of s1).trans b1) ⟨?_,?_,?_,I1.O.move v1 fun o h=>b1 _ _ (Ne.symm h3) h⟩⟩
 ·exact fun b o n h=>b1 b o (fun z=>by rw [z,h0] at h; cases h) (I1.but b o n h)
 ·obtain ⟨q,hq⟩:=I1.T
  exact ⟨q,b1 _ _ (Ne.symm h2) hq⟩
 ·refine ⟨_,aC,by rw [Qe]; show _+1<=_; omega,fun y hy=>?_⟩
  rcases Qx.mp hy with hy | hy
  ·exact (e3 y hy).keep v1
  ·rw [Qp.mp hy]
   exact hz.keep v1
end
end Ab
namespace L2
open PySem
theorem oU {te:TE} {i:Nat} {u:TS} {D:Ends} {σ:St} {H:Hp} (h:te σ H fun v H1=>u D (σ.set i (some v)) H1):aBo (aBq te (jL i)) u D σ H:=h
theorem rW {t u:TS} {D:Ends} {σ:St} {H:Hp} (h:t { D with nx:=u D } σ H):aBo t u D σ H:=h
theorem Al.weakS {H0:Hp} {S:List Addr} {te:TE} {σ:St} {R R':Hp->V->Prop} (h:Al H0 S te σ R) (m:∀ H v,aD H0 H->R H v->R' H v):Al H0 S te σ R':=fun H s f Q k=>h H s f Q fun v H' s' r=>k v H' s' (m H' v (s.trans s') r)
theorem mH {H0:Hp} {S:List Addr} {σ:St} {i:Int}:Al H0 S (tUn (rU fun i=>.int (-i)) (tC (.int i))) σ fun _ v=>v=.int (-i):=fun H s f Q k=>⟨i,rfl,k _ H (aD.refl H) rfl⟩
theorem aDv {xs:List V} {v:V} {j:Nat} (h1:1<=j) (h2:j<=xs.length) (h:xs[xs.length - j]?=some v):atI xs (-(j:Int))=some v:=by
 unfold atI ixN
 rw [if_neg (by omega),if_pos (by omega)]
 show xs[_]?=_
 rw [<- h]
 congr 1
 omega
end L2
namespace Ab
open PySem L2
theorem But.view {t:Addr} {H0 H:Hp} {S:List Addr} (b:But t H0 H) (h:∀ p∈S,p=t∨H0 p=none):But t H0 (Vw S H):=fun c o n e=>by
 rw [Vw.out (fun z=>by
  rcases h c z with z | z
  ·exact n z
  ·rw [z] at e; cases e)]
 exact b c o n e
theorem Two.swap {K:PySem.W.Frag} {H0 H:Hp} {t a:Addr} {ns:List Int} {RF RO:PyData->Prop} {fl ol:Addr} {NF NO N:Nat} {ol2:Addr} {xs:List V} (I:Two K H0 t a ns RF RO fl ol NF NO H) (h:H ol2=none) (hx:∀ z∈xs,DeP K RO [ol,fl,t] H z) (hl:xs.length<=N):Two K H0 t a ns RF RO fl ol2 NF N (upd H ol2 (.lst xs)) :=
 have e:aD (Vw [ol,fl,t] H) (Vw [ol2,fl,t] (upd H ol2 (.lst xs))):=Vw.less.trans (Vw.grow h)
 ⟨I.but.trans (But.of (aD.new h)),I.T.same (aD.new h),I.F.move (M:=NF) e fun o q=>(aD.new h) _ _ q,⟨xs,aC,hl,fun z hz=>(hx z hz).keep e⟩⟩
theorem zJ {K:PySem.W.Frag} {S:List Addr} {H0:Hp} {σ:St} {te:TE} {i j m:Nat} {xs:List V} {y:V} (hr:Al H0 S (gT i) σ (TQ K S xs)) (hj:σ[j]?=some (some (.int m))) (he:Al H0 S te σ fun _ v=>v=y) (l:xs.length<=100) :
  Al H0 S (tOp (kX K) (tOp (kX K) (tSl (pG K) (gT i) gK (kW (gT j))) (qB (gD te jK))) (tSl (pG K) (gT i) (kW (tOp (rI0 fun i j=>.int (i+j)) (gT j) (tC (.int 1)))) gK)) σ (TQ K S (xs.take m++[y]++xs.drop (m+1))):=by
 have h:=gN (gN (iV (lo:=none) (hi:=some (m:Int)) hr fP (eL (iB hj))) (gI he) (by have:=cB xs none (some (m:Int)); show _+1<=_; omega)) (iV (lo:=some ((m:Int)+1)) (hi:=none) hr (eL (rV (g:=fun i j=>i+j) (iB hj) (eI (v:=.int 1)))) fP) (by have:=cB xs none (some (m:Int)); have:=cB xs (some ((m:Int)+1)) none; rw [Qe]; show _+1+_<=_; omega)
 rw [kI,show (m:Int)+1=((m+1:Nat):Int) by omega,eW] at h
 exact h
theorem jQ {K:PySem.W.Frag} {R:PyData->Prop} {S:List Addr} {H:Hp} {z:V} {xs:List V} {l:List Int} (h:TQ K S xs H z) (e:xs=l.map V.int) (r:R (.tuple (l.map .int))):DeP K R S H z:=oS h (bQ.mpr e) r
theorem oV (l:List Int):iY (l.map V.int) none (some (-1))=(l.take (l.length - 1)).map V.int:=by rw [aBh,Qb,Yg]
theorem nB {m:Nat} {l:List Int} {x:Int} (hx:x∈l) (h:¬ (0<=x/\x<=999)) (h2:l.length<=1000):fQ m (.tuple (l.map .int)):=tX (d:=.int x) (Jw.mpr ⟨x,hx,rfl⟩) (by
 show (decide (0<=x) && decide (x<=999))=false
 rw [<- Bool.decide_and]
 exact decide_eq_false h) (by rw [Qb]; exact h2)
theorem rX {m:Nat} {l:List Int} (h:l.length≠m) (h2:l.length<=1000):fQ m (.tuple (l.map .int)):=tW (by rw [Qb]; exact h) (by rw [Qb]; exact h2)
section
variable {P:Program} {w:World} {K:PySem.W.Frag} {mg:Str->Option Value} {base:Heap}
def tY (K:PySem.W.Frag):Sp:=fun vs H Q _=>∃ (t a:Addr) (ns:List Int) (x:V) (q:Addr) (n:Int) (m:Nat) (cs:List (List Int)),vs = [.ref t,x,.ref q]/\fL K H t a ns/\Den K H (iG cs) (.ref q)/\gM n m cs/\1<=n/\n<=6/\m<=12 /\
 ∀ p xs H',But t H H'->fL K H' t a ns->H p=none->H' p=some (.lst xs)->(∀ z∈xs,∃ d,Den K H' d z/\dJ n m d)->Q (.ref p) H'
theorem eM:FnScope ["tape", "book", "costs", "found", "at", "row", "others", "k", "one", "pair", "two", "other"] ["tape", "book", "costs"] (aI nS):=⟨rfl,rfl,rfl,by decide +kernel,rfl,by decide +kernel,by decide +kernel⟩
set_option maxHeartbeats 4000000 in
theorem zK {f fD:Addr} {fd fdD:FuncData} (G:Fn K mg "_law_ano_costs" nS ["tape", "book", "costs"] f fd) (B:Bl mg) (GD:Fn K mg "_law_adigit" jP ["tape", "many"] fD fdD) (OD:FnOk P w K mg base CX0 1 fD fdD ["tape", "many"] (kN K)):FnOk P w K mg base CX0 2 f fd ["tape", "book", "costs"] (tY K):=by
 refine G.fn.ok eM (fun vs H Q E h=>?_) (fun cdv A outer s H vs Q E hr h=>?_)
 ·obtain ⟨t,a,ns,x,q,n,m,cs,rfl,_⟩:=h
  rfl
 ·obtain ⟨t,a,ns,x,q,n,m,cs,rfl,hT,hd,hcs,hn1,hn6,hm12,k⟩:=h
  have r1:Room 1 _:=hr
  refine ⟨_,(aE (aS (i:=3) eM.nd rfl (Or.inl rfl) (bW (aA (bD (bH (K:=K) rfl) (pv 2) (bK aG) bN) (aA (aT (bF (K:=K) rfl) (pv 2) (bD (bH (K:=K) rfl) (pv 2) bN (bK aG))) (aA (cA (iK (K:=K) rfl) rfl B.list uX (aA (pv 2) aB)) (aA gU (aA gB (aA aG (aA dO (aA (aT (bF (K:=K) rfl) (pv 2) (aX (aA (aX aB) aB))) aB))))))))))
  (aE (aS (i:=4) eM.nd rfl (Or.inl rfl) (bB GD OD r1 rfl (aA (pv 0) (aA (aL (bL (K:=K) rfl) rfl B.len eU (aA (pv 2) aB)) aB))))
  (aE (aS (i:=5) eM.nd rfl (Or.inl rfl) (bS (eG (K:=K) rfl) (pv 2) (pv 4) (fun _ _=>rfl)))
  (aE (aS (i:=6) eM.nd rfl (Or.inl rfl) (bW (aA (aT (bF (K:=K) rfl) (pv 5) (aX (aA aG aB))) (aA (cA (iK (K:=K) rfl) rfl B.list uX (aA (pv 5) aB)) (aA gU (aA (aT (bF (K:=K) rfl) (pv 5) (aX (aA dO aB))) (aA aG aB)))))))
  (aE (cF (bE (uF hr.u64) (pv 5) (aX aB) (bJ _))
   (aE (aS (i:=7) eM.nd rfl (Or.inl rfl) (bB GD OD r1 rfl (aA (pv 0) (aA (aL (bL (K:=K) rfl) rfl B.len eU (aA (pv 5) aB)) aB))))
  (aE (aS (i:=6) eM.nd rfl (Or.inl rfl) (aT lF (pv 6) (bW (aA (bD (bH (K:=K) rfl) (pv 5) (bK aG) bN) (aA (aT (pM (K:=K) rfl) (aX (aA aG aB)) (aL (bL (K:=K) rfl) rfl B.len eU (aA (pv 5) aB))) aB)))))
  (aE (cO PassesOwn.never rfl (iI (bW (aA (kU iS aG) (aA gU aB)))) (aK (i:=8) eM.nd rfl (Or.inl rfl))
   (aF (bI (gZ PySem.F.plainAttrs_list PySem.F.slot_list_append PySem.F.type_list_append cC (pv 6) (aA (aT (bF (K:=K) rfl) (aT (bF (K:=K) rfl) (bD (bH (K:=K) rfl) (pv 5) bN (bK (pv 7))) (aX (aA (pv 8) aB))) (bD (bH (K:=K) rfl) (pv 5) (bK (aT eX (pv 7) aG)) bN)) aB)))))
  (aE (bI (gZ PySem.F.plainAttrs_list PySem.F.slot_list_append PySem.F.type_list_append cC (pv 6) (aA (aT (bF (K:=K) rfl) (bD (bH (K:=K) rfl) (pv 5) bN (bK (kU iS aG))) (aX (aA aG aB))) aB)))
  (aE (bI (gZ PySem.F.plainAttrs_list PySem.F.slot_list_append PySem.F.type_list_append cC (pv 6) (aA (aT (bF (K:=K) rfl) (aX (aA (kU iS aG) aB)) (bD (bH (K:=K) rfl) (pv 5) (bK aG) bN)) aB)))
  (aF (bI (gZ PySem.F.plainAttrs_list PySem.F.slot_list_append PySem.F.type_list_append cC (pv 6) (aA (aT (bF (K:=K) rfl) (aT (bF (K:=K) rfl) (bD (bH (K:=K) rfl) (pv 5) bN (bK (pv 7))) (aX (aA (cA qA rfl B.bool yR (aA (bS (eG (K:=K) rfl) (pv 5) (pv 7) (fun _ _=>rfl)) aB)) aB))) (bD (bH (K:=K) rfl) (pv 5) (bK (aT eX (pv 7) aG)) bN)) aB)))))))))
   aW)
  (aE (cF (bE aBt (aL (bL (K:=K) rfl) rfl B.len eU (aA (pv 5) aB)) aG (bJ _))
   (aE (bI (gZ PySem.F.plainAttrs_list PySem.F.slot_list_append PySem.F.type_list_append cC (pv 6) (aA (aT (bF (K:=K) rfl) (aX (aA aG aB)) (aT (pM (K:=K) rfl) (aX (aA aG aB)) (aT uA (aL (bL (K:=K) rfl) rfl B.len eU (aA (pv 5) aB)) aG))) aB)))
  (aE (bI (gZ PySem.F.plainAttrs_list PySem.F.slot_list_append PySem.F.type_list_append cC (pv 6) (aA (aT (bF (K:=K) rfl) (bD (bH (K:=K) rfl) (pv 5) bN (bK (kU iS aG))) (aX (aA (aT uA (bS (eG (K:=K) rfl) (pv 5) (kU iS aG) (fun _ _=>rfl)) aG) aB))) aB)))
  (aE (aS (i:=9) eM.nd rfl (Or.inl rfl) (bB GD OD r1 rfl (aA (pv 0) (aA (aT uA (aL (bL (K:=K) rfl) rfl B.len eU (aA (pv 5) aB)) aG) aB))))
  (aF (cF (bE iX (bS (eG (K:=K) rfl) (pv 5) (pv 9) (fun _ _=>rfl)) (bS (eG (K:=K) rfl) (pv 5) (aT eX (pv 9) aG) (fun _ _=>rfl)) (bJ _))
   (aE (aS (i:=10) eM.nd rfl (Or.inl rfl) (bD (bH (K:=K) rfl) (pv 5) (bK (pv 9)) (bK (aT eX (pv 9) aG))))
  (aF (bI (gZ PySem.F.plainAttrs_list PySem.F.slot_list_append PySem.F.type_list_append cC (pv 6) (aA (aT (bF (K:=K) rfl) (aT (bF (K:=K) rfl) (bD (bH (K:=K) rfl) (pv 5) bN (bK (pv 9))) (aD9 (pv 10) (kU iS aG))) (bD (bH (K:=K) rfl) (pv 5) (bK (aT eX (pv 9) aG)) bN)) aB)))))
   aW)))))
   aW)
  (aE (cO PassesOwn.never rfl (iI (pv 6)) (aK (i:=11) eM.nd rfl (Or.inl rfl))
   (aF (bI (gZ PySem.F.plainAttrs_list PySem.F.slot_list_append PySem.F.type_list_append cC (pv 3) (aA (aT (bF (K:=K) rfl) (aT (bF (K:=K) rfl) (bD (bH (K:=K) rfl) (pv 2) bN (bK (pv 4))) (aX (aA (pv 11) aB))) (bD (bH (K:=K) rfl) (pv 2) (bK (aT eX (pv 4) aG)) bN)) aB)))))
  (aF (aQ (pv 3)))))))))),?_⟩
  obtain ⟨hcl,hcr⟩:=hcs
  obtain ⟨q',rs,e,hq,hrs⟩:=aO.mp hd
  cases e
  have hrl:=aJ hrs
  rw [Qb] at hrl
  have hrl6:rs.length<=6:=by omega
  have fT:∀ {H':Hp},fL K H' t a ns->Fx [t] H':=fun T b hb=>by
   rw [Qp.mp hb]
   obtain ⟨z,hz⟩:=T
   exact ⟨_,hz⟩
  have vw:∀ (S:List Addr) (H':Hp),But t H H'->(∀ p∈S,p=t∨H p=none)->aU K (Vw S H') (cs.map bP) rs/\SqT K (Vw S H') q rs:=fun S H' b h=>⟨hT.denAll (b.view h) (cK _ cT cs) hrs,hT.seqT (b.view h) hq⟩
  have szr:∀ d∈cs.map bP,Sz d:=fun d hd=>by
   obtain ⟨row,hrow,rfl⟩:=Jw.mp hd
   exact aDt (hcr row hrow) hm12
  have S1:∀ p∈[t],p=t∨H p=none:=fun p hp=>.inl (Qp.mp hp)
  have a0:=dP (σ:=[some (.ref t),some x,some (.ref q),none,none,none,none,none,none,none,none,none]) (S:=[t]) (i:=2) rfl (vw [t] H (But.refl t H) S1).2
  have a1:=(iV (lo:=some 1) (hi:=none) a0 (eL eI) fP).weakS (R':=DeP K (dJ n m) [t]) fun H' v s' g=>by
   rw [show (1:Int)=((1:Nat):Int) from rfl,eW] at g
   exact oS g (jN 1 (vw [t] H' (But.of s') S1).1) (lU (by rw [Ja,Qb]; omega) (by rw [Ja,Qb]; omega) fun d hd=>szr d (Zn hd))
  have a2:=(gN a0 (iV (lo:=none) (hi:=some 1) a0 fP (eL eI)) (by have:=cB rs none (some 1); omega)).weakS (R':=DeP K (dJ n m) [t]) fun H' v s' g=>by
   rw [show (1:Int)=((1:Nat):Int) from rfl,kI] at g
   have v1:=(vw [t] H' (But.of s') S1).1
   exact oS g (bC v1 (Ab.eZ 1 v1)) (lU (by rw [Qe,Qu,Qb]; omega) (by rw [Qe,Qu,Qb]; omega) fun d hd=>by
    rcases Qx.mp hd with hd | hd
    ·exact szr d hd
    ·exact szr d (Jq hd))
  have a3:=(xU a0).weakS (R':=DeP K (dJ n m) [t]) fun H' v s' ⟨p,e,g⟩=>⟨.list (cs.map bP),gF.mpr ⟨p,rs,e,g,(vw [t] H' (But.of s') S1).1⟩,trivial,rfl⟩
  have a8:Al H [t] (tOp (kX K) (gT 2) (qB (gD (qB jK) jK))) [some (.ref t),some x,some (.ref q),none,none,none,none,none,none,none,none,none] (DeP K (dJ n m) [t]):=fun H1 s1 f1 Q k=>⟨_,rfl,eA (Jh _),fun p0 h0=>⟨sz1 _,fun p1 h1=>by
   have s2:=aD.new (o:=.tup []) h0
   have s3:=aD.new (o:=.tup [.ref p0]) h1
   refine ⟨q,p1,rs,[.ref p0],rfl,rfl,(s1.trans (s2.trans s3)).seqT hq,SqT.of aC,by rw [sizeLine_eq]; show _+1<=_; omega,fun r H2 s4 g2=>k _ _ (s2.trans (s3.trans s4)) ?_⟩
   have f2:=f1.same (s2.trans (s3.trans s4))
   have e0:=(s3.trans s4) _ _ (aC (H:=H1) (a:=p0) (o:=.tup []))
   exact ⟨.tuple (cs.map bP++[.tuple []]),aO.mpr ⟨r,_,rfl,f2.seqT g2,bC (vw [t] H2 (But.of (s1.trans (s2.trans (s3.trans s4)))) S1).1 (aM.mpr ⟨_,_,rfl,aO.mpr ⟨p0,[],rfl,f2.seqT (SqT.of e0),aN.mpr rfl⟩,aN.mpr rfl⟩)⟩,lU (by rw [Qe,Qb]; show _+1≠_; omega) (by rw [Qe,Qb]; show _+1<=_; omega) fun d hd=>by
    rcases Qx.mp hd with hd | hd
    ·exact szr d hd
    ·rw [Qp.mp hd]
     exact Jh _⟩⟩⟩
  refine oU (mG (S:=[t]) (E:=DeP K (dJ n m) [t]) (fT hT) (aZ a1 (aZ a2 (aZ a3 (aZ (sB ⟨.none,iN.mpr rfl,trivial,rfl⟩) (aZ (sB ⟨.str _,iZ.mpr rfl,trivial,rfl⟩) (aZ (sB ⟨.int _,bV.mpr rfl,trivial,rfl⟩) (aZ (sB ⟨.bool _,jG.mpr rfl,trivial,rfl⟩) (aZ a8 lX)))))))) fun fl xs8 H1 s1 hfl l8 d8=>?_)
  have s2:=aD.new (o:=.lst xs8) hfl
  have LF:Lst K (dJ n m) [fl,t] fl 8 (upd H1 fl (.lst xs8)):=⟨xs8,aC,by omega,fun z hz=>(d8 z hz).keep (Vw.grow hfl)⟩
  have hflH:H fl=none:=s1.free hfl
  generalize upd H1 fl (.lst xs8)=H2 at s2 LF ⊢
  have nft:fl≠t:=hT.ne hflH
  have s02:=s1.trans s2
  clear a0 a1 a2 a3 a8
  refine ⟨_,rfl,_,rfl,q,rs,rfl,.inr (s02.seqT hq),t,a,ns,_,rfl,hT.same s02,by omega,by omega,fun at0 H3 ha0 ha1 b3 T3=>?_⟩
  obtain ⟨ai,rfl⟩:∃ ai:Nat,at0=ai:=⟨at0.toNat,by omega⟩
  have LF3:Lst K (dJ n m) [fl,t] fl 8 H3:=LF.move (But.vw b3 (by simp)) fun o h=>b3 _ _ nft h
  have but3:But t H H3:=(But.of s02).trans b3
  have hai:ai < cs.length:=by omega
  obtain ⟨y,hy,hdy⟩:=kG (i:=ai) (d:=bP cs[ai]) hrs (by rw [Qi,Qc hai]; rfl)
  obtain ⟨pr,rfl,hpr⟩:=aR.mp hdy
  have hcrow:=hcr cs[ai] (Xg hai)
  generalize cs[ai]=row at hpr hcrow
  obtain ⟨hrow,hr999,hrises⟩:=hcrow
  refine ⟨_,rfl,_,rfl,q,rs,(ai:Int),.ref pr,rfl,rfl,hT.seqT but3 hq,eR hy,?_⟩
  have S2:∀ p∈[fl,t],p=t∨H p=none:=fun p hp=>by
   simp only [Qj,Qn,or_false] at hp
   rcases hp with rfl | rfl
   ·exact .inr hflH
   ·exact .inl rfl
  have fx3:Fx [fl,t] H3:=fun b hb=>by
   simp only [Qj,Qn,or_false] at hb
   rcases hb with rfl | rfl
   ·obtain ⟨zs,hz,_⟩:=LF3
    exact ⟨_,hz⟩
   ·exact fT T3 _ (Qp.mpr rfl)
  have hml:(row.map V.int).length=row.length:=Qb ..
  have o0:=dP (K:=K) (σ:=[some (.ref t),some x,some (.ref q),some (.ref fl),some (.int ai),some (.ref pr),none,none,none,none,none,none]) (S:=[fl,t]) (i:=5) rfl (hT.seqT (but3.view S2) hpr)
  have o1:=(gN o0 (gI (eI (v:=.int 999))) (by rw [hml]; show _+1<=_; omega)).weakS (R':=DeP K (fQ m) [fl,t]) fun H' v s' g=>jQ g (l:=row++[999]) (by rw [Qz]; rfl) (rX (by rw [Qe]; show _+1≠_; omega) (by rw [Qe]; show _+1<=_; omega))
  have o2:=(xU o0).weakS (R':=DeP K (fQ m) [fl,t]) fun H' v s' ⟨p,e,g⟩=>⟨.list (row.map .int),gF.mpr ⟨p,_,e,g,bQ.mpr rfl⟩,trivial,rfl⟩
  have o4:=(gN o0 (gI (eI (v:=.bl true))) (by rw [hml]; show _+1<=_; omega)).weakS (R':=DeP K (fQ m) [fl,t]) fun H' v s' g=>oS g (bC (bQ.mpr rfl) (aM.mpr ⟨_,_,rfl,jG.mpr rfl,aN.mpr rfl⟩)) (tW (by rw [Qe,Qb]; show _+1≠_; omega) (by rw [Qe,Qb]; show _+1<=_; omega))
  refine oU (mG (S:=[fl,t]) (E:=DeP K (fQ m) [fl,t]) fx3 (aZ o1 (aZ o2 (aZ (sB ⟨.none,iN.mpr rfl,trivial,rfl⟩) (aZ o4 (aZ (sB ⟨.int _,bV.mpr rfl,trivial,rfl⟩) lX))))) fun ol xs5 H4 s4 hol l5 d5=>?_)
  clear o0 o1 o2 o4
  have holH:H ol=none:=but3.free (s4.free hol) (T3.ne (s4.free hol))
  have I5:Two K H t a ns (dJ n m) (fQ m) fl ol 8 5 (upd H4 ol (.lst xs5)):=⟨but3.trans (But.of (s4.trans (aD.new hol))),T3.same (s4.trans (aD.new hol)),(LF3.move (M:=8) (Vw.same s4) fun o h=>s4 _ _ h).move (Vw.grow hol) fun o h=>(aD.new hol) _ _ h,⟨xs5,aC,by omega,fun z hz=>(d5 z hz).keep (Vw.grow hol)⟩⟩
  have nofl:fl≠ol:=fun z=>by
   obtain ⟨zs,hz,_⟩:=LF3
   have:=s4 _ _ hz
   rw [z,hol] at this
   cases this
  generalize upd H4 ol (.lst xs5)=H5 at I5 ⊢
  have S3:∀ ol:Addr,H ol=none->∀ p∈[ol,fl,t],p=t∨H p=none:=fun ol h p hp=>by
   rcases Qj.mp hp with rfl | hp
   ·exact .inr h
   ·exact S2 p hp
  have rowv:∀ (ol:Addr) (NF NO:Nat) (H':Hp),H ol=none->Two K H t a ns (dJ n m) (fQ m) fl ol NF NO H'->SqT K (Vw [ol,fl,t] H') pr (row.map V.int):=fun ol NF NO H' h I=>hT.seqT (I.but.view (S3 ol h)) hpr
  have rowmid:∀ (S:List Addr) (H':Hp) (v y:V) (k:Nat) (d:PyData),TQ K S ((row.map V.int).take k++[y]++(row.map V.int).drop (k+1)) H' v->Den K (Vw S H') d y->cR d=false->DeP K (fQ m) S H' v:=fun S H' v y k d g hd hh=>by
   rw [mF,iH] at g
   exact oS g (bC (bC (bQ.mpr rfl) (aM.mpr ⟨_,_,rfl,hd,aN.mpr rfl⟩)) (bQ.mpr rfl)) (tX (d:=d) (by simp) hh (by rw [Qe,Qe,Qb,Qb,Qu,Ja]; show _+1+_<=_; omega))
  dsimp only [jL]
  refine fO (fun σ H6=>∃ (ol:Addr) (v7 v8:Option V),σ = [some (.ref t),some x,some (.ref q),some (.ref fl),some (.int ai),some (.ref pr),some (.ref ol),v7,v8,none,none,none]/\H ol=none/\fl≠ol/\Two K H t a ns (dJ n m) (fQ m) fl ol 8 12 H6) (fun N hN=>?_) ?_
  ·refine ⟨_,rfl,eA (Jh _),fun z0 hz0=>?_⟩
   have s6:=aD.new (o:=.tup []) hz0
   have I6:=I5.same s6
   have hpr6:=hT.seqT I6.but hpr
   refine ⟨.tuple (row.map .int),.tuple (([]:List Int).map .int),aR.mpr ⟨pr,rfl,hpr6⟩,aR.mpr ⟨z0,rfl,SqT.of aC⟩,fZ _,fZ _,fY _,fY _,_,rfl,?_⟩
   generalize upd H5 z0 (.tup [])=H6 at s6 I6 hpr6 ⊢
   refine gE (fun c1=>?_) (fun c1=>?_)
   ·have hne:row≠[]:=fun z=>by rw [z] at c1; exact absurd c1 (by decide +kernel)
    have hpos:0 < row.length:=Xy.mpr hne
    refine ⟨_,rfl,_,rfl,pr,_,rfl,.inr hpr6,t,a,ns,_,rfl,I6.T,by rw [hml]; omega,by rw [hml]; omega,fun k0 H7 hk0 hk1 b7 T7=>?_⟩
    rw [hml] at hk1
    obtain ⟨ki,rfl⟩:∃ ki:Nat,k0=ki:=⟨k0.toNat,by omega⟩
    have hki:ki < row.length:=by omega
    have I7:=I6.tape b7 T7 nft (hT.ne holH)
    have o0:=dP (K:=K) (σ:=[some (.ref t),some x,some (.ref q),some (.ref fl),some (.int ai),some (.ref pr),some (.ref ol),some (.int ki),none,none,none,none]) (S:=[ol,fl,t]) (i:=5) rfl (rowv ol _ _ H7 holH I7)
    have o6:=(iV (lo:=some 1) (hi:=none) o0 (eL eI) fP).weakS (R':=DeP K (fQ m) [ol,fl,t]) fun H' v s' g=>by
     rw [show (1:Int)=((1:Nat):Int) from rfl,eW,iH] at g
     exact jQ g rfl (rX (by rw [Ja]; omega) (by rw [Ja]; omega))
    have o7:=(vU (c:=row.length) (gI (eI (v:=.int 1000))) ((aAz o0).weakS fun _ v _ e=>by rw [e,hml]) (by omega) (show 1<=1000 by decide)).weakS (R':=DeP K (fQ m) [ol,fl,t]) fun H' v s' g=>by
     rw [Jr] at g
     exact jQ g (l:=List.replicate row.length 1000) (by rw [Zy]) (nB (x:=1000) (List.mem_replicate.mpr ⟨by omega,rfl⟩) (by omega) (by rw [Jc]; omega))
    dsimp only [jL]
    refine oU ?_
    refine ⟨_,rfl,mG (S:=[ol,fl,t]) (E:=DeP K (fQ m) [ol,fl,t]) I7.fx (aZ o6 (aZ o7 lX)) fun l2 xs2 H8 s8 hl2 ll2 d2=>?_⟩
    have I8:=(I7.same s8).same (aD.new (o:=.lst xs2) hl2)
    obtain ⟨x5,e5,lx5,dx5⟩:=I8.O
    refine ⟨ol,l2,x5,xs2,rfl,rfl,e5,aC,by rw [sizeLine_eq]; omega,fun ol2 hol2=>?_⟩
    have I9:=I8.swap (ol2:=ol2) (xs:=x5++xs2) (N:=7) hol2 (fun z hz=>by
     rcases Qx.mp hz with hz | hz
     ·exact dx5 z hz
     ·exact (d2 z hz).keep (Vw.same (aD.new hl2))) (by rw [Qe]; omega)
    have hol2H:H ol2=none:=I8.but.free hol2 (I8.T.ne hol2)
    have nofl2:fl≠ol2:=fun z=>by
     obtain ⟨zs,hz,_⟩:=I8.F
     rw [z,hol2] at hz
     cases hz
    generalize upd (upd H8 l2 (.lst xs2)) ol2 (.lst (x5++xs2))=H9 at I9 ⊢
    clear o0 o6 o7
    dsimp only [jL]
    refine fO (fun σ H10=>∃ v8:Option V,σ = [some (.ref t),some x,some (.ref q),some (.ref fl),some (.int ai),some (.ref pr),some (.ref ol2),some (.int ki),v8,none,none,none]/\Two K H t a ns (dJ n m) (fQ m) fl ol2 8 9 H10) (fun N2 hN2=>?_) ?_
    ·refine ⟨_,rfl,eA (show 2<=1000 by decide),fun lt hlt=>?_⟩
     have I10:=I9.same (aD.new (o:=.lst [.int (-1),.non]) hlt)
     have et:upd H9 lt (.lst [.int (-1),.non]) lt=some (.lst [.int (-1),.non]):=aC
     have nlt:lt≠ol2:=fun z=>by
      obtain ⟨zs,hz,_⟩:=I9.O
      rw [z,hz] at hlt
      cases hlt
     refine ⟨lt,rfl,⟨_,SqL.of et⟩,gX (K:=K) (xs:=[.int (-1),.non]) (fun i σ H10=>∃ v8:Option V,σ = [some (.ref t),some x,some (.ref q),some (.ref fl),some (.int ai),some (.ref pr),some (.ref ol2),some (.int ki),v8,none,none,none]/\H10 lt=some (.lst [.int (-1),.non])/\Two K H t a ns (dJ n m) (fQ m) fl ol2 8 (7+i) H10) ⟨_,rfl,et,I10⟩ ?_ ?_ ?_⟩
     ·rintro i σ H10 _ ⟨_,_,e,_⟩
      exact SqL.of e
     ·rintro i y σ H10 hy1 ⟨v8,rfl,e10,I10⟩
      have hi2:i < 2:=(Qd.mp hy1).1
      have hyd:∃ d,(∀ H':Hp,Den K H' d y)/\cR d=false:=by
       rcases Qh hy1 with _ | ⟨_,hx⟩
       ·exact ⟨.int (-1),fun _=>bV.mpr rfl,rfl⟩
       rcases hx with _ | ⟨_,hx⟩
       ·exact ⟨.none,fun _=>iN.mpr rfl,rfl⟩
       exact (Qn hx).elim
      obtain ⟨d,hd1,hd2⟩:=hyd
      refine kS hol2H (hT.ne hol2H) nofl2 I10 (by omega) rfl ((zJ (m:=ki) (y:=y) (dP rfl (rowv ol2 _ _ _ hol2H I10)) rfl (iB rfl) (by rw [hml]; omega)).weakS fun H' v s' g=>rowmid _ H' v y ki d g (hd1 _) hd2) fun H' b' I'=>?_
      exact ⟨_,rfl,b' _ _ nlt e10,I'⟩
     ·rintro σ H10 ⟨v8,rfl,_,I10⟩
      exact hN2 _ _ ⟨_,rfl,I10⟩
    ·rintro σ H10 ⟨v8,rfl,I10⟩
     refine rW (kS hol2H (hT.ne hol2H) nofl2 I10 (by omega) rfl ((gN (iV (lo:=none) (hi:=some (-1)) (dP rfl (rowv ol2 _ _ _ hol2H I10)) fP (eL mH)) (gI (eI (v:=.int 1000))) (by have:=cB (row.map V.int) none (some (-1)); show _+1<=_; omega)).weakS fun H' v s' g=>?_) fun H11 b11 I11=>?_)
     ·rw [oV] at g
      exact jQ g (l:=row.take (row.length - 1)++[1000]) (by rw [Qz]; rfl) (nB (x:=1000) (by simp) (by omega) (by rw [Qe,Qu]; show _+1<=_; omega))
     refine rW (kS hol2H (hT.ne hol2H) nofl2 I11 (by omega) rfl ((gN (gI (mH (i:=1))) (iV (lo:=some 1) (hi:=none) (dP rfl (rowv ol2 _ _ _ hol2H I11)) (eL eI) fP) (by have:=cB (row.map V.int) (some 1) none; show 1+_<=_; omega)).weakS fun H' v s' g=>?_) fun H12 b12 I12=>?_)
     ·rw [show (some (1:Int))=some (((1:Nat):Int)) from rfl,eW,iH] at g
      exact jQ g (l:=[-1]++row.drop 1) (by rw [Qz]; rfl) (nB (x:=-1) (by simp) (by omega) (by rw [Qe,Ja]; show 1+_<=_; omega))
     have hik:(row.map V.int)[ki]?=some (.int row[ki]):=by rw [Qi,Qc hki]; rfl
     refine kS hol2H (hT.ne hol2H) nofl2 I12 (by omega) rfl ((zJ (m:=ki) (y:=.bl (row[ki] !=0)) (dP rfl (rowv ol2 _ _ _ hol2H I12)) rfl (aCD (aCC (dP rfl (rowv ol2 _ _ _ hol2H I12)) (iB rfl) (eR hik))) (by rw [hml]; omega)).weakS fun H' v s' g=>rowmid _ H' v _ ki (.bool (row[ki] !=0)) g (jG.mpr rfl) rfl) fun H13 b13 I13=>?_
     exact hN _ _ ⟨ol2,_,_,rfl,hol2H,nofl2,I13⟩
   ·exact hN _ _ ⟨ol,_,_,rfl,holH,nofl,I6.up (by omega)⟩
  ·clear nofl I5
   rintro σ H6 ⟨ol,v7,v8,rfl,holH,nofl,I6⟩
   have hpr6:=hT.seqT I6.but hpr
   refine fO (fun σ H7=>∃ (v9 v10:Option V),σ = [some (.ref t),some x,some (.ref q),some (.ref fl),some (.int ai),some (.ref pr),some (.ref ol),v7,v8,v9,v10,none]/\Two K H t a ns (dJ n m) (fQ m) fl ol 8 15 H7) (fun N hN=>?_) ?_
   ·refine ⟨_,rfl,pr,_,rfl,.inr hpr6,_,_,rfl,rfl,_,rfl,?_⟩
    refine gE (fun c1=>?_) (fun c1=>?_)
    ·have hl2:1 < row.length:=by
      have h:=of_decide_eq_true c1
      rw [hml] at h
      omega
     obtain ⟨r2,hr2⟩:∃ r2,row.length=r2+2:=⟨row.length - 2,by omega⟩
     have o0:=dP (K:=K) (σ:=[some (.ref t),some x,some (.ref q),some (.ref fl),some (.int ai),some (.ref pr),some (.ref ol),v7,v8,none,none,none]) (S:=[ol,fl,t]) (i:=5) rfl (rowv ol _ _ H6 holH I6)
     refine rW (kS holH (hT.ne holH) nofl I6 (by omega) rfl ((gN (gI (eI (v:=.int 999))) (vU (c:=r2+1) (gI (eI (v:=.int 0))) ((rV (g:=fun i j=>i - j) (aAz o0) (eI (v:=.int 1))).weakS fun _ v _ e=>by rw [e,hml,hr2]; congr 1; omega) (by omega) (show 1<=1000 by decide)) (by rw [Jr,Jc]; show 1+_<=_; omega)).weakS fun H' v s' g=>?_) fun H7 b7 I7=>?_)
     ·rw [Jr] at g
      exact jQ g (l:=[999]++List.replicate (r2+1) 0) (by rw [Qz,Zy]; rfl) (mZ (A:=[]) (B:=List.replicate r2 0) (x:=999) (y:=0) (by decide) rfl (by rw [Qe,Jc]; show 1+_<=_; omega))
     have h2a:(row.map V.int)[(row.map V.int).length - 2]?=some (.int row[r2]):=by rw [show (row.map V.int).length - 2=r2 by omega,Qi,Qc (by omega)]; rfl
     refine rW (kS holH (hT.ne holH) nofl I7 (by omega) rfl ((gN (iV (lo:=none) (hi:=some (-1)) (dP rfl (rowv ol _ _ _ holH I7)) fP (eL mH)) (gI (rV (g:=fun i j=>i - j) (aCC (dP rfl (rowv ol _ _ _ holH I7)) (mH (i:=2)) (aDv (j:=2) (by decide) (by rw [hml]; omega) h2a)) (eI (v:=.int 1)))) (by have:=cB (row.map V.int) none (some (-1)); show _+1<=_; omega)).weakS fun H' v s' g=>?_) fun H8 b8 I8=>?_)
     ·rw [oV] at g
      exact jQ g (l:=row.take (row.length - 1)++[row[r2] - 1]) (by rw [Qz]; rfl) (mZ (A:=row.take r2) (B:=[]) (x:=row[r2]) (y:=row[r2] - 1) (by omega) (by rw [show row.length - 1=r2+1 by omega,Zf (by omega),Yd,Za]; rfl) (by rw [Qe,Qu]; show _+1<=_; omega))
     refine ⟨_,rfl,_,rfl,pr,_,rfl,.inr (hT.seqT I8.but hpr),_,_,rfl,rfl,t,a,ns,_,rfl,I8.T,by rw [hml]; omega,by rw [hml]; omega,fun k0 H9 hk0 hk1 b9 T9=>?_⟩
     rw [hml] at hk1
     obtain ⟨pi,rfl⟩:∃ pi:Nat,k0=pi:=⟨k0.toNat,by omega⟩
     have hpi:pi+1 < row.length:=by omega
     have I9:=I8.tape b9 T9 nft (hT.ne holH)
     have hpr9:=hT.seqT I9.but hpr
     have hi1:(row.map V.int)[pi]?=some (.int row[pi]):=by rw [Qi,Qc (by omega)]; rfl
     have hi2:(row.map V.int)[pi+1]?=some (.int row[pi+1]):=by rw [Qi,Qc hpi]; rfl
     refine ⟨_,rfl,_,rfl,pr,_,(pi:Int),.int row[pi],rfl,rfl,hpr9,eR hi1,_,rfl,_,rfl,_,_,rfl,rfl,pr,_,(pi:Int)+1,.int row[pi+1],rfl,rfl,hpr9,(by rw [show (pi:Int)+1=((pi+1:Nat):Int) by omega]; exact eR hi2),rfl,_,rfl,?_⟩
     refine gE (fun c2=>?_) (fun c2=>?_)
     ·have hne:row[pi]≠row[pi+1]:=fun z=>by
       rw [z] at c2
       simp at c2
      have hle:row[pi]<=row[pi+1]:=Yb.mp hrises pi (pi+1) (by omega) hpi (by omega)
      refine oU (zV I9.fx (iV (lo:=some (pi:Int)) (hi:=some ((pi:Int)+2)) (dP rfl (rowv ol _ _ _ holH I9)) (eL (iB rfl)) (eL (rV (g:=fun i j=>i+j) (iB rfl) (eI (v:=.int 2))))) fun v H10 s10 ⟨p2,e2,g2⟩=>?_)
      cases e2
      have e3:iY (row.map V.int) (some (pi:Int)) (some ((pi:Int)+2)) = [.int row[pi],.int row[pi+1]]:=by
       rw [show (pi:Int)+2=((pi+2:Nat):Int) by omega,aCE _ _ _ (by omega) (by omega),iH,mF,show pi+2 - pi=2 by omega,Xl (by omega),Xl hpi]
       rfl
      rw [e3] at g2
      have I10:=I9.same s10
      refine kS holH (hT.ne holH) nofl I10 (by omega) rfl ((gN (gN (iV (lo:=none) (hi:=some (pi:Int)) (dP rfl (rowv ol _ _ _ holH I10)) fP (eL (iB rfl))) (aDs (dP rfl g2) (mH (i:=1))) (by have:=cB (row.map V.int) none (some (pi:Int)); show _+2<=_; omega)) (iV (lo:=some ((pi:Int)+2)) (hi:=none) (dP rfl (rowv ol _ _ _ holH I10)) (eL (rV (g:=fun i j=>i+j) (iB rfl) (eI (v:=.int 2)))) fP) (by have:=cB (row.map V.int) none (some (pi:Int)); have:=cB (row.map V.int) (some ((pi:Int)+2)) none; rw [Qe]; show _+2+_<=_; omega)).weakS fun H' v s' g=>?_) fun H11 b11 I11=>?_
      ·rw [kI,show (pi:Int)+2=((pi+2:Nat):Int) by omega,eW,mF,iH] at g
       exact jQ g (l:=row.take pi++[row[pi+1],row[pi]]++row.drop (pi+2)) (by rw [Qz,Qz]; rfl) (mZ (x:=row[pi+1]) (y:=row[pi]) (by omega) rfl (by rw [Qe,Qe,Qu,Ja]; show _+2+_<=_; omega))
      ·exact hN _ _ ⟨_,_,rfl,I11⟩
     ·exact hN _ _ ⟨_,_,rfl,I9.up (by omega)⟩
    ·exact hN _ _ ⟨_,_,rfl,I6.up (by omega)⟩
   ·rintro σ H7 ⟨v9,v10,rfl,I7⟩
    obtain ⟨xo,eo,lo,dxo⟩:=I7.O
    refine fO (fun σ H8=>∃ (v11:Option V),σ = [some (.ref t),some x,some (.ref q),some (.ref fl),some (.int ai),some (.ref pr),some (.ref ol),v7,v8,v9,v10,v11]/\Two K H t a ns (dJ n m) (fQ m) fl ol (8+xo.length) 15 H8) (fun N hN=>?_) ?_
    ·refine ⟨_,rfl,ol,rfl,⟨_,SqL.of eo⟩,gX (K:=K) (xs:=xo) (fun i σ H8=>∃ (v11:Option V),σ = [some (.ref t),some x,some (.ref q),some (.ref fl),some (.int ai),some (.ref pr),some (.ref ol),v7,v8,v9,v10,v11]/\H8 ol=some (.lst xo)/\(∀ z∈xo,DeP K (fQ m) [ol,fl,t] H8 z)/\Two K H t a ns (dJ n m) (fQ m) fl ol (8+i) 15 H8) ⟨none,rfl,eo,dxo,I7⟩ ?_ ?_ ?_⟩
     ·rintro i σ H8 _ ⟨_,_,e,_⟩
      exact SqL.of e
     ·rintro i y σ H8 hy1 ⟨v11,rfl,e8,d8,I8⟩
      have hil:i < xo.length:=(Qd.mp hy1).1
      obtain ⟨d,hd1,hd2⟩:=d8 y (Qh hy1)
      refine aDu hflH nft nofl I8 (by omega) rfl ((zJ (m:=ai) (y:=y) (dP rfl (vw _ _ I8.but (S3 ol holH)).2) rfl (iB rfl) (by omega)).weakS fun H' v s' g=>?_) fun H' b' I'=>?_
      ·have v1:=(vw [ol,fl,t] H' (I8.but.trans (But.of s')) (S3 ol holH)).1
       exact oS g (bC (bC (Ab.eZ ai v1) (aM.mpr ⟨_,_,rfl,(Vw.same s').den _ _ hd1,aN.mpr rfl⟩)) (jN (ai+1) v1)) (xV (d:=d) (by simp) hd2 (by rw [Qe,Qe,Qu,Ja,Qb]; show _+1+_<=_; omega) fun d' hd'=>by
        rcases Qx.mp hd' with hd' | hd'
        ·rcases Qx.mp hd' with hd' | hd'
         ·exact szr d' (Jq hd')
         ·rw [Qp.mp hd']
          exact hd2.1
        ·exact szr d' (Zn hd'))
      ·exact ⟨_,rfl,b' _ _ (Ne.symm nofl) e8,fun z hz=>(d8 z hz).keep (But.vw b' (by simp)),I'⟩
     ·rintro σ H8 ⟨v11,rfl,_,_,I8⟩
      exact hN _ _ ⟨_,rfl,I8⟩
    ·rintro σ H8 ⟨v11,rfl,I8⟩
     obtain ⟨xs,e,_,dxs⟩:=I8.F
     exact ⟨_,rfl,k fl xs H8 I8.but I8.T hflH e fun z hz=>let ⟨d,h1,h2⟩:=dxs z hz; ⟨d,Vw.sub.den _ _ h1,h2⟩⟩
end
end Ab
namespace L2
open PySem
section
variable {K:PySem.W.Frag} {S:List Addr} {H H0:Hp} {σ:St} {te ta tb ts:TE} {t tr:TA} {d:PyData} {ds es:List PyData}
def ED (K:PySem.W.Frag) (S:List Addr) (d:PyData):Hp->V->Prop:=fun H v=>Den K (Vw S H) d v
instance:Mo (ED K S d):=⟨fun e h=>(Vw.same e).den _ _ h⟩
def EDs (H0:Hp) (K:PySem.W.Frag) (S:List Addr) (ds:List PyData) (t:TA) (σ:St):Prop:=∀ H,aD H0 H->Fx S H->∀ Q:List V->Hp->Prop,(∀ vs H',aD H H'->aU K (Vw S H') ds vs->Q vs H')->t σ H Q
theorem cJ:EDs H0 K S [] jK σ:=fun H _ _ Q k=>k [] H (aD.refl H) (aN.mpr rfl)
theorem bG (h:Al H0 S te σ (ED K S d)) (r:EDs H0 K S ds tr σ):EDs H0 K S (d::ds) (gD te tr) σ:=fun H s f Q k=>h H s f _ fun v H1 s1 d1=>r H1 (s.trans s1) (f.same s1) _ fun vs H2 s2 d2=>k _ _ (s1.trans s2) (aM.mpr ⟨v,vs,rfl,(Vw.same s2).den _ _ d1,d2⟩)
theorem jW {i:Int}:Al H0 S (tC (.int i)) σ (ED K S (.int i)):=sB (R:=ED K S (.int i)) (bV.mpr rfl)
theorem aCG:Al H0 S (tC .non) σ (ED K S .none):=sB (R:=ED K S .none) (iN.mpr rfl)
theorem aDJ {b:Bool}:Al H0 S (tC (.bl b)) σ (ED K S (.bool b)):=sB (R:=ED K S (.bool b)) (jG.mpr rfl)
theorem aEt {i:Int}:Al H0 S (tUn (rU fun i=>.int (-i)) (tC (.int i))) σ (ED K S (.int (-i))):=fun H s f Q k=>⟨i,rfl,k _ H (aD.refl H) (bV.mpr rfl)⟩
theorem iW {i:Nat} {v:V} (h:σ[i]?=some (some v)) (r:Den K (Vw S H0) d v):Al H0 S (gT i) σ (ED K S d):=yH (R:=ED K S d) h r
theorem eN (h:EDs H0 K S ds t σ) (hn:ds.length<=1000:=by simp):Al H0 S (qB t) σ (ED K S (.tuple ds)):=fun H s f Q k=>h H s f _ fun vs H1 s1 d=>⟨by rw [aJ d,sizeLine_eq]; omega,fun p hp=>k _ _ (s1.trans (aD.new hp)) (aO.mpr ⟨p,vs,rfl,SqT.of (Vw.at (f.same s1) hp),(Vw.same (aD.new hp)).denAll _ _ d⟩)⟩
theorem aCH (h:EDs H0 K S ds t σ) (hn:ds.length<=1000:=by simp):Al H0 S (aBw t) σ (ED K S (.list ds)):=fun H s f Q k=>h H s f _ fun vs H1 s1 d=>⟨by rw [aJ d,sizeLine_eq]; omega,fun p hp=>k _ _ (s1.trans (aD.new hp)) (gF.mpr ⟨p,vs,rfl,SqL.of (Vw.at (f.same s1) hp),(Vw.same (aD.new hp)).denAll _ _ d⟩)⟩
theorem aCI (ha:Al H0 S ta σ (ED K S (.tuple ds))) (hb:Al H0 S tb σ (ED K S (.tuple es))) (hn:ds.length+es.length<=1000):Al H0 S (tOp (kX K) ta tb) σ (ED K S (.tuple (ds++es))):=fun H s f Q k=>ha H s f _ fun v H1 s1 d1=>hb H1 (s.trans s1) (f.same s1) _ fun u H2 s2 d2=>by
 obtain ⟨p,xs,rfl,g,hxs⟩:=aO.mp ((Vw.same s2).den _ _ d1)
 obtain ⟨q,ys,rfl,g',hys⟩:=aO.mp d2
 exact ⟨p,q,xs,ys,rfl,rfl,Vw.sub.seqT g,Vw.sub.seqT g',by rw [sizeLine_eq,aJ hxs,aJ hys]; omega,fun r H3 s3 g3=>k _ _ (s1.trans (s2.trans s3)) (aO.mpr ⟨r,_,rfl,(((f.same s1).same s2).same s3).seqT g3,bC ((Vw.same s3).denAll _ _ hxs) ((Vw.same s3).denAll _ _ hys)⟩)⟩
theorem aFd {m:Nat} (ha:Al H0 S ta σ (ED K S (.tuple ds))) (hm:Al H0 S tb σ fun _ v=>v=.int m):Al H0 S (tSl (pG K) ta gK (kW tb)) σ (ED K S (.tuple (ds.take m))):=fun H s f Q k=>ha H s f _ fun v H1 s1 d1=>hm H1 (s.trans s1) (f.same s1) _ fun u H2 s2 e=>by
 obtain ⟨p,xs,rfl,g,hxs⟩:=aO.mp ((Vw.same s2).den _ _ d1)
 exact ⟨m,e,p,xs,rfl,Vw.sub.seqT g,fun r H3 s3 g3=>k _ _ (s1.trans (s2.trans s3)) (aO.mpr ⟨r,_,rfl,(((f.same s1).same s2).same s3).seqT (by rw [<- kI]; exact g3),L2.eZ m ((Vw.same s3).denAll _ _ hxs)⟩)⟩
theorem aDw {m:Nat} (ha:Al H0 S ta σ (ED K S (.tuple ds))) (hm:Al H0 S tb σ fun _ v=>v=.int m):Al H0 S (tSl (pG K) ta (kW tb) gK) σ (ED K S (.tuple (ds.drop m))):=fun H s f Q k=>ha H s f _ fun v H1 s1 d1=>hm H1 (s.trans s1) (f.same s1) _ fun u H2 s2 e=>by
 obtain ⟨p,xs,rfl,g,hxs⟩:=aO.mp ((Vw.same s2).den _ _ d1)
 exact ⟨m,e,p,xs,rfl,Vw.sub.seqT g,fun r H3 s3 g3=>k _ _ (s1.trans (s2.trans s3)) (aO.mpr ⟨r,_,rfl,(((f.same s1).same s2).same s3).seqT (by rw [<- eW]; exact g3),jN m ((Vw.same s3).denAll _ _ hxs)⟩)⟩
theorem aBi (ha:Al H0 S ta σ (ED K S (.tuple ds))):Al H0 S (tCB (uG K) (gD ta jK)) σ (ED K S (.list ds)):=fun H s f Q k=>ha H s f _ fun v H1 s1 d1=>by
 obtain ⟨p,xs,rfl,g,hxs⟩:=aO.mp d1
 exact ⟨p,xs,rfl,.inr (Vw.sub.seqT g),fun q hq=>k _ _ (s1.trans (aD.new hq)) (gF.mpr ⟨q,xs,rfl,SqL.of (Vw.at (f.same s1) hq),(Vw.same (aD.new hq)).denAll _ _ hxs⟩)⟩
theorem aEu {c:Nat} (ha:Al H0 S ta σ (ED K S (.tuple ds))) (h2:c<=1000:=by decide) (hn:ds.length<=1000:=by decide):Al H0 S (tOp (aCb K) ta (tC (.int c))) σ (ED K S (.tuple (List.replicate c ds).flatten)):=fun H s f Q k=>ha H s f _ fun v H1 s1 d1=>by
 obtain ⟨p,xs,rfl,g,hxs⟩:=aO.mp d1
 exact ⟨p,c,xs,rfl,rfl,Vw.sub.seqT g,h2,by rw [aJ hxs]; exact hn,fun q H' s' hq=>k _ H' (s1.trans s') (aO.mpr ⟨q,_,rfl,((f.same s1).same s').seqT hq,qP ((Vw.same s').denAll _ _ hxs) c⟩)⟩
end
end L2
namespace Ab
open PySem L2
theorem aCJ {n:Int} {d:PyData} {a b:List PyData} (h:bR n d=false):bZ (.tuple [.int n,.tuple (a++[d]++b)])=false:=by
 show (decide (1<=n) && decide (n<=6) && decide ((a++[d]++b).length<=12) && (a++[d]++b).all (bR n))=false
 simp [h]
def kT (d:PyData):Prop:=bZ d=false
theorem ED.no {K:PySem.W.Frag} {S:List Addr} {H0:Hp} {σ:St} {te:TE} {d:PyData} (h:Al H0 S te σ (ED K S d)) (n:bZ d=false):Al H0 S te σ (DeP K kT S):=h.weak fun _ _ r=>⟨d,r,n⟩
theorem aCK (n:Int):∀ d∈[PyData.tuple [.int n],.tuple [],.tuple [.int 0,.int 0],.list [.int 0],.tuple [.int (-1)],.tuple [.bool false],.none,.int 0],bR n d=false:=by
 intro d hd
 simp only [Qj,Qn,or_false] at hd
 rcases hd with rfl | rfl | rfl | rfl | rfl | rfl | rfl | rfl
 ·show (!([PyData.int n].isEmpty) && dL n (-1) [.int n])=false
  simp [dL]
 ·rfl
 ·simp [bR,dL]
 ·rfl
 ·simp [bR,dL]
 ·rfl
 ·rfl
 ·rfl
def xW (row:List Int):List Int:=row.take (row.length - 1)++List.replicate (if row = [] then 0 else 1) 999
theorem aCL {m:Nat} {row:List Int} (h:kP m row):kP m (xW row):=by
 obtain ⟨h1,h2,h3⟩:=h
 unfold xW
 by_cases hr:row = []
 ·subst hr
  exact ⟨h1,fun c hc=>absurd hc (by simp),by simp⟩
 ·have hp:0 < row.length:=Xy.mpr hr
  rw [if_neg hr]
  refine ⟨by rw [Qe,Qu,Jc]; omega,fun c hc=>?_,?_⟩
  ·rcases Qx.mp hc with hc | hc
   ·exact h2 c (Jq hc)
   ·rw [Xz hc]; omega
  ·refine Yn.mpr ⟨h3.sublist (List.take_sublist _ _),by simp,fun x hx y hy=>?_⟩
   rw [Xz hy]
   exact (h2 x (Jq hx)).2
end Ab
namespace L2
open PySem
theorem aDx {K:PySem.W.Frag} {H:Hp} {ta:TA} {g:TG} {tb:TS} {D:Ends} {σ:St} (h:aBw ta σ H fun x H1=>∃ a,x=.ref a/\(∃ xs,SqL K H1 a xs)/\∃ W:Nat->Nat->St->Hp->Prop,(∃ m,W 0 m σ H1)/\∀ i m σ H,W i m σ H->((Itl K a).stop i H/\D.nx σ H)∨((Itl K a).go i H/\∃ N:St->Hp->Prop,(∀ σ' H',N σ' H'->∃ m',m' < m/\W (i+1) m' σ' H') /\
  ∀ x H',(Itl K a).yld i H x H'->g x σ H' fun σ2 H2=>tb { D with nx:=N,ct:=N,bk:=D.nx } σ2 H2)):aEK (aDz K (aBw ta)) g tb D σ H:=h
end L2
namespace Ab
open PySem L2
section
variable {P:Program} {w:World} {K:PySem.W.Frag} {mg:Str->Option Value} {base:Heap} {c:Nat->Addr}
theorem aBj {t a:Addr} {H H':Hp} {xs:List V} (ht:H t=none) (b:But t H H') (h:SqL K H a xs):SqL K H' a xs:=by
 rcases h with (h | ⟨o,h⟩) | h
 ·exact .inl (.inl (b _ _ (fun z=>by rw [z,ht] at h; cases h) h))
 ·exact .inl (.inr ⟨o,b _ _ (fun z=>by rw [z,ht] at h; cases h) h⟩)
 ·exact .inr h
theorem aFe:bootBuiltins "max" = some (.builtin "max"):=by decide +kernel
theorem mI (v:V):(!decide (v=v))=false:=by simp
def aAA (K:PySem.W.Frag) (Pt:Addr):Sp:=fun vs H Q _=>∃ (a:Addr) (ns:List Int),vs = [.ref a]/\SqL K H a (ns.map V.int)/\H Pt=some (.tab vO)/\∀ H',H' Pt=some (.tab vO)->Q (.bl true) H'
theorem iC:FnScope ["script", "start", "tape", "book", "costs", "deal", "n", "works", "at", "nones", "bad", "none", "door", "some"] ["script"] (aI aCg):=⟨rfl,rfl,rfl,by decide +kernel,rfl,by decide +kernel,by decide +kernel⟩
set_option maxHeartbeats 8000000 in
theorem aEv {f fT fB fE fC fD fWd fNd fNo Pt:Addr} {fd dT dB dE dC fdD dWd dNd dNo:FuncData} (G:Fn K mg "law" aCg ["script"] f fd) (B:Bl mg)
  (GTp:Fn K mg "_law_atape" aAf ["script", "k"] fT dT) (OTp:FnOk P w K mg base CX0 2 fT dT ["script", "k"] (aCk K))
  (GB:Fn K mg "_law_abook" qX ["tape", "hands", "works"] fB dB) (OB:FnOk P w K mg base CX0 2 fB dB ["tape", "hands", "works"] (aAn K))
  (GE:Fn K mg "_law_adeal" qY ["tape", "book"] fE dE) (OE:FnOk P w K mg base CX0 2 fE dE ["tape", "book"] (aCn K))
  (GAC2:Fn K mg "_law_acosts" nR ["tape", "book"] fC dC) (OAC2:FnOk P w K mg base CX0 2 fC dC ["tape", "book"] (xO K))
  (GD:Fn K mg "_law_adigit" jP ["tape", "many"] fD fdD) (OD:FnOk P w K mg base CX0 1 fD fdD ["tape", "many"] (kN K))
  (GWd:Fn K mg "_law_aword" vB ["door", "book", "costs", "deal"] fWd dWd) (OWd:FnOk P w K mg base CX0 9 fWd dWd ["door", "book", "costs", "deal"] (vR K c Pt))
  (GNd:Fn K mg "_law_ano_deals" nU ["book", "deal"] fNd dNd) (ONd:FnOk P w K mg base CX0 1 fNd dNd ["book", "deal"] (tV K))
  (GNo:Fn K mg "_law_ano_costs" nS ["tape", "book", "costs"] fNo dNo) (ONo:FnOk P w K mg base CX0 2 fNo dNo ["tape", "book", "costs"] (tY K)):FnOk P w K mg base CX0 10 f fd ["script"] (aAA K Pt):=by
 refine G.fn.ok iC (fun vs H Q E h=>?_) (fun cdv A outer s H vs Q E hr h=>?_)
 ·obtain ⟨a,ns,rfl,_⟩:=h
  rfl
 ·obtain ⟨a,ns,rfl,hns,hPt,k⟩:=h
  have r1:Room 1 _:=hr.mono (by decide)
  have r2:Room 2 _:=hr.mono (by decide)
  have r9:Room 9 _:=hr
  refine ⟨_,(aE (cO PassesOwn.never rfl (aAF rfl B.range (aA aG (aA (aL (aAG rfl) rfl B.max aFe (aA aG (aA (aL (aAH rfl) rfl B.min aDB (aA aG (aA (aL (bL (K:=K) rfl) rfl B.len eU (aA (pv 0) aB)) aB))) aB))) aB))) (aK (i:=1) iC.nd rfl (Or.inl rfl))
   (aE (aS (i:=2) iC.nd rfl (Or.inl rfl) (bB GTp OTp r2 rfl (aA (pv 0) (aA (pv 1) aB))))
  (aE (aS (i:=3) iC.nd rfl (Or.inr rfl) (bB GB OB r2 rfl (aA (pv 2) (aA aG (aA aG aB)))))
  (aE (aS (i:=4) iC.nd rfl (Or.inl rfl) (cA cG rfl B.tuple cQ (aA (cM (own:=["row"]) (fr:=[]) (frn:=[]) (bA (aI aCg) ["script", "start", "tape", "book", "costs", "deal", "n", "works", "at", "nones", "bad", "none", "door", "some"] rfl rfl (by decide +kernel)) rfl (gW (bB GAC2 OAC2 r2 rfl (aA (pv 2) (aA (pv 3) aB))))
    (fun _ _ _ _=>(aK (i:=0) (show (["row"]:List Str).Nodup by decide +kernel) rfl (Or.inl rfl))) (fun _ _ _ _=>cW)
    (fun _ _ _ _=>(aT (bF (K:=K) rfl) (bD (bH (K:=K) rfl) (pv 0) bN (bK (kU iS aG))) (aT (pM (K:=K) rfl) (aX (aA aG aB)) (cA aAI rfl B.int aDF (aA (kF (aC7 (K:=K) rfl hr.u64) (pv 0) (aX aB) (bJ _)) aB)))))) aB)))
  (aE (aS (i:=5) iC.nd rfl (Or.inl rfl) (bB GE OE r2 rfl (aA (pv 2) (aA (pv 3) aB))))
  (aE (pU (pv 3) (jR rfl (aV (aK (i:=6) iC.nd rfl (Or.inl rfl)) (aV (aK (i:=7) iC.nd rfl (Or.inl rfl)) eF))))
  (aE (aS (i:=8) iC.nd rfl (Or.inl rfl) (bB GD OD r1 rfl (aA (pv 2) (aA (aT eX (aL (bL (K:=K) rfl) rfl B.len eU (aA (pv 7) aB)) aG) aB))))
  (aE (aS (i:=9) iC.nd rfl (Or.inl rfl) (bW (aA (aX (aA aG (aA (aX aB) aB))) (aA (aX (aA aG (aA (aX aB) aB))) (aA (bW (aA (pv 6) (aA (pv 7) aB))) (aA gU (aA (aX (aA dO (aA (aX aB) aB))) aB)))))))
  (aE (aS (i:=9) iC.nd rfl (Or.inl rfl) (aT lF (pv 9) (bW (aA (aX (aA (pv 6) (aA (cA (iK (K:=K) rfl) rfl B.list uX (aA (pv 7) aB)) aB))) (aA (aX (aA (pv 6) (aA (pv 7) (aA (aX aB) aB)))) (aA (aX (aA (pv 6) (aA (aT (pM (K:=K) rfl) (aX (aA (aX (aA aG aB)) aB)) aG) aB))) aB))))))
  (aE (cO PassesOwn.never rfl (iI (bW (aA (aX (aA (pv 6) aB)) (aA (aX aB) (aA (aX (aA aG (aA aG aB))) (aA (bW (aA aG aB)) (aA (aX (aA (kU iS aG) aB)) (aA (aX (aA dO aB)) (aA gU (aA aG aB)))))))))) (aK (i:=10) iC.nd rfl (Or.inl rfl))
   (aF (bI (gZ PySem.F.plainAttrs_list PySem.F.slot_list_append PySem.F.type_list_append cC (pv 9) (aA (aX (aA (pv 6) (aA (aT (bF (K:=K) rfl) (aT (bF (K:=K) rfl) (bD (bH (K:=K) rfl) (pv 7) bN (bK (pv 8))) (aX (aA (pv 10) aB))) (bD (bH (K:=K) rfl) (pv 7) (bK (pv 8)) bN)) aB))) aB)))))
  (aE (bI (gZ PySem.F.plainAttrs_list PySem.F.slot_list_append PySem.F.type_list_append cC (pv 9) (aA (aX (aA aG (aA (aT (bF (K:=K) rfl) (aT (bF (K:=K) rfl) (bD (bH (K:=K) rfl) (pv 7) bN (bK (pv 8))) (aX (aA (aX (aA aG (aA aG aB))) aB))) (bD (bH (K:=K) rfl) (pv 7) (bK (pv 8)) bN)) aB))) aB)))
  (aE (cO PassesOwn.never rfl (iI (pv 9)) (aK (i:=11) iC.nd rfl (Or.inr rfl))
   (aF (cO PassesOwn.never rfl (cL rfl B.range (aA aG aB)) (aK (i:=12) iC.nd rfl (Or.inl rfl))
   (aE (cF (bE iX (bB GWd OWd r9 rfl (aA (pv 12) (aA (pv 11) (aA gU (aA gU aB))))) gB (bJ _))
   (aF (aQ dO))
   aW)
  (aF (cF (bE iX (bB GWd OWd r9 rfl (aA (pv 12) (aA (pv 11) (aA (pv 4) (aA (pv 5) aB))))) gB (bJ _))
   (aF (aQ dO))
   aW))))))
  (aE (cO PassesOwn.never rfl (iI (bB GNd ONd r1 rfl (aA (pv 3) (aA (pv 5) aB)))) (aK (i:=11) iC.nd rfl (Or.inr rfl))
   (aF (cO PassesOwn.never rfl (iI (bW (aA gU (aA (pv 4) aB)))) (aK (i:=13) iC.nd rfl (Or.inr rfl))
   (aF (cF (bE (uF hr.u64) (cM (own:=["door"]) (fr:=[3,11,13]) (frn:=["book", "none", "some"]) (bA (aI aCg) ["script", "start", "tape", "book", "costs", "deal", "n", "works", "at", "nones", "bad", "none", "door", "some"] rfl rfl (by decide +kernel)) rfl (iI (bW (aA aG (aA aG aB))))
    (fun _ _ _ _=>(aK (i:=0) (show (["door", "book", "none", "some"]:List Str).Nodup by decide +kernel) rfl (Or.inl rfl))) (fun _ _ _ _=>cW)
    (fun _ _ _ _=>(bB GWd OWd r9 rfl (aA (pv 0) (aA (pv 1) (aA (pv 3) (aA (pv 2) aB))))))) (bW (aA gB (aA gB aB))) (bJ _))
   (aF (aQ dO))
   aW)))))
  (aE (cO PassesOwn.never rfl (iI (bB GNo ONo r2 rfl (aA (pv 2) (aA (pv 3) (aA (pv 4) aB))))) (aK (i:=11) iC.nd rfl (Or.inr rfl))
   (aF (cO PassesOwn.never rfl (cL rfl B.range (aA aG aB)) (aK (i:=12) iC.nd rfl (Or.inl rfl))
   (aF (cF (bE iX (bB GWd OWd r9 rfl (aA (pv 12) (aA (pv 3) (aA (pv 11) (aA (pv 5) aB))))) gB (bJ _))
   (aF (aQ dO))
   aW)))))
  (aF (cO PassesOwn.never rfl (cL rfl B.range (aA aG aB)) (aK (i:=12) iC.nd rfl (Or.inl rfl))
   (aF (cF (bE iX (bB GWd OWd r9 rfl (aA (pv 12) (aA (pv 3) (aA (pv 4) (aA (pv 5) aB))))) gB (bJ _))
   (aF (aQ dO))
   aW))))))))))))))))))
  (aF (aQ dO))),?_⟩
  have hM:∀ m:Int,0<=m->0<=(if (if m < 3 then m else 3) > 1 then (if m < 3 then m else 3) else 1)/\(if (if m < 3 then m else 3) > 1 then (if m < 3 then m else 3) else 1)<=3:=fun m hm=>by split <;> split <;> omega
  have hM':=hM ((ns.map V.int).length:Int) (by omega)
  refine ⟨_,rfl,a,_,rfl,.inl hns,_,_,rfl,_,_,rfl,0,_,rfl,⟨by decide,by decide,by omega,by omega⟩,fU (lo:=0) (fun i σ H1=>(∃ v1 v2 v3 v4 v5 v6 v7 v8 v9 v10 v11 v12 v13,σ = [some (.ref a),v1,v2,v3,v4,v5,v6,v7,v8,v9,v10,v11,v12,v13])/\SqL K H1 a (ns.map V.int)/\H1 Pt=some (.tab vO)) ⟨⟨_,_,_,_,_,_,_,_,_,_,_,_,_,rfl⟩,hns,hPt⟩ ?_ ?_⟩
  ·rintro i σ H1 hi ⟨⟨v1,v2,v3,v4,v5,v6,v7,v8,v9,v10,v11,v12,v13,rfl⟩,hs1,P1⟩
   refine ⟨_,rfl,_,rfl,a,ns,i,by rw [Int.zero_add]; rfl,hs1,fun t n0 ht=>?_⟩
   have nPt:Pt≠t:=fun z=>by rw [z,ht] at P1; cases P1
   have b2:But t H1 (upd H1 t (.lst [.int n0])):=But.at
   have T2:fL K (upd H1 t (.lst [.int n0])) t a ns:=⟨_,aC⟩
   generalize upd H1 t (.lst [.int n0])=H2 at b2 T2 ⊢
   refine ⟨_,rfl,t,a,ns,6,6,rfl,T2,by decide,by decide,by decide,by decide,fun n ws bp H3 hbk hwl b3 T3 hb3=>?_⟩
   refine ⟨_,rfl,_,rfl,t,a,ns,.ref bp,n,ws,rfl,T3,hb3,hbk,fun cs0 cp0 H4 hc0 b4 T4 hc4=>?_⟩
   have hb4:=T3.den b4 (iQ n ws) hb3
   obtain ⟨hn1,hn6,hw12,hws⟩:=bM hbk
   obtain ⟨hcl0,hcr0⟩:=hc0
   obtain ⟨cp0',rs,e,hcp,hrs⟩:=aO.mp hc4
   cases e
   have hrl:=aJ hrs
   rw [Qb] at hrl
   refine ⟨cp0,rfl,⟨_,hcp⟩,nI (K:=K) (a:=cp0) (xs:=rs) (fun σ=>∃ v,σ = [v]) (fun j zs H5=>aD H4 H5/\aU K H5 (((cs0.take j).map xW).map bP) zs) (eA (by omega)) ⟨none,rfl⟩ ⟨aD.refl _,aN.mpr rfl⟩ ?_ ?_ ?_ ?_⟩
   ·rintro j zs H5 ⟨_,d5⟩
    rw [aJ d5,Qb,Qb,Qu]
    omega
   ·rintro j zs H5 ⟨s5,_⟩
    exact s5.seqT hcp
   ·rintro j zs σ x H5 hx ⟨v,rfl⟩ ⟨s5,d5⟩ hz
    obtain ⟨dv,hdv,denv⟩:=cI hrs hx
    rw [Qi] at hdv
    obtain ⟨row,hrow,rfl⟩:∃ l,cs0[j]?=some l/\bP l=dv:=by
     cases q:cs0[j]? with
     | none=>rw [q] at hdv; cases hdv
     | some l=>rw [q] at hdv; exact ⟨l,rfl,Option.some.inj hdv⟩
    obtain ⟨pr,rfl,hpr⟩:=aR.mp denv
    have hlr:row.length<=12:=by have:=(hcr0 row (Qh hrow)).1; omega
    have hml:(row.map V.int).length=row.length:=Qb ..
    refine cX ?_
    have f5:Fx [] H5:=Fx.nil
    have hpr5:=s5.seqT hpr
    have hI:∀ (R:R2),(∀ (p:Addr) (H':Hp) (Q':VK),SqT K H' pr (row.map V.int)->SqT K H' p []->Q' (.bl (!decide (row = []))) H'->R (.ref pr) (.ref p) H' Q')->Al H5 [] (tCB (fun xs H Q=>(∃ i,xs = [V.int i]/\Q (V.int i) H)∨∃ k,xs = [V.bl k]/\Q (V.int (if k=true then 1 else 0)) H) (gD (tOp R (gT 0) (qB jK)) jK)) [some (.ref pr)] (fun _ v=>v=.int ((if row = [] then 0 else 1:Nat):Int)):=fun R hR H6 s6 f6 Q6 k6 =>
     ⟨_,rfl,eA (Jh _),fun p hp=>hR p _ _ ((s6.trans (aD.new hp)).seqT hpr5) (SqT.of aC) (.inr ⟨_,rfl,k6 _ _ (aD.new hp) (by by_cases hr0:row = [] <;> simp [hr0])⟩)⟩
    refine zV (S:=[]) f5 (gN (K:=K) (iV (lo:=none) (hi:=some (-1)) (dP rfl (f5.seqT hpr5)) fP (eL mH)) (vU (c:=if row = [] then 0 else 1) (gI (eI (v:=.int 999))) (hI _ fun p H' Q' h1 h2 h3=>⟨.tuple (row.map .int),.tuple (([]:List Int).map .int),aR.mpr ⟨pr,rfl,h1⟩,aR.mpr ⟨p,rfl,h2⟩,fZ _,fZ _,fY _,fY _,by rw [aA8]; exact h3⟩) (by split <;> omega) (by decide)) (by rw [Jr,Jc]; have:=cB (row.map V.int) none (some (-1)); split <;> omega)) fun v H6 s6 ⟨p,e,g⟩=>?_
    cases e
    refine ⟨hz,⟨_,rfl⟩,s5.trans s6,?_⟩
    rw [oV,Jr] at g
    have g':SqT K H6 p ((xW row).map V.int):=by
     unfold xW
     rw [Qz,Zy]
     exact Vw.sub.seqT g
    have hj:j < cs0.length:=(Qd.mp hrow).1
    have ej:cs0.take (j+1)=cs0.take j++[row]:=by
     rw [Zf hj,(Qd.mp hrow).2]
    rw [ej,Qz,Qz]
    exact bC (s6.denAll _ _ d5) (aM.mpr ⟨_,_,rfl,aR.mpr ⟨p,rfl,g'⟩,aN.mpr rfl⟩)
   rintro zs H5 ⟨s5,d5⟩ z hz
   rw [hrl,Ju] at d5
   refine ⟨z,_,rfl,.inl ⟨SqL.of aC,fun cp hcpn=>?_⟩⟩
   have s56:=(aD.new (o:=.lst zs) hz).trans (aD.new (o:=.tup zs) hcpn)
   have q6:upd (upd H5 z (.lst zs)) cp (.tup zs) cp=some (.tup zs):=aC
   generalize upd (upd H5 z (.lst zs)) cp (.tup zs)=H6 at s56 q6 ⊢
   have s46:=s5.trans s56
   have hc6:Den K H6 (iG (cs0.map xW)) (.ref cp):=aO.mpr ⟨cp,zs,rfl,SqT.of q6,s56.denAll _ _ d5⟩
   have hcok:gM n ws.length (cs0.map xW):=⟨by rw [Qb]; exact hcl0,fun r hr'=>by
    obtain ⟨r0,hr0,rfl⟩:=Jw.mp hr'
    exact aCL (hcr0 r0 hr0)⟩
   generalize cs0.map xW=cs at hc6 hcok
   have T6:=T4.same s46
   have hb6:=s46.den _ _ hb4
   have b16:=b2.trans (b3.trans (b4.trans (But.of s46)))
   clear s5 d5 hrs hcp hc4
   refine ⟨_,rfl,_,rfl,t,a,ns,.ref bp,n,ws,rfl,T6,hb6,hbk,fun hs dp H7 hd b7 T7 hd7=>?_⟩
   have hb7:=T6.den b7 (iQ n ws) hb6
   have nlc:eS (iG cs)=true:=by unfold iG eS; exact cK _ cT cs
   have hc7:=T6.den b7 nlc hc6
   obtain ⟨ba,bb,ys,e,ha7,hb27,hys7⟩:=cP hb7
   cases e
   have hlw:=aJ hys7
   rw [Qb] at hlw
   refine ⟨_,rfl,bp,_,rfl,ha7,rfl,_,_,rfl,_,_,rfl,rfl,?_⟩
   refine ⟨_,rfl,_,rfl,bb,ys,rfl,.inr hb27,_,_,rfl,rfl,t,a,ns,_,rfl,T7,by omega,by omega,fun at0 H8 ha0 ha1 b8 T8=>?_⟩
   obtain ⟨ai,rfl⟩:∃ ai:Nat,at0=ai:=⟨at0.toNat,by omega⟩
   have hb8:=T7.den b8 (iQ n ws) hb7
   have hc8:=T7.den b8 nlc hc7
   have hd8:=T7.den b8 (lP hs) hd7
   have hb28:=T7.seqT b8 hb27
   have hys8:=T7.denAll b8 (cK _ cT ws) hys7
   have b18:=b16.trans (b7.trans b8)
   have P8:=b18 _ _ nPt P1
   have g8:kM K H8 (.ref bp) (.ref dp) n ws hs:=⟨hb8,hbk,hd8,hd⟩
   clear hb7 hc7 hb27 hys7 ha7 hb6 hc6 hb4 hb3
   dsimp only [jL]
   have dW:Den K H8 (.tuple (ws.map bP)) (.ref bb):=aO.mpr ⟨bb,ys,rfl,hb28,hys8⟩
   have nlw:eS (.tuple (ws.map bP))=true:=by unfold eS; exact cK _ cT ws
   have wv:∀ (S:List Addr) (H':Hp),aD H8 H'->Fx S H'->Den K (Vw S H') (.tuple (ws.map bP)) (.ref bb):=fun S H' s' f'=>by
    refine aO.mpr ⟨bb,ys,rfl,f'.seqT (s'.seqT hb28),?_⟩
    have:∀ {ds:List PyData} {vs:List V},(∀ d∈ds,∃ l,d=bP l)->aU K H' ds vs->aU K (Vw S H') ds vs:=by
     intro ds
     induction ds with
     | nil=>intro vs _ h; exact aN.mpr (aN.mp h)
     | cons d r ih =>
      intro vs hh h
      obtain ⟨x,r',rfl,h1,h2⟩:=aM.mp h
      obtain ⟨l,rfl⟩:=hh d (Qt ..)
      obtain ⟨p,rfl,hp⟩:=aR.mp h1
      exact aM.mpr ⟨_,_,rfl,aR.mpr ⟨p,rfl,f'.seqT hp⟩,ih (fun d hd=>hh d (Qq _ hd)) h2⟩
    exact this (fun d hd=>by obtain ⟨l,_,rfl⟩:=Jw.mp hd; exact ⟨l,rfl⟩) (s'.denAll _ _ hys8)
   have iv:∀ (S:List Addr) (H':Hp),Den K (Vw S H') (.int n) (.int n):=fun S H'=>bV.mpr rfl
   refine oU (mG (S:=[]) (E:=DeP K kT []) Fx.nil (aZ (ED.no (eN (bG jW (bG (eN cJ) cJ))) (by decide)) (aZ (ED.no (eN (bG jW (bG (eN cJ) cJ))) (by decide)) (aZ (ED.no (aCH (bG (iW rfl (iv _ _)) (bG (iW rfl (wv _ _ (aD.refl _) Fx.nil)) cJ))) rfl) (aZ (ED.no aCG rfl) (aZ (ED.no (eN (bG aDJ (bG (eN cJ) cJ))) rfl) lX))))) fun nl0 xs5 H9 s9 hnl0 l5 d5=>?_)
   have s9':=aD.new (o:=.lst xs5) hnl0
   have e9:upd H9 nl0 (.lst xs5) nl0=some (.lst xs5):=aC
   have d9:∀ z∈xs5,DeP K kT [] (upd H9 nl0 (.lst xs5)) z:=fun z hz=>(d5 z hz).keep (Vw.same s9')
   generalize upd H9 nl0 (.lst xs5)=H10 at s9' e9 d9 ⊢
   have s10:=s9.trans s9'
   refine oU ?_
   refine ⟨_,rfl,mG (S:=[]) (E:=DeP K kT []) Fx.nil (aZ (ED.no (eN (bG (iW rfl (iv _ _)) (bG (aBi (iW rfl (wv _ _ s10 Fx.nil))) cJ))) rfl) (aZ (ED.no (eN (bG (iW rfl (iv _ _)) (bG (iW rfl (wv _ _ s10 Fx.nil)) (bG (eN cJ) cJ)))) rfl) (aZ (ED.no (eN (bG (iW rfl (iv _ _)) (bG (aEu (c:=13) (eN (bG (eN (bG jW cJ)) cJ))) cJ))) (by
    show (decide (1<=n) && decide (n<=6) && decide ((List.replicate 13 [PyData.tuple [.int 0]]).flatten.length<=12) && _)=false
    rw [show decide ((List.replicate 13 [PyData.tuple [.int 0]]).flatten.length<=12)=false from rfl,Xo,Xa])) lX))) fun l3 xs3 H11 s11 hl3 ll3 d3=>?_⟩
   have s11':=aD.new (o:=.lst xs3) hl3
   refine ⟨nl0,l3,xs5,xs3,rfl,rfl,s11' _ _ (s11 _ _ e9),aC,by rw [sizeLine_eq]; omega,fun nl hnl=>?_⟩
   have hnl8:H8 nl=none:=(s10.trans (s11.trans s11')).free hnl
   have I12:LI K kT H8 nl 8 (upd (upd H11 l3 (.lst xs3)) nl (.lst (xs5++xs3))):=⟨s10.trans (s11.trans (s11'.trans (aD.new hnl))),_,aC,by rw [Qe]; omega,fun z hz=>by
    refine DeP.keep (S:=[]) (H:=upd H11 l3 (.lst xs3)) ?_ (Vw.grow hnl)
    rcases Qx.mp hz with hz | hz
    ·exact (d9 z hz).keep (Vw.same (s11.trans s11'))
    ·exact (d3 z hz).keep (Vw.same s11')⟩
   generalize upd (upd H11 l3 (.lst xs3)) nl (.lst (xs5++xs3))=H12 at I12 ⊢
   clear d9 e9 d5 d3
   dsimp only [jL]
   have bad:∀ {te:TE} {v10 v11 v12 v13:Option V} {Hx:Hp} {N:Nat} {d:PyData} {m:Int} {tn:TE},LI K kT H8 nl N Hx->Al Hx [nl] tn [some (.ref a),some (.int (0+(i:Int))),some (.ref t),some (.ref bp),some (.ref cp),some (.ref dp),some (.int n),some (.ref bb),some (.int ai),some (.ref nl),v10,v11,v12,v13] (ED K [nl] (.int m))->Al Hx [nl] te [some (.ref a),some (.int (0+(i:Int))),some (.ref t),some (.ref bp),some (.ref cp),some (.ref dp),some (.int n),some (.ref bb),some (.int ai),some (.ref nl),v10,v11,v12,v13] (ED K [nl] d)->bR m d=false ->
     Al Hx [nl] (qB (gD tn (gD (tOp (kX K) (tOp (kX K) (tSl (pG K) (gT 7) gK (kW (gT 8))) (qB (gD te jK))) (tSl (pG K) (gT 7) (kW (gT 8)) gK)) jK))) [some (.ref a),some (.int (0+(i:Int))),some (.ref t),some (.ref bp),some (.ref cp),some (.ref dp),some (.int n),some (.ref bb),some (.int ai),some (.ref nl),v10,v11,v12,v13] (DeP K kT [nl]):=fun I hn hd hw =>
    ED.no (eN (bG hn (bG (aCI (aCI (aFd (iW rfl (wv _ _ I.same I.fx)) (iB rfl)) (eN (bG hd cJ)) (by rw [Qu,Qb]; show _+1<=_; omega)) (aDw (iW rfl (wv _ _ I.same I.fx)) (iB rfl)) (by rw [Qe,Qu,Ja,Qb]; show _+1+_<=_; omega)) cJ))) (aCJ hw)
   have wn:=aCK n
   have toD:∀ {te:TE} {σ:St} {Hx:Hp} {d:PyData},bR n d=false->Al Hx [nl] te σ (ED K [nl] d)->Al Hx [nl] te σ (DeP K (fun d=>bR n d=false) [nl]):=fun hw h=>h.weak fun _ _ r=>⟨_,r,hw⟩
   refine fO (fun σ H13=>∃ v10:Option V,σ = [some (.ref a),some (.int (0+(i:Int))),some (.ref t),some (.ref bp),some (.ref cp),some (.ref dp),some (.int n),some (.ref bb),some (.int ai),some (.ref nl),v10,v11,v12,v13]/\LI K kT H8 nl 16 H13) (fun N hN=>?_) ?_
   ·refine aDx (K:=K) (mG (S:=[nl]) (E:=DeP K (fun d=>bR n d=false) [nl]) I12.fx (aZ (toD (wn _ (by simp)) (eN (bG (iW rfl (iv _ _)) cJ))) (aZ (toD (wn _ (by simp)) (eN cJ)) (aZ (toD (wn _ (by simp)) (eN (bG jW (bG jW cJ)))) (aZ (toD (wn _ (by simp)) (aCH (bG jW cJ))) (aZ (toD (wn _ (by simp)) (eN (bG aEt cJ))) (aZ (toD (wn _ (by simp)) (eN (bG aDJ cJ))) (aZ (toD (wn _ (by simp)) aCG) (aZ (toD (wn _ (by simp)) jW) lX)))))))) fun lb xb H13 s13 hlb lxb dxb=>?_)
    have nlb:lb≠nl:=fun z=>by
     obtain ⟨zs,hz,_⟩:=(I12.next s13 (Qg _)).has
     rw [z,hz] at hlb
     cases hlb
    have I13:=(I12.next s13 (Qg _)).next (aD.new (o:=.lst xb) hlb) (Qg _)
    have dxb':∀ z∈xb,DeP K (fun d=>bR n d=false) [nl] (upd H13 lb (.lst xb)) z:=fun z hz=>(dxb z hz).keep (Vw.same (aD.new hlb))
    have elb:upd H13 lb (.lst xb) lb=some (.lst xb):=aC
    refine ⟨lb,rfl,⟨_,SqL.of elb⟩,gX (K:=K) (xs:=xb) (fun j σ H14=>∃ v10:Option V,σ = [some (.ref a),some (.int (0+(i:Int))),some (.ref t),some (.ref bp),some (.ref cp),some (.ref dp),some (.int n),some (.ref bb),some (.int ai),some (.ref nl),v10,v11,v12,v13]/\H14 lb=some (.lst xb)/\(∀ z∈xb,DeP K (fun d=>bR n d=false) [nl] H14 z)/\LI K kT H8 nl (8+j) H14) ⟨_,rfl,elb,dxb',I13⟩ ?_ ?_ ?_⟩
    ·rintro j σ H14 _ ⟨_,_,e,_⟩
     exact SqL.of e
    ·rintro j y σ H14 hy ⟨v10',rfl,e14,d14,I14⟩
     have hj:j < xb.length:=(Qd.mp hy).1
     obtain ⟨d,hd1,hd2⟩:=d14 y (Qh hy)
     refine vT (fl:=nl) (N:=8+j) hnl8 I14 (by omega) rfl (fun Q' hQ'=>zV I14.fx (bad I14 (iW rfl (iv _ _)) (iW rfl hd1) hd2) hQ') fun H' b' I'=>?_
     exact ⟨_,rfl,b' _ _ nlb e14,fun z hz=>(d14 z hz).keep (But.vw b' (Qp.mpr rfl)),I'⟩
    ·rintro σ H14 ⟨v10',rfl,_,_,I14⟩
     rw [lxb] at I14
     exact hN _ _ ⟨_,rfl,I14⟩
   ·rintro σ H13 ⟨v10',rfl,I13⟩
    refine rW (vT (fl:=nl) (N:=16) hnl8 I13 (by decide) rfl (fun Q' hQ'=>zV I13.fx (bad I13 jW (eN (bG jW (bG jW cJ))) (by decide)) hQ') fun H14 _ I14=>?_)
    dsimp only
    obtain ⟨xn,en,_,dn⟩:=I14.has
    have s814:=I14.same
    have bk14:=s814.den _ _ hb8
    have g14:=g8.same s814
    have c14:=s814.den _ _ hc8
    have P14:=s814 _ _ P8
    have T14:=T8.same s814
    have b114:=b18.trans (But.of s814)
    clear I14 I13 bad toD wn I12
    refine fO (fun σ H15=>∃ v11 v12:Option V,σ = [some (.ref a),some (.int (0+(i:Int))),some (.ref t),some (.ref bp),some (.ref cp),some (.ref dp),some (.int n),some (.ref bb),some (.int ai),some (.ref nl),v10',v11,v12,v13]/\aD H14 H15) (fun N hN=>?_) ?_
    ·refine ⟨_,rfl,nl,rfl,⟨_,SqL.of en⟩,gX (K:=K) (xs:=xn) (fun _ σ H15=>∃ v11 v12:Option V,σ = [some (.ref a),some (.int (0+(i:Int))),some (.ref t),some (.ref bp),some (.ref cp),some (.ref dp),some (.int n),some (.ref bb),some (.int ai),some (.ref nl),v10',v11,v12,v13]/\aD H14 H15) ⟨_,_,rfl,aD.refl _⟩ (fun _ σ H15 _ ⟨_,_,_,s15⟩=>s15.seqL (SqL.of en)) ?_ (fun σ H15 h=>hN _ _ h)⟩
     rintro j x σ H15 hx ⟨w11,w12,rfl,s15⟩
     obtain ⟨d,hd1,hd2⟩:=dn x (Qh hx)
     have dx:∀ {H'},aD H14 H'->Den K H' d x:=fun s=>s.den _ _ (Vw.sub.den _ _ hd1)
     refine ⟨3,rfl,by decide,by decide,fU (lo:=0) (n:=3) (fun _ σ H16=>∃ v12:Option V,σ = [some (.ref a),some (.int (0+(i:Int))),some (.ref t),some (.ref bp),some (.ref cp),some (.ref dp),some (.int n),some (.ref bb),some (.int ai),some (.ref nl),v10',some x,v12,v13]/\aD H14 H16) ⟨_,rfl,s15⟩ ?_ (fun σ H16 ⟨_,e,h⟩=>⟨_,_,e,h⟩)⟩
     rintro dr σ H16 hdr ⟨w12',rfl,s16⟩
     refine ⟨_,rfl,_,rfl,_,x,.non,.non,rfl,by omega,by omega,.inr ⟨0, "book",by decide,rfl,.inl ⟨d,dx s16,hd2,rfl⟩,fun H17 s17=>⟨rfl,_,rfl,?_⟩⟩⟩
     rw [mI]
     refine eO ?_
     have s1417:=s16.trans s17
     refine ⟨_,rfl,_,rfl,_,rfl,_,rfl,_,x,.ref cp,.ref dp,rfl,by omega,by omega,.inr ⟨0, "book",by decide,rfl,.inl ⟨d,dx s1417,hd2,rfl⟩,fun H18 s18=>⟨rfl,_,rfl,?_⟩⟩⟩
     rw [mI]
     refine eO ?_
     exact ⟨_,rfl,s1417.trans s18⟩
    ·rintro σ H15 ⟨w11,w12,rfl,s15⟩
     refine fO (fun σ H16=>∃ v11 v12 v13:Option V,σ = [some (.ref a),some (.int (0+(i:Int))),some (.ref t),some (.ref bp),some (.ref cp),some (.ref dp),some (.int n),some (.ref bb),some (.int ai),some (.ref nl),v10',v11,v12,v13]/\aD H14 H16) (fun N hN=>?_) ?_
     ·refine ⟨_,rfl,_,rfl,.ref bp,.ref dp,n,ws,hs,rfl,g14.same s15,fun p xd H16 s16 hp e16 nd=>?_⟩
      refine ⟨p,rfl,⟨_,SqL.of e16⟩,gX (K:=K) (xs:=xd) (fun _ σ H17=>∃ v11 v12 v13:Option V,σ = [some (.ref a),some (.int (0+(i:Int))),some (.ref t),some (.ref bp),some (.ref cp),some (.ref dp),some (.int n),some (.ref bb),some (.int ai),some (.ref nl),v10',v11,v12,v13]/\aD H16 H17) ⟨_,_,_,rfl,aD.refl _⟩ (fun _ σ H17 _ ⟨_,_,_,_,s17⟩=>s17.seqL (SqL.of e16)) ?_ (fun σ H17 ⟨_,_,_,e,h⟩=>hN _ _ ⟨_,_,_,e,s15.trans (s16.trans h)⟩)⟩
      rintro j x σ H17 hx ⟨u11,u12,u13,rfl,s17⟩
      obtain ⟨d,hd1,hd2⟩:=nd x (Qh hx)
      have dx:∀ {H'},aD H16 H'->Den K H' d x:=fun s=>s.den _ _ (Vw.sub.den _ _ hd1)
      refine ⟨_,rfl,sz2 _ _,fun ls hls=>?_⟩
      have s18:=s17.trans (aD.new (o:=.lst [.non,.ref cp]) hls)
      have e18:upd H17 ls (.lst [.non,.ref cp]) ls=some (.lst [.non,.ref cp]):=aC
      generalize upd H17 ls (.lst [.non,.ref cp])=H18 at s18 e18 ⊢
      refine ⟨ls,rfl,⟨_,SqL.of e18⟩,gX (K:=K) (xs:=[.non,.ref cp]) (fun _ σ H19=>∃ v13:Option V,σ = [some (.ref a),some (.int (0+(i:Int))),some (.ref t),some (.ref bp),some (.ref cp),some (.ref dp),some (.int n),some (.ref bb),some (.int ai),some (.ref nl),v10',some x,u12,v13]/\aD H18 H19) ⟨_,rfl,aD.refl _⟩ (fun _ σ H19 _ ⟨_,_,s19⟩=>s19.seqL (SqL.of e18)) ?_ (fun σ H19 ⟨_,e,h⟩=>⟨_,_,_,e,s18.trans h⟩)⟩
      rintro j2 so σ H19 hso ⟨w13,rfl,s19⟩
      have s1619:=s18.trans s19
      refine ⟨sz2 _ _,fun l2 hl2=>?_⟩
      have s20:=aD.new (o:=.lst [.int 1,.int 2]) hl2
      have e20:upd H19 l2 (.lst [.int 1,.int 2]) l2=some (.lst [.int 1,.int 2]):=aC
      generalize upd H19 l2 (.lst [.int 1,.int 2])=H20 at s20 e20 ⊢
      have s1620:=s1619.trans s20
      refine ⟨l2,rfl,⟨_,SqL.of e20⟩,aBS (K:=K) (a:=l2) (xs:=[.int 1,.int 2]) (vs:=[.str "deal",.str "deal"]) (fun σ=>∃ v,σ = [v,some (.ref bp),some x,some so]) (by decide) rfl (SqL.of e20) ⟨none,rfl⟩ ?_ ?_⟩
      ·rintro m xv v σ H21 hxv hv ⟨v0,rfl⟩ s21 Q' hQ'
       have hm:(xv=.int 1∨xv=.int 2)/\v=.str "deal" := by
        match m,hxv,hv with
        | 0,hxv,hv=>exact ⟨.inl (Option.some.inj hxv).symm,(Option.some.inj hv).symm⟩
        | 1,hxv,hv=>exact ⟨.inr (Option.some.inj hxv).symm,(Option.some.inj hv).symm⟩
       obtain ⟨hxv',rfl⟩:=hm
       obtain ⟨di,rfl,hd12,hd13⟩:∃ di:Int,xv=.int di/\1<=di/\di<=2:=by
        rcases hxv' with rfl | rfl
        ·exact ⟨1,rfl,by decide,by decide⟩
        ·exact ⟨2,rfl,by decide,by decide⟩
       have s1621:=s1620.trans s21
       refine ⟨_,rfl,_,rfl,_,rfl,_,rfl,di,.ref bp,so,x,rfl,by omega,by omega,.inr ⟨1, "deal",by decide,rfl,.inr (.inr ⟨hd12,.inl (.inr ⟨n,ws,d,((s15.trans s16).trans s1621).den _ _ bk14,hbk,dx s1621,hd2,rfl⟩)⟩),fun H22 s22=>?_⟩⟩
       exact hQ' _ _ ⟨_,rfl⟩ s22
      ·rintro H21 s21 z hz
       have s22:=aD.new (o:=.lst [.str "deal",.str "deal"]) hz
       refine ⟨sz2 _ _,fun z2 hz2=>?_⟩
       have s23:=aD.new (o:=.lst [.str "deal",.str "deal"]) hz2
       refine ⟨.list [.str "deal",.str "deal"],.list [.str "deal",.str "deal"],gF.mpr ⟨z,_,rfl,SqL.of (s23 _ _ aC),aM.mpr ⟨_,_,rfl,iZ.mpr rfl,aM.mpr ⟨_,_,rfl,iZ.mpr rfl,aN.mpr rfl⟩⟩⟩,gF.mpr ⟨z2,_,rfl,SqL.of aC,aM.mpr ⟨_,_,rfl,iZ.mpr rfl,aM.mpr ⟨_,_,rfl,iZ.mpr rfl,aN.mpr rfl⟩⟩⟩,by decide +kernel,by decide +kernel,by decide +kernel,by decide +kernel,_,rfl,?_⟩
       rw [show (!PyData.eqv (.list [.str "deal",.str "deal"]) (.list [.str "deal",.str "deal"]))=false by decide +kernel]
       refine eO ?_
       exact ⟨_,rfl,s19.trans (s20.trans (s21.trans (s22.trans s23)))⟩
     ·rintro σ H16 ⟨u11,u12,u13,rfl,s16⟩
      have g16:=g14.same s16
      refine fO (fun σ H17=>∃ v11 v12:Option V,σ = [some (.ref a),some (.int (0+(i:Int))),some (.ref t),some (.ref bp),some (.ref cp),some (.ref dp),some (.int n),some (.ref bb),some (.int ai),some (.ref nl),v10',v11,v12,u13]/\But t H16 H17) (fun N hN=>?_) ?_
      ·refine ⟨_,rfl,_,rfl,_,rfl,t,a,ns,.ref bp,cp,n,ws.length,cs,rfl,T14.same s16,s16.den _ _ c14,hcok,hn1,hn6,hw12,fun p xc H17 b17 T17 hp e17 nc=>?_⟩
       have gk:∀ {H'},aD H17 H'->kM K H' (.ref bp) (.ref dp) n ws hs:=fun s=>⟨s.den _ _ ((T14.same s16).den b17 (iQ n ws) g16.1),hbk,s.den _ _ ((T14.same s16).den b17 (lP hs) g16.2.2.1),hd⟩
       refine ⟨p,rfl,⟨_,SqL.of e17⟩,gX (K:=K) (xs:=xc) (fun _ σ H18=>∃ v11 v12:Option V,σ = [some (.ref a),some (.int (0+(i:Int))),some (.ref t),some (.ref bp),some (.ref cp),some (.ref dp),some (.int n),some (.ref bb),some (.int ai),some (.ref nl),v10',v11,v12,u13]/\aD H17 H18) ⟨_,_,rfl,aD.refl _⟩ (fun _ σ H18 _ ⟨_,_,_,s18⟩=>s18.seqL (SqL.of e17)) ?_ (fun σ H18 ⟨_,_,e,h⟩=>hN _ _ ⟨_,_,e,b17.trans (But.of h)⟩)⟩
       rintro j x σ H18 hx ⟨y11,y12,rfl,s18⟩
       obtain ⟨d,hd1,hd2,hd3⟩:=nc x (Qh hx)
       refine ⟨3,rfl,by decide,by decide,fU (lo:=0) (n:=3) (fun _ σ H19=>∃ v12:Option V,σ = [some (.ref a),some (.int (0+(i:Int))),some (.ref t),some (.ref bp),some (.ref cp),some (.ref dp),some (.int n),some (.ref bb),some (.int ai),some (.ref nl),v10',some x,v12,u13]/\aD H17 H19) ⟨_,rfl,s18⟩ ?_ (fun σ H19 ⟨_,e,h⟩=>⟨_,_,e,h⟩)⟩
       rintro dr σ H19 hdr ⟨y12',rfl,s19⟩
       have bc:zG K (c 0) (c 2) H19 (.ref bp) x (c 2):=.inr ⟨n,ws,d,(gk s19).1,hbk,s19.den _ _ hd1,hd2,hd3,rfl⟩
       have rf:aEr K (c 0) (c 1) (c 2) H19 (0+(dr:Int)) (.ref bp) x (.ref dp) (c 2):=by
        by_cases h0:dr=0
        ·exact .inr (.inl ⟨by omega,bc⟩)
        ·exact .inr (.inr ⟨by omega,.inr ⟨n,ws,hs,gk s19,bc⟩⟩)
       refine ⟨_,rfl,_,rfl,_,rfl,_,rfl,_,.ref bp,x,.ref dp,rfl,by omega,by omega,.inr ⟨2, "costs",by decide,rfl,rf,fun H20 s20=>⟨rfl,_,rfl,?_⟩⟩⟩
       rw [mI]
       refine eO ?_
       exact ⟨_,rfl,s19.trans s20⟩
      ·rintro σ H17 ⟨y11,y12,rfl,b17⟩
       have T16:=T14.same s16
       have b117:=(b114.trans (But.of s16)).trans b17
       have g17:kM K H17 (.ref bp) (.ref dp) n ws hs:=⟨T16.den b17 (iQ n ws) g16.1,hbk,T16.den b17 (lP hs) g16.2.2.1,hd⟩
       have c17:=T16.den b17 nlc (s16.den _ _ c14)
       have P17:=b117 _ _ nPt P1
       refine ⟨3,rfl,by decide,by decide,fU (lo:=0) (n:=3) (fun _ σ H18=>∃ v12:Option V,σ = [some (.ref a),some (.int (0+(i:Int))),some (.ref t),some (.ref bp),some (.ref cp),some (.ref dp),some (.int n),some (.ref bb),some (.int ai),some (.ref nl),v10',y11,v12,u13]/\aD H17 H18) ⟨_,rfl,aD.refl _⟩ ?_ ?_⟩
       ·rintro dr σ H18 hdr ⟨y12',rfl,s18⟩
        refine ⟨_,rfl,_,rfl,_,rfl,_,rfl,_,.ref bp,.ref cp,.ref dp,rfl,by omega,by omega,.inl ⟨n,ws,cs,hs,cp,⟨g17.same s18,rfl,s18.den _ _ c17,hcok,s18 _ _ P17⟩,fun H19 s19=>⟨rfl,_,rfl,?_⟩⟩⟩
        rw [mI]
        refine eO ?_
        exact ⟨_,rfl,s18.trans s19⟩
       ·rintro σ H18 ⟨y12',rfl,s18⟩
        have b118:=b117.trans (But.of s18)
        exact ⟨⟨_,_,_,_,_,_,_,_,_,_,_,_,_,rfl⟩,aBj ht b118 hs1,b118 _ _ nPt P1⟩
  ·rintro σ H1 ⟨_,_,P1⟩
   exact k _ P1
end
end Ab
namespace Ab
open PySem L2 PyProof.Rows
theorem dG {K:PySem.W.Frag} {h:Heap} {mg:Str->Option Value} (X:K.In h) (G:h.Ns mainGlobals mg) {x:Str} {st:Stmt} {ps:List Str} {f:Addr} {oc:Value} {od an:Option Addr} {osl:Array (Option Value)} {kV doc pm cdv ct:Value}
  (hb:∀ (kV doc pm:Value) (an:Option Addr) (cdv ct:Value) (us:List Value),us.length=ps.length->bindArgs (PySem.W.fnOf x x (jM st) (hG st) (aI st) .none kV doc pm an cdv ct) ⟨us,[]⟩=pure (ps.zip us))
  (a:PySem.W.nsIn K mainGlobals x=some (some (.ref f))) (l:K.lookup f=some ⟨oc,od,.func (PySem.W.fnOf x x (jM st) (hG st) (aI st) .none kV doc pm an cdv ct),osl⟩) (c:PySem.W.codeIn K cdv x=true) (k:PySem.W.keepIn K (.ref f)=true) :
  ∃ f fd,Fn K mg x st ps f fd:=by
 have F:=aBB (st:=st) l c k
 exact ⟨f,_,F,PySem.W.mg_of X G a,k,F.binds hb⟩
theorem aEw {K:PySem.W.Frag} {h:Heap} {mg:Str->Option Value} (X:K.In h) (G:h.Ns mainGlobals mg) {x:Str} {st:Stmt} {ps:List Str} {f:Addr} {oc:Value} {od an:Option Addr} {osl:Array (Option Value)} {kV doc pm cdv ct:Value}
  (hb:∀ (kV doc pm:Value) (an:Option Addr) (cdv ct:Value) (us:List Value),us.length=ps.length->bindArgs (PySem.W.fnOf x x (jM st) (hG st) (aI st) .none kV doc pm an cdv ct) ⟨us,[]⟩=pure (ps.zip us))
  (a:PySem.W.nsIn K mainGlobals x=some (some (.ref f))) (l:K.lookup f=some ⟨oc,od,.func (PySem.W.fnOf x x (jM st) (hG st) (aI st) .none kV doc pm an cdv ct),osl⟩) (c:PySem.W.codeIn K cdv x=true) (k:PySem.W.keepIn K (.ref f)=true) :
  ∃ f fd,Fn K mg x st ps f fd/\fd.code=cdv:=by
 have F:=aBB (st:=st) l c k
 exact ⟨f,_,⟨F,PySem.W.mg_of X G a,k,F.binds hb⟩,rfl⟩
theorem aFf {K:PySem.W.Frag} {h:Heap} {mg:Str->Option Value} (X:K.In h) (G:h.Ns mainGlobals mg) {t6 t12 t9:Tok}
  (z0:PySem.W.nsIn K mainGlobals "isinstance" = some none)
  (z1:PySem.W.nsIn K mainGlobals "int" = some none)
  (z2:PySem.W.nsIn K mainGlobals "bool" = some none)
  (z3:PySem.W.nsIn K mainGlobals "tuple" = some none)
  (z4:PySem.W.nsIn K mainGlobals "list" = some none)
  (z5:PySem.W.nsIn K mainGlobals "len" = some none)
  (z6:PySem.W.nsIn K mainGlobals "all" = some none)
  (z7:PySem.W.nsIn K mainGlobals "zip" = some none)
  (z8:PySem.W.nsIn K mainGlobals "range" = some none)
  (z9:PySem.W.nsIn K mainGlobals "sorted" = some none)
  (z10:PySem.W.nsIn K mainGlobals "set" = some none)
  (z11:PySem.W.nsIn K mainGlobals "sum" = some none)
  (z12:PySem.W.nsIn K mainGlobals "repr" = some none)
  (z13:PySem.W.nsIn K mainGlobals "enumerate" = some none)
  (z14:PySem.W.nsIn K mainGlobals "min" = some none)
  (z15:PySem.W.nsIn K mainGlobals "any" = some none)
  (z16:PySem.W.nsIn K mainGlobals "max" = some none)
  (z17:PySem.W.nsIn K mainGlobals "ValueError" = some none)
  (zA:PySem.W.nsIn K mainGlobals "MOST_HANDS" = some (some (.int 6 t6))) (zB:PySem.W.nsIn K mainGlobals "MOST_WORKS" = some (some (.int 12 t12))) (zC:PySem.W.nsIn K mainGlobals "MOST_COST" = some (some (.int 999 t9))):Bl mg :=
 ⟨PySem.W.mg_none_of X G z0,PySem.W.mg_none_of X G z1,PySem.W.mg_none_of X G z2,PySem.W.mg_none_of X G z3,PySem.W.mg_none_of X G z4,PySem.W.mg_none_of X G z5,PySem.W.mg_none_of X G z6,PySem.W.mg_none_of X G z7,PySem.W.mg_none_of X G z8,PySem.W.mg_none_of X G z9,PySem.W.mg_none_of X G z10,PySem.W.mg_none_of X G z11,PySem.W.mg_none_of X G z12,PySem.W.mg_none_of X G z13,PySem.W.mg_none_of X G z14,PySem.W.mg_none_of X G z15,PySem.W.mg_none_of X G z16,PySem.W.mg_none_of X G z17,⟨_,PySem.W.mg_of X G zA⟩,⟨_,PySem.W.mg_of X G zB⟩,⟨_,PySem.W.mg_of X G zC⟩⟩
theorem aFg {K:PySem.W.Frag} {h:Heap} {mg:Str->Option Value} (X:K.In h) (G:h.Ns mainGlobals mg) {cE a0 a1 a2 a3 a4 a5 a6 a7 a8 a9 a10:Addr} (zE:PySem.W.nsIn K mainGlobals "DealError" = some (some (.ref cE))) (qE:ecB K cE vbm=true)
  (z0:PySem.W.nsIn K mainGlobals "NoBook" = some (some (.ref a0))) (q0:ecB K a0 (.ref cE::vbm)=true)
  (z1:PySem.W.nsIn K mainGlobals "NoDeal" = some (some (.ref a1))) (q1:ecB K a1 (.ref cE::vbm)=true)
  (z2:PySem.W.nsIn K mainGlobals "NoCosts" = some (some (.ref a2))) (q2:ecB K a2 (.ref cE::vbm)=true)
  (z3:PySem.W.nsIn K mainGlobals "NoWeights" = some (some (.ref a3))) (q3:ecB K a3 (.ref cE::vbm)=true)
  (z4:PySem.W.nsIn K mainGlobals "TooMany" = some (some (.ref a4))) (q4:ecB K a4 (.ref cE::vbm)=true)
  (z5:PySem.W.nsIn K mainGlobals "NoWay" = some (some (.ref a5))) (q5:ecB K a5 (.ref cE::vbm)=true)
  (z6:PySem.W.nsIn K mainGlobals "NoRooms" = some (some (.ref a6))) (q6:ecB K a6 (.ref cE::vbm)=true)
  (z7:PySem.W.nsIn K mainGlobals "NoWork" = some (some (.ref a7))) (q7:ecB K a7 (.ref cE::vbm)=true)
  (z8:PySem.W.nsIn K mainGlobals "NoHand" = some (some (.ref a8))) (q8:ecB K a8 (.ref cE::vbm)=true)
  (z9:PySem.W.nsIn K mainGlobals "NoText" = some (some (.ref a9))) (q9:ecB K a9 (.ref cE::vbm)=true)
  (z10:PySem.W.nsIn K mainGlobals "NoRow" = some (some (.ref a10))) (q10:ecB K a10 (.ref cE::vbm)=true)
  (nd : [cE,a0,a1,a2,a3,a4,a5,a6,a7,a8,a9,a10].Nodup):∃ cE c,Cl K mg cE c:=by
 have hl:∀ i,i < 11->∃ a,[a0,a1,a2,a3,a4,a5,a6,a7,a8,a9,a10][i]?=some a:=fun i hi=>⟨_,Qc (l:=[a0,a1,a2,a3,a4,a5,a6,a7,a8,a9,a10]) (i:=i) hi⟩
 have hc:∀ (i:Nat) (a:Addr),[a0,a1,a2,a3,a4,a5,a6,a7,a8,a9,a10][i]?=some a->(fun i:Nat=>([a0,a1,a2,a3,a4,a5,a6,a7,a8,a9,a10][i]?).getD 0) i=a:=fun i a e=>by show ([a0,a1,a2,a3,a4,a5,a6,a7,a8,a9,a10][i]?).getD 0=a; rw [e]; rfl
 have ndA : [a0,a1,a2,a3,a4,a5,a6,a7,a8,a9,a10].Nodup:=(Xi.mp nd).2
 have neE:cE∉[a0,a1,a2,a3,a4,a5,a6,a7,a8,a9,a10]:=(Xi.mp nd).1
 refine ⟨cE,fun i=>([a0,a1,a2,a3,a4,a5,a6,a7,a8,a9,a10][i]?).getD 0,⟨fun i n e=>?_,fun i hi=>?_,fun i j hi hj e=>?_,fun i hi e=>?_,PySem.W.mg_of X G zE,aBO qE⟩⟩
 ·match i,e with
  | 0,e=>injection e with e; subst e; exact PySem.W.mg_of X G z0
  | 1,e=>injection e with e; subst e; exact PySem.W.mg_of X G z1
  | 2,e=>injection e with e; subst e; exact PySem.W.mg_of X G z2
  | 3,e=>injection e with e; subst e; exact PySem.W.mg_of X G z3
  | 4,e=>injection e with e; subst e; exact PySem.W.mg_of X G z4
  | 5,e=>injection e with e; subst e; exact PySem.W.mg_of X G z5
  | 6,e=>injection e with e; subst e; exact PySem.W.mg_of X G z6
  | 7,e=>injection e with e; subst e; exact PySem.W.mg_of X G z7
  | 8,e=>injection e with e; subst e; exact PySem.W.mg_of X G z8
  | 9,e=>injection e with e; subst e; exact PySem.W.mg_of X G z9
  | 10,e=>injection e with e; subst e; exact PySem.W.mg_of X G z10
  | n+11,e=>exact absurd (Qd.mp e).1 (by show ¬ n+11 < 11; omega)
 ·match i,hi with
  | 0,_=>exact hJ qE q0
  | 1,_=>exact hJ qE q1
  | 2,_=>exact hJ qE q2
  | 3,_=>exact hJ qE q3
  | 4,_=>exact hJ qE q4
  | 5,_=>exact hJ qE q5
  | 6,_=>exact hJ qE q6
  | 7,_=>exact hJ qE q7
  | 8,_=>exact hJ qE q8
  | 9,_=>exact hJ qE q9
  | 10,_=>exact hJ qE q10
  | n+11,hi=>omega
 ·obtain ⟨a,ea⟩:=hl i hi
  obtain ⟨b,eb⟩:=hl j hj
  have e':a=b:=(hc i a ea).symm.trans (e.trans (hc j b eb))
  subst e'
  have hi':i < [a0,a1,a2,a3,a4,a5,a6,a7,a8,a9,a10].length:=hi
  exact (Ye hi' ndA).mp (ea.trans eb.symm)
 ·obtain ⟨a,ea⟩:=hl i hi
  have e':a=cE:=(hc i a ea).symm.trans e
  subst e'
  exact neE (Qh ea)
theorem aDy {l:PySem.W.OpenLaw} {w:World} {K:PySem.W.Frag} {mg:Str->Option Value} {fa c Pt:Addr} (hfa:mg "law" = some (.ref fa)) (B:Bl mg) (hCl:∃ cE c,Cl K mg cE c)
  (hST:∃ f fd,Fn K mg "steps_to_least" kB ["book", "deal", "able", "measures"] f fd/\fd.code=.ref c) (hZ:∀ base:Heap,base.BuiltinsAt mg Pt->Lm K mg base c Pt)
  (hW:∃ f fd,Fn K mg "is_whole" mP ["thing"] f fd)
  (hH:∃ f fd,Fn K mg "are_hands" qU ["thing"] f fd)
  (hKw:∃ f fd,Fn K mg "is_work" qV ["hands", "thing"] f fd)
  (hBP:∃ f fd,Fn K mg "is_book" qW ["thing"] f fd)
  (hDP:∃ f fd,Fn K mg "is_deal" uY ["book", "thing"] f fd)
  (hNB:∃ f fd,Fn K mg "need_book" yS ["book"] f fd)
  (hND:∃ f fd,Fn K mg "need_deal" yT ["book", "deal"] f fd)
  (hC:∃ f fd,Fn K mg "counted" gH ["hands", "deal"] f fd)
  (hHD:∃ f fd,Fn K mg "handing" iP ["book", "deal"] f fd)
  (hRC:∃ f fd,Fn K mg "reached" lL ["rows", "first"] f fd)
  (hWT:∃ f fd,Fn K mg "way_to" uZ ["found", "last"] f fd)
  (hCR:∃ f fd,Fn K mg "is_cost_row" fJ ["many", "thing"] f fd)
  (hAC:∃ f fd,Fn K mg "are_costs" fV ["book", "thing"] f fd)
  (hNC:∃ f fd,Fn K mg "need_costs" jT ["book", "costs"] f fd)
  (hCF:∃ f fd,Fn K mg "cost_of" kJ ["book", "costs", "deal"] f fd)
  (hNX:∃ f fd,Fn K mg "next_costs" tE ["costs", "many"] f fd)
  (hCD:∃ f fd,Fn K mg "cheapest_deal" pN ["book", "costs"] f fd)
  (hCH:∃ f fd,Fn K mg "cheapest" mQ ["book", "costs"] f fd)
  (hIP:∃ f fd,Fn K mg "is_price" nQ ["row", "load", "price"] f fd)
  (hAP:∃ f fd,Fn K mg "are_prices" lM ["book", "costs", "deal", "prices"] f fd)
  (hCE:∃ f fd,Fn K mg "_law_acell" aAe ["script", "k"] f fd)
  (hTA:∃ f fd,Fn K mg "_law_atape" aAf ["script", "k"] f fd)
  (hDG:∃ f fd,Fn K mg "_law_adigit" jP ["tape", "many"] f fd)
  (hAB:∃ f fd,Fn K mg "_law_abook" qX ["tape", "hands", "works"] f fd)
  (hAD:∃ f fd,Fn K mg "_law_adeal" qY ["tape", "book"] f fd)
  (hAO:∃ f fd,Fn K mg "_law_acosts" nR ["tape", "book"] f fd)
  (hKI:∃ f fd,Fn K mg "_law_akind2" vA ["caught"] f fd)
  (hWO:∃ f fd,Fn K mg "_law_aword" vB ["door", "book", "costs", "deal"] f fd)
  (hDN:∃ f fd,Fn K mg "_law_ano_deals" nU ["book", "deal"] f fd)
  (hCN:∃ f fd,Fn K mg "_law_ano_costs" nS ["tape", "book", "costs"] f fd)
  (hLW:∃ f fd,Fn K mg "law" aCg ["script"] f fd)
  : ∃ fd:FuncData,(∀ (s:Shared) (v:Value),BindsTo s fd ⟨[v],[]⟩ [("script",v)])/\∀ base:Heap,K.In base->base.Ns mainGlobals mg->base.BuiltinsAt mg Pt->FnOk l.prog w K mg base CX0 10 fa fd ["script"] (aAA K Pt):=by
 obtain ⟨fST,dST,ST,hc⟩:=hST
 obtain ⟨fW,dW,W⟩:=hW
 obtain ⟨fH,dH,H⟩:=hH
 obtain ⟨fKw,dKw,Kw⟩:=hKw
 obtain ⟨fBP,dBP,BP⟩:=hBP
 obtain ⟨fDP,dDP,DP⟩:=hDP
 obtain ⟨fNB,dNB,NB⟩:=hNB
 obtain ⟨fND,dND,ND⟩:=hND
 obtain ⟨fC,dC,C⟩:=hC
 obtain ⟨fHD,dHD,HD⟩:=hHD
 obtain ⟨fRC,dRC,RC⟩:=hRC
 obtain ⟨fWT,dWT,WT⟩:=hWT
 obtain ⟨fCR,dCR,CR⟩:=hCR
 obtain ⟨fAC,dAC,AC⟩:=hAC
 obtain ⟨fNC,dNC,NC⟩:=hNC
 obtain ⟨fCF,dCF,CF⟩:=hCF
 obtain ⟨fNX,dNX,NX⟩:=hNX
 obtain ⟨fCD,dCD,CD⟩:=hCD
 obtain ⟨fCH,dCH,CH⟩:=hCH
 obtain ⟨fIP,dIP,IP⟩:=hIP
 obtain ⟨fAP,dAP,AP⟩:=hAP
 obtain ⟨fCE,dCE,CE⟩:=hCE
 obtain ⟨fTA,dTA,TA⟩:=hTA
 obtain ⟨fDG,dDG,DG⟩:=hDG
 obtain ⟨fAB,dAB,AB⟩:=hAB
 obtain ⟨fAD,dAD,AD⟩:=hAD
 obtain ⟨fAO,dAO,AO⟩:=hAO
 obtain ⟨fKI,dKI,KI⟩:=hKI
 obtain ⟨fWO,dWO,WO⟩:=hWO
 obtain ⟨fDN,dDN,DN⟩:=hDN
 obtain ⟨fCN,dCN,CN⟩:=hCN
 obtain ⟨fLW,dLW,LW⟩:=hLW
 have e:=hfa.symm.trans LW.mgx
 cases e
 have R:Pr K mg fW fH fKw fBP fNB fDP fND dW dH dKw dBP dNB dDP dND:=⟨W,H,Kw,BP,NB,DP,ND⟩
 refine ⟨dLW,fun s v=>?_,fun base _ _ hBu=>?_⟩
 ·obtain ⟨oc,od,kV,doc,pm,an,cdv,ct,osl,rfl,lk,hcd⟩:=LW.fn.ex
  exact .of_eq rfl
 ·have Z:=hZ base hBu
  have OD:FnOk l.prog w K mg base CX0 1 fDG dDG ["tape", "many"] (kN K):=aCl DG B
  have ONC:FnOk l.prog w K mg base CX0 6 fNC dNC ["book", "costs"] (nY K):=aCo NC AC (xK AC B R CR)
  obtain ⟨cE,c',Zc⟩:=hCl
  have ONX:FnOk l.prog w K mg base (CX1 l.prog w) 6 fNC dNC ["book", "costs"] (mX K (c' 0) (c' 2)):=aBe NC B R AC CR Zc.rf
  have OWd:FnOk l.prog w K mg base CX0 9 fWO dWO ["door", "book", "costs", "deal"] (vR K c' Pt):=aCB WO KI B Zc CH ((aBf CH NC ONX).or (aCu CH B R NC ONC C NX CD (aBc CD B C NX ST (aCs ST hc Z B HD RC WT)) HD RC CF).cx1) CF ((aCx CF B R Zc.rf NC ONX).or (tP CF B R NC ONC C).cx1) AP ((aEq AP B R Zc.rf NC ONX).or (aCp AP B R NC ONC C IP).cx1)
  exact aEv LW B TA (aDn TA B CE) AB (aCm AB B DG OD) AD (aDo AD B DG OD) AO (aBa AO B DG OD) DG OD WO OWd DN (zI DN B) CN (zK CN B DG OD)
theorem walk {l:PySem.W.OpenLaw} {q:Program} {loose:List Str} {XP:(Str->Option Value)->Heap->Prop} {YP:World->Heap->Prop} {d:DefRec} {K:Params->PySem.W.Frag} {c Pt:Addr} (hn:l.most=some 63) (hdf:d.params.defaults = []) (hq:importsNone q=true)
  (hY:∀ (w:World) (h:Heap),YP w h->(K w.params).In h) (hT:∀ (w:World) (h:Heap),YP w h->h.get? Pt=some (PySem.W.tabObj #[]))
  (F:(∀ w:World,PySem.W.codeHdIn (K w.params) c Pt=true)->∀ (w:World) (mg:Str->Option Value) (fa:Addr) (h:Heap),(K w.params).In h->h.Ns mainGlobals mg->mg d.name=some (.ref fa) ->
   ∃ fd:FuncData,(∀ (s:Shared) (u:Value),BindsTo s fd ⟨[u],[]⟩ [("script",u)])/\∀ base:Heap,(K w.params).In base->base.Ns mainGlobals mg->base.BuiltinsAt mg Pt->FnOk l.prog w (K w.params) mg base CX0 10 fa fd ["script"] (aAA (K w.params) Pt))
  (hKP:∀ w:World,(K w.params).lookup Pt=none) (hC:∀ w:World,PySem.W.codeHdIn (K w.params) c Pt=true) :
  PySem.W.WalkO q loose XP YP l.row.toRowW d [] (fun f vs=>PySem.call f vs) :=
 L2.aB6 (n:=63) (k:=10) (x := "script") (CX:=fun _=>CX0) (sp:=fun w=>aAA (K w.params) Pt) (ts:=[(Pt,vO)]) hn (by decide) hdf ⟨rfl,by decide,by decide,rfl⟩ hq hY
  (fun w h Y p hp=>by rw [Qp.mp hp]; exact ⟨hT w h Y,hKP w,c,PySem.W.codeHd_of_K (hY w h Y) (hC w)⟩) (by simp) (fun w mg fa h a b d=>let ⟨fd,h1,h2⟩:=F hC w mg fa h a b d; ⟨fd,h1,fun base k1 k2 k3=>h2 base k1 k2 (k3 _ (Qt ..))⟩)
  (fun _ _ a ns _ hO hS=>⟨a,ns,rfl,hS,hO.2 _ (Qt ..),fun H' h=>⟨rfl,fun p hp=>by rw [Qp.mp hp]; exact h⟩⟩) fun _ _ _ _ _ z=>z
end Ab
open PySem PySem.W PyProof.Rows
set_option maxRecDepth 100000 in
set_option maxHeartbeats 0 in
theorem PySem.Challenge.cw_ablehands_k34_no_costs_holds : PySem.Challenge.rw_ablehands_k34_no_costs.Holds := by
 w_on; o_law; k_head; (case hw=>w_witness2)
 k_fill
 refine' Ab.walk (l:=PySem.Challenge.rw_ablehands_k34_no_costs) rfl rfl (by decide +kernel) (fun w h Y=>PySem.W.km_in_of Y) (fun w h Y=>PySem.W.km_tabs_of Y _ (Qt ..)) ?F ?KP ?HC
 case F =>
  intro hC w mg fa h KX G hmg
  refine' Ab.aDy hmg ?B ?Cl ?hST ?Z ?hW ?hH ?hKw ?hBP ?hDP ?hNB ?hND ?hC ?hHD ?hRC ?hWT ?hCR ?hAC ?hNC ?hCF ?hNX ?hCD ?hCH ?hIP ?hAP ?hCE ?hTA ?hDG ?hAB ?hAD ?hAO ?hKI ?hWO ?hDN ?hCN ?hLW
  case Z =>
   intro base hb
   exact ⟨hC w,by decide,hb⟩
  case Cl =>
   refine' Ab.aFg KX G ?zE ?qE ?z0 ?q0 ?z1 ?q1 ?z2 ?q2 ?z3 ?q3 ?z4 ?q4 ?z5 ?q5 ?z6 ?q6 ?z7 ?q7 ?z8 ?q8 ?z9 ?q9 ?z10 ?q10 ?nd
   (case zE=>k_is); (case qE=>kernel_rfl)
   (case z0=>k_is); (case q0=>kernel_rfl)
   (case z1=>k_is); (case q1=>kernel_rfl)
   (case z2=>k_is); (case q2=>kernel_rfl)
   (case z3=>k_is); (case q3=>kernel_rfl)
   (case z4=>k_is); (case q4=>kernel_rfl)
   (case z5=>k_is); (case q5=>kernel_rfl)
   (case z6=>k_is); (case q6=>kernel_rfl)
   (case z7=>k_is); (case q7=>kernel_rfl)
   (case z8=>k_is); (case q8=>kernel_rfl)
   (case z9=>k_is); (case q9=>kernel_rfl)
   (case z10=>k_is); (case q10=>kernel_rfl)
   (case nd=>decide)
  case hST =>
   refine' Ab.aEw KX G (fun _ _ _ _ _ _ us hl=>match us,hl with | [_,_,_,_],_=>rfl) ?a ?l ?c ?k
   (case a=>k_is); (case l=>k_is); (case c=>k_is); (case k=>k_is)
  case B =>
   refine' Ab.aFf KX G ?z0 ?z1 ?z2 ?z3 ?z4 ?z5 ?z6 ?z7 ?z8 ?z9 ?z10 ?z11 ?z12 ?z13 ?z14 ?z15 ?z16 ?z17 ?zA ?zB ?zC
   (case z0=>k_is)
   (case z1=>k_is)
   (case z2=>k_is)
   (case z3=>k_is)
   (case z4=>k_is)
   (case z5=>k_is)
   (case z6=>k_is)
   (case z7=>k_is)
   (case z8=>k_is)
   (case z9=>k_is)
   (case z10=>k_is)
   (case z11=>k_is)
   (case z12=>k_is)
   (case z13=>k_is)
   (case z14=>k_is)
   (case z15=>k_is)
   (case z16=>k_is)
   (case z17=>k_is)
   (case zA=>k_is)
   (case zB=>k_is)
   (case zC=>k_is)
  case hW =>
   refine' Ab.dG KX G (fun _ _ _ _ _ _ us hl=>match us,hl with | [_],_=>rfl) ?a ?l ?c ?k
   (case a=>k_is); (case l=>k_is); (case c=>k_is); (case k=>k_is)
  case hH =>
   refine' Ab.dG KX G (fun _ _ _ _ _ _ us hl=>match us,hl with | [_],_=>rfl) ?a ?l ?c ?k
   (case a=>k_is); (case l=>k_is); (case c=>k_is); (case k=>k_is)
  case hKw =>
   refine' Ab.dG KX G (fun _ _ _ _ _ _ us hl=>match us,hl with | [_,_],_=>rfl) ?a ?l ?c ?k
   (case a=>k_is); (case l=>k_is); (case c=>k_is); (case k=>k_is)
  case hBP =>
   refine' Ab.dG KX G (fun _ _ _ _ _ _ us hl=>match us,hl with | [_],_=>rfl) ?a ?l ?c ?k
   (case a=>k_is); (case l=>k_is); (case c=>k_is); (case k=>k_is)
  case hDP =>
   refine' Ab.dG KX G (fun _ _ _ _ _ _ us hl=>match us,hl with | [_,_],_=>rfl) ?a ?l ?c ?k
   (case a=>k_is); (case l=>k_is); (case c=>k_is); (case k=>k_is)
  case hNB =>
   refine' Ab.dG KX G (fun _ _ _ _ _ _ us hl=>match us,hl with | [_],_=>rfl) ?a ?l ?c ?k
   (case a=>k_is); (case l=>k_is); (case c=>k_is); (case k=>k_is)
  case hND =>
   refine' Ab.dG KX G (fun _ _ _ _ _ _ us hl=>match us,hl with | [_,_],_=>rfl) ?a ?l ?c ?k
   (case a=>k_is); (case l=>k_is); (case c=>k_is); (case k=>k_is)
  case hC =>
   refine' Ab.dG KX G (fun _ _ _ _ _ _ us hl=>match us,hl with | [_,_],_=>rfl) ?a ?l ?c ?k
   (case a=>k_is); (case l=>k_is); (case c=>k_is); (case k=>k_is)
  case hHD =>
   refine' Ab.dG KX G (fun _ _ _ _ _ _ us hl=>match us,hl with | [_,_],_=>rfl) ?a ?l ?c ?k
   (case a=>k_is); (case l=>k_is); (case c=>k_is); (case k=>k_is)
  case hRC =>
   refine' Ab.dG KX G (fun _ _ _ _ _ _ us hl=>match us,hl with | [_,_],_=>rfl) ?a ?l ?c ?k
   (case a=>k_is); (case l=>k_is); (case c=>k_is); (case k=>k_is)
  case hWT =>
   refine' Ab.dG KX G (fun _ _ _ _ _ _ us hl=>match us,hl with | [_,_],_=>rfl) ?a ?l ?c ?k
   (case a=>k_is); (case l=>k_is); (case c=>k_is); (case k=>k_is)
  case hCR =>
   refine' Ab.dG KX G (fun _ _ _ _ _ _ us hl=>match us,hl with | [_,_],_=>rfl) ?a ?l ?c ?k
   (case a=>k_is); (case l=>k_is); (case c=>k_is); (case k=>k_is)
  case hAC =>
   refine' Ab.dG KX G (fun _ _ _ _ _ _ us hl=>match us,hl with | [_,_],_=>rfl) ?a ?l ?c ?k
   (case a=>k_is); (case l=>k_is); (case c=>k_is); (case k=>k_is)
  case hNC =>
   refine' Ab.dG KX G (fun _ _ _ _ _ _ us hl=>match us,hl with | [_,_],_=>rfl) ?a ?l ?c ?k
   (case a=>k_is); (case l=>k_is); (case c=>k_is); (case k=>k_is)
  case hCF =>
   refine' Ab.dG KX G (fun _ _ _ _ _ _ us hl=>match us,hl with | [_,_,_],_=>rfl) ?a ?l ?c ?k
   (case a=>k_is); (case l=>k_is); (case c=>k_is); (case k=>k_is)
  case hNX =>
   refine' Ab.dG KX G (fun _ _ _ _ _ _ us hl=>match us,hl with | [_,_],_=>rfl) ?a ?l ?c ?k
   (case a=>k_is); (case l=>k_is); (case c=>k_is); (case k=>k_is)
  case hCD =>
   refine' Ab.dG KX G (fun _ _ _ _ _ _ us hl=>match us,hl with | [_,_],_=>rfl) ?a ?l ?c ?k
   (case a=>k_is); (case l=>k_is); (case c=>k_is); (case k=>k_is)
  case hCH =>
   refine' Ab.dG KX G (fun _ _ _ _ _ _ us hl=>match us,hl with | [_,_],_=>rfl) ?a ?l ?c ?k
   (case a=>k_is); (case l=>k_is); (case c=>k_is); (case k=>k_is)
  case hIP =>
   refine' Ab.dG KX G (fun _ _ _ _ _ _ us hl=>match us,hl with | [_,_,_],_=>rfl) ?a ?l ?c ?k
   (case a=>k_is); (case l=>k_is); (case c=>k_is); (case k=>k_is)
  case hAP =>
   refine' Ab.dG KX G (fun _ _ _ _ _ _ us hl=>match us,hl with | [_,_,_,_],_=>rfl) ?a ?l ?c ?k
   (case a=>k_is); (case l=>k_is); (case c=>k_is); (case k=>k_is)
  case hCE =>
   refine' Ab.dG KX G (fun _ _ _ _ _ _ us hl=>match us,hl with | [_,_],_=>rfl) ?a ?l ?c ?k
   (case a=>k_is); (case l=>k_is); (case c=>k_is); (case k=>k_is)
  case hTA =>
   refine' Ab.dG KX G (fun _ _ _ _ _ _ us hl=>match us,hl with | [_,_],_=>rfl) ?a ?l ?c ?k
   (case a=>k_is); (case l=>k_is); (case c=>k_is); (case k=>k_is)
  case hDG =>
   refine' Ab.dG KX G (fun _ _ _ _ _ _ us hl=>match us,hl with | [_,_],_=>rfl) ?a ?l ?c ?k
   (case a=>k_is); (case l=>k_is); (case c=>k_is); (case k=>k_is)
  case hAB =>
   refine' Ab.dG KX G (fun _ _ _ _ _ _ us hl=>match us,hl with | [_,_,_],_=>rfl) ?a ?l ?c ?k
   (case a=>k_is); (case l=>k_is); (case c=>k_is); (case k=>k_is)
  case hAD =>
   refine' Ab.dG KX G (fun _ _ _ _ _ _ us hl=>match us,hl with | [_,_],_=>rfl) ?a ?l ?c ?k
   (case a=>k_is); (case l=>k_is); (case c=>k_is); (case k=>k_is)
  case hAO =>
   refine' Ab.dG KX G (fun _ _ _ _ _ _ us hl=>match us,hl with | [_,_],_=>rfl) ?a ?l ?c ?k
   (case a=>k_is); (case l=>k_is); (case c=>k_is); (case k=>k_is)
  case hKI =>
   refine' Ab.dG KX G (fun _ _ _ _ _ _ us hl=>match us,hl with | [_],_=>rfl) ?a ?l ?c ?k
   (case a=>k_is); (case l=>k_is); (case c=>k_is); (case k=>k_is)
  case hWO =>
   refine' Ab.dG KX G (fun _ _ _ _ _ _ us hl=>match us,hl with | [_,_,_,_],_=>rfl) ?a ?l ?c ?k
   (case a=>k_is); (case l=>k_is); (case c=>k_is); (case k=>k_is)
  case hDN =>
   refine' Ab.dG KX G (fun _ _ _ _ _ _ us hl=>match us,hl with | [_,_],_=>rfl) ?a ?l ?c ?k
   (case a=>k_is); (case l=>k_is); (case c=>k_is); (case k=>k_is)
  case hCN =>
   refine' Ab.dG KX G (fun _ _ _ _ _ _ us hl=>match us,hl with | [_,_,_],_=>rfl) ?a ?l ?c ?k
   (case a=>k_is); (case l=>k_is); (case c=>k_is); (case k=>k_is)
  case hLW =>
   refine' Ab.dG KX G (fun _ _ _ _ _ _ us hl=>match us,hl with | [_],_=>rfl) ?a ?l ?c ?k
   (case a=>k_is); (case l=>k_is); (case c=>k_is); (case k=>k_is)
 case KP=>intro w; first | k_is | kernel_rfl
 case HC=>intro w; kernel_rfl
