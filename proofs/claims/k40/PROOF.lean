import PyProof.Rows.All
import Wide.All
import OpenK.AllK
import Wide.FinOn
import PyProof.EqAt
import PyProof.EqKinds
import PyProof.TupleCall
import KE.KEqDict
import KE.KDictSum
import KE.KSortKey
import KE.KDictOf
import PyProof.AttrMissSeq
import PyProof.ListNew
import PyProof.Rows.TupDisplay
import PyProof.DictCompW
import PyProof.WalksMore
import PyProof.MinMaxWalk
import PyProof.DictDisplay
import PyProof.DictWalks
import Lean
import PySem.Challenge.RW_ablehands_k40_dealings_kept
open List renaming getElem?_eq_some_iff -> Qa,getElem?_eq_getElem -> Qc,length_map -> Qd,mem_of_getElem? -> Qe,length_append -> Qh,getElem?_map -> Qi,getElem?_append_left -> Ql,mem_cons -> Qm,mem_cons_of_mem -> Qo,not_mem_nil -> Qp,size_toArray -> Qq,mem_cons_self -> Qr,mem_singleton -> Qs,getElem?_append_right -> Qt,map_cons -> Qw,nodup_cons -> Qx,mem_iff_getElem? -> Qy,getElem?_zip_eq_some -> Jb,nodup_iff_pairwise_ne -> Jc,map_append -> Jd,length_cons -> Jf,length_eraseIdx -> Jg,mem_append_right -> Jh,length_replicate -> Jj,getD_eq_getElem?_getD -> Jl,mem_map -> Jm,mem_append -> Jo,lookup_cons -> Jp,length_take -> Jq,nodup_append -> Jr,take_length -> Ju,filter_cons -> Jv,map_map -> Jw,filter_append -> Jx,take_succ_eq_append_getElem -> Jy,getElem?_eq_none -> Xa,all_eq_true -> Xb,getElem?_set -> Xc,take_succ -> Xd,mem_append_left -> Xe,getElem?_eraseIdx -> Xf,replicate_succ -> Xg,count_cons -> Xk,length_filter_le -> Xl,any_eq_true -> Xn,getElem?_replicate -> Xo,length_eq_zero_iff -> Xp,mem_filter -> Xq,length_zip -> Xr,take_of_length_le -> Xt,getElem?_eq_none_iff -> Xv,forIn_cons -> Xw,mem_of_mem_eraseIdx -> Xx,map_nil -> Xz,filterMap_cons -> Za,map_congr_left -> Zb,find?_cons -> Zf,eraseIdx_sublist -> Zg,flatten_cons -> Zh,mem_range -> Zi,forIn_nil -> Zj,drop_eq_getElem_cons -> Zk,nodup_nil -> Zl,length_erase_of_mem -> Zo,length_set -> Zp,getElem?_cons_zero -> Zr,getElem?_cons_succ -> Zs,eraseIdx_cons_succ -> Zv,mem_replicate -> Zw,zip_cons_cons -> Zx,length_pos_of_mem -> Zy,getElem_inj -> Yb,zipIdx_cons -> Yc,pairwise_append -> Yd,replicate_succ' -> Ye,any_cons -> Yf,dropLast_concat_getLast -> Yg,append_nil -> Yh,of_mem_zip -> Yi,zipIdx_nil -> Yj,length_reverse -> Yk,pairwise_cons -> Yo,count_eq_zero -> Yq,count_append -> Ys,ext_getElem? -> Yt,pairwise_singleton -> Yv,length_eraseIdx_le -> Yw,getElem_mem -> Yx,cons_append -> Yy,getElem?_set_self -> Yz,nil_append -> Wa,length_nil -> Wc,any_map -> We,dropLast_sublist -> Wf,getElem?_set_ne -> Wg,getElem?_of_mem -> Wh,mem_erase_of_ne -> Wi,length -> Wj,reverse_append -> Wk,length_pos_iff -> Wo,mem_filterMap -> Wp,filterMap_map -> Wq,all_map -> Wr
open PySem.Heap renaming get?_push_of_some -> Qb,lt_size -> Qj,get?_push_size -> Qk,size_push -> Jn,get?_update_other -> Jt,get?_update_self -> Ze
open Nat renaming le_refl -> Qg,lt_of_lt_of_le -> Qn,ne_of_lt -> Qz,le_trans -> Ja,lt_irrefl -> Je,zero_le -> Jk,le_of_lt -> Js,sub_self -> Jz,lt_succ_of_lt -> Xh,le_add_right -> Xm,ne_of_gt -> Xy,lt_of_le_of_lt -> Zd,lt_succ_self -> Zm,succ_le_succ -> Zn,min_self -> Ya,not_lt_zero -> Yl,le_of_eq -> Ym,lt_trans -> Yn,eq_zero_or_pos -> Yp,le_succ -> Yu
open Bool renaming false_ne_true -> Qu,and_eq_true -> Ji,eq_iff_iff -> Xi,true_and -> Zc,false_eq_true -> Zq,or_eq_true -> Wb
open Option renaming map_eq_some_iff -> Qv,map_some -> Xj,isSome_map -> Zz,isSome_iff_exists -> Yr
open Int renaming le_refl -> Xs,ne_of_lt -> Xu,emod_nonneg -> Zt,emod_lt_of_pos -> Zu,toNat_of_nonneg -> Wm
def PySem.W.Fast.tw44983858168217988:Nat:=0
def PySem.W.Fast.tw15308278719922194465:Nat:=0
def PySem.W.Fast.tw16762598052138933680:Nat:=0
def PySem.W.Fast.tw9463512564959267173:Nat:=0
def PySem.W.Fast.tw10432707983943815367:Nat:=0
def PySem.W.Fast.tw11428154622544756956:Nat:=0
def PySem.W.Fast.tw14225548873084489584:Nat:=0
def PySem.W.Fast.tw10875453793868215876:Nat:=0
def PySem.W.Fast.tw1754923856376262088:Nat:=0
def PySem.W.Fast.tw10901278866879522476:Nat:=0
def PySem.W.Fast.tw15933715240772818296:Nat:=0
def PySem.W.Fast.tw2145435457055165835:Nat:=0
def PySem.W.Fast.tw4720246498338219694:Nat:=0
def PySem.W.Fast.tw15292965558197525586:Nat:=0
def PySem.W.Fast.tw1027806399684637682:Nat:=0
def PySem.W.Fast.tw7413066876848725218:Nat:=0
def PySem.W.Fast.tw1764406363447192097:Nat:=0
def PySem.W.Fast.tw7203864158788427908:Nat:=0
def PySem.W.Fast.tw13772052974197962229:Nat:=0
def PySem.W.Fast.tw15127262658910020171:Nat:=0
def PySem.W.Fast.tw7932463224214542083:Nat:=0
def PySem.W.Fast.tw7994775646131267776:Nat:=0
def PySem.W.Fast.tw12248181387740676287:Nat:=0
def PySem.W.Fast.tw11530490590029465257:Nat:=0
def PySem.W.Fast.tw15175503277730183286:Nat:=0
def PySem.W.Fast.tw4189698276714840683:Nat:=0
def PySem.W.Fast.tw6330859507949225045:Nat:=0
def PySem.W.Fast.tw280316489607321335:Nat:=0
def PySem.W.Fast.tw11198232943194116000:Nat:=0
def PySem.W.Fast.tw3339126639009603059:Nat:=0
def PySem.W.Fast.tw6432481813850164669:Nat:=0
def PySem.W.Fast.tw9553617010924563037:Nat:=0
def PySem.W.Fast.tw8368215501896223758:Nat:=0
def PySem.W.Fast.tw16677728261230426824:Nat:=0
def PySem.W.Fast.tw17857902196430058878:Nat:=0
def PySem.W.Fast.tw12955931451256774180:Nat:=0
def PySem.W.Fast.tw4866961942298115841:Nat:=0
def PySem.W.Fast.tw18394439281610322936:Nat:=0
def PySem.W.Fast.tw12096495118058390628:Nat:=0
def PySem.W.Fast.tw11982277501678222130:Nat:=0
def PySem.W.Fast.tw12605405558531398:Nat:=0
def PySem.W.Fast.tw9566372393359508646:Nat:=0
def PySem.W.Fast.tw10528696847802132507:Nat:=0
def PySem.W.Fast.tw12087608092053399696:Nat:=0
def PySem.W.Fast.tw5281334249730302690:Nat:=0
def PySem.W.Fast.tw7619336899870394064:Nat:=0
def PySem.W.Fast.tw8736647683230820756:Nat:=0
def PySem.W.Fast.tw15760906082973660222:Nat:=0
def PySem.W.Fast.tw15190508502886352026:Nat:=0
def PySem.W.Fast.tw14742493916779687546:Nat:=0
def PySem.W.Fast.tw4409141571103481368:Nat:=0
def PySem.W.Fast.tw16857565783688969986:Nat:=0
def PySem.W.Fast.tw5915012675974687835:Nat:=0
def PySem.W.Fast.tw7847706510625874712:Nat:=0
def PySem.W.Fast.tw11105760377866853596:Nat:=0
def PySem.W.Fast.tw13440658679794187489:Nat:=0
def PySem.W.Fast.tw2877385149780578070:Nat:=0
def PySem.W.Fast.tw11256663950531295135:Nat:=0
def PySem.W.Fast.tw16930661970647655085:Nat:=0
def PySem.W.Fast.tw2172039505341815032:Nat:=0
def PySem.W.Fast.tw12340219672605067102:Nat:=0
def PySem.W.Fast.tw7025022084062424568:Nat:=0
def PySem.W.Fast.tw1117489103180536656:Nat:=0
def PySem.W.Fast.tw3790603839876139483:Nat:=0
def PySem.W.Fast.tw5256345889081363846:Nat:=0
def PySem.W.Fast.tw4346536667675089651:Nat:=0
def PySem.W.Fast.tw15594345639207530779:Nat:=0
def PySem.W.Fast.tw16253557594396892300:Nat:=0
def PySem.W.Fast.tw129303122745076989:Nat:=0
def PySem.W.Fast.tw9852096807738613015:Nat:=0
def PySem.W.Fast.tw3068225654125459316:Nat:=0
def PySem.W.Fast.tw13641903138705298622:Nat:=0
def PySem.W.Fast.tw15656396188967771792:Nat:=0
def PySem.W.Fast.tw2554307172305603874:Nat:=0
def PySem.W.Fast.tw5612290590701669852:Nat:=0
def PySem.W.Fast.tw1112142833590596452:Nat:=0
def PySem.W.Fast.tw4705059338374668958:Nat:=0
def PySem.W.Fast.tw4675445578354203062:Nat:=0
def PySem.W.Fast.tw14221479296901361139:Nat:=0
def PySem.W.Fast.tw11937320108095421022:Nat:=0
def PySem.W.Fast.tw13043474175173511529:Nat:=0
def PySem.W.Fast.tw6724394061466848978:Nat:=0
def PySem.W.Fast.tw933119807868763589:Nat:=0
def PySem.W.Fast.tw16930174438885004369:Nat:=0
def PySem.W.Fast.tw15220839109397949343:Nat:=0
def PySem.W.Fast.tw3934176984211458853:Nat:=0
def PySem.W.Fast.tw5768831788313942154:Nat:=0
def PySem.W.Fast.tw10031975087821085545:Nat:=0
def PySem.W.Fast.tw11902121122445494866:Nat:=0
def PySem.W.Fast.tw6271469568887840218:Nat:=0
def PySem.W.Fast.tw5573795533910761934:Nat:=0
def PySem.W.Fast.tw7856368968456802421:Nat:=0
def PySem.W.Fast.tw291795302769197565:Nat:=0
def PySem.W.Fast.tw8256449741972706955:Nat:=0
def PySem.W.Fast.tw6201759378177122779:Nat:=0
def PySem.W.Fast.tw7655614924338193304:Nat:=0
def PySem.W.Fast.tw2299219005089011446:Nat:=0
def PySem.W.Fast.tw2607515534082646156:Nat:=0
def PySem.W.Fast.tw92305521032181466:Nat:=0
def PySem.W.Fast.tw7359838268884445127:Nat:=0
def PySem.W.Fast.tw1397120676935279482:Nat:=0
def PySem.W.Fast.tw891771772542781122:Nat:=0
def PySem.W.Fast.tw136890290853928946:Nat:=0
def PySem.W.Fast.tw10034259897699687537:Nat:=0
def PySem.W.Fast.tw4911599701786101394:Nat:=0
def PySem.W.Fast.tw7165646848423907596:Nat:=0
def PySem.W.Fast.tw17270277837977898993:Nat:=0
def PySem.W.Fast.tw16711841565116895309:Nat:=0
def PySem.W.Fast.tw3922095172056768532:Nat:=0
def PySem.W.Fast.tw10861982628739393449:Nat:=0
def PySem.W.Fast.tw18247659111112273733:Nat:=0
def PySem.W.Fast.tw14156944534303739223:Nat:=0
def PySem.W.Fast.tw16617732424942372744:Nat:=0
def PySem.W.Fast.tw16204720805277966034:Nat:=0
def PySem.W.Fast.tw9513954199242047725:Nat:=0
def PySem.W.Fast.tw18017879511430162502:Nat:=0
def PySem.W.Fast.tw11428793229322325983:Nat:=0
def PySem.W.Fast.tw17194176723983229062:Nat:=0
def PySem.W.Fast.tw14741669871270050473:Nat:=0
def PySem.W.Fast.tw12513298874209233912:Nat:=0
def PySem.W.Fast.tw3778951545258073350:Nat:=0
def PySem.W.Fast.tw11486878121674491560:Nat:=0
def PySem.W.Fast.tw8311879526715715689:Nat:=0
def PySem.W.Fast.tw18071873068753858885:Nat:=0
def PySem.W.Fast.tw12901726256750886015:Nat:=0
def PySem.W.Fast.tw2860137245342591396:Nat:=0
def PySem.W.Fast.tw12833810040150932581:Nat:=0
def PySem.W.Fast.tw13152233570997418476:Nat:=0
def PySem.W.Fast.tw9219659100653824941:Nat:=0
def PySem.W.Fast.tw15225865168459230089:Nat:=0
def PySem.W.Fast.tw8635963366403863868:Nat:=0
def PySem.W.Fast.tw3489502159447454563:Nat:=0
def PySem.W.Fast.tw17406675839884695528:Nat:=0
def PySem.W.Fast.tw9764268091952732241:Nat:=0
def PySem.W.Fast.tw18346735586776697068:Nat:=0
def PySem.W.Fast.tw10466778956565314348:Nat:=0
def PySem.W.Fast.tw5716143610140926519:Nat:=0
def PySem.W.Fast.tw6705576026457807024:Nat:=0
def PySem.W.Fast.tw1893361392648715685:Nat:=0
def PySem.W.Fast.tw15759203898754522929:Nat:=0
def PySem.W.Fast.tw13017857126598344989:Nat:=0
def PySem.W.Fast.tw6436858074575732045:Nat:=0
def PySem.W.Fast.tw17395899371457149119:Nat:=0
def PySem.W.Fast.tw7992644294496271191:Nat:=0
def PySem.W.Fast.tw8371043172430702606:Nat:=0
def PySem.W.Fast.tw14390401797320197049:Nat:=0
def PySem.W.Fast.tw2000821701269305799:Nat:=0
def PySem.W.Fast.tw2189777849561585700:Nat:=0
def PySem.W.Fast.tw2156037505635446162:Nat:=0
def PySem.W.Fast.tw211866963254152994:Nat:=0
def PySem.W.Fast.tw4359414653979279872:Nat:=0
def PySem.W.Fast.tw9215493859366077463:Nat:=0
def PySem.W.Fast.tw5229714716090958352:Nat:=0
def PySem.W.Fast.tw7832315537508346066:Nat:=0
def PySem.W.Fast.tw14131190507068128210:Nat:=0
def PySem.W.Fast.tw15881916955314810469:Nat:=0
def PySem.W.Fast.tw1348492120618843852:Nat:=0
def PySem.W.Fast.tw3856698181466669953:Nat:=0
def PySem.W.Fast.tw13884310661673449901:Nat:=0
def PySem.W.Fast.tw11766578325493827776:Nat:=0
def PySem.W.Fast.tw12690620492219119116:Nat:=0
def PySem.W.Fast.tw12782704381708079735:Nat:=0
set_option Elab.async false
set_option linter.all false
set_option maxRecDepth 100000
namespace L2
open PySem PySem.Spec PyProof.Rows
abbrev Key:=Sum Int Str
def tG:Key->Value->Bool
 | .inl k,v=>Value.isInt k v
 | .inr x,v=>Value.isStrOf x v
def aFo (w:World):Key->Int
 | .inl k=>hashInt k
 | .inr x=>hashStr w x
theorem cI:∀ {k:Key} {v:Value},tG k v=true->(∃ i t,k=Sum.inl i/\v=Value.int i t)∨(∃ x t,k=Sum.inr x/\v=Value.str x t)
 | .inl i,v,h=>by
  obtain ⟨t,e⟩:=Value.isInt_shape (k:=i) (v:=v) h
  exact .inl ⟨i,t,rfl,e⟩
 | .inr x,v,h=>by
  obtain ⟨t,e⟩:=Value.isStrOf_shape (x:=x) (v:=v) h
  exact .inr ⟨x,t,rfl,e⟩
theorem aAs (i:Int) (t:Tok):tG (.inl i) (.int i t)=true:=by simp [tG,Value.isInt]
theorem aAt (x:Str) (t:Tok):tG (.inr x) (.str x t)=true:=by simp [tG,Value.isStrOf]
theorem aD5 (a b:Int):decide ((Sum.inl a:Key)=Sum.inl b)=(a==b):=by
 by_cases e:a=b
 ·subst e; simp
 ·have h:¬ (Sum.inl a:Key)=Sum.inl b:=fun q=>e (Sum.inl.inj q)
  rw [decide_eq_false h]
  exact (beq_eq_false_iff_ne.mpr e).symm
theorem aD6 (a b:Str):decide ((Sum.inr a:Key)=Sum.inr b)=decide (a=b):=by
 by_cases e:a=b
 ·subst e; simp
 ·have h:¬ (Sum.inr a:Key)=Sum.inr b:=fun q=>e (Sum.inr.inj q)
  rw [decide_eq_false h,decide_eq_false e]
theorem aD7 (a:Int) (b:Str):decide ((Sum.inl a:Key)=Sum.inr b)=false:=decide_eq_false (fun q=>nomatch q)
theorem aD8 (a:Str) (b:Int):decide ((Sum.inr a:Key)=Sum.inl b)=false:=decide_eq_false (fun q=>nomatch q)
def aW (prog:Program) (w:World):PySem.KeyKind prog w Key where
 is:=tG
 hash:=aFo w
 inj:=fun v a b ha hb=>by
  rcases cI ha with ⟨i,t,rfl,rfl⟩ | ⟨x,t,rfl,rfl⟩
  ·rcases cI hb with ⟨j,u,rfl,e⟩ | ⟨y,u,rfl,e⟩
   ·injection e with e1 _; rw [e1]
   ·exact nomatch e
  ·rcases cI hb with ⟨j,u,rfl,e⟩ | ⟨y,u,rfl,e⟩
   ·exact nomatch e
   ·injection e with e1 _; rw [e1]
 byValue:=fun k v h=>by
  rcases cI h with ⟨i,t,rfl,rfl⟩ | ⟨x,t,rfl,rfl⟩ <;> rfl
 pyHash:=fun hv h=>by
  rcases cI hv with ⟨i,t,rfl,rfl⟩ | ⟨x,t,rfl,rfl⟩
  ·exact wpAny_pyHash_int h
  ·exact wpAny_pyHash_str h
 eqBool:=fun hu hv h=>by
  rcases cI hu with ⟨i,t,rfl,rfl⟩ | ⟨x,t,rfl,rfl⟩
  ·rcases cI hv with ⟨j,u,rfl,rfl⟩ | ⟨y,u,rfl,rfl⟩
   ·rw [aD5] at h; exact wpAny_eqBool_int h
   ·rw [aD7] at h; exact SeqAt.EqAt.int_str i t y u _ _ _ _ h
  ·rcases cI hv with ⟨j,u,rfl,rfl⟩ | ⟨y,u,rfl,rfl⟩
   ·rw [aD8] at h; exact SeqAt.EqAt.str_int x t j u _ _ _ _ h
   ·rw [aD6] at h; exact wpAny_eqBool_str h
 «strs»:=fun k x t v h=>by
  rcases cI h with ⟨i,u,rfl,e⟩ | ⟨y,u,rfl,e⟩
  ·exact nomatch e
  ·injection e with e1 _
   subst e1
   cases v <;> rfl
theorem wG (prog:Program) (w:World) (i:Int) (t:Tok):(aW prog w).is (.inl i) (.int i t)=true:=aAs i t
theorem wH (prog:Program) (w:World) (x:Str) (t:Tok):(aW prog w).is (.inr x) (.str x t)=true:=aAt x t
inductive V where
 | non | bl (b:Bool) | int (i:Int) | str (x:Str) | byt (b:Array UInt8) | flt (b:UInt64) | ref (a:Addr) | ty (n:String)
 deriving DecidableEq
def bB:V->Value->Prop
 | .non,u=>u=Value.none
 | .bl b,u=>u=Value.bool b
 | .int i,u=>∃ t,u=Value.int i t
 | .str x,u=>∃ t,u=Value.str x t
 | .byt b,u=>∃ t,u=Value.bytes b t
 | .flt b,u=>∃ t,u=Value.float b t
 | .ref a,u=>u=Value.ref a
 | .ty n,u=>u=Value.type n
abbrev aY:List V->List Value->Prop:=Paired bB
theorem aY.length {xs:List V} {us:List Value} (r:aY xs us):xs.length=us.length:=Paired.length r
theorem aY.get:∀ {xs:List V} {us:List Value} {i:Nat} {x:V},aY xs us->xs[i]?=some x->∃ u,us[i]?=some u/\bB x u
 | _,_,_,_,.nil,e=>by simp at e
 | _,_,0,_,.cons r _,e=>by simp at e; subst e; exact ⟨_,rfl,r⟩
 | _,_,i+1,x,.cons _ t,e=>by
  obtain ⟨u,h1,h2⟩:=aY.get (i:=i) (x:=x) t (by simpa using e)
  exact ⟨u,by simpa using h1,h2⟩
theorem aY.set {x:V} {u:Value} (r:bB x u):∀ {xs:List V} {us:List Value} (i:Nat),aY xs us->aY (xs.set i x) (us.set i u)
 | _,_,_,.nil=>.nil
 | _,_,0,.cons _ t=>.cons r t
 | _,_,i+1,.cons q t=>.cons q (aY.set r i t)
theorem aY.append:∀ {xs ys:List V} {us ws:List Value},aY xs us->aY ys ws->aY (xs++ys) (us++ws)
 := by
 intro xs ys us ws h s
 induction h with
 | nil=>exact s
 | cons r t ih=>exact .cons r ih
theorem aY.take:∀ {xs:List V} {us:List Value} (n:Nat),aY xs us->aY (xs.take n) (us.take n)
 | _,_,0,_=>.nil
 | _,_,_+1,.nil=>.nil
 | _,_,n+1,.cons r t=>.cons r (aY.take n t)
theorem aY.drop:∀ {xs:List V} {us:List Value} (n:Nat),aY xs us->aY (xs.drop n) (us.drop n)
 | _,_,0,r=>r
 | _,_,_+1,.nil=>.nil
 | _,_,n+1,.cons _ t=>aY.drop n t
theorem aY.none_of:∀ {xs:List V} {us:List Value} {i:Nat},aY xs us->xs[i]?=none->us[i]?=none:=fun {xs us i} r e=>by
 have h1:=r.length
 have h2:xs.length<=i:=Xv.mp e
 exact Xv.mpr (by omega)
def iZ:Option V->Option Value->Prop
 | some v,some u=>bB v u
 | none,none=>True
 | _,_=>False
def KV {κ:Type}:List (κ×V)->List (κ×Value)->Prop:=Paired fun (p:κ×V) (q:κ×Value)=>p.1=q.1/\bB p.2 q.2
def kV:Key->V
 | .inl i=>.int i
 | .inr x=>.str x
inductive HO where
 /-- a list -/
 | lst (xs:List V)
 /-- a tuple (never changes) -/
 | tup (xs:List V)
 /-- a dict whose keys are ints and texts; one whose keys are tuples of ints and texts (the empty one is both) -/
 | dK (kvs:List (Key×V)) | dT (kvs:List (List Key×V))
 /-- a set of ints: its members,its size -/
 | set (S:Int->Bool) (n:Nat)
 /-- an instance of the class at C,its dict at dx,its attributes -/
 | ins (C dx:Addr) (fs:List (Str×V))
 /-- the dict of the instance at x -/
 | own (x:Addr)
 /-- the dict of an exception -/
 | xd (fs:List (Str×V))
 /-- a bound method,f of x -/
 | met (f x:Addr)
 /-- a range object lo,lo+1,.. below hi -/
 | rng (lo hi:Int)
 /-- a thing that is known to the object (the script; a dict while a loop walks it): read,never written while it is so -/
 | frz (o:Obj) (u:HO)
 /-- a code object's table -/
 | tbl (ps:Array Value)
 /-- a code object's table,all of whose codes have the name q; they are tracked as its own -/
 | tab (q:Str)
 /-- any other thing,by what is true of its one object (a def of one's own: aFA a S n:=HO.ext fun h=>..) -/
 | ext (φ:Heap->Prop)
abbrev Hp:=Addr->Option HO
def upd (H:Hp) (a:Addr) (o:HO):Hp:=fun b=>if b=a then some o else H b
theorem aB {H:Hp} {a:Addr} {o:HO}:upd H a o a=some o:=by unfold upd; rw [if_pos rfl]
theorem aD {H:Hp} {a b:Addr} {o:HO} (h:b≠a):upd H a o b=H b:=by unfold upd; rw [if_neg h]
theorem iR {H:Hp} {a:Addr} {o u:HO}:upd (upd H a o) a u=upd H a u:=by
 funext b; unfold upd; split <;> rfl
theorem aET {H:Hp} {a b:Addr} {o u:HO} (h:H a=some o) (h':H b=some u) (d:o≠u):a≠b:=by
 intro e; subst e; rw [h] at h'; exact d (Option.some.inj h')
theorem gB {H:Hp} {a b:Addr} {o:HO} (h:H a=some o) (h':H b=none):a≠b:=by
 intro e; subst e; rw [h] at h'; cases h'
section
variable (P:Program) (w:World)
def bG (H:Hp) (h:Heap) (a:Addr):HO->Prop
 | .lst xs=>xs.length<=sizeLine/\∃ (its:List Value) (n:Nat),aY xs its/\h.get? a=some { cls:=.type "list",data:=.seq its.toArray n }
 | .tup xs=>xs.length<=sizeLine/\∃ (its:List Value) (n:Nat),aY xs its/\h.get? a=some { cls:=.type "tuple",data:=.seq its.toArray n }
 | .dK kvs=>kvs.length<=sizeLine/\(a==sysModules)=false/\∃ vs,KV kvs vs/\h.DictOf (aW P w) a vs
 | .dT kvs => kvs.length <= sizeLine /\ (a == sysModules) = false /\ ∃ xs : List (List Key × Addr × Value),
     Paired (fun (p:List Key×V) (q:List Key×Addr×Value)=>p.1=q.1/\H q.2.1=some (.tup (p.1.map kV))/\bB p.2 q.2.2) kvs xs /\
     ∃ o es ep,h.get? a=some o/\o.ExactDict/\o.data=.dict es ep/\es.toList=xs.map (entryOfKey (tupleKind (aW P w)))/\(xs.map (·.1)).Nodup
 | .set S n=>h.SetOf (intKind P w) a S n
 | .ins C dx fs => H dx = some (.own a) /\ fs.length <= 1000 /\ dx ≠ a /\ h.get? a = some (PySem.W.instObj C dx) /\
     ∃ mA,h.Ns1 dx mA/\(∀ f,iZ (fs.lookup f) (mA f))/\PySem.Within mA (fs.map (·.1))
 | .own _=>∃ o,h.get? a=some o
 | .xd fs=>∃ mA,h.Ns1 a mA/\∀ f,iZ (fs.lookup f) (mA f)
 | .rng lo hi=>∃ t u v,h.get? a=some { cls:=.type "range",data:=.fields #[.int lo t,.int hi u,.int 1 v] }
 | .frz o u=>h.get? a=some o/\bG H h a u
 | .tbl ps=>h.get? a=some { cls:=.none,data:=.fields ps }
 | .tab q=>∃ ps:Array Value,h.get? a=some { cls:=.none,data:=.fields ps }/\TriplesOk ps.toList/\∀ (pos:Pos) (cv:Value),codeAmong pos ps.toList=some cv->∃ (c:Addr) (o:Obj) (vs:Array Value) (t:Tok),cv=.ref c/\H c=some (.own a)/\h.get? c=some o/\o.data=.fields vs/\vs[1]?=some (.str q t)
 | .met f x=>h.get? a=some (PySem.W.methodObj (.ref f) (.ref x))
 | .ext φ=>φ h/\(∃ o,h.get? a=some o)/\∀ h1 h2:Heap,φ h1->(∀ o,h1.get? a=some o->h2.get? a=some o)->φ h2
def HOk (H:Hp) (h:Heap):Prop:=∀ a o,H a=some o->bG P w H h a o
end
section
variable {P:Program} {w:World} {H H':Hp} {h h':Heap} {a:Addr} {o:HO}
theorem bG.lt (x:bG P w H h a o):a < h.objs.size:=by
 cases o with
 | lst xs=>obtain ⟨_,_,_,_,e⟩:=x; exact Qj e
 | tup xs=>obtain ⟨_,_,_,_,e⟩:=x; exact Qj e
 | dK kvs=>obtain ⟨_,_,_,_,o,_,_,e,_⟩:=x; exact Qj e
 | dT kvs=>obtain ⟨_,_,_,_,o,_,_,e,_⟩:=x; exact Qj e
 | set S n=>obtain ⟨o,_,_,_,e,_⟩:=x; exact Qj e
 | ins C dx fs=>obtain ⟨_,_,_,e,_⟩:=x; exact Qj e
 | own y=>obtain ⟨_,e⟩:=x; exact Qj e
 | xd fs=>obtain ⟨_,⟨_,_,_,e,_⟩,_⟩:=x; exact Qj e
 | rng lo hi=>obtain ⟨_,_,_,e⟩:=x; exact Qj e
 | frz ob u=>obtain ⟨e,_⟩:=x; exact Qj e
 | tbl ps=>exact Qj (show h.get? a=some _ from x)
 | tab q=>obtain ⟨_,e,_⟩:=x; exact Qj e
 | met f y=>exact Qj (show h.get? a=some _ from x)
 | ext φ=>obtain ⟨_,⟨_,e⟩,_⟩:=x; exact Qj e
theorem Paired.mapP {α β:Type} {F G:α->β->Prop}:∀ {l₁:List α} {l₂:List β},Paired F l₁ l₂->(∀ a b,F a b->G a b)->Paired G l₁ l₂
 := by
 intro l₁ l₂ h f
 induction h with
 | nil=>exact .nil
 | cons r t ih=>exact .cons (f _ _ r) ih
theorem bG.stay (x:bG P w H h a o) (k:∀ b u,(b=a∨H b=some (.own a))->h.get? b=some u->h'.get? b=some u)
  (ho:∀ b,H b=some (.own a)->H' b=some (.own a)) (ht:∀ b xs,H b=some (.tup xs)->H' b=some (.tup xs)):bG P w H' h' a o:=by
 induction o with
 | lst xs=>obtain ⟨z,its,n,r,e⟩:=x; exact ⟨z,its,n,r,k _ _ (.inl rfl) e⟩
 | tup xs=>obtain ⟨z,its,n,r,e⟩:=x; exact ⟨z,its,n,r,k _ _ (.inl rfl) e⟩
 | dK kvs=>obtain ⟨z,y,vs,r,ob,es,ep,e,c⟩:=x; exact ⟨z,y,vs,r,ob,es,ep,k _ _ (.inl rfl) e,c⟩
 | dT kvs =>
  obtain ⟨z,y,xs,r,ob,es,ep,e,c⟩:=x
  exact ⟨z,y,xs,Paired.mapP r fun p q z=>⟨z.1,ht _ _ z.2.1,z.2.2⟩,ob,es,ep,k _ _ (.inl rfl) e,c⟩
 | set S n=>obtain ⟨ob,es,ep,t,e,c⟩:=x; exact ⟨ob,es,ep,t,k _ _ (.inl rfl) e,c⟩
 | ins C dx fs =>
  obtain ⟨d,z,ne,e,mA,⟨od,es,ep,e2,c⟩,r⟩:=x
  exact ⟨ho _ d,z,ne,k _ _ (.inl rfl) e,mA,⟨od,es,ep,k _ _ (.inr d) e2,c⟩,r⟩
 | own y=>obtain ⟨ob,e⟩:=x; exact ⟨ob,k _ _ (.inl rfl) e⟩
 | xd fs=>obtain ⟨mA,⟨od,es,ep,e,c⟩,r⟩:=x; exact ⟨mA,⟨od,es,ep,k _ _ (.inl rfl) e,c⟩,r⟩
 | rng lo hi=>obtain ⟨t,u,v,e⟩:=x; exact ⟨t,u,v,k _ _ (.inl rfl) e⟩
 | frz ob u ih=>obtain ⟨e,q⟩:=x; exact ⟨k _ _ (.inl rfl) e,ih q⟩
 | tbl ps =>
  have e:h.get? a=some { cls:=.none,data:=.fields ps }:=x
  show h'.get? a=some { cls:=.none,data:=.fields ps }
  exact k a _ (.inl rfl) e
 | tab q =>
  obtain ⟨ps,e,z,r⟩:=x
  refine ⟨ps,k _ _ (.inl rfl) e,z,fun pos cv q=>?_⟩
  obtain ⟨c,o,vs,t,r1,r2,r3,r4⟩:=r pos cv q
  exact ⟨c,o,vs,t,r1,ho _ r2,k _ _ (.inr r2) r3,r4⟩
 | met f y =>
  have e:h.get? a=some (PySem.W.methodObj (.ref f) (.ref y)):=x
  show h'.get? a=some (PySem.W.methodObj (.ref f) (.ref y))
  exact k a _ (.inl rfl) e
 | ext φ=>obtain ⟨p,⟨o,e⟩,st⟩:=x; exact ⟨st _ _ p fun o q=>k _ _ (.inl rfl) q,⟨o,k _ _ (.inl rfl) e⟩,st⟩
theorem HOk.lt (x:HOk P w H h) (e:H a=some o):a < h.objs.size:=(x a o e).lt
theorem HOk.fresh (x:HOk P w H h) (e:h.objs.size<=a):H a=none:=by
 cases q:H a with
 | none=>rfl
 | some u=>exact absurd (Qn (x.lt q) e) (Je _)
theorem HOk.kept (x:HOk P w H h) (k:∀ b u,h.get? b=some u->h'.get? b=some u):HOk P w H h':=fun a o e =>
 (x a o e).stay (fun b u _ q=>k b u q) (fun _ q=>q) fun _ _ q=>q
theorem HOk.laid (x:HOk P w H h) (k:∀ b u,h.get? b=some u->h'.get? b=some u) (hp:h.objs.size<=a) (new:bG P w (upd H a o) h' a o):HOk P w (upd H a o) h':=fun b u e=>by
 have hn:=x.fresh hp
 by_cases hb:b=a
 ·subst hb; rw [aB] at e; cases e; exact new
 ·rw [aD hb] at e
  exact (x b u e).stay (fun c v _ q=>k c v q) (fun c q=>by rw [aD (gB q hn)]; exact q) fun c xs q=>by rw [aD (gB q hn)]; exact q
end
def Rd (H:Hp) (a:Addr) (u:HO):Prop:=H a=some u∨∃ o,H a=some (.frz o u)
theorem Rd.of {H:Hp} {a:Addr} {u:HO} (h:H a=some u):Rd H a u:=.inl h
theorem Rd.ok {P:Program} {w:World} {H:Hp} {h:Heap} {a:Addr} {u:HO} (r:Rd H a u) (x:HOk P w H h):bG P w H h a u:=by
 rcases r with r | ⟨o,r⟩
 ·exact x a u r
 ·obtain ⟨_,q⟩:=x a _ r
  exact q
def Mut:Option HO->Prop
 | some (.lst _)=>True
 | some (.dK _)=>True
 | some (.dT _)=>True
 | some (.set _ _)=>True
 | some (.ins _ _ _)=>True
 | some (.ext _)=>True
 | some (.tab _)=>True
 | _=>False
section
variable {P:Program} {w:World} {H:Hp} {h h':Heap} {x e:Addr} {o':HO}
theorem HOk.write (ok:HOk P w H h) (mu:Mut (H x)) (he:e=x∨H e=some (.own x)) (k:∀ b u,b≠e->h.get? b=some u->h'.get? b=some u) (heo:∃ u,h'.get? e=some u)
  (new:bG P w (upd H x o') h' x o'):HOk P w (upd H x o') h':=fun b u q=>by
 have nown:∀ c y,H c=some (.own y)->c≠x:=fun c y r z=>by subst z; rw [r] at mu; exact mu
 have ntup:∀ c xs,H c=some (.tup xs)->c≠x:=fun c xs r z=>by subst z; rw [r] at mu; exact mu
 by_cases hb:b=x
 ·subst hb; rw [aB] at q; cases q; exact new
 ·rw [aD hb] at q
  by_cases hbe:b=e
  ·have q':H b=some (.own x):=by
    rcases he with z | z
    ·exact absurd (hbe.trans z) hb
    ·rw [hbe]; exact z
   rw [q] at q'; cases q'
   obtain ⟨v,hv⟩:=heo
   exact ⟨v,by rw [hbe]; exact hv⟩
  ·refine (ok b u q).stay (fun c v hc r=>k c v ?_ r) (fun c r=>by rw [aD (nown c b r)]; exact r) fun c xs r=>by rw [aD (ntup c xs r)]; exact r
   rcases hc with rfl | hc
   ·exact hbe
   ·rintro rfl
    rcases he with z | z
    ·exact nown c b hc z
    ·rw [hc] at z; cases z; exact hb rfl
end
structure Un (fs ex:List Addr) (H H':Hp) (h h':Heap):Prop where
 keep:∀ b o,h.get? b=some o->H b=none->b∉fs->b∉ex->h'.get? b=some o
 slot:∀ b o,h.get? b=some o->H b=none->b∈fs->b∉ex->∃ sl,h'.get? b=some { o with slots:=sl }
 free:∀ b o,h.get? b=some o->H b=none->b∉ex->H' b=none
 there:∀ b o,h.get? b=some o->b∉ex->∃ o',h'.get? b=some o'
 tups:∀ b xs,H b=some (.tup xs)->H' b=some (.tup xs)
 frzs:∀ b o u,H b=some (.frz o u)->H' b=some (.frz o u)
 tbls:∀ b ps,H b=some (.tbl ps)->∃ more,H' b=some (.tbl (ps++more))
section
variable {fs fs' ex ex':List Addr} {H H1 H2:Hp} {h h1 h2 h':Heap} {a x e:Addr} {o:HO}
theorem Un.any (u:Un fs ex H H1 h h1) {b:Addr} {ob:Obj} (q:h.get? b=some ob) (n:H b=none) (hx:b∉ex):∃ sl,h1.get? b=some { ob with slots:=sl }:=by
 by_cases hb:b∈fs
 ·exact u.slot b ob q n hb hx
 ·exact ⟨ob.slots,u.keep b ob q n hb hx⟩
theorem Un.trans (a:Un fs ex H H1 h h1) (b:Un fs ex H1 H2 h1 h2):Un fs ex H H2 h h2 where
 keep:=fun c ob q n hc hx=>b.keep c ob (a.keep c ob q n hc hx) (a.free c ob q n hx) hc hx
 slot:=fun c ob q n hc hx=>by
  obtain ⟨sl,e1⟩:=a.slot c ob q n hc hx
  obtain ⟨sl',e2⟩:=b.slot c _ e1 (a.free c ob q n hx) hc hx
  exact ⟨sl',e2⟩
 free:=fun c ob q n hx=>by
  obtain ⟨o',e1⟩:=a.there c ob q hx
  exact b.free c o' e1 (a.free c ob q n hx) hx
 there:=fun c ob q hx=>by
  obtain ⟨o',e1⟩:=a.there c ob q hx
  exact b.there c o' e1 hx
 tups:=fun c xs q=>b.tups c xs (a.tups c xs q)
 frzs:=fun c ob xs q=>b.frzs c ob xs (a.frzs c ob xs q)
 tbls:=fun c ps q=>by
  obtain ⟨m1,e1⟩:=a.tbls c ps q
  obtain ⟨m2,e2⟩:=b.tbls c _ e1
  exact ⟨m1++m2,by rw [e2,Array.append_assoc]⟩
theorem Un.kept (k:∀ b u,h.get? b=some u->h'.get? b=some u):Un fs ex H H h h' :=
 ⟨fun b ob q _ _ _=>k b ob q,fun b ob q _ _ _=>⟨ob.slots,k b ob q⟩,fun _ _ _ n _=>n,fun b ob q _=>⟨ob,k b ob q⟩,fun _ _ q=>q,fun _ _ _ q=>q,fun _ ps q=>⟨#[],by rw [q]; simp⟩⟩
theorem Un.refl:Un fs ex H H h h:=Un.kept fun _ _ q=>q
theorem Un.laid (k:∀ b u,h.get? b=some u->h'.get? b=some u) (hp:h.objs.size<=a) (hn:H a=none):Un fs ex H (upd H a o) h h' where
 keep:=fun b u q _ _ _=>k b u q
 slot:=fun b u q _ _ _=>⟨u.slots,k b u q⟩
 free:=fun b u q n _=>by rw [aD (Qz (Qn (Qj q) hp))]; exact n
 there:=fun b u q _=>⟨u,k b u q⟩
 tups:=fun b xs q=>by rw [aD (gB q hn)]; exact q
 frzs:=fun b u xs q=>by rw [aD (gB q hn)]; exact q
 tbls:=fun b ps q=>⟨#[],by rw [aD (gB q hn),q]; simp⟩
theorem Un.write (mu:Mut (H x)) (he:e=x∨H e=some (.own x)) (k:∀ b u,b≠e->h.get? b=some u->h'.get? b=some u) (heo:∃ u,h'.get? e=some u):Un fs ex H (upd H x o) h h':=by
 have hx:∀ b,H b=none->b≠x:=fun b n z=>by subst z; rw [n] at mu; exact mu
 have hb:∀ b,H b=none->b≠e:=fun b n z=>by
  subst z
  rcases he with r | r
  ·exact hx b n r
  ·rw [n] at r; cases r
 have hm:∀ b u,H b=some u->¬ Mut (some u)->b≠x:=fun b u q nm z=>by subst z; rw [q] at mu; exact nm mu
 refine ⟨fun b u q n _ _=>k b u (hb b n) q,fun b u q n _ _=>⟨u.slots,k b u (hb b n) q⟩,fun b u q n _=>by rw [aD (hx b n)]; exact n,fun b u q _=>?_,
  fun b xs q=>by rw [aD (hm b _ q fun z=>z)]; exact q,fun b u xs q=>by rw [aD (hm b _ q fun z=>z)]; exact q,fun b ps q=>⟨#[],by rw [aD (hm b _ q fun z=>z),q]; simp⟩⟩
 by_cases hbe:b=e
 ·subst hbe; exact heo
 ·exact ⟨u,k b u hbe q⟩
theorem Un.mono (u:Un fs ex H H1 h h1) (hs:∀ b∈fs,b∈fs') (hx:∀ b∈ex,b∈ex'):Un fs' ex' H H1 h h1 :=
 ⟨fun b ob q n hb he=>u.keep b ob q n (fun z=>hb (hs b z)) fun z=>he (hx b z),fun _ _ q n _ he=>u.any q n fun z=>he (hx _ z),fun b ob q n he=>u.free b ob q n fun z=>he (hx b z),fun b ob q he=>u.there b ob q fun z=>he (hx b z),u.tups,u.frzs,u.tbls⟩
end
def trk (h:Heap) (H:Hp):List Addr:=(List.range h.objs.size).filter fun a=>(H a).isSome
def sU (h:Heap) (H:Hp):Heap:=PySem.W.hideAll h (trk h H)
theorem aAu (h:Heap) (H:Hp):(sU h H).objs.size=h.objs.size:=PySem.W.hideAll_size _ _
theorem aBb {h:Heap} {H:Hp} {b:Addr} {o:Obj} (e:h.get? b=some o) (n:H b=none):(sU h H).get? b=some o :=
 PySem.W.hideAll_get _ e fun hm=>by
  have q:(H b).isSome=true:=(Xq.mp hm).2
  rw [n] at q; simp at q
theorem aCI {h:Heap} {H:Hp} {b:Addr} {o:Obj} (e:(sU h H).get? b=some o):h.get? b=some o/\H b=none:=by
 have e':h.get? b=some o:=PySem.W.of_hideAll (trk h H) e
 refine ⟨e',?_⟩
 cases q:H b with
 | none=>rfl
 | some x =>
  have hm:b∈trk h H:=Xq.mpr ⟨Zi.mpr (Qj e'),by simp [q]⟩
  have z:(sU h H).get? b=none:=PySem.W.hideAll_none (trk h H) hm
  rw [z] at e; cases e
def aCJ (g h:Heap) (L:Addr):List (Addr×Obj):=(List.range h.objs.size).filterMap fun a=>if a=L∨(g.get? a).isSome=true then none else (h.get? a).map fun o=>(a,o)
def mJ (g h:Heap) (L d:Addr):List (Addr×Obj):=(aCJ g h L).filter fun p=>decide (p.1≠d)
structure Mod (K:PySem.W.Frag) (mg:Str->Option Value) (base:Heap):Prop where
 kin:K.In base
 glob:base.Ns mainGlobals mg
 blt:∃ mb,base.Ns builtinsNs mb/\∀ x:Str,x ≠ "__name__" -> mb x=bootBuiltins x
 nolimit:base.NoLimit
 mods:∃ mm,base.Ns sysModules mm
structure Cx where
 prog:Program
 w:World
 K:PySem.W.Frag
 mg:Str->Option Value
 base:Heap
 A:Around
 N:List Str
 s₀:Shared
 H₀:Hp
 env:Env
 outer:List Env
 stack:List Env
 ex:List Addr
 fn:Str->Bool
 calm:Bool
 pn:List (Addr×Obj)
 xe:Value->Shared->Prop
def frs (l:List Env):List Addr:=l.filterMap (·.frame)
abbrev Cx.fs (X:Cx):List Addr:=frs X.outer
def Vis (sc:Scope) (x:Str):Prop:=sc.names.lookup x=some .local∨sc.names.lookup x=some .cell∨sc.names.lookup x=some .free
def Loc (sc:Scope) (x:Str):Prop:=sc.names.lookup x=some .local∨sc.names.lookup x=some .cell
def aEU (env:Env) (h:Heap) (m:Str->Option Value) (x:Str) (u:Value):Prop :=
 (env.kindOf x=some .local/\m x=some u)∨((env.kindOf x=some .cell∨env.kindOf x=some .free)/\∃ c,env.cells.lookup x=some c/\h.IsCell c (some u))
structure Cx.Ok (X:Cx):Prop where
 mod:Mod X.K X.mg X.base
 kind:X.env.scope.kind=.function
 glob:X.env.globals=mainGlobals
 blt:X.env.builtins=builtinsNs
 above:X.s₀.heap.objs.size<=X.env.locals
 inj:∀ x y c,X.env.cells.lookup x=some c->X.env.cells.lookup y=some c->x=y
 has:∀ x,(X.env.kindOf x=some .cell∨X.env.kindOf x=some .free)->∃ c,X.env.cells.lookup x=some c
 cab:∀ x c,X.fn x=true->X.env.cells.lookup x=some c->X.s₀.heap.objs.size<=c
 hd:X.calm=true->X.A.handled=none
 frames:X.A.frames=some X.stack
 stk:X.stack=X.outer∨(X.stack=X.env::X.outer/\X.env.frame=some X.env.locals)
 exf:∀ b∈X.ex,b≠X.env.locals/\∀ x c,X.env.cells.lookup x=some c->c≠b
 bs:∀ b o,X.base.get? b=some o->X.s₀.heap.get? b=some o/\X.H₀ b=none
 bsz:X.base.objs.size<=X.s₀.heap.objs.size
 noex:∀ b o,X.base.get? b=some o->b∉X.ex
 exfs:∀ b∈X.ex,b∉X.fs
 funs:X.s₀.heap.FunFrames X.base X.outer
 frf:∀ b∈X.fs,X.H₀ b=none
structure Inv (X:Cx) (pins:List (Addr×Obj)) (σ:List (Option V)) (H:Hp) (s:Shared):Prop where
 ok:X.Ok
 os:s.os=X.s₀.os
 bare:AllBare s.gens
 base:Un X.fs X.ex X.H₀ H X.s₀.heap s.heap
 loc:∃ m,s.heap.Ns X.env.locals m/\∀ (i:Nat) (x:Str) (v:V),X.N[i]?=some x->σ[i]?=some (some v)->Vis X.env.scope x->∃ u,bB v u/\aEU X.env s.heap m x u
 cell:∀ x c,X.env.cells.lookup x=some c->∃ v,s.heap.IsCell c v
 free:H X.env.locals=none
 freeC:∀ x c,X.env.cells.lookup x=some c->H c=none
 pin:∀ p∈X.pn++pins,s.heap.get? p.1=some p.2/\H p.1=none/\p.1≠X.env.locals/\p.1∉X.fs/\∀ v,p.2.data≠.cell v
 hok:HOk X.prog X.w H s.heap
 len:σ.length=X.N.length
section
variable {X:Cx} {pins:List (Addr×Obj)} {σ:List (Option V)} {H H':Hp} {s:Shared} {h':Heap}
theorem Cx.Ok.nofr (ok:X.Ok) {b:Addr} {o:Obj} (e:X.base.get? b=some o):b∉X.fs:=fun hb=>by
 have:=(ok.funs.mem hb).1
 rw [e] at this; cases this
theorem Inv.bs (I:Inv X pins σ H s):∀ b o,X.base.get? b=some o->s.heap.get? b=some o/\H b=none:=fun b o e =>
 ⟨I.base.keep b o (I.ok.bs b o e).1 (I.ok.bs b o e).2 (I.ok.nofr e) (I.ok.noex b o e),I.base.free b o (I.ok.bs b o e).1 (I.ok.bs b o e).2 (I.ok.noex b o e)⟩
theorem Inv.bk (I:Inv X pins σ H s):∀ b o,X.base.get? b=some o->s.heap.get? b=some o:=fun b o e=>(I.bs b o e).1
theorem Inv.mod (I:Inv X pins σ H s):Mod X.K X.mg X.base:=I.ok.mod
theorem Inv.kIn (I:Inv X pins σ H s):X.K.In s.heap:=I.ok.mod.kin.keeps I.bk
theorem Inv.nolimit (I:Inv X pins σ H s):s.heap.NoLimit:=I.ok.mod.nolimit.keeps I.bk
theorem Inv.fr (I:Inv X pins σ H s):∃ m,Fr X.base X.env.locals s.heap m :=
 let ⟨m,hn,_⟩:=I.loc
 ⟨m,hn,I.bk,Ja I.ok.bsz I.ok.above⟩
theorem Inv.lt (I:Inv X pins σ H s):X.env.locals < s.heap.objs.size:=let ⟨_,hn,_⟩:=I.loc; hn.lt
theorem Inv.sz (I:Inv X pins σ H s):X.s₀.heap.objs.size<=s.heap.objs.size:=Ja I.ok.above (Js I.lt)
theorem Inv.nofs (I:Inv X pins σ H s) {a:Addr} (h:s.heap.objs.size<=a):a∉X.fs:=fun hb=>by
 obtain ⟨_,o,ho,_⟩:=I.ok.funs.mem hb
 exact absurd (Qn (Qj ho) (Ja I.sz h)) (Je _)
theorem Inv.cne (I:Inv X pins σ H s):∀ x c,X.env.cells.lookup x=some c->c≠X.env.locals:=fun x c e z=>by
 obtain ⟨v,o,ho,hd⟩:=I.cell x c e
 obtain ⟨m,⟨o',es,ep,ho',hd',_⟩,_⟩:=I.loc
 rw [z,ho'] at ho; cases ho; rw [hd'] at hd; cases hd
theorem Inv.funs (I:Inv X pins σ H s):s.heap.FunFrames X.base X.outer:=by
 have all:∀ (l:List Env),(∀ b∈frs l,b∈X.fs)->X.s₀.heap.FunFrames X.base l->s.heap.FunFrames X.base l:=by
  intro l
  induction l with
  | nil=>intro _ _; trivial
  | cons env r ih =>
   intro hs hl
   obtain ⟨hk,⟨L,o,hf,hn,ho,hd⟩,hr⟩:=hl
   have hL:L∈X.fs:=hs L (by unfold frs; rw [Za,hf]; exact Qr)
   obtain ⟨sl,e⟩:=I.base.slot L o ho (I.ok.frf L hL) hL fun z=>I.ok.exfs L z hL
   exact ⟨hk,⟨L,_,hf,hn,e,hd⟩,ih (fun b hb=>hs b (by unfold frs; rw [Za,hf]; exact Qo _ hb)) hr⟩
 exact all X.outer (fun _ hb=>hb) I.ok.funs
theorem Inv.stack (I:Inv X pins σ H s):s.heap.FunFrames X.base X.stack:=by
 rcases I.ok.stk with e | ⟨e,hf⟩
 ·rw [e]; exact I.funs
 ·rw [e]
  obtain ⟨m,hn,_⟩:=I.loc
  refine .cons (by rw [I.ok.kind]; decide) hf hn ?_ I.funs
  exact Heap.get?_none_of_le (Ja I.ok.bsz I.ok.above)
theorem Inv.stkSub (I:Inv X pins σ H s):∀ b∈frs X.stack,b∈X.env.locals::X.fs:=fun b hb=>by
 rcases I.ok.stk with e | ⟨e,hf⟩
 ·rw [e] at hb; exact Qo _ hb
 ·rw [e] at hb
  unfold frs at hb
  rw [Za,hf] at hb
  exact hb
theorem Inv.stkFree (I:Inv X pins σ H s):∀ b∈frs X.stack,H b=none:=fun b hb=>by
 rcases Qm.mp (I.stkSub b hb) with e | hb
 ·rw [e]; exact I.free
 ·obtain ⟨_,o,ho,_⟩:=I.ok.funs.mem hb
  exact I.base.free b o ho (I.ok.frf b hb) fun z=>I.ok.exfs b z hb
theorem Inv.step {g':Array GenState} {t':Nat} {d':Drawn} {ch:List Addr} (I:Inv X pins σ H s)
  (hch:∀ b∈ch,(b∈X.ex∨X.s₀.heap.objs.size<=b)/\b≠X.env.locals/\(∀ x c,X.env.cells.lookup x=some c->c≠b)/\∀ p∈X.pn++pins,p.1≠b)
  (keep:∀ b o,b≠X.env.locals->b∉X.fs->b∉ch->s.heap.get? b=some o->H b=none->h'.get? b=some o)
  (slot:∀ b o,b≠X.env.locals->b∈X.fs->b∉ch->s.heap.get? b=some o->H b=none->∃ sl,h'.get? b=some { o with slots:=sl }) (free:∀ b o,b∉ch->s.heap.get? b=some o->H b=none->H' b=none)
  (there:∀ b o,b∉ch->s.heap.get? b=some o->∃ o',h'.get? b=some o')
  (tups:∀ b xs,H b=some (.tup xs)->H' b=some (.tup xs)) (frzs:∀ b o u,H b=some (.frz o u)->H' b=some (.frz o u)) (tbls:∀ b ps,H b=some (.tbl ps)->∃ more,H' b=some (.tbl (ps++more)))
  (ns:∀ m,s.heap.Ns X.env.locals m->h'.Ns X.env.locals m) (hok:HOk X.prog X.w H' h') (hg:AllBare g') :
  Inv X pins σ H' { s with heap:=h',gens:=g',drawn:=d',toks:=t' }:=by
 have neL:∀ b o,X.s₀.heap.get? b=some o->b≠X.env.locals:=fun b o e=>Qz (Qn (Qj e) I.ok.above)
 have neC:∀ b o,X.s₀.heap.get? b=some o->b∉X.ex->b∉ch:=fun b o e hx hb=>by
  rcases (hch b hb).1 with z | z
  ·exact hx z
  ·exact absurd (Qn (Qj e) z) (Je _)
 have cellK:∀ x c,X.env.cells.lookup x=some c->∀ v,s.heap.IsCell c v->h'.IsCell c v:=fun x c e v ⟨o,ho,hd⟩=>by
  have nch:c∉ch:=fun z=>(hch c z).2.2.1 x c e rfl
  by_cases hc:c∈X.fs
  ·obtain ⟨sl,q⟩:=slot c o (I.cne x c e) hc nch ho (I.freeC x c e)
   exact ⟨_,q,hd⟩
  ·exact ⟨o,keep c o (I.cne x c e) hc nch ho (I.freeC x c e),hd⟩
 refine ⟨I.ok,I.os,hg,⟨fun b o e n hb hx=>?_,fun b o e n hb hx=>?_,fun b o e n hx=>?_,fun b o e hx=>?_,fun b xs e=>tups b xs (I.base.tups b xs e),fun b o xs e=>frzs b o xs (I.base.frzs b o xs e),fun b ps e=>?_⟩,?_,fun x c e=>?_,?_,fun x c e=>?_,fun p hp=>?_,hok,I.len⟩
 ·exact keep b o (neL b o e) hb (neC b o e hx) (I.base.keep b o e n hb hx) (I.base.free b o e n hx)
 ·obtain ⟨sl,e1⟩:=I.base.slot b o e n hb hx
  obtain ⟨sl',e2⟩:=slot b _ (neL b o e) hb (neC b o e hx) e1 (I.base.free b o e n hx)
  exact ⟨sl',e2⟩
 ·obtain ⟨o',e1⟩:=I.base.there b o e hx
  exact free b o' (neC b o e hx) e1 (I.base.free b o e n hx)
 ·obtain ⟨o',e1⟩:=I.base.there b o e hx
  exact there b o' (neC b o e hx) e1
 ·obtain ⟨m1,e1⟩:=I.base.tbls b ps e
  obtain ⟨m2,e2⟩:=tbls b _ e1
  exact ⟨m1++m2,by rw [e2,Array.append_assoc]⟩
 ·obtain ⟨m,hn,hl⟩:=I.loc
  refine ⟨m,ns m hn,fun i x v e1 e2 e3=>?_⟩
  obtain ⟨u,r,l⟩:=hl i x v e1 e2 e3
  refine ⟨u,r,?_⟩
  rcases l with l | ⟨k,c,e,z⟩
  ·exact .inl l
  ·exact .inr ⟨k,c,e,cellK x c e _ z⟩
 ·obtain ⟨v,z⟩:=I.cell x c e
  exact ⟨v,cellK x c e v z⟩
 ·obtain ⟨m,⟨o,_,_,ho,_⟩,_⟩:=I.loc
  exact free _ o (fun z=>(hch _ z).2.1 rfl) ho I.free
 ·obtain ⟨v,o,ho,hd⟩:=I.cell x c e
  exact free c o (fun z=>(hch c z).2.2.1 x c e rfl) ho (I.freeC x c e)
 ·obtain ⟨e,n,ne,nf,d⟩:=I.pin p hp
  have nch:p.1∉ch:=fun z=>(hch p.1 z).2.2.2 p hp rfl
  exact ⟨keep p.1 p.2 ne nf nch e n,free p.1 p.2 nch e n,ne,nf,d⟩
theorem Inv.un {t':Nat} (I:Inv X pins σ H s) (u:Un X.fs [] H H' s.heap h') (hok:HOk X.prog X.w H' h'):Inv X pins σ H' { s with heap:=h',toks:=t' }:=by
 obtain ⟨m,⟨o,es,ep,ho,r⟩,_⟩:=id I.loc
 obtain ⟨sl,hL⟩:=u.any ho I.free (by simp)
 exact I.step (g':=s.gens) (d':=s.drawn) (ch:=[]) (fun _ z=>nomatch z) (fun b o _ hb _ e n=>u.keep b o e n hb (by simp)) (fun b o _ hb _ e n=>u.slot b o e n hb (by simp)) (fun b o _ e n=>u.free b o e n (by simp)) (fun b o _ e=>u.there b o e (by simp)) u.tups u.frzs u.tbls (fun m' hm=>by
  obtain ⟨o',es',ep',ho',r'⟩:=hm
  rw [ho] at ho'; cases ho'
  exact ⟨_,es',ep',hL,r'⟩) hok I.bare
theorem Inv.call {g':Array GenState} {t':Nat} {d':Drawn} {ch:List Addr} (I:Inv X pins σ H s) (u:Un (frs X.stack) ch H H' s.heap h') (hok:HOk X.prog X.w H' h') (hg:AllBare g')
  (hch:∀ b∈ch,(b∈X.ex∨X.s₀.heap.objs.size<=b)/\b≠X.env.locals/\(∀ x c,X.env.cells.lookup x=some c->c≠b)/\∀ p∈X.pn++pins,p.1≠b) :
  Inv X pins σ H' { s with heap:=h',gens:=g',drawn:=d',toks:=t' }:=by
 obtain ⟨m,⟨o,es,ep,ho,r⟩,_⟩:=id I.loc
 obtain ⟨sl,hL⟩:=u.any ho I.free fun z=>(hch _ z).2.1 rfl
 exact I.step (ch:=ch) hch (fun b o hL hb hc e n=>u.keep b o e n (fun z=>(Qm.mp (I.stkSub b z)).elim hL hb) hc) (fun b o _ _ hc e n=>u.any e n hc) (fun b o hc e n=>u.free b o e n hc) (fun b o hc e=>u.there b o e hc) u.tups u.frzs u.tbls (fun m' hm=>by
  obtain ⟨o',es',ep',ho',r'⟩:=hm
  rw [ho] at ho'; cases ho'
  exact ⟨_,es',ep',hL,r'⟩) hok hg
theorem Inv.turned {t':Nat} {it:Addr} (I:Inv X pins σ H s) (k:∀ b o,b≠it->s.heap.get? b=some o->h'.get? b=some o) (hn:H it=none) (hL:it≠X.env.locals)
  (h1:it∈X.ex∨X.s₀.heap.objs.size<=it) (h2:∀ x c,X.env.cells.lookup x=some c->c≠it) (h3:∀ p∈X.pn++pins,p.1≠it):Inv X pins σ H { s with heap:=h',toks:=t' }:=by
 have nit:∀ b u,H b=some u->b≠it:=fun b u e z=>by rw [z,hn] at e; cases e
 refine I.step (g':=s.gens) (d':=s.drawn) (ch:=[it]) (fun b hb=>?_) (fun b o _ _ hc e _=>k b o (fun z=>hc (by simp [z])) e) (fun b o _ _ hc e _=>⟨o.slots,k b o (fun z=>hc (by simp [z])) e⟩) (fun _ _ _ _ n=>n)
  (fun b o hc e=>⟨o,k b o (fun z=>hc (by simp [z])) e⟩) (fun _ _ e=>e) (fun _ _ _ e=>e) (fun b ps e=>⟨#[],by rw [e]; simp⟩) (fun m hm=>?_) (fun b u e=>?_) I.bare
 ·have e:b=it:=by simpa using hb
  subst e
  exact ⟨h1,hL,h2,h3⟩
 ·obtain ⟨o,es,ep,ho,r⟩:=hm
  exact ⟨o,es,ep,k _ o (Ne.symm hL) ho,r⟩
 ·refine (I.hok b u e).stay (fun c v hc q=>k c v ?_ q) (fun _ q=>q) fun _ _ q=>q
  rcases hc with z | z
  ·rw [z]; exact nit b u e
  ·exact nit c _ z
theorem Inv.tok (I:Inv X pins σ H s) (t:Nat):Inv X pins σ H { s with toks:=t }:=I.un (h':=s.heap) (t':=t) Un.refl I.hok
theorem Inv.kept {t':Nat} (I:Inv X pins σ H s) (k:∀ b u,s.heap.get? b=some u->h'.get? b=some u):Inv X pins σ H { s with heap:=h',toks:=t' }:=I.un (Un.kept k) (I.hok.kept k)
theorem Inv.laid {a:Addr} {o:HO} {t':Nat} (I:Inv X pins σ H s) (k:∀ b u,s.heap.get? b=some u->h'.get? b=some u) (hp:s.heap.objs.size<=a) (new:bG X.prog X.w (upd H a o) h' a o) :
  Inv X pins σ (upd H a o) { s with heap:=h',toks:=t' }:=I.un (Un.laid k hp (I.hok.fresh hp)) (I.hok.laid k hp new)
theorem Inv.write {x e:Addr} {o:HO} {t':Nat} (I:Inv X pins σ H s) (mu:Mut (H x)) (he:e=x∨H e=some (.own x)) (k:∀ b u,b≠e->s.heap.get? b=some u->h'.get? b=some u) (heo:∃ u,h'.get? e=some u)
  (new:bG X.prog X.w (upd H x o) h' x o):Inv X pins σ (upd H x o) { s with heap:=h',toks:=t' }:=I.un (Un.write mu he k heo) (I.hok.write mu he k heo new)
theorem Inv.pins_of {pins':List (Addr×Obj)} (I:Inv X pins σ H s) (h:∀ p∈pins',s.heap.get? p.1=some p.2/\H p.1=none/\p.1≠X.env.locals/\p.1∉X.fs/\∀ v,p.2.data≠.cell v):Inv X pins' σ H s :=
 ⟨I.ok,I.os,I.bare,I.base,I.loc,I.cell,I.free,I.freeC,fun p hp=>(Jo.mp hp).elim (fun z=>I.pin p (Xe _ z)) (h p),I.hok,I.len⟩
theorem wI {N:List Str} (hN:N.Nodup) {i j:Nat} {x:Str} (a:N[i]?=some x) (b:N[j]?=some x):i=j:=by
 obtain ⟨h1,e1⟩:=Qa.mp a
 obtain ⟨h2,e2⟩:=Qa.mp b
 exact (Yb hN).mp (e1.trans e2.symm)
theorem tH {M:Model} {A:Around} {E:Value->Shared->Prop} {i:Nat} {x:Str} {v:V} {u:Value} {Q:Unit->Shared->Prop} (I:Inv X pins σ H s) (hN:X.N.Nodup) (hi:X.N[i]?=some x) (hx:Loc X.env.scope x) (r:bB v u)
  (h:∀ s',Inv X pins (σ.set i (some v)) H s'->(∃ a,Heap.SameBut a s.heap s'.heap/\(a=X.env.locals∨X.env.cells.lookup x=some a))->Q () s') (hf:X.fn x=true∨X.env.scope.names.lookup x=some .local:=by first | exact .inl rfl | exact .inr rfl | assumption):wpAny M A (storeName X.env x u) Q E s:=by
 obtain ⟨m,hn,hl⟩:=id I.loc
 have hcls:(X.env.scope.kind==.class || (X.env.scope.kind==.module && X.env.locals !=X.env.globals))=false:=by rw [I.ok.kind]; rfl
 have hiσ:i < σ.length:=by rw [I.len]; exact (Qa.mp hi).1
 have cne:=I.cne
 have tracked:∀ {a:Addr} {h':Heap},(∃ o,s.heap.get? a=some o/\H a=none)->Heap.SameBut a s.heap h'->HOk X.prog X.w H h':=fun {a h'} ha hs b ob e=>by
  obtain ⟨_,_,hfree⟩:=ha
  refine (I.hok b ob e).stay (fun c w' hc q=>(hs.2 c ?_).trans q) (fun _ q=>q) fun _ _ q=>q
  rintro rfl
  rcases hc with rfl | hc
  ·rw [hfree] at e; cases e
  ·rw [hfree] at hc; cases hc
 rcases hx with hk | hk
 ·refine wpAny_storeName_local hk hn (fun h' hn' hs=>?_) hcls
  obtain ⟨oL,_,_,hoL,_⟩:=id hn
  refine h _ ⟨I.ok,I.os,I.bare,⟨fun b o e n hb hx=>?_,fun b o e n hb hx=>?_,I.base.free,fun b o e hx=>?_,I.base.tups,I.base.frzs,I.base.tbls⟩,⟨_,hn',fun j y v' e1 e2 e3=>?_⟩,fun y c e=>?_,I.free,I.freeC,fun p hp=>?_,tracked ⟨oL,hoL,I.free⟩ hs,by simpa using I.len⟩ ⟨_,hs,.inl rfl⟩
  ·exact (hs.2 b (Qz (Qn (Qj e) I.ok.above))).trans (I.base.keep b o e n hb hx)
  ·obtain ⟨sl,e1⟩:=I.base.slot b o e n hb hx
   exact ⟨sl,(hs.2 b (Qz (Qn (Qj e) I.ok.above))).trans e1⟩
  ·obtain ⟨o',e1⟩:=I.base.there b o e hx
   exact ⟨o',(hs.2 b (Qz (Qn (Qj e) I.ok.above))).trans e1⟩
  ·by_cases hj:j=i
   ·subst hj
    rw [hi] at e1; cases e1
    rw [Yz hiσ] at e2
    cases e2
    exact ⟨u,r,.inl ⟨hk,by simp⟩⟩
   ·rw [Wg (Ne.symm hj)] at e2
    obtain ⟨u',r',q⟩:=hl j y v' e1 e2 e3
    refine ⟨u',r',?_⟩
    rcases q with ⟨k,e⟩ | ⟨k,c,e,z⟩
    ·refine .inl ⟨k,?_⟩
     have:y≠x:=fun e=>hj (wI hN e1 (e ▸ hi))
     simp [this,e]
    ·exact .inr ⟨k,c,e,z.sameBut hs (cne y c e)⟩
  ·obtain ⟨w',z⟩:=I.cell y c e
   exact ⟨w',z.sameBut hs (cne y c e)⟩
  ·obtain ⟨e,n,ne,nf,d⟩:=I.pin p hp
   exact ⟨(hs.2 p.1 ne).trans e,n,ne,nf,d⟩
 ·have hfn:X.fn x=true:=by
   rcases hf with z | z
   ·exact z
   ·rw [z] at hk; cases hk
  obtain ⟨c,hc⟩:=I.ok.has x (.inl hk)
  obtain ⟨w',z⟩:=I.cell x c hc
  refine wpAny_storeName_cell I.ok.kind hk hc z (fun h' hc' hs=>?_)
  obtain ⟨oc,hoc,hocd⟩:=id z
  refine h { s with heap:=h' } ⟨I.ok,I.os,I.bare,⟨fun b o e n hb hx=>?_,fun b o e n hb hx=>?_,I.base.free,fun b o e hx=>?_,I.base.tups,I.base.frzs,I.base.tbls⟩,⟨m,hn.sameBut hs (Ne.symm (cne x c hc)),fun j y v' e1 e2 e3=>?_⟩,fun y c' e=>?_,I.free,I.freeC,fun p hp=>?_,tracked ⟨oc,hoc,I.freeC x c hc⟩ hs,by simpa using I.len⟩ ⟨c,hs,.inr hc⟩
  ·exact (hs.2 b (Qz (Qn (Qj e) (I.ok.cab x c hfn hc)))).trans (I.base.keep b o e n hb hx)
  ·obtain ⟨sl,e1⟩:=I.base.slot b o e n hb hx
   exact ⟨sl,(hs.2 b (Qz (Qn (Qj e) (I.ok.cab x c hfn hc)))).trans e1⟩
  ·obtain ⟨o',e1⟩:=I.base.there b o e hx
   exact ⟨o',(hs.2 b (Qz (Qn (Qj e) (I.ok.cab x c hfn hc)))).trans e1⟩
  ·by_cases hj:j=i
   ·subst hj
    rw [hi] at e1; cases e1
    rw [Yz hiσ] at e2
    cases e2
    exact ⟨u,r,.inr ⟨.inl hk,c,hc,hc'⟩⟩
   ·rw [Wg (Ne.symm hj)] at e2
    obtain ⟨u',r',q⟩:=hl j y v' e1 e2 e3
    refine ⟨u',r',?_⟩
    rcases q with q | ⟨k,c',e,z'⟩
    ·exact .inl q
    ·refine .inr ⟨k,c',e,z'.sameBut hs ?_⟩
     rintro rfl
     exact hj (wI hN e1 (I.ok.inj _ _ _ e hc ▸ hi))
  ·by_cases hcc:c'=c
   ·subst hcc; exact ⟨_,hc'⟩
   ·obtain ⟨w2,z2⟩:=I.cell y c' e
    exact ⟨w2,z2.sameBut hs hcc⟩
  ·obtain ⟨e,n,ne,nf,d⟩:=I.pin p hp
   refine ⟨(hs.2 p.1 ?_).trans e,n,ne,nf,d⟩
   intro q
   rw [q,hoc] at e
   have q':oc=p.2:=Option.some.inj e
   exact d w' (by rw [<- q']; exact hocd)
theorem wJ {M:Model} {A:Around} {E:Value->Shared->Prop} {i:Nat} {x:Str} {v:V} {u:Value} {Q:Unit->Shared->Prop} (I:Inv X pins σ H s) (hN:X.N.Nodup) (hi:X.N[i]?=some x) (hx:Loc X.env.scope x) (r:bB v u)
  (h:∀ s',Inv X pins (σ.set i (some v)) H s'->Q () s') (hf:X.fn x=true∨X.env.scope.names.lookup x=some .local:=by first | exact .inl rfl | exact .inr rfl | assumption):wpAny M A (storeName X.env x u) Q E s :=
 tH I hN hi hx r (fun s' I' _=>h s' I') hf
theorem Inv.call' {s':Shared} {ch:List Addr} (I:Inv X pins σ H s) (ho:s'.os=s.os) (u:Un (frs X.stack) ch H H' s.heap s'.heap) (hok:HOk X.prog X.w H' s'.heap) (hg:AllBare s'.gens)
  (hch:∀ b∈ch,(b∈X.ex∨X.s₀.heap.objs.size<=b)/\b≠X.env.locals/\(∀ x c,X.env.cells.lookup x=some c->c≠b)/\∀ p∈X.pn++pins,p.1≠b):Inv X pins σ H' s':=by
 obtain ⟨h',g',d',t',o'⟩:=s'
 have e:o'=s.os:=ho
 subst e
 exact I.call (g':=g') (t':=t') (d':=d') u hok hg hch
end
abbrev XK:=Value->Option Addr->Hp->Prop
abbrev St:=List (Option V)
abbrev VK:=V->Hp->Prop
abbrev TE:=St->Hp->VK->Prop
abbrev TT:=St->Hp->(Bool->Hp->Prop)->Prop
abbrev TA:=St->Hp->(List V->Hp->Prop)->Prop
structure Ends where
 nx:St->Hp->Prop
 rt:VK
 bk:St->Hp->Prop:=fun _ _=>False
 ct:St->Hp->Prop:=fun _ _=>False
abbrev TS:=Ends->St->Hp->Prop
def EP (X:Cx) (pins:List (Addr×Obj)) (σ:St) (Q:VK) (u:Value) (s':Shared):Prop:=∃ v H',Inv X pins σ H' s'/\bB v u/\Q v H'
def TP (X:Cx) (pins:List (Addr×Obj)) (σ:St) (Q:Bool->Hp->Prop) (b:Bool) (s':Shared):Prop:=∃ H',Inv X pins σ H' s'/\Q b H'
def AP (X:Cx) (pins:List (Addr×Obj)) (σ:St) (Q:List V->Hp->Prop) (us:List Value) (s':Shared):Prop:=∃ vs H',Inv X pins σ H' s'/\aY vs us/\Q vs H'
def SP (X:Cx) (pins:List (Addr×Obj)) (D:Ends) (f:Flow) (s':Shared):Prop :=
 match f with
 | .next=>∃ σ' H',Inv X pins σ' H' s'/\D.nx σ' H'
 | .brk=>∃ σ' H',Inv X pins σ' H' s'/\D.bk σ' H'
 | .cont=>∃ σ' H',Inv X pins σ' H' s'/\D.ct σ' H'
 | .ret u=>∃ v σ' H',Inv X pins σ' H' s'/\bB v u/\D.rt v H'
def PE (X:Cx) (e:Expr) (t:TE):Prop :=
 ∀ (pins:List (Addr×Obj)) (s:Shared) (σ:St) (H:Hp) (Q:VK),Inv X pins σ H s->t σ H Q->wpAny (model X.prog X.w) X.A (eval e X.env) (EP X pins σ Q) X.xe s
def PT (X:Cx) (e:Expr) (t:TT):Prop :=
 ∀ (pins:List (Addr×Obj)) (s:Shared) (σ:St) (H:Hp) (Q:Bool->Hp->Prop),Inv X pins σ H s->t σ H Q->wpAny (model X.prog X.w) X.A (isTrue e X.env (eval e X.env)) (TP X pins σ Q) X.xe s
def PW (X:Cx) (e:Expr) (t:TT):Prop :=
 ∀ (whole:Sem Value) (pins:List (Addr×Obj)) (s:Shared) (σ:St) (H:Hp) (Q:Bool->Hp->Prop),Inv X pins σ H s->t σ H Q->wpAny (model X.prog X.w) X.A (isTrue e X.env whole) (TP X pins σ Q) X.xe s
theorem PW.pt {X:Cx} {e:Expr} {t:TT} (h:PW X e t):PT X e t:=h _
def PA (X:Cx) (es:List Expr) (t:TA):Prop :=
 ∀ (pos:Pos) (pins:List (Addr×Obj)) (s:Shared) (σ:St) (H:Hp) (Q:List V->Hp->Prop),Inv X pins σ H s->t σ H Q->wpAny (model X.prog X.w) X.A (spliced (backTo pos (starEach es X.env))) (AP X pins σ Q) X.xe s
def PS (X:Cx) (st:Stmt) (t:TS):Prop :=
 ∀ (pins:List (Addr×Obj)) (s:Shared) (σ:St) (H:Hp) (D:Ends),Inv X pins σ H s->t D σ H->wpAny (model X.prog X.w) X.A (exec st X.env) (SP X pins D) X.xe s
def PSs (X:Cx) (st:List Stmt) (t:TS):Prop :=
 ∀ (pins:List (Addr×Obj)) (s:Shared) (σ:St) (H:Hp) (D:Ends),Inv X pins σ H s->t D σ H->wpAny (model X.prog X.w) X.A (execs st X.env) (SP X pins D) X.xe s
theorem thn {α:Type} {t:Sem α} {Q Q':α->Shared->Prop} {M:Model} {A:Around} {E:Value->Shared->Prop} {s:Shared} (h:wpAny M A t Q E s) (hQ:∀ a s,Q a s->Q' a s):wpAny M A t Q' E s:=wpAny_mono h hQ fun _ _ x=>x
section
variable {X:Cx}
def cS (i:Nat):TE:=fun σ H Q=>∃ v,σ[i]?=some (some v)/\Q v H
abbrev tC (v:V):TE:=fun _ H Q=>Q v H
theorem aD9 {i:Nat} {x:Str} {pos:Pos} (hN:X.N[i]?=some x) (hv:Vis X.env.scope x) (hd:(x==("__debug__" : Str))=false:=by decide) (hcd:(x==("__classdict__" : Str))=false:=by decide):PE X (.Name x pos) (cS i):=by
 intro pins s σ H Q I h
 obtain ⟨v,e,h⟩:=h
 obtain ⟨m,hn,hl⟩:=I.loc
 obtain ⟨u,r,l⟩:=hl i x v hN e hv
 have fin:EP X pins σ Q u s:=⟨v,H,I,r,h⟩
 rcases l with ⟨hk,hm⟩ | ⟨hk,c,hc,hcell⟩
 ·exact wpAny_Name (wpAny_loadName_local I.ok.kind hk hn hm fin) hd
 ·rcases hk with hk | hk
  ·exact wpAny_Name (wpAny_loadName_cell I.ok.kind hk hc hcell fin) hd
  ·exact wpAny_Name (wpAny_loadName_free I.ok.kind hk hc hcell fin hcd) hd
theorem aI {i j pos}:PE X (.Constant (.int i) j pos) (tC (.int i)):=fun _ _ _ H _ I h=>wpAny_Constant_int ⟨.int i,H,I.tok _,⟨_,rfl⟩,h⟩
theorem cO {b j pos}:PE X (.Constant (.bool b) j pos) (tC (.bl b)):=fun _ _ _ H _ I h=>Constant_bool ⟨.bl b,H,I,rfl,h⟩
theorem aBc {j pos}:PE X (.Constant .none j pos) (tC .non):=fun _ _ _ H _ I h=>Constant_none ⟨.non,H,I,rfl,h⟩
theorem aP {x j pos}:PE X (.Constant (.str x) j pos) (tC (.str x)):=fun _ _ _ H _ I h=>Calls.Constant_str ⟨.str x,H,I.tok _,⟨_,rfl⟩,h⟩
def Gl (X:Cx) (x:Str):Prop:=X.env.kindOf x=some .globalImplicit
theorem uJ {E:Value->Shared->Prop} {pins:List (Addr×Obj)} {s:Shared} {σ:St} {H:Hp} {x:Str} {u:Value} {pos:Pos} {Q:Value->Shared->Prop} (I:Inv X pins σ H s) (hg:Gl X x) (hm:X.mg x=some u) (h:Q u s)
  (hd:(x==("__debug__" : Str))=false:=by decide):wpAny (model X.prog X.w) X.A (eval (.Name x pos) X.env) Q E s :=
 Calls.Name_function_global I.ok.kind hg (Calls.loadGlobal_global (by rw [I.ok.glob]; exact I.mod.glob.keeps I.bk) hm h) hd
theorem kD {E:Value->Shared->Prop} {pins:List (Addr×Obj)} {s:Shared} {σ:St} {H:Hp} {x:Str} {u:Value} {pos:Pos} {Q:Value->Shared->Prop} (I:Inv X pins σ H s) (hg:Gl X x) (hm:X.mg x=none) (hv:bootBuiltins x=some u) (h:Q u s)
  (hn:x ≠ "__name__" := by decide) (hd:(x==("__debug__" : Str))=false:=by decide):wpAny (model X.prog X.w) X.A (eval (.Name x pos) X.env) Q E s:=by
 obtain ⟨mb,h1,h2⟩:=I.mod.blt
 exact Calls.Name_function_global I.ok.kind hg (Calls.loadGlobal_builtin (by rw [I.ok.glob]; exact I.mod.glob.keeps I.bk) hm (by rw [I.ok.blt]; exact h1.keeps I.bk) ((h2 x hn).trans hv) h) hd
theorem pV {x:Str} {v:V} {u:Value} {pos:Pos} (hg:Gl X x) (hm:X.mg x=some u) (r:bB v u) (hd:(x==("__debug__" : Str))=false:=by decide):PE X (.Name x pos) (tC v) :=
 fun _ _ _ H _ I h=>uJ I hg hm ⟨v,H,I,r,h⟩ hd
theorem cP {x:Str} {v:V} {u:Value} {pos:Pos} (hg:Gl X x) (hm:X.mg x=none) (hv:bootBuiltins x=some u) (r:bB v u) (hn:x ≠ "__name__" := by decide) (hd:(x==("__debug__" : Str))=false:=by decide):PE X (.Name x pos) (tC v) :=
 fun _ _ _ H _ I h=>kD I hg hm hv ⟨v,H,I,r,h⟩ hn hd
variable {a b:Expr} {ta tb:TE} {pos:Pos}
def PC (X:Cx) (op:CmpOp) (a b:Expr) (t:TE):Prop :=
 ∀ (pins:List (Addr×Obj)) (s:Shared) (σ:St) (H:Hp) (Q:VK),Inv X pins σ H s->t σ H Q ->
  wpAny (model X.prog X.w) X.A (eval a X.env) (fun v s₁=>wpAny (model X.prog X.w) X.A (eval b X.env) (fun u s₂=>wpAny (model X.prog X.w) X.A (compareOp op v u) (EP X pins σ Q) X.xe s₂) X.xe s₁) X.xe s
theorem aBd (b:Expr) {op:CmpOp} (h:op≠.In) (h2:op≠.NotIn):behindInMarks op b=false:=by
 have e1:(op==CmpOp.In)=false:=by cases op <;> first | rfl | exact absurd rfl h
 have e2:(op==CmpOp.NotIn)=false:=by cases op <;> first | rfl | exact absurd rfl h2
 cases b <;> simp [behindInMarks,e1,e2]
def aEV (ta:TE):TE:=fun σ H Q=>ta σ H fun x H1=>Q (.bl (!decide (x=.non))) H1
theorem bB.none_iff {x:V} {v:Value} (r:bB x v):(v==Value.none)=decide (x=.non):=by
 cases x with
 | non=>cases r; rfl
 | bl _=>cases r; rfl
 | int _=>obtain ⟨t,rfl⟩:=r; rfl
 | str _=>obtain ⟨t,rfl⟩:=r; rfl
 | byt _=>obtain ⟨t,rfl⟩:=r; rfl
 | flt _=>obtain ⟨t,rfl⟩:=r; rfl
 | ref _=>cases r; rfl
 | ty _=>cases r; rfl
theorem aCK {j pos'} (ha:PE X a ta):PC X .IsNot a (.Constant .none j pos') (aEV ta):=by
 intro pins s σ H Q I h
 refine thn (ha pins s σ H _ I h) fun v s1 hx9=>?_
 obtain ⟨x,H1,I1,r1,q1⟩:=hx9
 exact Constant_none (isnot_none_gen ⟨.bl _,H1,I1,by rw [r1.none_iff]; rfl,q1⟩)
def tB (t:TE):TT:=fun σ H Q=>t σ H fun x H1=>∃ c,x=.bl c/\Q c H1
theorem oF {op:CmpOp} {t:TE} (h:PC X op a b t) (h1:behindInMarks op b=false:=by first | exact aBd _ (by decide) (by decide) | rfl):PT X (.Compare a [op] [b] pos) (tB t):=by
 intro pins s σ H Q I hw
 refine wpAny_isTrue_Compare1 (thn (h pins s σ H _ I hw) fun v s1 h1=>thn h1 fun u s2 h2=>thn h2 fun c s3 hx9=>?_) h1
 obtain ⟨x,H1,I1,r1,q1⟩:=hx9
 obtain ⟨d,rfl,q⟩:=q1
 cases r1
 exact wpAny_truthy_bool ⟨H1,I1,q⟩
theorem bP {e:Expr} {t:TE} (h:PE X e t) (he:∀ whole,isTrue e X.env whole=(do let v<-whole; standAt e.pos; holding [v] (truthy v)):=by intro _; rfl):PT X e (tB t):=by
 intro pins s σ H Q I hw
 refine isTrue_plain (thn (h pins s σ H _ I hw) fun v s1 hx9=>?_) (he _)
 obtain ⟨x,H1,I1,r1,q1⟩:=hx9
 obtain ⟨d,rfl,q⟩:=q1
 cases r1
 exact wpAny_truthy_bool ⟨H1,I1,q⟩
variable {tA tB':TT} {mJ:List Expr}
def aCL (t u:TT):TT:=fun σ H Q=>t σ H fun c H1=>if c=true then u σ H1 Q else Q false H1
def tOr (t u:TT):TT:=fun σ H Q=>t σ H fun c H1=>if c=true then Q true H1 else u σ H1 Q
def aBe (t:TT):TT:=fun σ H Q=>t σ H fun c H1=>Q (!c) H1
theorem jQ (ha:PT X a tA):PW X (.BoolOp .And [a] pos) tA:=by
 intro wh pins s σ H Q I h
 refine isTrue_and (thn (ha pins s σ H Q I h) fun c s1 e=>?_)
 cases c with
 | true=>exact isTrue_and_nil e
 | false=>exact e
theorem cW (ha:PT X a tA):PW X (.BoolOp .Or [a] pos) tA:=by
 intro wh pins s σ H Q I h
 refine isTrue_or (thn (ha pins s σ H Q I h) fun c s1 e=>?_)
 cases c with
 | false=>exact isTrue_or_nil e
 | true=>exact e
theorem kE (ha:PT X a tA) (hb:PW X (.BoolOp .And (b::mJ) pos) tB'):PW X (.BoolOp .And (a::b::mJ) pos) (aCL tA tB'):=by
 intro wh pins s σ H Q I h
 refine isTrue_and (thn (ha pins s σ H _ I h) fun c s1 hx9=>?_)
 obtain ⟨H1,I1,q1⟩:=hx9
 cases c with
 | true=>exact hb wh pins s1 σ H1 Q I1 q1
 | false=>exact ⟨H1,I1,q1⟩
theorem dF (ha:PT X a tA) (hb:PW X (.BoolOp .Or (b::mJ) pos) tB'):PW X (.BoolOp .Or (a::b::mJ) pos) (tOr tA tB'):=by
 intro wh pins s σ H Q I h
 refine isTrue_or (thn (ha pins s σ H _ I h) fun c s1 hx9=>?_)
 obtain ⟨H1,I1,q1⟩:=hx9
 cases c with
 | true=>exact ⟨H1,I1,q1⟩
 | false=>exact hb wh pins s1 σ H1 Q I1 q1
theorem bY (ha:PT X a tA):PT X (.UnaryOp .Not a pos) (aBe tA):=by
 intro pins s σ H Q I h
 exact isTrue_not (ha pins s σ H (fun c H1=>Q (!c) H1) I h)
def aEW (ta tb:TE):TE:=fun σ H Q=>ta σ H fun x H1=>∃ c,x=.bl c/\if c=true then tb σ H1 Q else Q (.bl false) H1
def aEX (ta:TE):TE:=fun σ H Q=>ta σ H fun x H1=>∃ c,x=.bl c/\Q (.bl (!c)) H1
theorem kF {op} {t:TE} (h:PE X a t):PE X (.BoolOp op [a] pos) t:=fun pins s σ H Q I hw=>BoolOp_one (h pins s σ H Q I hw)
theorem iF (ha:PE X a ta) (hb:PE X (.BoolOp .And (b::mJ) pos) tb):PE X (.BoolOp .And (a::b::mJ) pos) (aEW ta tb):=by
 intro pins s σ H Q I h
 refine BoolOp_and (thn (ha pins s σ H _ I h) fun v s1 hx9=>?_)
 obtain ⟨x,H1,I1,r1,q1⟩:=hx9
 obtain ⟨c,rfl,q1⟩:=q1
 cases r1
 refine wpAny_truthy_bool ?_
 cases c with
 | true=>exact hb pins s1 σ H1 Q I1 q1
 | false=>exact ⟨.bl false,H1,I1,rfl,q1⟩
theorem xZ (ha:PE X a ta):PE X (.UnaryOp .Not a pos) (aEX ta):=by
 intro pins s σ H Q I h
 refine UnaryOp_ (thn (ha pins s σ H _ I h) fun v s1 hx9=>?_)
 obtain ⟨x,H1,I1,r1,q1⟩:=hx9
 obtain ⟨c,rfl,q1⟩:=q1
 cases r1
 exact not_of (wpAny_truthy_bool ⟨.bl (!c),H1,I1,rfl,q1⟩)
end
def SqL (K:PySem.W.Frag) (H:Hp) (a:Addr) (xs:List V):Prop :=
 Rd H a (.lst xs) ∨
  ∃ (o:Obj) (its:Array Value) (n:Nat),K.lookup a=some o/\o.cls=.type "list" /\ o.dict=none/\o.data=.seq its n/\its.size<=sizeLine/\aY xs its.toList
def SqT (K:PySem.W.Frag) (H:Hp) (a:Addr) (xs:List V):Prop :=
 Rd H a (.tup xs) ∨
  ∃ (o:Obj) (its:Array Value) (n:Nat),K.lookup a=some o/\o.cls=.type "tuple" /\ o.dict=none/\o.data=.seq its n/\its.size<=sizeLine/\aY xs its.toList
def aFp:Value->Option V
 | .none=>some .non
 | .bool b=>some (.bl b)
 | .int i _=>some (.int i)
 | .str x _=>some (.str x)
 | .bytes b _=>some (.byt b)
 | .float b _=>some (.flt b)
 | .ref a=>some (.ref a)
 | .type n=>some (.ty n)
 | _=>none
theorem bB.abs {x:V} {u:Value} (r:bB x u):aFp u=some x:=by
 cases x with
 | non=>cases r; rfl
 | bl _=>cases r; rfl
 | int _=>obtain ⟨t,rfl⟩:=r; rfl
 | str _=>obtain ⟨t,rfl⟩:=r; rfl
 | byt _=>obtain ⟨t,rfl⟩:=r; rfl
 | flt _=>obtain ⟨t,rfl⟩:=r; rfl
 | ref _=>cases r; rfl
 | ty _=>cases r; rfl
theorem bB.inj {x y:V} {u:Value} (r:bB x u) (q:bB y u):x=y:=Option.some.inj (r.abs.symm.trans q.abs)
theorem aY.inj:∀ {xs ys:List V} {us:List Value},aY xs us->aY ys us->xs=ys
 := by
 intro xs ys us h
 induction h generalizing ys with
 | nil=>intro q; cases q; rfl
 | cons r t ih=>intro q; cases q with | cons r' t'=>rw [r.inj r',ih t']
section
variable {X:Cx} {pins:List (Addr×Obj)} {σ:St} {H:Hp} {s:Shared} {a:Addr} {xs ys:List V}
theorem SqL.of {K:PySem.W.Frag} (h:H a=some (.lst xs)):SqL K H a xs:=.inl (.inl h)
theorem SqT.of {K:PySem.W.Frag} (h:H a=some (.tup xs)):SqT K H a xs:=.inl (.inl h)
theorem Inv.list (I:Inv X pins σ H s) (h:SqL X.K H a xs):∃ its:List Value,aY xs its/\PlainL s.heap a its.toArray/\xs.length<=sizeLine:=by
 rcases h with h | ⟨o,its,n,hk,hc,hd,hs,hz,r⟩
 ·obtain ⟨z,its,n,r,e⟩:=h.ok I.hok
  exact ⟨its,r,⟨_,n,e,rfl,rfl,rfl⟩,z⟩
 ·refine ⟨its.toList,r,⟨o,n,I.kIn a o hk,hc,hd,by simpa using hs⟩,?_⟩
  have e:=r.length
  simp only [Array.length_toList] at e
  omega
theorem Inv.tuple (I:Inv X pins σ H s) (h:SqT X.K H a xs):∃ its:List Value,aY xs its/\IsTup s.heap a its.toArray/\xs.length<=sizeLine:=by
 rcases h with h | ⟨o,its,n,hk,hc,_,hs,hz,r⟩
 ·obtain ⟨z,its,n,r,p⟩:=h.ok I.hok
  exact ⟨its,r,⟨_,p,rfl,n,rfl⟩,z⟩
 ·refine ⟨its.toList,r,⟨o,I.kIn a o hk,hc,n,by simpa using hs⟩,?_⟩
  have e:=r.length
  simp only [Array.length_toList] at e
  omega
theorem Inv.list_inj (I:Inv X pins σ H s) (h:SqL X.K H a xs) (h':SqL X.K H a ys):xs=ys:=by
 obtain ⟨its,r,⟨o,n,e,_,_,d⟩,_⟩:=I.list h
 obtain ⟨its',r',⟨o',n',e',_,_,d'⟩,_⟩:=I.list h'
 rw [e] at e'; cases e'
 rw [d] at d'
 injection d' with d1 _
 have:its=its':=by simpa using congrArg Array.toList d1
 subst this
 exact r.inj r'
theorem Inv.tuple_inj (I:Inv X pins σ H s) (h:SqT X.K H a xs) (h':SqT X.K H a ys):xs=ys:=by
 obtain ⟨its,r,⟨o,e,_,n,d⟩,_⟩:=I.tuple h
 obtain ⟨its',r',⟨o',e',_,n',d'⟩,_⟩:=I.tuple h'
 rw [e] at e'; cases e'
 rw [d] at d'
 injection d' with d1 _
 have:its=its':=by simpa using congrArg Array.toList d1
 subst this
 exact r.inj r'
end
abbrev Cx.wish (X:Cx) (E:Value->Shared->Prop):Cx:={ X with xe:=E }
abbrev Cx.nox (X:Cx):Cx:=X.wish fun _ _=>False
theorem Cx.Ok.wish {X:Cx} (ok:X.Ok) (E:Value->Shared->Prop):(X.wish E).Ok :=
 ⟨ok.mod,ok.kind,ok.glob,ok.blt,ok.above,ok.inj,ok.has,ok.cab,ok.hd,ok.frames,ok.stk,ok.exf,ok.bs,ok.bsz,ok.noex,ok.exfs,ok.funs,ok.frf⟩
theorem Cx.Ok.unwish {X:Cx} {E:Value->Shared->Prop} (ok:(X.wish E).Ok):X.Ok :=
 ⟨ok.mod,ok.kind,ok.glob,ok.blt,ok.above,ok.inj,ok.has,ok.cab,ok.hd,ok.frames,ok.stk,ok.exf,ok.bs,ok.bsz,ok.noex,ok.exfs,ok.funs,ok.frf⟩
section
variable {X:Cx} {pins:List (Addr×Obj)} {σ:St} {H:Hp} {s:Shared} {E:Value->Shared->Prop}
theorem Inv.wish (I:Inv X pins σ H s) (E:Value->Shared->Prop):Inv (X.wish E) pins σ H s:=⟨I.ok.wish E,I.os,I.bare,I.base,I.loc,I.cell,I.free,I.freeC,I.pin,I.hok,I.len⟩
theorem Inv.unwish (I:Inv (X.wish E) pins σ H s):Inv X pins σ H s:=⟨I.ok.unwish,I.os,I.bare,I.base,I.loc,I.cell,I.free,I.freeC,I.pin,I.hok,I.len⟩
theorem SP.unwish {D:Ends} {f:Flow} {s':Shared} (h:SP (X.wish E) pins D f s'):SP X pins D f s':=by
 cases f with
 | next=>obtain ⟨σ',H',I,q⟩:=h; exact ⟨σ',H',I.unwish,q⟩
 | brk=>obtain ⟨σ',H',I,q⟩:=h; exact ⟨σ',H',I.unwish,q⟩
 | cont=>obtain ⟨σ',H',I,q⟩:=h; exact ⟨σ',H',I.unwish,q⟩
 | ret u=>obtain ⟨v,σ',H',I,r,q⟩:=h; exact ⟨v,σ',H',I.unwish,r,q⟩
theorem PE.nox {e:Expr} {t:TE} (h:PE X.nox e t):PE X e t:=fun pins s σ H Q I hw =>
 wpAny_mono (h pins s σ H Q (I.wish _) hw) (fun _ _ ⟨v,H',I',r,q⟩=>⟨v,H',I'.unwish,r,q⟩) fun _ _ z=>False.elim z
theorem PT.nox {e:Expr} {t:TT} (h:PT X.nox e t):PT X e t:=fun pins s σ H Q I hw =>
 wpAny_mono (h pins s σ H Q (I.wish _) hw) (fun _ _ ⟨H',I',q⟩=>⟨H',I'.unwish,q⟩) fun _ _ z=>False.elim z
theorem PSs.nox {st:List Stmt} {t:TS} (h:PSs X.nox st t):PSs X st t:=fun pins s σ H D I hw =>
 wpAny_mono (h pins s σ H D (I.wish _) hw) (fun _ _ q=>q.unwish) fun _ _ z=>False.elim z
end
section
variable {X:Cx} {st:Stmt} {mJ:List Stmt} {t u:TS} {e:Expr} {te:TE} {pos:Pos}
def cQ:TS:=fun D σ H=>D.nx σ H
def jR (t u:TS):TS:=fun D σ H=>t { D with nx:=u D } σ H
theorem aN:PSs X [] cQ:=fun _ _ σ H _ I h=>wpAny_execs_nil ⟨σ,H,I,h⟩
theorem aC (h1:PS X st t) (h2:PSs X mJ u):PSs X (st::mJ) (jR t u):=by
 intro pins s σ H D I h
 refine wpAny_execs_cons (thn (h1 pins s σ H { D with nx:=u D } I h) fun f s1 q=>?_)
 cases f with
 | next =>
  obtain ⟨σ',H',I',q⟩:=q
  exact h2 pins s1 σ' H' D I' q
 | ret v=>exact q
 | brk=>exact q
 | cont=>exact q
theorem aF (h1:PS X st t):PSs X [st] t:=by
 intro pins s σ H D I h
 refine wpAny_execs_cons (thn (h1 pins s σ H D I h) fun f s1 q=>?_)
 cases f with
 | next=>exact wpAny_execs_nil q
 | ret v=>exact q
 | brk=>exact q
 | cont=>exact q
def aBf:TS:=fun D σ H=>D.bk σ H
theorem aBg:PS X (.Break pos) aBf:=fun _ _ σ H _ I h=>wpAny_Break ⟨σ,H,I,h⟩
theorem Inv.quiet {pins:List (Addr×Obj)} {σ:St} {H:Hp} {s:Shared} (I:Inv X pins σ H s):interactive X.env=false:=by simp [interactive,I.ok.kind]
def zL (te:TE):TS:=fun D σ H=>te σ H fun _ H1=>D.nx σ H1
theorem cX (he:PE X e te) (hs:swapsWith e none pos.line X.env=pure false:=by rfl):PS X (.Expr e pos) (zL te):=by
 intro pins s σ H D I h
 refine wpAny_Expr_any (thn (he pins s σ H _ I h) fun v s1 hx9=>?_) I.quiet hs
 obtain ⟨x,H1,I1,r1,q1⟩:=hx9
 exact ⟨σ,H1,I1,q1⟩
def aBh (te:TE):TS:=fun D σ H=>te σ H D.rt
theorem aK (he:PE X e te):PS X (.Return (some e) pos) (aBh te):=by
 intro pins s σ H D I h
 refine wpAny_Return_some (thn (he pins s σ H _ I h) fun v s1 hx9=>?_)
 obtain ⟨x,H1,I1,r1,q1⟩:=hx9
 exact ⟨x,σ,H1,I1,r1,q1⟩
def uK (c:TT) (t u:TS):TS:=fun D σ H=>c σ H fun b H1=>if b=true then t D σ H1 else u D σ H1
theorem bA {c:Expr} {a b:List Stmt} {tc:TT} (hc:PT X c tc) (ha:PSs X a t) (hb:PSs X b u):PS X (.If c a b pos) (uK tc t u):=by
 intro pins s σ H D I h
 refine wpAny_If (thn (hc pins s σ H _ I h) fun d s1 hx9=>?_)
 obtain ⟨H1,I1,q1⟩:=hx9
 cases d with
 | true=>exact ha pins s1 σ H1 D I1 q1
 | false=>exact hb pins s1 σ H1 D I1 q1
def aEa:TS:=fun _ _ _=>False
theorem eV {sts:List Stmt}:PSs X sts aEa:=fun _ _ _ _ _ _ h=>h.elim
end
abbrev TG:=V->St->Hp->(St->Hp->Prop)->Prop
abbrev TGs:=List V->St->Hp->(St->Hp->Prop)->Prop
def PG (X:Cx) (target:Expr) (t:TG):Prop :=
 ∀ (pins:List (Addr×Obj)) (s:Shared) (σ:St) (H:Hp) (v:V) (u:Value) (Q:St->Hp->Prop),Inv X pins σ H s->bB v u->t v σ H Q ->
  wpAny (model X.prog X.w) X.A (assign target X.env u) (fun _ s'=>∃ σ' H',Inv X pins σ' H' s'/\Q σ' H') X.xe s
def PGs (X:Cx) (ts:List Expr) (t:TGs):Prop :=
 ∀ (pins:List (Addr×Obj)) (s:Shared) (σ:St) (H:Hp) (vs:List V) (us:List Value) (Q:St->Hp->Prop),Inv X pins σ H s->aY vs us->t vs σ H Q ->
  wpAny (model X.prog X.w) X.A (assignInOrder ((assignEach ts X.env).map (·.2)) us) (fun _ s'=>∃ σ' H',Inv X pins σ' H' s'/\Q σ' H') X.xe s
abbrev aEb:=V->V->V->Hp->(Hp->Prop)->Prop
def aEY (X:Cx) (t:aEb):Prop :=
 ∀ (pins:List (Addr×Obj)) (s:Shared) (σ:St) (H:Hp) (o i v:V) (ov iv u:Value) (Q:Hp->Prop),Inv X pins σ H s->bB o ov->bB i iv->bB v u->t o i v H Q ->
  wpAny (model X.prog X.w) X.A (setItem ov iv u) (fun _ s'=>∃ H',Inv X pins σ H' s'/\Q H') X.xe s
section
variable {X:Cx} {pos:Pos}
def aV (i:Nat):TG:=fun v σ H Q=>Q (σ.set i (some v)) H
theorem aT {i:Nat} {x:Str} (hN:X.N.Nodup) (hi:X.N[i]?=some x) (hx:Loc X.env.scope x) (hf:X.fn x=true∨X.env.scope.names.lookup x=some .local:=by first | exact .inl rfl | exact .inr rfl | assumption):PG X (.Name x pos) (aV i):=by
 intro pins s σ H v u Q I r h
 exact wpAny_assign_Name (wJ I hN hi hx r (fun s' I'=>⟨_,H,I',h⟩) hf)
def aFq:TGs:=fun vs σ H Q=>vs = []/\Q σ H
def aEZ (t:TG) (u:TGs):TGs:=fun vs σ H Q=>∃ v r,vs=v::r/\t v σ H fun σ' H'=>u r σ' H' Q
theorem jS:PGs X [] aFq:=by
 intro pins s σ H vs us Q I r h
 obtain ⟨e,h⟩:=h
 subst e
 cases r
 exact assignInOrder_nil ⟨σ,H,I,h⟩
theorem cF {e:Expr} {es:List Expr} {t:TG} {u:TGs} (h1:PG X e t) (h2:PGs X es u)
  (hs:(assignEach (e::es) X.env).map (·.2)=assign e X.env::(assignEach es X.env).map (·.2):=by rfl):PGs X (e::es) (aEZ t u):=by
 intro pins s σ H vs us Q I r h
 obtain ⟨v,vr,e1,h⟩:=h
 subst e1
 cases r with
 | cons r rr =>
  rw [hs]
  refine assignInOrder_cons (thn (h1 pins s σ H _ _ _ I r h) fun _ s1 hx9=>?_)
  obtain ⟨σ1,H1,I1,q1⟩:=hx9
  exact h2 pins s1 σ1 H1 _ _ Q I1 rr q1
def aE0 (K:PySem.W.Frag) (n:Nat) (t:TGs):TG:=fun v σ H Q=>∃ a xs,v=.ref a/\SqT K H a xs/\xs.length=n/\t xs σ H Q
theorem mK {es:List Expr} {k:Nat} {t:TGs} {n:Nat} (hc:X.calm=true) (h:PGs X es t)
  (hn:(assignEach es X.env).length=n:=by rfl) (hst:(assignEach es X.env).findIdx? (·.1)=none:=by rfl):PG X (.Tuple es k pos) (aE0 X.K n t):=by
 intro pins s σ H v u Q I r hw
 obtain ⟨a,xs,e1,hq,hl,hw⟩:=hw
 subst e1
 cases r
 obtain ⟨its,rv,ht,hz⟩:=I.tuple hq
 refine assign_Tuple_tuple (I.ok.hd hc) ht (by simp [hn,<- hl,rv.length]) hst fun h' hx=>?_
 have I1:Inv X pins σ H { s with heap:=h' }:=I.kept (t':=s.toks) fun b o e=>hx b o (Qz (Qj e)) e
 exact h pins _ σ H xs _ Q I1 (by simpa using rv) hw
def aFr (to ti:TE) (t:aEb):TG:=fun v σ H Q=>to σ H fun o H1=>ti σ H1 fun i H2=>t o i v H2 fun H3=>Q σ H3
theorem uL {o i:Expr} {to ti:TE} {t:aEb} (ho:PE X o to) (hi:PE X i ti) (hs:aEY X t)
  (ha:∀ v,assign (.Subscript o i pos) X.env v=(do
   let ov<-holding [v] (eval o X.env)
   let iv<-holding [v,ov] (eval i X.env)
   standAt pos
   holding [v,ov,iv] (setItem ov iv v)
   release [v,ov,iv] []):=by intro _; rfl):PG X (.Subscript o i pos) (aFr to ti t):=by
 intro pins s σ H v u Q I r h
 rw [ha]
 refine wpAny_bind (wpAny_holding (thn (ho pins s σ H _ I h) fun ov s1 hx9=>?_))
 obtain ⟨x,H1,I1,r1,q1⟩:=hx9
 refine wpAny_bind (wpAny_holding (thn (hi pins s1 σ H1 _ I1 q1) fun iv s2 hx9=>?_))
 obtain ⟨y,H2,I2,r2,q2⟩:=hx9
 refine wpAny_bind (wpAny_standAt (wpAny_bind (wpAny_holding (thn (hs pins s2 σ H2 x y v ov iv u _ I2 r1 r2 r q2) fun _ s3 hx9=>?_))))
 obtain ⟨H3,I3,q3⟩:=hx9
 exact wpAny_release ⟨σ,H3,I3,q3⟩
def nD (te:TE) (g:TG):TS:=fun D σ H=>te σ H fun x H1=>g x σ H1 D.nx
theorem oG {tg e:Expr} {te:TE} {g:TG} (he:PE X e te) (hg:PG X tg g) (hs:swapsWithSole [tg] e pos.line X.env=pure false:=by rfl) (hw:swappedStores [tg] e X.env=pure none:=by rfl)
  (h1:(assignEach [tg] X.env).map (·.2) = [assign tg X.env]:=by rfl):PS X (.Assign [tg] e pos) (nD te g):=by
 intro pins s σ H D I h
 refine wpAny_Assign_stores (thn (he pins s σ H _ I h) fun v s1 hx9=>?_) hs hw
 obtain ⟨x,H1,I1,r1,q1⟩:=hx9
 rw [h1]
 exact thn (hg pins s1 σ H1 x v _ I1 r1 q1) fun _ s2 q=>q
theorem aM {i:Nat} {x:Str} {e:Expr} {te:TE} {pos':Pos} (hN:X.N.Nodup) (hi:X.N[i]?=some x) (hx:Loc X.env.scope x) (he:PE X e te) (hs:swapsWith e (some (.Name x pos')) pos.line X.env=pure false:=by rfl) (hf:X.fn x=true∨X.env.scope.names.lookup x=some .local:=by first | exact .inl rfl | exact .inr rfl | assumption) :
  PS X (.Assign [.Name x pos'] e pos) (nD te (aV i)):=by
 intro pins s σ H D I h
 refine wpAny_Assign_Name (thn (he pins s σ H _ I h) fun v s1 hx9=>?_) hs
 obtain ⟨y,H1,I1,r1,q1⟩:=hx9
 exact wJ I1 hN hi hx r1 (fun s2 I2=>⟨_,H1,I2,q1⟩) hf
def aEc (c:TT) (tb:TS):TS:=fun D σ H=>∃ W:Nat->St->Hp->Prop,(∃ m,W m σ H)/\∀ m σ H,W m σ H ->
 c σ H fun b H1=>if b=true then ∃ N:St->Hp->Prop,(∀ σ' H',N σ' H'->∃ m',m' < m/\W m' σ' H')/\tb { D with nx:=N,ct:=N,bk:=D.nx } σ H1 else D.nx σ H1
theorem qN {c:Expr} {body:List Stmt} {tc:TT} {tb:TS} (hp:PassesOwn (model X.prog X.w) X.A X.env X.xe) (hc:PT X c tc) (hb:PSs X body tb):PS X (.While c body [] pos) (aEc tc tb):=by
 intro pins s σ H D I h
 obtain ⟨W,⟨m0,w0⟩,turn⟩:=h
 refine wpAny_While (codeAny_whileLoop (fun n s'=>∃ σ' H',Inv X pins σ' H' s'/\W n σ' H') ?_ m0 ⟨σ,H,I,w0⟩)
 rintro n s1 ⟨σ1,H1,I1,w1⟩
 refine wpAny_passesOwn hp (thn (hc pins s1 σ1 H1 _ I1 (turn n σ1 H1 w1)) fun b s2 hx9=>?_)
 obtain ⟨H2,I2,q2⟩:=hx9
 cases b with
 | true =>
  obtain ⟨N,hN,q2⟩:=q2
  rw [if_pos rfl]
  refine wpAny_passesOwn hp (thn (hb pins s2 σ1 H2 _ I2 q2) fun f s3 q3=>?_)
  cases f with
  | next =>
   obtain ⟨σ3,H3,I3,n3⟩:=q3
   obtain ⟨m',hm,w3⟩:=hN σ3 H3 n3
   exact ⟨m',hm,σ3,H3,I3,w3⟩
  | cont =>
   obtain ⟨σ3,H3,I3,n3⟩:=q3
   obtain ⟨m',hm,w3⟩:=hN σ3 H3 n3
   exact ⟨m',hm,σ3,H3,I3,w3⟩
  | brk=>exact q3
  | ret v=>exact q3
 | false =>
  rw [if_neg Qu]
  exact wpAny_execs_nil ⟨σ1,H2,I2,q2⟩
end
structure It where
 go:Nat->Hp->Prop
 yld:Nat->Hp->V->Hp->Prop
 stop:Nat->Hp->Prop
def mL (X:Cx) (pins:List (Addr×Obj)) (H:Hp) (b:Addr):Prop :=
 H b=none/\b≠X.env.locals/\b∉X.fs/\(b∈X.ex∨X.s₀.heap.objs.size<=b)/\(∀ x c,X.env.cells.lookup x=some c->c≠b)/\∀ p∈X.pn++pins,p.1≠b
theorem Inv.fpOk {X:Cx} {pins:List (Addr×Obj)} {σ:St} {H H':Hp} {s:Shared} {b:Addr} (I:Inv X pins σ H s) (hb:s.heap.objs.size<=b) (hn:H' b=none):mL X pins H' b:=by
 refine ⟨hn,Xy (Qn I.lt hb),I.nofs hb,.inr (Ja I.sz hb),fun x c e z=>?_,fun p hp z=>?_⟩
 ·obtain ⟨v,q⟩:=I.cell x c e
  exact absurd (Qn q.lt (by rw [z]; exact hb)) (Je _)
 ·exact absurd (Qn (Qj (I.pin p hp).1) (by rw [z]; exact hb)) (Je _)
structure Turn (P:Program) (w:World) (K:PySem.W.Frag) (tg:Expr) (J:It) (fp:List Addr) (it:Addr) (tn:Nat->Heap->Prop):Prop where
 mem:it∈fp
 obj:∀ i h,tn i h->∀ b∈fp,∃ o,h.get? b=some o/\∀ v,o.data≠.cell v
 keep:∀ i h h',tn i h->(∀ b∈fp,∀ o,h.get? b=some o->h'.get? b=some o)->tn i h'
 item:∀ (X:Cx),X.prog=P->X.w=w->X.K=K->X.calm=true->∀ (i:Nat) (pins:List (Addr×Obj)) (s:Shared) (σ:St) (H:Hp) (E:Value->Shared->Prop),Inv X pins σ H s->(∀ b∈fp,mL X pins H b)->tn i s.heap->J.go i H ->
  wpAny (model P w) X.A (pyNext (.ref it)) (fun r s1=>∃ u,r=some u /\
   wpAny (model P w) X.A (letOwnedTupleGo tg (.ref it) u) (fun _ s2=>∃ x H',Inv X pins σ H' s2/\bB x u/\J.yld i H x H'/\tn (i+1) s2.heap/\∀ b∈fp,H' b=none) E s1) E s
 done:∀ (X:Cx),X.prog=P->X.w=w->X.K=K->X.calm=true->∀ (i:Nat) (pins:List (Addr×Obj)) (s:Shared) (σ:St) (H:Hp) (E:Value->Shared->Prop),Inv X pins σ H s->(∀ b∈fp,mL X pins H b)->tn i s.heap->J.stop i H ->
  wpAny (model P w) X.A (pyNext (.ref it)) (fun r s1=>r=none/\Inv X pins σ H s1) E s
 self:∀ (A:Around) (i:Nat) (s:Shared) (Q:Value->Shared->Prop) (E:Value->Shared->Prop),tn i s.heap->Q (.ref it) s->wpAny (model P w) A (pyIter (.ref it)) Q E s
abbrev TI:=St->Hp->(It->Hp->Prop)->Prop
def PIE (X:Cx) (pins:List (Addr×Obj)) (σ:St) (tg:Expr) (R:It->Hp->Prop) (itv:Value) (s2:Shared):Prop :=
 ∃ (it:Addr) (fp:List Addr) (tn:Nat->Heap->Prop) (J:It) (H':Hp),itv=.ref it/\Inv X pins σ H' s2/\Turn X.prog X.w X.K tg J fp it tn/\tn 0 s2.heap/\(∀ b∈fp,mL X pins H' b)/\R J H'
def PI (X:Cx) (tg iter:Expr) (wi:TI):Prop :=
 ∀ (pins:List (Addr×Obj)) (s:Shared) (σ:St) (H:Hp) (R:It->Hp->Prop),Inv X pins σ H s->wi σ H R ->
  wpAny (model X.prog X.w) X.A (eval iter X.env) (fun v s1=>wpAny (model X.prog X.w) X.A (pyIter v) (PIE X pins σ tg R) X.xe s1) X.xe s
theorem wK {M:Model} {A:Around} {E:Value->Shared->Prop} {s:Shared} {tg:Expr} {it:Addr} {u:Value} {o:Obj} {n:String} {vs:Array Value} {Q:Unit->Shared->Prop} (ho:s.heap.get? it=some o) (hc:o.cls=.type n) (hd:o.data=.fields vs)
  (hn : ["enumerate", "zip", "dict_itemiterator", "dict_reverseitemiterator", "odict_iterator", "itertools.zip_longest", "itertools.pairwise"].contains n=false) (hQ:Q () s):wpAny M A (letOwnedTupleGo tg (.ref it) u) Q E s:=by
 unfold letOwnedTupleGo
 cases tg <;> first
  | exact wpAny_pure hQ
  | (cases u <;> first
    | exact wpAny_pure hQ
    | (refine wpAny_bind (wpAny_load ho ?_)
       rw [hc,hd]
       show wpAny M A (if (["enumerate", "zip", "dict_itemiterator", "dict_reverseitemiterator", "odict_iterator", "itertools.zip_longest", "itertools.pairwise"].contains n && vs[0]?==some (rawInt _))=true then _ else _) Q E s
       rw [if_neg (by intro h; rw [hn,Bool.false_and] at h; cases h)]
       exact wpAny_pure hQ))
def Itl (K:PySem.W.Frag) (a:Addr):It :=
 ⟨fun i H=>∃ xs x,SqL K H a xs/\xs[i]?=some x,fun i H x H'=>H'=H/\∀ xs,SqL K H a xs->xs[i]?=some x,fun i H=>∃ xs,SqL K H a xs/\xs.length<=i⟩
def Itt (K:PySem.W.Frag) (a:Addr):It :=
 ⟨fun i H=>∃ xs x,SqT K H a xs/\xs[i]?=some x,fun i H x H'=>H'=H/\∀ xs,SqT K H a xs->xs[i]?=some x,fun i H=>∃ xs,SqT K H a xs/\xs.length<=i⟩
def Itr (lo:Int) (n:Nat):It:=⟨fun i _=>i < n,fun i H x H'=>H'=H/\x=.int (lo+i),fun i _=>n<=i⟩
theorem aAv {P:Program} {w:World} {K:PySem.W.Frag} {tg:Expr} (a it:Addr):Turn P w K tg (Itl K a) [it] it (fun i h=>h.IsListIter it a i) where
 mem:=by simp
 obj:=fun i h st b hb=>by
  have e:b=it:=by simpa using hb
  subst e
  obtain ⟨o,e,c,d⟩:=st
  exact ⟨o,e,fun v z=>by rw [d] at z; cases z⟩
 keep:=fun i h h' st k=>st.at fun o e=>k it (by simp) o e
 item:=by
  intro X hP hw hK hc i pins s σ H E I hf st hg
  subst hP hw hK
  obtain ⟨xs,x,hq,hx⟩:=hg
  obtain ⟨its,rv,p,hz⟩:=I.list hq
  obtain ⟨u,hu,ru⟩:=rv.get hx
  obtain ⟨f0,f1,f2,f3,f4,f5⟩:=hf it (by simp)
  refine wpAny_pyNext_list_item st p.isList (x:=u) (by simpa using hu) fun h' st' sb=>?_
  have I1:Inv X pins σ H { s with heap:=h' }:=I.turned (t':=s.toks) (fun b o hb e=>(sb.2 b hb).trans e) f0 f1 f3 f4 f5
  obtain ⟨o,e,c,d⟩:=id st'
  exact ⟨u,rfl,wK (s:={ s with heap:=h' }) e c d (by decide) ⟨x,H,I1,ru,⟨rfl,fun ys hy=>by rw [I.list_inj hy hq]; exact hx⟩,st',fun b hb=>(hf b hb).1⟩⟩
 done:=by
  intro X hP hw hK hc i pins s σ H E I hf st hg
  subst hP hw hK
  obtain ⟨xs,hq,hx⟩:=hg
  obtain ⟨its,rv,p,hz⟩:=I.list hq
  obtain ⟨f0,f1,f2,f3,f4,f5⟩:=hf it (by simp)
  have hl:=rv.length
  exact wpAny_pyNext_list_end (I.ok.hd hc) st p.isList (by simp; omega) fun h' eb=>⟨rfl,I.turned (t':=s.toks) (fun b o hb e=>eb b o hb e) f0 f1 f3 f4 f5⟩
 self:=fun _ _ _ _ _ st h=>wpAny_pyIter_listiter st h
theorem yA {P:Program} {w:World} {K:PySem.W.Frag} {tg:Expr} (a it:Addr):Turn P w K tg (Itt K a) [it] it (fun i h=>h.IsTupleIter it a i) where
 mem:=by simp
 obj:=fun i h st b hb=>by
  have e:b=it:=by simpa using hb
  subst e
  obtain ⟨o,e,c,d⟩:=st
  exact ⟨o,e,fun v z=>by rw [d] at z; cases z⟩
 keep:=fun i h h' st k=>st.at fun o e=>k it (by simp) o e
 item:=by
  intro X hP hw hK hc i pins s σ H E I hf st hg
  subst hP hw hK
  obtain ⟨xs,x,hq,hx⟩:=hg
  obtain ⟨its,rv,p,hz⟩:=I.tuple hq
  obtain ⟨u,hu,ru⟩:=rv.get hx
  obtain ⟨f0,f1,f2,f3,f4,f5⟩:=hf it (by simp)
  refine wpAny_pyNext_tuple_item st (show s.heap.IsTuple a its.toArray from p) (x:=u) (by simpa using hu) fun h' st' sb=>?_
  have I1:Inv X pins σ H { s with heap:=h' }:=I.turned (t':=s.toks) (fun b o hb e=>(sb.2 b hb).trans e) f0 f1 f3 f4 f5
  obtain ⟨o,e,c,d⟩:=id st'
  exact ⟨u,rfl,wK (s:={ s with heap:=h' }) e c d (by decide) ⟨x,H,I1,ru,⟨rfl,fun ys hy=>by rw [I.tuple_inj hy hq]; exact hx⟩,st',fun b hb=>(hf b hb).1⟩⟩
 done:=by
  intro X hP hw hK hc i pins s σ H E I hf st hg
  subst hP hw hK
  obtain ⟨xs,hq,hx⟩:=hg
  obtain ⟨its,rv,p,hz⟩:=I.tuple hq
  obtain ⟨f0,f1,f2,f3,f4,f5⟩:=hf it (by simp)
  have hl:=rv.length
  exact wpAny_pyNext_tuple_end (I.ok.hd hc) st (show s.heap.IsTuple a its.toArray from p) (by simp; omega) fun h' eb=>⟨rfl,I.turned (t':=s.toks) (fun b o hb e=>eb b o hb e) f0 f1 f3 f4 f5⟩
 self:=fun _ _ _ _ _ st h=>wpAny_pyIter_tupleiter st h
theorem yB {P:Program} {w:World} {K:PySem.W.Frag} {tg:Expr} (it:Addr) (lo:Int) (n:Nat):Turn P w K tg (Itr lo n) [it] it (fun i h=>IsRangeIter h it (lo+(i:Nat)*1) ((n:Int) - (i:Nat)) 1) where
 mem:=by simp
 obj:=fun i h st b hb=>by
  have e:b=it:=by simpa using hb
  subst e
  exact ⟨_,st,fun v z=>by
   have z':Data.fields _=Data.cell v:=z
   cases z'⟩
 keep:=fun i h h' st k=>k it (by simp) _ st
 item:=by
  intro X hP hw hK hc i pins s σ H E I hf st hg
  subst hP hw hK
  obtain ⟨f0,f1,f2,f3,f4,f5⟩:=hf it (by simp)
  have W:=Walks.range (prog:=X.prog) (w:=X.w) (I.ok.hd hc) it lo 1 n
  refine W.item i s _ _ hg st fun v h' tk hv st' kk=>?_
  obtain ⟨t,rfl⟩:=hv
  have I1:Inv X pins σ H { s with heap:=h',toks:=tk }:=I.turned (fun b o hb e=>kk b o (by simpa using hb) e) f0 f1 f3 f4 f5
  refine ⟨_,rfl,wK (s:={ s with heap:=h',toks:=tk }) (n := "range_iterator") st' rfl rfl (by decide) ⟨.int (lo+i),H,I1,⟨t,?_⟩,⟨rfl,rfl⟩,st',fun b hb=>(hf b hb).1⟩⟩
  rw [Int.mul_one]
 done:=by
  intro X hP hw hK hc i pins s σ H E I hf st hg
  subst hP hw hK
  obtain ⟨f0,f1,f2,f3,f4,f5⟩:=hf it (by simp)
  exact wpAny_pyNext_range_end (I.ok.hd hc) st (by have:n<=i:=hg; omega) fun h' eb=>⟨rfl,I.turned (t':=s.toks) (fun b o hb e=>eb b o hb e) f0 f1 f3 f4 f5⟩
 self:=fun _ _ _ _ _ st h=>wpAny_pyIter_rangeiter st h
section
variable {X:Cx} {tg:Expr}
def aDN (K:PySem.W.Frag) (tl:TE):TI:=fun σ H R=>tl σ H fun x H1=>∃ a,x=.ref a/\(∃ xs,SqL K H1 a xs)/\R (Itl K a) H1
def aE1 (K:PySem.W.Frag) (tl:TE):TI:=fun σ H R=>tl σ H fun x H1=>∃ a,x=.ref a/\(∃ xs,SqT K H1 a xs)/\R (Itt K a) H1
theorem iS {l:Expr} {tl:TE} (hl:PE X l tl):PI X tg l (aDN X.K tl):=by
 intro pins s σ H R I h
 refine thn (hl pins s σ H _ I h) fun v s1 hx9=>?_
 obtain ⟨x,H1,I1,r1,q1⟩:=hx9
 obtain ⟨a,e,⟨xs,hq⟩,q⟩:=q1
 subst e
 cases r1
 obtain ⟨its,rv,p,hz⟩:=I1.list hq
 refine wpAny_pyIter_list p.isList ?_
 refine ⟨s1.heap.objs.size,[s1.heap.objs.size],_,_,H1,rfl,I1.kept (t':=s1.toks) fun b o e=>Qb _ e,aAv a _,⟨_,Qk _ rfl,rfl,rfl⟩,fun b hb=>?_,q⟩
 have e:b=s1.heap.objs.size:=by simpa using hb
 subst e
 exact I1.fpOk (Qg _) (I1.hok.fresh (Qg _))
theorem mM {l:Expr} {tl:TE} (hl:PE X l tl):PI X tg l (aE1 X.K tl):=by
 intro pins s σ H R I h
 refine thn (hl pins s σ H _ I h) fun v s1 hx9=>?_
 obtain ⟨x,H1,I1,r1,q1⟩:=hx9
 obtain ⟨a,e,⟨xs,hq⟩,q⟩:=q1
 subst e
 cases r1
 obtain ⟨its,rv,p,hz⟩:=I1.tuple hq
 refine wpAny_pyIter_tuple (show s1.heap.IsTuple a its.toArray from p) ?_
 refine ⟨s1.heap.objs.size,[s1.heap.objs.size],_,_,H1,rfl,I1.kept (t':=s1.toks) fun b o e=>Qb _ e,yA a _,⟨_,Qk _ rfl,rfl,rfl⟩,fun b hb=>?_,q⟩
 have e:b=s1.heap.objs.size:=by simpa using hb
 subst e
 exact I1.fpOk (Qg _) (I1.hok.fresh (Qg _))
theorem aBi {pins:List (Addr×Obj)} {σ:St} {H:Hp} {s:Shared} {R:It->Hp->Prop} {E:Value->Shared->Prop} {lo hi:Int} {t u v:Tok} {tk:Nat} (I:Inv X pins σ H s) (h1:-(2^62)<=lo) (h2:lo < 2^62) (h3:-(2^62)<=hi) (h4:hi < 2^62)
  (q:R (Itr lo (hi - lo).toNat) H):wpAny (model X.prog X.w) X.A (pyIter (.ref s.heap.objs.size)) (PIE X pins σ tg R) E { s with heap:=s.heap.push { cls:=.type "range",data:=.fields #[.int lo t,.int hi u,.int 1 v] },toks:=tk }:=by
 refine wpAny_pyIter_range (IsRange.new ..) (small_one h1 h2 h3 h4) ?_
 have I1:Inv X pins σ H { s with heap:=s.heap.push { cls:=.type "range",data:=.fields #[.int lo t,.int hi u,.int 1 v] },toks:=tk }:=I.kept fun b o e=>Qb _ e
 refine ⟨(s.heap.push { cls:=.type "range",data:=.fields #[.int lo t,.int hi u,.int 1 v] }).objs.size,[(s.heap.push { cls:=.type "range",data:=.fields #[.int lo t,.int hi u,.int 1 v] }).objs.size],_,_,H,rfl,
  I1.kept (t':=tk) fun b o e=>Qb _ e,yB _ lo (hi - lo).toNat,?_,fun b hb=>?_,q⟩
 ·have e1:lo+((0:Nat):Int)*1=lo:=by simp
  have e2:(((hi - lo).toNat:Nat):Int) - ((0:Nat):Int)=Builtin.Range.rangeSize lo hi 1:=by rw [rangeSize_one]; split <;> omega
  show IsRangeIter _ _ (lo+((0:Nat):Int)*1) ((((hi - lo).toNat:Nat):Int) - ((0:Nat):Int)) 1
  rw [e1,e2]
  exact Qk _ rfl
 ·have e:b=(s.heap.push { cls:=.type "range",data:=.fields #[.int lo t,.int hi u,.int 1 v] }).objs.size:=by simpa using hb
  subst e
  exact I1.fpOk (Qg _) (I1.hok.fresh (Qg _))
def aDO (ta:TA):TI:=fun σ H R=>ta σ H fun vs H1=>∃ j:Int,vs = [.int j]/\-(2^62)<=j/\j < 2^62/\R (Itr 0 j.toNat) H1
theorem eW {a:Expr} {ta:TA} {p pos:Pos} (hg:Gl X "range") (hm:X.mg "range" = none) (ha:PA X [a] ta) (hs:starEach [a] X.env = [(false,eval a X.env)]:=by rfl):PI X tg (.Call (.Name "range" p) [a] [] pos) (aDO ta):=by
 intro pins s σ H R I h
 refine Call_ (kD I hg hm boot_range (PyProof.Rows.callWith_type1 (thn (ha pos pins s σ H _ I h) fun us s1 hx9=>?_) hs rfl))
 obtain ⟨vs,H1,I1,r1,q1⟩:=hx9
 obtain ⟨j,e,q1,q2,q⟩:=q1
 subst e
 cases r1 with
 | cons r rr =>
  cases rr
  obtain ⟨t,rfl⟩:=r
  exact call_range_1 (aBi I1 (by omega) (by omega) q1 q2 (by simpa using q))
def aE2 (wi:TI) (g:TG) (tb:TS):TS:=fun D σ H=>wi σ H fun J H1=>∃ W:Nat->Nat->St->Hp->Prop,(∃ m,W 0 m σ H1)/\∀ i m σ H,W i m σ H ->
 (J.stop i H/\D.nx σ H)∨(J.go i H/\∃ N:St->Hp->Prop,(∀ σ' H',N σ' H'->∃ m',m' < m/\W (i+1) m' σ' H')/\∀ x H',J.yld i H x H'->g x σ H' fun σ2 H2=>tb { D with nx:=N,ct:=N,bk:=D.nx } σ2 H2)
def oH (fp:List Addr) (h:Heap):List (Addr×Obj):=fp.filterMap fun b=>(h.get? b).map fun o=>(b,o)
theorem gC {fp:List Addr} {h:Heap} {b:Addr} {o:Obj} (hb:b∈fp) (e:h.get? b=some o):(b,o)∈oH fp h:=Wp.mpr ⟨b,hb,by rw [e]; rfl⟩
theorem aAw {fp:List Addr} {h:Heap} {p:Addr×Obj} (hp:p∈oH fp h):p.1∈fp/\h.get? p.1=some p.2:=by
 obtain ⟨b,hb,e⟩:=Wp.mp hp
 cases q:h.get? b with
 | none=>rw [q] at e; cases e
 | some o =>
  rw [q] at e
  have e':(b,o)=p:=Option.some.inj e
  subst e'
  exact ⟨hb,q⟩
theorem Inv.pinned {pins:List (Addr×Obj)} {σ:St} {H:Hp} {s:Shared} {fp:List Addr} (I:Inv X pins σ H s) (hf:∀ b∈fp,mL X pins H b) (ho:∀ b∈fp,∃ o,s.heap.get? b=some o/\∀ v,o.data≠.cell v):Inv X (pins++oH fp s.heap) σ H s :=
 I.pins_of fun p hp=>(Jo.mp hp).elim (fun z=>I.pin p (Jh _ z)) fun z=>by
  obtain ⟨hb,e⟩:=aAw z
  obtain ⟨f0,f1,f2,_⟩:=hf p.1 hb
  obtain ⟨o,e',d⟩:=ho p.1 hb
  rw [e] at e'; cases e'
  exact ⟨e,f0,f1,f2,d⟩
theorem Inv.unpinned {pins pl:List (Addr×Obj)} {σ:St} {H:Hp} {s:Shared} (I:Inv X (pins++pl) σ H s):Inv X pins σ H s:=I.pins_of fun p hp=>I.pin p (Jh _ (Xe _ hp))
theorem gD {iter:Expr} {body:List Stmt} {wi:TI} {g:TG} {tb:TS} {pos:Pos} (hp:PassesOwn (model X.prog X.w) X.A X.env X.xe) (hc:X.calm=true) (hi:PI X tg iter wi) (hg:PG X tg g) (hb:PSs X body tb)
  (hs:∀ x,foldedSetIterable iter X.env x=pure x:=by intro _; rfl):PS X (.For tg iter body [] pos) (aE2 wi g tb):=by
 intro pins s σ H D I h
 refine wpAny_For (thn (hi pins s σ H _ I h) fun v s1 h1=>thn h1 fun itv s2 h2=>?_) hs
 obtain ⟨it,fp,tn,J,H2,e,I2,T,st2,f2,W,⟨m0,w0⟩,turn⟩:=h2
 subst e
 -- what stays true of the iterator's objects through the loop
 have stat:∀ {H':Hp},(∀ b∈fp,H' b=none)->∀ b∈fp,mL X pins H' b:=fun hn b hb=>⟨hn b hb,(f2 b hb).2⟩
 refine codeAny_forLoop_any (fun n s'=>∃ i σ' H',Inv X pins σ' H' s'/\tn i s'.heap/\(∀ b∈fp,H' b=none)/\W i n σ' H') ?_ m0 ⟨0,σ,H2,I2,st2,fun b hb=>(f2 b hb).1,w0⟩
 rintro n s3 ⟨i,σ3,H3,I3,st3,fr3,w3⟩
 rcases turn i n σ3 H3 w3 with ⟨stop,qn⟩ | ⟨go,N,hN,step⟩
 ·refine wpAny_passesOwn hp (thn (T.done X rfl rfl rfl hc i pins s3 σ3 H3 X.xe I3 (stat fr3) st3 stop) fun r s4 hx9=>?_)
  obtain ⟨hr,I4⟩:=hx9
  subst hr
  exact wpAny_execs_nil ⟨σ3,H3,I4,qn⟩
 ·refine wpAny_passesOwn hp (thn (T.item X rfl rfl rfl hc i pins s3 σ3 H3 X.xe I3 (stat fr3) st3 go) fun r s4 hx9=>?_)
  obtain ⟨u,hr,h4⟩:=hx9
  subst hr
  refine wpAny_passesOwn hp (thn h4 fun _ s5 hx9=>?_)
  obtain ⟨x,H5,I5,r5,y5,st5,fr5⟩:=hx9
  have I5':=I5.pinned (stat fr5) (T.obj _ _ st5)
  refine wpAny_passesOwn hp (thn (hg _ s5 σ3 H5 x u _ I5' r5 (step x H5 y5)) fun _ s6 hx9=>?_)
  obtain ⟨σ6,H6,I6,q6⟩:=hx9
  refine wpAny_passesOwn hp (thn (hb _ s6 σ6 H6 _ I6 q6) fun f s7 q7=>?_)
  have again:∀ {σ7:St} {H7:Hp},Inv X (pins++oH fp s5.heap) σ7 H7 s7->N σ7 H7->∃ m,m < n/\∃ i σ' H',Inv X pins σ' H' s7/\tn i s7.heap/\(∀ b∈fp,H' b=none)/\W i m σ' H':=fun {σ7 H7} I7 n7=>by
   obtain ⟨m',hm,w7⟩:=hN σ7 H7 n7
   refine ⟨m',hm,i+1,σ7,H7,I7.unpinned,T.keep _ _ _ st5 fun b hb o e=>(I7.pin (b,o) (Jh _ (Jh _ (gC hb e)))).1,fun b hb=>?_,w7⟩
   obtain ⟨o,e,d⟩:=T.obj _ _ st5 b hb
   exact (I7.pin (b,o) (Jh _ (Jh _ (gC hb e)))).2.1
  cases f with
  | next=>obtain ⟨σ7,H7,I7,n7⟩:=q7; exact again I7 n7
  | cont=>obtain ⟨σ7,H7,I7,n7⟩:=q7; exact again I7 n7
  | brk=>obtain ⟨σ7,H7,I7,q7⟩:=q7; exact ⟨σ7,H7,I7.unpinned,q7⟩
  | ret v=>obtain ⟨x7,σ7,H7,I7,r7,q7⟩:=q7; exact ⟨x7,σ7,H7,I7.unpinned,r7,q7⟩
end
theorem qO {K:PySem.W.Frag} {a:Addr} {xs:List V} {g:TG} {tb:TS} {D:Ends} {σ:St} {H:Hp} (Pv:Nat->St->Hp->Prop) (h0:Pv 0 σ H) (hl:∀ i σ H,i<=xs.length->Pv i σ H->SqL K H a xs)
  (hs:∀ i x σ H,xs[i]?=some x->Pv i σ H->g x σ H fun σ2 H2=>tb { D with nx:=Pv (i+1),ct:=Pv (i+1),bk:=D.nx } σ2 H2) (hd:∀ σ H,Pv xs.length σ H->D.nx σ H) :
  ∃ W:Nat->Nat->St->Hp->Prop,(∃ m,W 0 m σ H)/\∀ i m σ H,W i m σ H ->
   ((Itl K a).stop i H/\D.nx σ H)∨((Itl K a).go i H/\∃ N:St->Hp->Prop,(∀ σ' H',N σ' H'->∃ m',m' < m/\W (i+1) m' σ' H')/\∀ x H',(Itl K a).yld i H x H'->g x σ H' fun σ2 H2=>tb { D with nx:=N,ct:=N,bk:=D.nx } σ2 H2):=by
 refine ⟨fun i m σ H=>m=xs.length - i/\i<=xs.length/\Pv i σ H,⟨xs.length,by simp,Jk _,h0⟩,?_⟩
 rintro i m σ H ⟨rfl,hi,p⟩
 have q:=hl i σ H hi p
 by_cases hlt:i < xs.length
 ·refine .inr ⟨⟨xs,xs[i],q,by simp [hlt]⟩,Pv (i+1),fun σ' H' p'=>⟨xs.length - (i+1),by omega,rfl,hlt,p'⟩,fun x H' y=>?_⟩
  obtain ⟨e,y⟩:=y
  subst e
  exact hs i x σ _ (y xs q) p
 ·have e:i=xs.length:=by omega
  subst e
  exact .inl ⟨⟨xs,q,Qg _⟩,hd σ H p⟩
theorem zM {K:PySem.W.Frag} {a:Addr} {xs:List V} {g:TG} {tb:TS} {D:Ends} {σ:St} {H:Hp} (Pv:Nat->St->Hp->Prop) (h0:Pv 0 σ H) (hl:∀ i σ H,i<=xs.length->Pv i σ H->SqT K H a xs)
  (hs:∀ i x σ H,xs[i]?=some x->Pv i σ H->g x σ H fun σ2 H2=>tb { D with nx:=Pv (i+1),ct:=Pv (i+1),bk:=D.nx } σ2 H2) (hd:∀ σ H,Pv xs.length σ H->D.nx σ H) :
  ∃ W:Nat->Nat->St->Hp->Prop,(∃ m,W 0 m σ H)/\∀ i m σ H,W i m σ H ->
   ((Itt K a).stop i H/\D.nx σ H)∨((Itt K a).go i H/\∃ N:St->Hp->Prop,(∀ σ' H',N σ' H'->∃ m',m' < m/\W (i+1) m' σ' H')/\∀ x H',(Itt K a).yld i H x H'->g x σ H' fun σ2 H2=>tb { D with nx:=N,ct:=N,bk:=D.nx } σ2 H2):=by
 refine ⟨fun i m σ H=>m=xs.length - i/\i<=xs.length/\Pv i σ H,⟨xs.length,by simp,Jk _,h0⟩,?_⟩
 rintro i m σ H ⟨rfl,hi,p⟩
 have q:=hl i σ H hi p
 by_cases hlt:i < xs.length
 ·refine .inr ⟨⟨xs,xs[i],q,by simp [hlt]⟩,Pv (i+1),fun σ' H' p'=>⟨xs.length - (i+1),by omega,rfl,hlt,p'⟩,fun x H' y=>?_⟩
  obtain ⟨e,y⟩:=y
  subst e
  exact hs i x σ _ (y xs q) p
 ·have e:i=xs.length:=by omega
  subst e
  exact .inl ⟨⟨xs,q,Qg _⟩,hd σ H p⟩
theorem lA {lo:Int} {n:Nat} {g:TG} {tb:TS} {D:Ends} {σ:St} {H:Hp} (Pv:Nat->St->Hp->Prop) (h0:Pv 0 σ H)
  (hs:∀ i σ H,i < n->Pv i σ H->g (.int (lo+i)) σ H fun σ2 H2=>tb { D with nx:=Pv (i+1),ct:=Pv (i+1),bk:=D.nx } σ2 H2) (hd:∀ σ H,Pv n σ H->D.nx σ H) :
  ∃ W:Nat->Nat->St->Hp->Prop,(∃ m,W 0 m σ H)/\∀ i m σ H,W i m σ H ->
   ((Itr lo n).stop i H/\D.nx σ H)∨((Itr lo n).go i H/\∃ N:St->Hp->Prop,(∀ σ' H',N σ' H'->∃ m',m' < m/\W (i+1) m' σ' H')/\∀ x H',(Itr lo n).yld i H x H'->g x σ H' fun σ2 H2=>tb { D with nx:=N,ct:=N,bk:=D.nx } σ2 H2):=by
 refine ⟨fun i m σ H=>m=n - i/\i<=n/\Pv i σ H,⟨n,by simp,Jk _,h0⟩,?_⟩
 rintro i m σ H ⟨rfl,hi,p⟩
 by_cases hlt:i < n
 ·refine .inr ⟨hlt,Pv (i+1),fun σ' H' p'=>⟨n - (i+1),by omega,rfl,hlt,p'⟩,fun x H' y=>?_⟩
  obtain ⟨e,y⟩:=y
  subst e y
  exact hs i σ _ hlt p
 ·have e:i=n:=by omega
  subst e
  exact .inl ⟨Qg _,hd σ H p⟩
abbrev R2:=V->V->Hp->VK->Prop
def OpR (X:Cx) (f:Value->Value->Sem Value) (r:R2):Prop :=
 ∀ (pins:List (Addr×Obj)) (s:Shared) (σ:St) (H:Hp) (x y:V) (v u:Value) (Q:VK),Inv X pins σ H s->bB x v->bB y u->r x y H Q ->
  wpAny (model X.prog X.w) X.A (f v u) (EP X pins σ Q) X.xe s
def UnR (X:Cx) (f:Value->Sem Value) (r:V->Hp->VK->Prop):Prop :=
 ∀ (pins:List (Addr×Obj)) (s:Shared) (σ:St) (H:Hp) (x:V) (v:Value) (Q:VK),Inv X pins σ H s->bB x v->r x H Q ->
  wpAny (model X.prog X.w) X.A (f v) (EP X pins σ Q) X.xe s
def dJ (X:Cx) (f:Value) (r:List V->Hp->VK->Prop):Prop :=
 ∀ (pins:List (Addr×Obj)) (s:Shared) (σ:St) (H:Hp) (xs:List V) (us:List Value) (Q:VK),Inv X pins σ H s->aY xs us->r xs H Q ->
  wpAny (model X.prog X.w) X.A (call f us) (EP X pins σ Q) X.xe s
def aFs (X:Cx) (r:V->Hp->(Bool->Hp->Prop)->Prop):Prop :=
 ∀ (pins:List (Addr×Obj)) (s:Shared) (σ:St) (H:Hp) (x:V) (v:Value) (Q:Bool->Hp->Prop),Inv X pins σ H s->bB x v->r x H Q ->
  wpAny (model X.prog X.w) X.A (truthy v) (TP X pins σ Q) X.xe s
def tOp (r:R2) (ta tb:TE):TE:=fun σ H Q=>ta σ H fun x H1=>tb σ H1 fun y H2=>r x y H2 Q
def tUn (r:V->Hp->VK->Prop) (ta:TE):TE:=fun σ H Q=>ta σ H fun x H1=>r x H1 Q
def rI (C:Int->Int->Prop) (g:Int->Int->V):R2:=fun x y H Q=>∃ i j,x=.int i/\y=.int j/\C i j/\Q (g i j) H
def rI0 (g:Int->Int->V):R2:=fun x y H Q=>∃ i j,x=.int i/\y=.int j/\Q (g i j) H
def rU (g:Int->V):V->Hp->VK->Prop:=fun x H Q=>∃ i,x=.int i/\Q (g i) H
section
variable {X:Cx} {a b c:Expr} {ta tb tc:TE} {pos:Pos}
theorem aEd (ha:PE X a ta) (hb:PE X b tb) {pins:List (Addr×Obj)} {s:Shared} {σ:St} {H:Hp} {R:V->V->Hp->Prop} (I:Inv X pins σ H s)
  (h:ta σ H fun x H1=>tb σ H1 fun y H2=>R x y H2) {Q:Value->Shared->Prop} {f:Value->Value->Sem Value}
  (hf:∀ v u s2 x y H2,Inv X pins σ H2 s2->bB x v->bB y u->R x y H2->wpAny (model X.prog X.w) X.A (f v u) Q X.xe s2) :
  wpAny (model X.prog X.w) X.A (eval a X.env) (fun v s₁=>wpAny (model X.prog X.w) X.A (eval b X.env) (fun u s₂=>wpAny (model X.prog X.w) X.A (f v u) Q X.xe s₂) X.xe s₁) X.xe s:=by
 refine thn (ha pins s σ H _ I h) fun v s1 hx9=>?_
 obtain ⟨x,H1,I1,r1,q1⟩:=hx9
 refine thn (hb pins s1 σ H1 _ I1 q1) fun u s2 hx9=>?_
 obtain ⟨y,H2,I2,r2,q2⟩:=hx9
 exact hf v u s2 x y H2 I2 r1 r2 q2
theorem bC {op:Operator} {r:R2} (ho:OpR X (binaryOp op) r) (ha:PE X a ta) (hb:PE X b tb):PE X (.BinOp a op b pos) (tOp r ta tb):=by
 intro pins s σ H Q I h
 exact wpAny_BinOp (aEd ha hb I h fun v u s2 x y H2 I2 rx ry q=>ho pins s2 σ H2 x y v u Q I2 rx ry q)
theorem aBj {op:UnaryOp} {r:V->Hp->VK->Prop} (ho:UnR X (unaryOp op) r) (ha:PE X a ta):PE X (.UnaryOp op a pos) (tUn r ta):=by
 intro pins s σ H Q I h
 refine UnaryOp_ (thn (ha pins s σ H _ I h) fun v s1 hx9=>?_)
 obtain ⟨x,H1,I1,r1,q1⟩:=hx9
 exact ho pins s1 σ H1 x v Q I1 r1 q1
theorem opI {f:Value->Value->Sem Value} {C:Int->Int->Prop} {g:Int->Int->Int}
  (rule:∀ (i j:Int) (t u:Tok) (s:Shared) (Q:Value->Shared->Prop) (E:Value->Shared->Prop),C i j->Q (.int (g i j) s.toks) { s with toks:=s.toks+1 }->wpAny (model X.prog X.w) X.A (f (.int i t) (.int j u)) Q E s) :
  OpR X f (rI C fun i j=>.int (g i j)):=by
 intro pins s σ H x y v u Q I rx ry h
 obtain ⟨i,j,rfl,rfl,hc,q⟩:=h
 obtain ⟨t,rfl⟩:=rx
 obtain ⟨t',rfl⟩:=ry
 exact rule i j t t' s _ _ hc ⟨.int (g i j),H,I.tok _,⟨_,rfl⟩,q⟩
theorem aE3 {f:Value->Value->Sem Value} {g:Int->Int->Int}
  (rule:∀ (i j:Int) (t u:Tok) (s:Shared) (Q:Value->Shared->Prop) (E:Value->Shared->Prop),Q (.int (g i j) s.toks) { s with toks:=s.toks+1 }->wpAny (model X.prog X.w) X.A (f (.int i t) (.int j u)) Q E s) :
  OpR X f (rI0 fun i j=>.int (g i j)):=by
 intro pins s σ H x y v u Q I rx ry h
 obtain ⟨i,j,rfl,rfl,q⟩:=h
 obtain ⟨t,rfl⟩:=rx
 obtain ⟨t',rfl⟩:=ry
 exact rule i j t t' s _ _ ⟨.int (g i j),H,I.tok _,⟨_,rfl⟩,q⟩
theorem aCM {f:Value->Value->Sem Value} {g:Int->Int->Bool}
  (rule:∀ (i j:Int) (t u:Tok) (s:Shared) (Q:Value->Shared->Prop) (E:Value->Shared->Prop),Q (.bool (g i j)) s->wpAny (model X.prog X.w) X.A (f (.int i t) (.int j u)) Q E s) :
  OpR X f (rI0 fun i j=>.bl (g i j)):=by
 intro pins s σ H x y v u Q I rx ry h
 obtain ⟨i,j,rfl,rfl,q⟩:=h
 obtain ⟨t,rfl⟩:=rx
 obtain ⟨t',rfl⟩:=ry
 exact rule i j t t' s _ _ ⟨.bl (g i j),H,I,rfl,q⟩
def aFt (i j:Int):Prop:=0<=j/\j<=1000000/\i.natAbs < 2^64
def aEe (i j:Int):Prop:=(-(2^64) < i/\i < 2^64)∨(-(2^64) < j/\j < 2^64)
theorem aEe.ok {i j:Int} (h:aEe i j):IntMulOk i j:=by
 rcases h with ⟨h1,h2⟩ | ⟨h1,h2⟩
 ·exact .of_left (intBits_le_64 h1 h2)
 ·exact .of_right (intBits_le_64 h1 h2)
theorem cY:OpR X (binaryOp .Add) (rI0 fun i j=>.int (i+j)):=aE3 fun _ _ _ _ _ _ _ q=>add_int q
theorem gE:OpR X (binaryOp .Sub) (rI0 fun i j=>.int (i - j)):=aE3 fun _ _ _ _ _ _ _ q=>sub_int q
theorem fJ:OpR X (binaryOp .Mult) (rI aEe fun i j=>.int (i*j)):=opI fun _ _ _ _ _ _ _ hc q=>mul_int q hc.ok
theorem mO:OpR X (binaryOp .Mod) (rI (fun _ j=>0 < j) fun i j=>.int (i % j)):=opI fun i j _ _ _ _ _ hc q=>by
 have h1:(0:Int) < j:=hc
 exact mod_int' (by omega) (by rw [Int.fmod_eq_emod_of_nonneg i (by omega)]; exact q)
theorem aEf:OpR X (binaryOp .Pow) (rI aFt fun i j=>.int (i^j.toNat)):=opI fun _ _ _ _ _ _ _ hc q=>pow_int_small hc.1 hc.2.1 hc.2.2 q
theorem unI {f:Value->Sem Value} {g:Int->Int}
  (rule:∀ (i:Int) (t:Tok) (s:Shared) (Q:Value->Shared->Prop) (E:Value->Shared->Prop),Q (.int (g i) s.toks) { s with toks:=s.toks+1 }->wpAny (model X.prog X.w) X.A (f (.int i t)) Q E s) :
  UnR X f (rU fun i=>.int (g i)):=by
 intro pins s σ H x v Q I rx h
 obtain ⟨i,rfl,q⟩:=h
 obtain ⟨t,rfl⟩:=rx
 exact rule i t s _ _ ⟨.int (g i),H,I.tok _,⟨_,rfl⟩,q⟩
theorem yC:UnR X (unaryOp .USub) (rU fun i=>.int (-i)):=unI fun _ _ _ _ _ q=>neg_int q
def aEg:V->V->Bool
 | .non,.non=>true | .non,.int _=>true | .int _,.non=>true | .non,.bl _=>true | .bl _,.non=>true | .non,.str _=>true | .str _,.non=>true
 | .int _,.int _=>true | .bl _,.bl _=>true | .str _,.str _=>true | .byt _,.byt _=>true
 | .int _,.str _=>true | .str _,.int _=>true | .bl _,.str _=>true | .str _,.bl _=>true
 | _,_=>false
def rEq:R2:=fun x y H Q=>aEg x y=true/\Q (.bl (decide (x=y))) H
def rNe:R2:=fun x y H Q=>aEg x y=true/\Q (.bl (!decide (x=y))) H
theorem zN {i j:Int}:decide (V.int i=V.int j)=(i==j):=by
 rw [Xi]
 simp
theorem aBk {i j:Bool}:decide (V.bl i=V.bl j)=(i==j):=by
 rw [Xi]
 simp
theorem zO {i j:Str}:decide (V.str i=V.str j)=(i==j):=by
 rw [Xi]
 simp
theorem zP {i j:Array UInt8}:decide (V.byt i=V.byt j)=(i.toList==j.toList):=by
 rw [Xi]
 cases i
 cases j
 simp
theorem bT {pins:List (Addr×Obj)} {σ:St} {H:Hp} {s:Shared} {Q:VK} {k k':Bool} (I:Inv X pins σ H s) (q:Q (.bl k) H) (e:k=k'):EP X pins σ Q (.bool k') s:=by
 subst e
 exact ⟨.bl k,H,I,rfl,q⟩
theorem dX:OpR X (compareOp .Eq) rEq:=by
 intro pins s σ H x y v u Q I rx ry h
 obtain ⟨hs,q⟩:=h
 cases x with
 | non =>
  cases rx
  cases y with
  | non=>cases ry; exact PySem.EqNone.eq_none_none (bT I q (by simp))
  | bl j=>cases ry; exact PySem.EqNone.eq_none_bool (bT I q (by simp))
  | int j=>obtain ⟨t',rfl⟩:=ry; exact PySem.EqNone.eq_none_int (bT I q (by simp))
  | str j=>obtain ⟨t',rfl⟩:=ry; exact PySem.EqNone.eq_none_str (bT I q (by simp))
  | _=>exact absurd (show false=true from hs) Qu
 | bl i =>
  cases rx
  cases y with
  | non=>cases ry; exact PySem.EqNone.eq_bool_none (bT I q (by simp))
  | bl j=>cases ry; exact eq_bool (bT I q aBk)
  | str j=>obtain ⟨t',rfl⟩:=ry; exact PySem.EqMixed.eq_bool_str (bT I q (by simp))
  | _=>exact absurd (show false=true from hs) Qu
 | int i =>
  obtain ⟨t,rfl⟩:=rx
  cases y with
  | non=>cases ry; exact PySem.EqNone.eq_int_none (bT I q (by simp))
  | int j=>obtain ⟨t',rfl⟩:=ry; exact eq_int (bT I q zN)
  | str j=>obtain ⟨t',rfl⟩:=ry; exact PySem.EqMixed.eq_int_str (bT I q (by simp))
  | _=>exact absurd (show false=true from hs) Qu
 | str i =>
  obtain ⟨t,rfl⟩:=rx
  cases y with
  | non=>cases ry; exact PySem.EqNone.eq_str_none (bT I q (by simp))
  | bl j=>cases ry; exact PySem.EqMixed.eq_str_bool (bT I q (by simp))
  | int j=>obtain ⟨t',rfl⟩:=ry; exact PySem.EqMixed.eq_str_int (bT I q (by simp))
  | str j=>obtain ⟨t',rfl⟩:=ry; exact eq_str (bT I q zO)
  | _=>exact absurd (show false=true from hs) Qu
 | byt i =>
  obtain ⟨t,rfl⟩:=rx
  cases y with
  | byt j=>obtain ⟨t',rfl⟩:=ry; exact PySem.W.eq_bytes (bT I q zP)
  | _=>exact absurd (show false=true from hs) Qu
 | _=>cases y <;> exact absurd (show false=true from hs) Qu
theorem kA:OpR X (compareOp .NotEq) rNe:=by
 intro pins s σ H x y v u Q I rx ry h
 obtain ⟨hs,q⟩:=h
 cases x with
 | non =>
  cases rx
  cases y with
  | non=>cases ry; exact PySem.EqNone.ne_none_none (bT I q (by simp))
  | bl j=>cases ry; exact PySem.EqNone.ne_none_bool (bT I q (by simp))
  | int j=>obtain ⟨t',rfl⟩:=ry; exact PySem.EqNone.ne_none_int (bT I q (by simp))
  | str j=>obtain ⟨t',rfl⟩:=ry; exact PySem.EqNone.ne_none_str (bT I q (by simp))
  | _=>exact absurd (show false=true from hs) Qu
 | bl i =>
  cases rx
  cases y with
  | non=>cases ry; exact PySem.EqNone.ne_bool_none (bT I q (by simp))
  | bl j=>cases ry; exact ne_bool (bT I q (congrArg not aBk))
  | str j=>obtain ⟨t',rfl⟩:=ry; exact PySem.EqMixed.ne_bool_str (bT I q (by simp))
  | _=>exact absurd (show false=true from hs) Qu
 | int i =>
  obtain ⟨t,rfl⟩:=rx
  cases y with
  | non=>cases ry; exact PySem.EqNone.ne_int_none (bT I q (by simp))
  | int j=>obtain ⟨t',rfl⟩:=ry; exact ne_int (bT I q (congrArg not zN))
  | str j=>obtain ⟨t',rfl⟩:=ry; exact PySem.EqMixed.ne_int_str (bT I q (by simp))
  | _=>exact absurd (show false=true from hs) Qu
 | str i =>
  obtain ⟨t,rfl⟩:=rx
  cases y with
  | non=>cases ry; exact PySem.EqNone.ne_str_none (bT I q (by simp))
  | bl j=>cases ry; exact PySem.EqMixed.ne_str_bool (bT I q (by simp))
  | int j=>obtain ⟨t',rfl⟩:=ry; exact PySem.EqMixed.ne_str_int (bT I q (by simp))
  | str j=>obtain ⟨t',rfl⟩:=ry; exact ne_str (bT I q (congrArg not zO))
  | _=>exact absurd (show false=true from hs) Qu
 | byt i =>
  obtain ⟨t,rfl⟩:=rx
  cases y with
  | byt j=>obtain ⟨t',rfl⟩:=ry; exact PySem.W.ne_bytes (bT I q (congrArg not zP))
  | _=>exact absurd (show false=true from hs) Qu
 | _=>cases y <;> exact absurd (show false=true from hs) Qu
theorem wL:OpR X (compareOp .Lt) (rI0 fun i j=>.bl (decide (i < j))):=aCM fun _ _ _ _ _ _ _ q=>lt_int q
theorem zQ:OpR X (compareOp .LtE) (rI0 fun i j=>.bl (decide (i<=j))):=aCM fun _ _ _ _ _ _ _ q=>le_int q
theorem lY:OpR X (compareOp .Gt) (rI0 fun i j=>.bl (decide (j < i))):=aCM fun _ _ _ _ _ _ _ q=>gt_int q
theorem qP:OpR X (compareOp .GtE) (rI0 fun i j=>.bl (decide (j<=i))):=aCM fun _ _ _ _ _ _ _ q=>ge_int q
theorem aR (b:Expr) {op:CmpOp} (h:op≠.In:=by decide) (h2:op≠.NotIn:=by decide):behindInMarks op b=false:=by
 have e1:(op==CmpOp.In)=false:=by cases op <;> first | rfl | exact absurd rfl h
 have e2:(op==CmpOp.NotIn)=false:=by cases op <;> first | rfl | exact absurd rfl h2
 cases b <;> simp [behindInMarks,e1,e2]
theorem eR {op:CmpOp} {r:R2} (ho:OpR X (compareOp op) r) (ha:PE X a ta) (hb:PE X b tb) (hm:behindInMarks op b=false):PE X (.Compare a [op] [b] pos) (tOp r ta tb):=by
 intro pins s σ H Q I h
 exact wpAny_Compare1 (aEd ha hb I h fun v u s2 x y H2 I2 rx ry q=>ho pins s2 σ H2 x y v u Q I2 rx ry q) hm
def pH (t:TE):TT:=fun σ H Q=>t σ H fun x H'=>∃ k,x=.bl k/\Q k H'
theorem aL {op:CmpOp} {r:R2} (ho:OpR X (compareOp op) r) (ha:PE X a ta) (hb:PE X b tb) (hm:behindInMarks op b=false):PT X (.Compare a [op] [b] pos) (pH (tOp r ta tb)):=by
 intro pins s σ H Q I h
 refine wpAny_isTrue_Compare1 (thn (ha pins s σ H _ I h) fun v s1 ⟨x,H1,I1,r1,q1⟩=>thn (hb pins s1 σ H1 _ I1 q1) fun u s2 ⟨y,H2,I2,r2,q2⟩ =>
  thn (ho pins s2 σ H2 x y v u _ I2 r1 r2 q2) fun c s3 ⟨z,H3,I3,r3,k,e,q3⟩=>?_) hm
 subst e
 cases r3
 exact wpAny_truthy_bool ⟨H3,I3,q3⟩
def aEh (r r':R2) (ta tb tc:TE):TE:=fun σ H Q=>ta σ H fun x H1=>tb σ H1 fun y H2=>r x y H2 fun z H3=>∃ k,z=.bl k /\
 (if k=true then tc σ H3 fun w' H4=>r' y w' H4 Q else Q (.bl false) H3)
theorem aBl {op op':CmpOp} {r r':R2} (ho:OpR X (compareOp op) r) (ho':OpR X (compareOp op') r') (ha:PE X a ta) (hb:PE X b tb) (hc:PE X c tc)
  (hm:lastMarks [op,op'] [b,c]=false:=by with_unfolding_all rfl):PE X (.Compare a [op,op'] [b,c] pos) (aEh r r' ta tb tc):=by
 intro pins s σ H Q I h
 refine Compare_chain (thn (ha pins s σ H _ I h) fun v s1 ⟨x,H1,I1,r1,q1⟩=>chain_link (thn (hb pins s1 σ H1 _ I1 q1) fun u s2 ⟨y,H2,I2,r2,q2⟩ =>
  thn (ho pins s2 σ H2 x y v u _ I2 r1 r2 q2) fun d s3 ⟨z,H3,I3,r3,k,e,q3⟩=>?_)) hm
 subst e
 cases r3
 refine wpAny_truthy_bool ?_
 cases k with
 | false=>exact ite_ff ⟨.bl false,H3,I3,rfl,q3⟩
 | true=>exact ite_tt (chain_last (thn (hc pins s3 σ H3 _ I3 q3) fun w' s4 ⟨z',H4,I4,r4,q4⟩=>ho' pins s4 σ H4 y z' u w' Q I4 r2 r4 q4))
def aE4 (K:PySem.W.Frag) (x:V) (H:Hp) (k:Bool):Prop :=
 match x with
 | .non=>k=false
 | .bl b=>k=b
 | .int i=>k=(i !=0)
 | .str y=>y.length<=sizeLine/\k=((y.length:Int) !=0)
 | .byt y=>y.size<=sizeLine/\k=((y.size:Int) !=0)
 | .ref p=>(∃ xs,SqL K H p xs/\k=!xs.isEmpty)∨(∃ xs,SqT K H p xs/\k=!xs.isEmpty)∨∃ kvs,H p=some (.dK kvs)/\k=!kvs.isEmpty
 | _=>False
theorem yD {κ:Type} {kvs:List (κ×V)} {vs:List (κ×Value)} (r:KV kvs vs):(!vs.isEmpty)=!kvs.isEmpty:=by
 cases r <;> rfl
theorem qQ {xs:List V} {its:List Value} (r:aY xs its):(!its.toArray.isEmpty)=!xs.isEmpty:=by
 cases r <;> simp
theorem qR:(sizeLine:Nat) < 2^63:=by rw [sizeLine_eq]; decide
theorem aEi:aFs X (fun x H Q=>∃ k,aE4 X.K x H k/\Q k H):=by
 intro pins s σ H x v Q I rx h
 obtain ⟨k,e,q⟩:=h
 have hl:=qR
 have hs:sizeLine=16777216:=sizeLine_eq
 cases x with
 | non =>
  cases rx
  have e':k=false:=e
  subst e'
  exact truthy_none ⟨H,I,q⟩
 | bl b =>
  cases rx
  have e':k=b:=e
  subst e'
  exact wpAny_truthy_bool ⟨H,I,q⟩
 | int i =>
  obtain ⟨t,rfl⟩:=rx
  have e':k=(i !=0):=e
  subst e'
  exact PySem.P.truthy_int ⟨H,I,q⟩
 | str y =>
  obtain ⟨t,rfl⟩:=rx
  obtain ⟨hy,e'⟩:y.length<=sizeLine/\k=((y.length:Int) !=0):=e
  subst e'
  exact PySem.P.truthy_str (by omega) ⟨H,I.tok _,q⟩
 | byt y =>
  obtain ⟨t,rfl⟩:=rx
  obtain ⟨hy,e'⟩:y.size<=sizeLine/\k=((y.size:Int) !=0):=e
  subst e'
  exact PySem.W.truthy_bytes (by omega) ⟨H,I.tok _,q⟩
 | ref p =>
  cases rx
  have e':(∃ xs,SqL X.K H p xs/\k=!xs.isEmpty)∨(∃ xs,SqT X.K H p xs/\k=!xs.isEmpty)∨∃ kvs,H p=some (.dK kvs)/\k=!kvs.isEmpty:=e
  rcases e' with ⟨xs,hx,e'⟩ | ⟨xs,hx,e'⟩ | ⟨kvs,hx,e'⟩
  ·subst e'
   obtain ⟨its,r,pl,hz⟩:=I.list hx
   have hlen:=r.length
   exact wpAny_truthy_list pl.isList (by simp only [Qq]; omega) ⟨H,I.tok _,by rw [qQ r]; exact q⟩
  ·subst e'
   obtain ⟨its,r,pl,hz⟩:=I.tuple hx
   have hlen:=r.length
   exact truthy_tuple pl (by simp only [Qq]; omega) ⟨H,I.tok _,by rw [qQ r]; exact q⟩
  ·subst e'
   obtain ⟨hz,hS,vs,r,m⟩:kvs.length<=sizeLine/\(p==sysModules)=false/\∃ vs,KV kvs vs/\s.heap.DictOf (aW X.prog X.w) p vs:=I.hok p _ hx
   have hlen:kvs.length=vs.length:=Paired.length r
   exact wpAny_truthy_dict hS m (by omega) ⟨H,I.tok _,by rw [yD r]; exact q⟩
 | _=>exact (show False from e).elim
theorem aBm (ha:PE X a ta) (he:∀ whole,isTrue a X.env whole=(do let v<-whole; standAt a.pos; holding [v] (truthy v))) :
  PT X a (fun σ H Q=>ta σ H fun x H'=>∃ k,aE4 X.K x H' k/\Q k H'):=by
 intro pins s σ H Q I h
 refine isTrue_plain (thn (ha pins s σ H _ I h) fun v s1 hx9=>?_) (he _)
 obtain ⟨x,H1,I1,r1,q1⟩:=hx9
 exact aEi pins s1 σ H1 x v Q I1 r1 q1
theorem fY {x:V} {us:List Value} (r:aY [x] us):∃ u,us = [u]/\bB x u:=by
 cases r with
 | cons r1 r2=>cases r2; exact ⟨_,rfl,r1⟩
theorem pI {x y:V} {us:List Value} (r:aY [x,y] us):∃ u w',us = [u,w']/\bB x u/\bB y w':=by
 cases r with
 | cons r1 r2 =>
  cases r2 with
  | cons r3 r4=>cases r4; exact ⟨_,_,rfl,r1,r3⟩
end
structure ObjM (h:Heap) (x dx C:Addr) (mA:Str->Option Value):Prop where
 obj:h.get? x=some (PySem.W.instObj C dx)
 ns:h.Ns1 dx mA
 ne:dx≠x
theorem aAx {h:Heap} {dx:Addr} {mA:Str->Option Value} (n:h.Ns1 dx mA):∃ od,h.get? dx=some od/\∀ name,PySem.W.lookIn name od=some (mA name):=by
 obtain ⟨o,es,ep,ho,hd,hk,_,hm⟩:=n
 refine ⟨o,ho,fun name=>?_⟩
 have e:=hm name
 unfold nsFind findBy at e
 rw [<- Array.find?_toList] at e
 unfold PySem.W.lookIn
 rw [hd]
 dsimp only
 split
 ·rename_i y q
  rw [q] at e
  exact congrArg some e
 ·rename_i q
  rw [q] at e
  have a:es.toList.any (·.refKey)=false:=by
   rw [List.any_eq_false]
   intro y hy
   obtain ⟨z,t,hkey⟩:=hk y (Array.mem_toList_iff.mp hy)
   simp [DictEntry.refKey,hkey]
  have a':¬ es.toList.any (·.refKey)=true:=by rw [a]; exact Qu
  rw [if_neg a']
  exact congrArg some e
theorem ObjM.look {h:Heap} {x dx C:Addr} {mA:Str->Option Value} (I:ObjM h x dx C mA):∃ od,PySem.W.InstAt h x (PySem.W.instObj C dx) C (some od)/\∀ name,PySem.W.lookIn name od=some (mA name) :=
 let ⟨od,ho,hl⟩:=aAx I.ns
 ⟨od,⟨I.obj,rfl,rfl,ho⟩,hl⟩
section
variable {prog:Program} {w:World} {A:Around} {E:Value->Shared->Prop} {s:Shared} {K:PySem.W.Frag} {x dx C f:Addr} {mA:Str->Option Value} {name:Str} {v:Value}
theorem aCN {expr:Bool} {Q:Value->Shared->Prop} (X:K.In s.heap) (I:ObjM s.heap x dx C mA) (hg:PySem.W.plainGet K C name=true) (hh:PySem.W.hasDictIn K C=true)
  (ha:PySem.W.findIn K (.ref C) name=some none) (hv:mA name=some v) (hv':PySem.W.handedIn v=true) (h:Q v { s with toks:=s.toks+1 }) :
  wpAny (model prog w) A (getAttr (.ref x) name expr) Q E s:=by
 obtain ⟨od,J,hl⟩:=I.look
 exact PySem.W.get_value X J (PySem.W.plainGet_of hg).1 (PySem.W.findObj_own hh ha rfl (by rw [hl,hv])) hv' h
theorem aBn {pl:Sem Bool} {Q:Value×List Value->Shared->Prop} (X:K.In s.heap) (I:ObjM s.heap x dx C mA) (hg:PySem.W.plainGet K C name=true)
  (hf:PySem.W.findIn K (.ref C) name=some (some (.ref f))) (ht:PySem.W.isFn K (.ref f)=true) (hv:mA name=none) (h:Q (.ref f,[.ref x]) s) :
  wpAny (model prog w) A (getMethod (.ref x) name pl) Q E s:=by
 obtain ⟨od,J,hl⟩:=I.look
 exact PySem.W.method_fn X J (PySem.W.plainGet_of hg).1 (PySem.W.plainGet_of hg).2 hf (beq_iff_eq.mp ht) (by show (PySem.W.lookIn name od).map (·.isSome)=some false; rw [hl,hv]; rfl) h
theorem aCO {ns:List Str} {Q:Unit->Shared->Prop} (X:K.In s.heap) (I:ObjM s.heap x dx C mA)
  (hs:PySem.W.findIn K (.ref C) "__setattr__" = some (some (.builtin "object.__setattr__"))) (hp:PySem.W.plainOver K C=true) (ht:PySem.W.takerIn K C name=some none) (hh:PySem.W.hasDictIn K C=true)
  (hw:PySem.Within mA ns) (hsz:ns.length<=sizeLine)
  (h:∀ h',ObjM h' x dx C (fun y=>if y=name then some v else mA y)->Heap.SameBut dx s.heap h'->Q () { s with heap:=h',toks:=s.toks+2 }) :
  wpAny (model prog w) A (setAttr (.ref x) name v) Q E s:=by
 obtain ⟨od,J,hl⟩:=I.look
 refine PySem.W.set_plain X J hs (PySem.W.osa_open (s:={ s with toks:=s.toks+1 }) (r:=none) X J hp ht fun b=>?_)
 obtain ⟨cd,hc,hd'⟩:=PySem.W.any_some hh
 have hx:s.heap.get? x=some ⟨.ref C,some dx,.plain,#[]⟩:=I.obj
 refine wpAny_bind (wpAny_pure (wpAny_bind (wpAny_bind (wpAny_loadPart hx (wpAny_bind (PySem.W.Looks.here (s:={ s with toks:=s.toks+1 }) (PySem.W.looks_clsIn X hc) ?_))))))
 rw [hd']
 refine wpAny_pure (a:=some dx) (wpAny_bind (wpAny_pure (wpAny_bind ?_)))
 refine wpAny_nsSet1 (s:={ s with toks:=s.toks+1 }) I.ns fun h' hn2 hs2=>?_
 obtain ⟨oD,esD,epD,hoD,hdD,hcD⟩:=hn2.count (PySem.Within.cons name v hw)
 refine wpAny_bind (wpAny_lookBehind hoD (by rw [hdD]; exact pastItsLine_dict (Ja hcD (by rw [Jf]; omega))) ?_)
 exact wpAny_pure (h _ ⟨(hs2.2 _ (Ne.symm I.ne)).trans I.obj,hn2,I.ne⟩ hs2)
theorem aBo {R:Result->Shared->Prop} {vs:List Value} {kw:List (Str×Value)} (X:K.In s.heap) (hm:PySem.W.makesIn K C=true)
  (hi:PySem.W.findIn K (.ref C) "__init__" = some (some (.ref f))) (hf:PySem.W.typeIn K (.ref f)=some (.type "function"))
  (h:codeAny (model prog w) (A.under (.builtin "type.__call__" ⟨.ref C::vs,kw⟩)) (.call (.ref f) ⟨.ref (s.heap.objs.size+1)::vs,kw⟩) (PySem.W.InitBack (s.heap.objs.size+1) R)
   { s with heap:=(s.heap.push PySem.W.emptyDict).push (PySem.W.instObj C s.heap.objs.size) }) :
  codeAny (model prog w) A (.call (.ref C) ⟨vs,kw⟩) R s:=by
 obtain ⟨hh,g,d,t,os⟩:=s
 exact PySem.W.make_core (PySem.W.makes_of X hm) (PySem.W.looks_findIn X hi) (fun self=>PySem.W.bind_fn X self hf) (.inl rfl) h
end
def kG (f:Str) (v:V):List (Str×V)->List (Str×V)
 | []=>[(f,v)]
 | (g,x)::r=>if g=f then (g,v)::r else (g,x)::kG f v r
theorem pJ (f g:Str) (v:V):∀ fs:List (Str×V),(kG f v fs).lookup g=if g=f then some v else fs.lookup g
 | []=>by
  show List.lookup g [(f,v)]=_
  by_cases h:g=f
  ·have hb:(g==f)=true:=beq_iff_eq.mpr h
   simp only [List.lookup,hb,if_pos h]
  ·have hb:(g==f)=false:=beq_eq_false_iff_ne.mpr h
   simp only [List.lookup,hb,if_neg h]
 | (k,x)::r=>by
  have ih:=pJ f g v r
  rw [show kG f v ((k,x)::r)=(if k=f then (k,v)::r else (k,x)::kG f v r) from rfl]
  by_cases hk:k=f
  ·rw [if_pos hk]
   by_cases h:g=k
   ·have hb:(g==k)=true:=beq_iff_eq.mpr h
    simp only [List.lookup,hb,if_pos (h.trans hk)]
   ·have hb:(g==k)=false:=beq_eq_false_iff_ne.mpr h
    simp only [List.lookup,hb,if_neg (fun e:g=f=>h (e.trans hk.symm))]
  ·rw [if_neg hk]
   by_cases h:g=k
   ·have hb:(g==k)=true:=beq_iff_eq.mpr h
    simp only [List.lookup,hb,if_neg (fun e:g=f=>hk (h.symm.trans e))]
   ·have hb:(g==k)=false:=beq_eq_false_iff_ne.mpr h
    simp only [List.lookup,hb]
    exact ih
theorem oI (f:Str) (v:V):∀ fs:List (Str×V),f∈(kG f v fs).map (·.1)/\∀ g,g∈fs.map (·.1)->g∈(kG f v fs).map (·.1)
 | []=>⟨by simp [kG],fun g h=>by simp at h⟩
 | (k,x)::r=>by
  obtain ⟨i1,i2⟩:=oI f v r
  rw [show kG f v ((k,x)::r)=(if k=f then (k,v)::r else (k,x)::kG f v r) from rfl]
  by_cases hk:k=f
  ·rw [if_pos hk]
   subst hk
   exact ⟨by simp,fun g h=>by simpa using h⟩
  ·rw [if_neg hk]
   refine ⟨?_,fun g h=>?_⟩
   ·rw [Qw]
    exact Qo _ i1
   ·rw [Qw] at h ⊢
    rcases Qm.mp h with e | e
    ·exact Qm.mpr (.inl e)
    ·exact Qo _ (i2 g e)
theorem pK (f:Str) (v:V):∀ fs:List (Str×V),(kG f v fs).length<=fs.length+1
 | []=>by simp [kG]
 | (k,x)::r=>by
  have ih:=pK f v r
  rw [show kG f v ((k,x)::r)=(if k=f then (k,v)::r else (k,x)::kG f v r) from rfl]
  by_cases hk:k=f
  ·rw [if_pos hk,Jf,Jf]; omega
  ·rw [if_neg hk,Jf,Jf]; omega
theorem iZ.some_of {v:V} {o:Option Value} (r:iZ (some v) o):∃ u,o=some u/\bB v u:=by
 cases o with
 | none=>exact (show False from r).elim
 | some u=>exact ⟨u,rfl,r⟩
theorem iZ.none_of {o:Option Value} (r:iZ none o):o=none:=by
 cases o with
 | none=>rfl
 | some u=>exact (show False from r).elim
theorem aAy {v:V} {u:Value} (r:bB v u):PySem.W.handedIn u=true:=by
 cases v with
 | non=>cases (show u=Value.none from r); rfl
 | bl b=>cases (show u=Value.bool b from r); rfl
 | int i=>obtain ⟨t,e⟩:=(show ∃ t,u=Value.int i t from r); cases e; rfl
 | str x=>obtain ⟨t,e⟩:=(show ∃ t,u=Value.str x t from r); cases e; rfl
 | byt b=>obtain ⟨t,e⟩:=(show ∃ t,u=Value.bytes b t from r); cases e; rfl
 | flt b=>obtain ⟨t,e⟩:=(show ∃ t,u=Value.float b t from r); cases e; rfl
 | ref a=>cases (show u=Value.ref a from r); rfl
 | ty n=>cases (show u=Value.type n from r); rfl
section
variable {P:Program} {w:World} {H H':Hp} {h h':Heap} {a C dx:Addr} {fs fs':List (Str×V)}
theorem uM (hok:HOk P w H h) (e:H a=some (.ins C dx fs)):∃ mA,ObjM h a dx C mA/\(∀ f,iZ (fs.lookup f) (mA f))/\PySem.Within mA (fs.map (·.1))/\fs.length<=1000/\H dx=some (.own a):=by
 obtain ⟨d,z,ne,ob,mA,n,r,q⟩:=(show bG P w H h a (.ins C dx fs) from hok a _ e)
 exact ⟨mA,⟨ob,n,ne⟩,r,q,z,d⟩
end
structure Cls (K:PySem.W.Frag) (C:Addr):Prop where
 pg:PySem.W.plainGet K C Str.empty=true
 hd:PySem.W.hasDictIn K C=true
 po:PySem.W.plainOver K C=true
 sa:PySem.W.findIn K (.ref C) "__setattr__" = some (some (.builtin "object.__setattr__"))
theorem Cls.get {K:PySem.W.Frag} {C:Addr} (c:Cls K C) (f:Str):PySem.W.plainGet K C f=true:=c.pg
def gF (K:PySem.W.Frag) (C:Addr) (f:Str):Prop:=PySem.W.findIn K (.ref C) f=some none
theorem gF.taker {K:PySem.W.Frag} {C:Addr} {f:Str} (n:gF K C f):PySem.W.takerIn K C f=some none:=by
 unfold PySem.W.takerIn
 rw [show PySem.W.findIn K (.ref C) f=some none from n]
 rfl
structure Con (K:PySem.W.Frag) (C:Addr) (f:Str) (v:V) (u:Value):Prop where
 at_:PySem.W.findIn K (.ref C) f=some (some u)
 rel:bB v u
 get:PySem.W.specialIn K u "__get__" = some none
 cp:PySem.W.copiedNames.contains f=false
structure Meth (K:PySem.W.Frag) (C:Addr) (m:Str) (f:Addr):Prop where
 at_:PySem.W.findIn K (.ref C) m=some (some (.ref f))
 fn:PySem.W.isFn K (.ref f)=true
 kp:PySem.W.keepIn K (.ref f)=true
section
variable {X:Cx} {pins:List (Addr×Obj)} {σ:St} {H:Hp} {s:Shared} {a C dx:Addr} {fs:List (Str×V)} {f:Str} {v:V} {A:Around} {E:Value->Shared->Prop}
theorem qS {b:Bool} {Q:Value->Shared->Prop} (I:Inv X pins σ H s) (e:H a=some (.ins C dx fs)) (c:Cls X.K C) (n:gF X.K C f) (l:fs.lookup f=some v)
  (h:∀ u s',Inv X pins σ H s'->bB v u->Q u s'):wpAny (model X.prog X.w) A (getAttr (.ref a) f b) Q E s:=by
 obtain ⟨mA,O,r,_,_,_⟩:=uM I.hok e
 obtain ⟨u,hu,ru⟩:=iZ.some_of (v:=v) (o:=mA f) (by rw [<- l]; exact r f)
 exact aCN I.kIn O (c.get f) c.hd n hu (aAy ru) (h u _ (I.tok _) ru)
theorem qT {m:Str} {g:Addr} {pl:Sem Bool} {Q:Value×List Value->Shared->Prop} (I:Inv X pins σ H s) (e:H a=some (.ins C dx fs)) (c:Cls X.K C) (k:Meth X.K C m g) (l:fs.lookup m=none)
  (h:Q (.ref g,[.ref a]) s):wpAny (model X.prog X.w) A (getMethod (.ref a) m pl) Q E s:=by
 obtain ⟨mA,O,r,_,_,_⟩:=uM I.hok e
 have hn:mA m=none:=iZ.none_of (by rw [<- l]; exact r m)
 exact aBn I.kIn O (c.get m) k.at_ k.fn hn h
theorem qU {y:V} {u:Value} {Q:Unit->Shared->Prop} (I:Inv X pins σ H s) (e:H a=some (.ins C dx fs)) (c:Cls X.K C) (n:gF X.K C f) (hl:fs.length < 1000) (ry:bB y u)
  (h:∀ s',Inv X pins σ (upd H a (.ins C dx (kG f y fs))) s'->Q () s'):wpAny (model X.prog X.w) A (setAttr (.ref a) f u) Q E s:=by
 obtain ⟨mA,O,r,wi,_,ho⟩:=uM I.hok e
 have hz:(fs.map (·.1)).length<=sizeLine:=by rw [Qd,sizeLine_eq]; omega
 refine aCO I.kIn O c.sa c.po n.taker c.hd wi hz fun h' O' sb=>h _ ?_
 have hd:∃ o,h'.get? dx=some o:=let ⟨o,_,_,e',_⟩:=O'.ns; ⟨o,e'⟩
 refine I.write (x:=a) (e:=dx) (by rw [e]; exact True.intro) (.inr ho) (fun b q hb z=>(sb.2 b hb).trans z) hd ?_
 refine ⟨by rw [aD O.ne]; exact ho,?_,O.ne,O'.obj,_,O'.ns,fun g=>?_,fun g hg=>?_⟩
 ·have:=pK f y fs; omega
 ·show iZ ((kG f y fs).lookup g) (if g=f then some u else mA g)
  rw [pJ]
  by_cases q:g=f
  ·rw [if_pos q,if_pos q]; exact ry
  ·rw [if_neg q,if_neg q]; exact r g
 ·by_cases q:g=f
  ·rw [q]; exact (oI f y fs).1
  ·refine (oI f y fs).2 g (wi g fun z=>hg ?_)
   show (if g=f then some u else mA g)=none
   rw [if_neg q]; exact z
theorem Inv.made (I:Inv X pins σ H s):Inv X pins σ (upd (upd H s.heap.objs.size (.own (s.heap.objs.size+1))) (s.heap.objs.size+1) (.ins C s.heap.objs.size []))
  { s with heap:=(s.heap.push PySem.W.emptyDict).push (PySem.W.instObj C s.heap.objs.size) }:=by
 have e1:(s.heap.push PySem.W.emptyDict).get? s.heap.objs.size=some PySem.W.emptyDict:=Qk s.heap rfl
 have e2:((s.heap.push PySem.W.emptyDict).push (PySem.W.instObj C s.heap.objs.size)).get? (s.heap.objs.size+1)=some (PySem.W.instObj C s.heap.objs.size):=by
  have:=Qk (s.heap.push PySem.W.emptyDict) (o:=PySem.W.instObj C s.heap.objs.size) rfl
  rwa [Jn] at this
 have e3:(s.heap.push PySem.W.emptyDict).Ns s.heap.objs.size (fun _=>none):=⟨PySem.W.emptyDict,#[],_,e1,rfl,(fun e he=>absurd he (by simp)),fun _=>rfl⟩
 have I1:=I.laid (a:=s.heap.objs.size) (o:=.own (s.heap.objs.size+1)) (h':=s.heap.push PySem.W.emptyDict) (t':=s.toks) (fun b u q=>Qb _ q) (Qg _) ⟨_,e1⟩
 refine I1.laid (a:=s.heap.objs.size+1) (o:=.ins C s.heap.objs.size []) (t':=s.toks) (fun b u q=>Qb _ q) (Ym (Jn _ _)) ?_
 have ne:s.heap.objs.size≠s.heap.objs.size+1:=Qz (Zm _)
 refine ⟨by rw [aD ne,aB],Jk _,ne,e2,fun _=>none,(Heap.Ns1.of_empty e3).at fun o q=>Qb _ q,fun _=>True.intro,fun y hy=>absurd rfl hy⟩
theorem aCP {prog:Program} {w:World} {env:Env} {e:Expr} {f:Str} {pos:Pos} {s:Shared} {Q:Value->Shared->Prop} (hb:attributeBase e f env (eval e env)=eval e env)
  (h:wpAny (model prog w) A (eval e env) (fun o s₁=>wpAny (model prog w) A (getAttr o f true) Q E s₁) E s):wpAny (model prog w) A (eval (.Attribute e f pos) env) Q E s :=
 Attribute_any_ h (by rw [arm_eval_Attribute,hb])
end
def aE5 (K:PySem.W.Frag) (ta:TE) (f:Str):TE:=fun σ H Q=>ta σ H fun x H1=>∃ a C dx fs v,x=.ref a/\H1 a=some (.ins C dx fs)/\Cls K C/\gF K C f/\fs.lookup f=some v/\Q v H1
def aFu (K:PySem.W.Frag) (ta tv:TE) (f:Str):TS:=fun D σ H=>tv σ H fun y H1=>ta σ H1 fun x H2=>∃ a C dx fs,x=.ref a/\H2 a=some (.ins C dx fs)/\Cls K C/\gF K C f/\fs.length < 1000 /\
 D.nx σ (upd H2 a (.ins C dx (kG f y fs)))
def aEj (X:Cx) (op:Operator) (rd:V->V->Hp->VK->Prop):Prop :=
 ∀ (pins:List (Addr×Obj)) (s:Shared) (σ:St) (H:Hp) (x y:V) (u v:Value) (Q:VK),Inv X pins σ H s->bB x u->bB y v->rd x y H Q->wpAny (model X.prog X.w) X.A (inplaceOp op u v) (EP X pins σ Q) X.xe s
def aCQ (K:PySem.W.Frag) (ta tv:TE) (rd:V->V->Hp->VK->Prop) (f:Str):TS:=fun D σ H=>ta σ H fun x H1=>∃ a C dx fs v,x=.ref a/\H1 a=some (.ins C dx fs)/\Cls K C/\gF K C f/\fs.lookup f=some v /\
 tv σ H1 fun y H2=>rd v y H2 fun z H3=>∃ dx' fs',H3 a=some (.ins C dx' fs')/\fs'.length < 1000/\D.nx σ (upd H3 a (.ins C dx' (kG f z fs')))
section
variable {X:Cx} {o e value:Expr} {f:Str} {pos pos' tpos:Pos} {ta tv:TE}
theorem cH (he:PE X e ta) (hb:attributeBase e f X.env (eval e X.env)=eval e X.env):PE X (.Attribute e f pos) (aE5 X.K ta f):=by
 intro pins s σ H Q I h
 refine aCP hb (thn (he pins s σ H _ I h) fun u s1 hx9=>?_)
 obtain ⟨x,H1,I1,rx,a,C,dx,fs,v,ex,ea,c,n,l,q⟩:=hx9
 subst ex
 obtain rfl:u=Value.ref a:=rx
 exact qS I1 ea c n l fun u' s2 I2 ru=>⟨v,H1,I2,ru,q⟩
theorem mP (ha:PE X o ta) (hv:PE X value tv) (hs:swapsWith value (some (.Attribute o f pos')) pos.line X.env=pure false):PS X (.Assign [.Attribute o f pos'] value pos) (aFu X.K ta tv f):=by
 intro pins s σ H D I h
 refine plainObj_wpAny_Assign_Attribute (thn (hv pins s σ H _ I h) fun u s1 ⟨y,H1,I1,ry,q⟩=>thn (ha pins s1 σ H1 _ I1 q) fun ov s2 hx9=>?_) hs
 obtain ⟨x,H2,I2,rx,a,C,dx,fs,ex,ea,c,n,l,q2⟩:=hx9
 subst ex
 obtain rfl:ov=Value.ref a:=rx
 exact qU I2 ea c n l ry fun s3 I3=>⟨σ,_,I3,q2⟩
theorem lB {op:Operator} {rd:V->V->Hp->VK->Prop} (ha:PE X o ta) (hv:PE X value tv) (hop:aEj X op rd):PS X (.AugAssign (.Attribute o f tpos) op value pos) (aCQ X.K ta tv rd f):=by
 intro pins s σ H D I h
 refine wpAny_AugAssign_AttributeAny (thn (ha pins s σ H _ I h) fun ov s1 hx9=>?_)
 obtain ⟨x,H1,I1,rx,a,C,dx,fs,v,ex,ea,c,n,l,q⟩:=hx9
 subst ex
 obtain rfl:ov=Value.ref a:=rx
 refine qS I1 ea c n l fun u s2 I2 ru=>thn (hv pins s2 σ H1 _ I2 q) fun w3 s3 ⟨y,H2,I3,ry,q3⟩=>thn (hop pins s3 σ H2 v y u w3 _ I3 ru ry q3) fun w4 s4 hx9=>?_
 obtain ⟨z,H3,I4,rz,dx',fs',ea',l',q4⟩:=hx9
 exact qU I4 ea' c n l' rz fun s5 I5=>⟨σ,_,I5,q4⟩
def aFv:V->V->Hp->VK->Prop:=fun x y H Q=>∃ i j,x=.int i/\y=.int j/\Q (.int (i+j)) H
def aFw:V->V->Hp->VK->Prop:=fun x y H Q=>∃ i j,x=.int i/\y=.int j/\Q (.int (i - j)) H
theorem yE:aEj X .Add aFv:=by
 rintro pins s σ H x y u v Q I rx ry ⟨i,j,rfl,rfl,q⟩
 obtain ⟨t,rfl⟩:=(show ∃ t,u=Value.int i t from rx)
 obtain ⟨t',rfl⟩:=(show ∃ t',v=Value.int j t' from ry)
 exact PyProof.Rows.iadd_int ⟨.int (i+j),H,I.tok _,⟨_,rfl⟩,q⟩
theorem aEk:aEj X .Sub aFw:=by
 rintro pins s σ H x y u v Q I rx ry ⟨i,j,rfl,rfl,q⟩
 obtain ⟨t,rfl⟩:=(show ∃ t,u=Value.int i t from rx)
 obtain ⟨t',rfl⟩:=(show ∃ t',v=Value.int j t' from ry)
 exact PyProof.Rows.isub_int ⟨.int (i - j),H,I.tok _,⟨_,rfl⟩,q⟩
end
section
variable {X:Cx} {pins:List (Addr×Obj)} {σ:St} {H:Hp} {s:Shared} {A:Around} {E:Value->Shared->Prop} {Q:Value->Shared->Prop} {c:Value} {b:Bool}
inductive TyOf (K:PySem.W.Frag) (H:Hp):V->Value->Prop where
 | non:TyOf K H .non (.type "NoneType")
 | bl (x:Bool):TyOf K H (.bl x) (.type "bool")
 | int (i:Int):TyOf K H (.int i) (.type "int")
 | str (x:Str):TyOf K H (.str x) (.type "str")
 | flt (x:UInt64):TyOf K H (.flt x) (.type "float")
 | lst {a:Addr} {xs:List V} (e:H a=some (.lst xs)):TyOf K H (.ref a) (.type "list")
 | frz {a:Addr} {o:Obj} {xs:List V} (e:H a=some (.frz o (.lst xs))):TyOf K H (.ref a) (.type "list")
 | tup {a:Addr} {xs:List V} (e:H a=some (.tup xs)):TyOf K H (.ref a) (.type "tuple")
 | dK {a:Addr} {kvs:List (Key×V)} (e:H a=some (.dK kvs)):TyOf K H (.ref a) (.type "dict")
 | dT {a:Addr} {kvs:List (List Key×V)} (e:H a=some (.dT kvs)):TyOf K H (.ref a) (.type "dict")
 | ins {a C dx:Addr} {fs:List (Str×V)} (e:H a=some (.ins C dx fs)) (cl:Cls K C) (ha:PySem.W.findIn K (.ref C) "__class__" = some (some (.builtin "object.__class__")))
   (hn:PySem.W.specialIn K (.builtin "object.__class__") "__get__" = some (some (.builtin "getset_descriptor.__get__"))) (htk:PySem.W.takesIn K (.builtin "object.__class__")=some true)
   (hm:PySem.W.mroIn K C (.type "object")=some true):TyOf K H (.ref a) (.ref C)
end
structure Room (k:Nat) (A:Around):Prop where
 hd:A.handled=none
 dp:A.depth+3*k+5 < recursionLimit
 un:A.units+16*k+200 < cLine
 gd:A.guards=some []
theorem Room.mono {j k:Nat} {A:Around} (r:Room k A) (h:j<=k):Room j A:=⟨r.hd,by have:=r.dp; omega,by have:=r.un; omega,r.gd⟩
theorem Room.deeper {k:Nat} {A:Around} (r:Room (k+1) A) (env:Env):Room k (A.deeper env) :=
 ⟨r.hd,by have:=r.dp; show A.depth+1+3*k+5 < _; omega,by have:=r.un; show A.units+3+16*k+200 < _; omega,r.gd⟩
theorem Room.in1 {k:Nat} {A:Around} (r:Room (k+1) A):Room k A.in1 :=
 ⟨r.hd,by have:=r.dp; show A.depth+3*k+5 < _; omega,by have:=r.un; show A.units+1+16*k+200 < _; omega,r.gd⟩
theorem yF {A:Around} {C:Addr} {us:List Value} {kw:List (Str×Value)}:(A.under (.builtin "type.__call__" ⟨.ref C::us,kw⟩)).depth=A.depth+1:=by
 first | rfl | simp [Around.under,Code.weight,Code.isCreation,Code.isGuard,Code.isCaller,Code.frames,Code.isFrame,guardIds]
theorem yG {A:Around} {C:Addr} {us:List Value} {kw:List (Str×Value)}:(A.under (.builtin "type.__call__" ⟨.ref C::us,kw⟩)).units=A.units+1:=by
 first | rfl | simp [Around.under,Code.cUnits,Code.frames,Code.isFrame]
theorem wM {A:Around} {C:Addr} {us:List Value} {kw:List (Str×Value)}:(A.under (.builtin "type.__call__" ⟨.ref C::us,kw⟩)).guards=A.guards:=by
 first | rfl | simp [Around.under,Code.guards,Code.isGuard,pushGuards,guardIds]
theorem Room.make {k:Nat} {A:Around} (r:Room (k+1) A) (C:Addr) (us:List Value) (kw:List (Str×Value)):Room k (A.under (.builtin "type.__call__" ⟨.ref C::us,kw⟩)) :=
 ⟨r.hd,by have:=r.dp; rw [yF]; omega,by have:=r.un; rw [yG]; omega,by rw [wM]; exact r.gd⟩
theorem Room.depth {k:Nat} {A:Around} (r:Room k A):A.depth < recursionLimit:=by have:=r.dp; omega
theorem Room.units {k:Nat} {A:Around} (r:Room k A):A.units+64 < cLine:=by have:=r.un; omega
abbrev eZ:TA:=fun _ H Q=>Q [] H
abbrev bN (ta:TE) (tr:TA):TA:=fun σ H Q=>ta σ H fun x H1=>tr σ H1 fun xs H2=>Q (x::xs) H2
section
variable {X:Cx} {e:Expr} {es:List Expr} {te:TE} {t:TA} {pos:Pos}
theorem aE:PA X [] eZ:=fun _ _ _ _ H Q I h=>Calls.spliced_nil ⟨[],H,I,.nil,h⟩
theorem aA (ha:PE X e te) (hr:PA X es t) (hs:starEach (e::es) X.env=(false,eval e X.env)::starEach es X.env:=by rfl):PA X (e::es) (bN te t):=by
 intro pos pins s σ H Q I h
 rw [hs]
 show wpAny _ _ (spliced ((false,eval e X.env)::backTo pos (starEach es X.env))) _ _ s
 refine Calls.spliced_cons (thn (ha pins s σ H _ I h) fun u s1 hx9=>?_)
 obtain ⟨x,H1,I1,r1,q1⟩:=hx9
 refine thn (hr pos pins s1 σ H1 _ I1 q1) fun us s2 hx9=>?_
 obtain ⟨xs,H2,I2,r2,q2⟩:=hx9
 exact ⟨x::xs,H2,I2,.cons r1 r2,q2⟩
def aCR (t:TA):TE:=fun σ H Q=>t σ H fun xs H1=>xs.length<=sizeLine/\∀ p,H1 p=none->Q (.ref p) (upd H1 p (.tup xs))
def aCS (t:TA):TE:=fun σ H Q=>t σ H fun xs H1=>xs.length<=sizeLine/\∀ p,H1 p=none->Q (.ref p) (upd H1 p (.lst xs))
theorem eN {x1} (h:PA X es t):PE X (.Tuple es x1 pos) (aCR t):=by
 intro pins s σ H Q I hq
 refine wpAny_Tuple_spliced (thn (h pos pins s σ H _ I hq) fun us s1 ⟨xs,H1,I1,r,z,q⟩=>⟨by rw [<- r.length]; exact z,?_⟩)
 have hf:H1 s1.heap.objs.size=none:=I1.hok.fresh (Qg _)
 refine ⟨.ref s1.heap.objs.size,upd H1 s1.heap.objs.size (.tup xs),I1.laid (t':=s1.toks) (fun b u e=>Qb _ e) (Qg _) ?_,rfl,q _ hf⟩
 exact ⟨z,us,0,r,Qk _ rfl⟩
theorem eU (h:PA X es t):PE X (.List es pos) (aCS t):=by
 intro pins s σ H Q I hq
 refine wpAny_List_spliced (thn (h pos pins s σ H _ I hq) fun us s1 ⟨xs,H1,I1,r,z,q⟩=>⟨by rw [<- r.length]; exact z,?_⟩)
 have hf:H1 s1.heap.objs.size=none:=I1.hok.fresh (Qg _)
 refine ⟨.ref s1.heap.objs.size,upd H1 s1.heap.objs.size (.lst xs),I1.laid (t':=s1.toks) (fun b u e=>Qb _ e) (Qg _) ?_,rfl,q _ hf⟩
 exact ⟨z,us,0,r,Qk _ rfl⟩
end
abbrev Sp:=List V->Hp->VK->XK->Prop
abbrev CXT:=List Env->Hp->Shared->XK->Value->Shared->Prop
structure Env0 (P:Program) (w:World) (K:PySem.W.Frag) (mg:Str->Option Value) (base:Heap) (A:Around) (outer:List Env) (s:Shared) (H:Hp):Prop where
 frames:A.frames=some outer
 mod:Mod K mg base
 bs:∀ b o,base.get? b=some o->s.heap.get? b=some o/\H b=none
 bsz:base.objs.size<=s.heap.objs.size
 funs:s.heap.FunFrames base outer
 frf:∀ b∈frs outer,H b=none
 hok:HOk P w H s.heap
 bare:AllBare s.gens
def CE (outer:List Env) (P:Program) (w:World) (H:Hp) (s:Shared) (Q:VK) (u:Value) (s':Shared):Prop :=
 ∃ v H',s'.os=s.os/\AllBare s'.gens/\Un (frs outer) [] H H' s.heap s'.heap/\HOk P w H' s'.heap/\bB v u/\Q v H'
def CR (CX:CXT) (outer:List Env) (P:Program) (w:World) (H:Hp) (s:Shared) (Q:VK) (E:XK) (r:Result) (s':Shared):Prop :=
 match r with
 | .ok (.ret u)=>CE outer P w H s Q u s'
 | .ok _=>False
 | .error e=>CX outer H s E e s'
structure FnOk (P:Program) (w:World) (K:PySem.W.Frag) (mg:Str->Option Value) (base:Heap) (CX:CXT) (k:Nat) (f:Addr) (fd:FuncData) (ps:List Str) (sp:Sp):Prop where
 len:∀ vs H Q E,sp vs H Q E->vs.length=ps.length
 run:∀ (A:Around) (outer:List Env) (s:Shared) (H:Hp) (args:Args) (us:List Value) (vs:List V) (Q:VK) (E:XK),Room k A->Env0 P w K mg base A outer s H->BindsTo s fd args (ps.zip us)->aY vs us->sp vs H Q E ->
  codeAny (model P w) A (.call (.ref f) args) (CR CX outer P w H s Q E) s
theorem FnOk.mono {P:Program} {w:World} {K:PySem.W.Frag} {mg:Str->Option Value} {base:Heap} {CX:CXT} {j k:Nat} {f:Addr} {fd:FuncData} {ps:List Str} {sp:Sp} (F:FnOk P w K mg base CX j f fd ps sp) (h:j<=k) :
  FnOk P w K mg base CX k f fd ps sp:=⟨F.len,fun A outer s H args us vs Q E hr=>F.run A outer s H args us vs Q E (hr.mono h)⟩
theorem FnOk.imp {P:Program} {w:World} {K:PySem.W.Frag} {mg:Str->Option Value} {base:Heap} {CX:CXT} {k:Nat} {f:Addr} {fd:FuncData} {ps:List Str} {sp sp':Sp} (F:FnOk P w K mg base CX k f fd ps sp)
  (h:∀ vs H Q E,sp' vs H Q E->sp vs H Q E):FnOk P w K mg base CX k f fd ps sp' :=
 ⟨fun vs H Q E q=>F.len vs H Q E (h _ _ _ _ q),fun A outer s H args us vs Q E hr he hb hv hs=>F.run A outer s H args us vs Q E hr he hb hv (h _ _ _ _ hs)⟩
theorem Env0.make {P:Program} {w:World} {K:PySem.W.Frag} {mg:Str->Option Value} {base:Heap} {A:Around} {outer:List Env} {s:Shared} {H:Hp} (e:Env0 P w K mg base A outer s H) (C:Addr) (us:List Value) (kw:List (Str×Value)) :
  Env0 P w K mg base (A.under (.builtin "type.__call__" ⟨.ref C::us,kw⟩)) outer s H:=⟨by first | exact e.frames | (simpa [Around.under,Code.envs,Code.isFrame,pushEnvs] using e.frames),e.mod,e.bs,e.bsz,e.funs,e.frf,e.hok,e.bare⟩
theorem Env0.in1 {P:Program} {w:World} {K:PySem.W.Frag} {mg:Str->Option Value} {base:Heap} {A:Around} {outer:List Env} {s:Shared} {H:Hp} (e:Env0 P w K mg base A outer s H) :
  Env0 P w K mg base A.in1 outer s H:=⟨e.frames,e.mod,e.bs,e.bsz,e.funs,e.frf,e.hok,e.bare⟩
section
variable {X:Cx} {pins:List (Addr×Obj)} {σ:St} {H:Hp} {s s':Shared}
theorem Inv.env0 (I:Inv X pins σ H s):Env0 X.prog X.w X.K X.mg X.base X.A X.stack s H :=
 ⟨I.ok.frames,I.ok.mod,I.bs,Ja I.ok.bsz I.sz,I.stack,I.stkFree,I.hok,I.bare⟩
theorem Inv.after {Q:VK} {u:Value} (I:Inv X pins σ H s) (h:CE X.stack X.prog X.w H s Q u s'):EP X pins σ Q u s':=by
 obtain ⟨v,H',os,bare,un,hok,r,q⟩:=h
 obtain ⟨hh,g,d,t,os'⟩:=s'
 obtain rfl:os'=s.os:=os
 exact ⟨v,H',I.call (h':=hh) (g':=g) (d':=d) (t':=t) (ch:=[]) un hok bare (fun b z=>absurd z (by simp)),r,q⟩
end
def iG (sp:Sp) (dvs:List V) (E:XK) (t:TA):TE:=fun σ H Q=>t σ H fun vs H1=>sp (vs++dvs) H1 Q E
def zR (C:Addr) (m:Str) (sp:Sp) (dvs:List V) (E:XK) (ta:TE) (t:TA):TE:=fun σ H Q=>ta σ H fun x H1=>∃ a dx fs,x=.ref a/\H1 a=some (.ins C dx fs)/\fs.lookup m=none /\
 t σ H1 fun vs H2=>sp (x::(vs++dvs)) H2 Q E
def aDP (C:Addr) (sp:Sp) (dvs:List V) (E:XK) (t:TA):TE:=fun σ H Q=>t σ H fun vs H1=>∀ x dx,H1 x=none->H1 dx=none->dx≠x ->
 sp (.ref x::(vs++dvs)) (upd (upd H1 dx (.own x)) x (.ins C dx [])) (fun v H2=>v=.non/\Q (.ref x) H2) E
def kH (K:PySem.W.Frag) (fd:FuncData) (ps:List Str) (ds:List Value):Prop :=
 ∀ (s:Shared) (us:List Value),K.In s.heap->(us++ds).length=ps.length->BindsTo s fd ⟨us,[]⟩ (ps.zip (us++ds))
theorem kH.all {K:PySem.W.Frag} {fd:FuncData} {ps:List Str} (h:∀ us:List Value,us.length=ps.length->bindArgs fd ⟨us,[]⟩=pure (ps.zip us)):kH K fd ps []:=fun s us _ hl=>by
 rw [Yh] at hl ⊢
 exact .of_eq (h us hl)
def mQ (CX:CXT) (X:Cx) (E:XK):Prop:=∀ (pins:List (Addr×Obj)) (σ:St) (H:Hp) (s:Shared) (e:Value) (s':Shared),Inv X pins σ H s->CX X.stack H s E e s'->X.xe e s'
section
variable {X:Cx} {CX:CXT} {k:Nat} {f C:Addr} {fd:FuncData} {ps:List Str} {sp:Sp} {dvs:List V} {ds:List Value} {E:XK} {x m:Str} {p pos apos:Pos} {e o:Expr} {es:List Expr} {ta:TE} {t:TA}
theorem yH {pins:List (Addr×Obj)} {σ:St} {H:Hp} {s:Shared} {Q:VK} {us:List Value} {vs:List V} (F:FnOk X.prog X.w X.K X.mg X.base CX k f fd ps sp) (hr:Room k X.A) (hb:kH X.K fd ps ds) (hd:aY dvs ds) (hx:mQ CX X E)
  (I:Inv X pins σ H s) (r:aY vs us) (h:sp (vs++dvs) H Q E):wpAny (model X.prog X.w) X.A (call (.ref f) us) (EP X pins σ Q) X.xe s:=by
 have r2:aY (vs++dvs) (us++ds):=r.append hd
 have hl:(us++ds).length=ps.length:=by rw [<- r2.length]; exact F.len _ _ _ _ h
 refine wpAny_call (codeAny_mono (F.run X.A X.stack s H ⟨us,[]⟩ (us++ds) (vs++dvs) Q E hr I.env0 (hb s us I.kIn hl) r2 h) fun r s' hq=>?_)
 cases r with
 | error e=>exact hx pins σ H s e s' I hq
 | ok fl =>
  cases fl with
  | ret u=>exact I.after hq
  | next=>exact False.elim hq
  | brk=>exact False.elim hq
  | cont=>exact False.elim hq
theorem aCT (F:FnOk X.prog X.w X.K X.mg X.base CX k f fd ps sp) (hr:Room k X.A) (hg:Gl X x) (hm:X.mg x=some (.ref f)) (hk:PySem.W.keepIn X.K (.ref f)=true) (hb:kH X.K fd ps ds) (hd:aY dvs ds) (hx:mQ CX X E)
  (ha:PA X (e::es) t) (hdb:(x==("__debug__" : Str))=false:=by decide) (he:starEach (e::es) X.env=(false,eval e X.env)::starEach es X.env:=by rfl) (hpl:(backTo pos (starEach es X.env)).any (·.1)=false:=by rfl) :
  PE X (.Call (.Name x p) (e::es) [] pos) (iG sp dvs E t):=by
 intro pins s σ H Q I h
 refine wpAny_Call_Name_kw (uJ I hg hm ?_ hdb)
 refine PySem.W.callWith_K (h₀:=X.base) I.ok.mod.kin hk (thn (ha pos pins s σ H _ I h) fun us s1 ⟨vs,H1,I1,r,q⟩=>⟨I1.kIn,?_⟩) he hpl
 exact yH F hr hb hd hx I1 r q
theorem lC {pl:Sem Bool} (he:PE X o ta) (c:Cls X.K C) (hm:Meth X.K C m f) (F:FnOk X.prog X.w X.K X.mg X.base CX k f fd ps sp) (hr:Room k X.A) (hb:kH X.K fd ps ds) (hd:aY dvs ds) (hx:mQ CX X E) (ha:PA X (e::es) t)
  (hst:starEach (e::es) X.env=(false,eval e X.env)::starEach es X.env:=by rfl) (hpl:(backTo pos (starEach es X.env)).any (·.1)=false:=by rfl)
  (ht:eval (.Call (.Attribute o m apos) (e::es) [] pos) X.env=(do
   let ov<-eval o X.env
   standAt apos.atName
   let (f,first)<-holding [ov] (getMethod ov m pl)
   callWith pos f first (backTo pos (starEach (e::es) X.env)) (backToKw pos (keywordEach [] X.env))):=by rfl) :
  PE X (.Call (.Attribute o m apos) (e::es) [] pos) (zR C m sp dvs E ta t):=by
 intro pins s σ H Q I h
 refine PySem.W.methodCall_KW (pl:=pl) (thn (he pins s σ H _ I h) fun u s1 hx9=>?_) ht
 obtain ⟨x,H1,I1,rx,a,dx,fs,ex,ea,l,q⟩:=hx9
 subst ex
 obtain rfl:u=Value.ref a:=rx
 refine qT I1 ea c hm l ?_
 refine PySem.W.callWith_K (first:=[.ref a]) (h₀:=X.base) I.ok.mod.kin hm.kp (thn (ha pos pins s1 σ H1 _ I1 q) fun us s2 ⟨vs,H2,I2,r,q2⟩=>⟨I2.kIn,?_⟩) hst hpl
 exact yH (us:=.ref a::us) (vs:=.ref a::vs) F hr hb hd hx I2 (.cons rfl r) q2
theorem bZ {pl:Sem Bool} (he:PE X o ta) (c:Cls X.K C) (hm:Meth X.K C m f) (F:FnOk X.prog X.w X.K X.mg X.base CX k f fd ps sp) (hr:Room k X.A) (hb:kH X.K fd ps ds) (hd:aY dvs ds) (hx:mQ CX X E)
  (ht:eval (.Call (.Attribute o m apos) [] [] pos) X.env=(do
   let ov<-eval o X.env
   standAt apos.atName
   let (f,first)<-holding [ov] (getMethod ov m pl)
   callWith pos f first (backTo pos (starEach [] X.env)) (backToKw pos (keywordEach [] X.env))):=by rfl) :
  PE X (.Call (.Attribute o m apos) [] [] pos) (zR C m sp dvs E ta eZ):=by
 intro pins s σ H Q I h
 refine PySem.W.methodCall_KW (pl:=pl) (thn (he pins s σ H _ I h) fun u s1 hx9=>?_) ht
 obtain ⟨x,H1,I1,rx,a,dx,fs,ex,ea,l,q⟩:=hx9
 subst ex
 obtain rfl:u=Value.ref a:=rx
 refine qT I1 ea c hm l ?_
 exact PySem.W.callWith_K0 (first:=[.ref a]) I1.kIn hm.kp (yH (us:=[.ref a]) (vs:=[.ref a]) F hr hb hd hx I1 (.cons rfl .nil) q)
structure Mk (K:PySem.W.Frag) (C f:Addr):Prop where
 makes:PySem.W.makesIn K C=true
 init:PySem.W.findIn K (.ref C) "__init__" = some (some (.ref f))
 fn:PySem.W.isFn K (.ref f)=true
 kp:PySem.W.keepIn K (.ref C)=true
theorem aBp {pins:List (Addr×Obj)} {σ:St} {H:Hp} {s:Shared} {Q:VK} {us:List Value} {vs:List V} (M:Mk X.K C f) (F:FnOk X.prog X.w X.K X.mg X.base CX k f fd ps sp) (hr:Room (k+1) X.A) (hb:kH X.K fd ps ds) (hd:aY dvs ds)
  (hx:mQ CX X E) (I:Inv X pins σ H s) (r:aY vs us)
  (h:∀ x dx,H x=none->H dx=none->dx≠x->sp (.ref x::(vs++dvs)) (upd (upd H dx (.own x)) x (.ins C dx [])) (fun v H2=>v=.non/\Q (.ref x) H2) E) :
  wpAny (model X.prog X.w) X.A (call (.ref C) us) (EP X pins σ Q) X.xe s:=by
 have hq:=h (s.heap.objs.size+1) s.heap.objs.size (I.hok.fresh (Yu _)) (I.hok.fresh (Qg _)) (Qz (Zm _))
 have I2:=Inv.made (C:=C) I
 have r2:aY (V.ref (s.heap.objs.size+1)::(vs++dvs)) (Value.ref (s.heap.objs.size+1)::(us++ds)):=.cons rfl (r.append hd)
 have hl:(Value.ref (s.heap.objs.size+1)::us++ds).length=ps.length:=by
  have e:=r2.length
  rw [F.len _ _ _ _ hq] at e
  exact e.symm
 refine wpAny_call (aBo (f:=f) I.kIn M.makes M.init (beq_iff_eq.mp M.fn) (codeAny_mono (F.run _ X.stack _ _ ⟨Value.ref (s.heap.objs.size+1)::us,[]⟩ (Value.ref (s.heap.objs.size+1)::(us++ds)) _ _ E (hr.make C us [])
  (I2.env0.make C us []) (hb _ (Value.ref (s.heap.objs.size+1)::us) I2.kIn hl) r2 hq) fun r s' hq'=>?_))
 cases r with
 | error e=>exact hx pins σ _ _ e s' I2 hq'
 | ok fl =>
  cases fl with
  | ret u =>
   obtain ⟨v,H',I3,rv,ev,q3⟩:=I2.after hq'
   subst ev
   exact ⟨rv,⟨V.ref (s.heap.objs.size+1),H',I3,rfl,q3⟩⟩
  | next=>exact False.elim hq'
  | brk=>exact False.elim hq'
  | cont=>exact False.elim hq'
theorem aCU (M:Mk X.K C f) (F:FnOk X.prog X.w X.K X.mg X.base CX k f fd ps sp) (hr:Room (k+1) X.A) (hg:Gl X x) (hm:X.mg x=some (.ref C)) (hb:kH X.K fd ps ds) (hd:aY dvs ds) (hx:mQ CX X E)
  (ha:PA X (e::es) t) (hdb:(x==("__debug__" : Str))=false:=by decide) (he:starEach (e::es) X.env=(false,eval e X.env)::starEach es X.env:=by rfl) (hpl:(backTo pos (starEach es X.env)).any (·.1)=false:=by rfl) :
  PE X (.Call (.Name x p) (e::es) [] pos) (aDP C sp dvs E t):=by
 intro pins s σ H Q I h
 refine wpAny_Call_Name_kw (uJ I hg hm ?_ hdb)
 refine PySem.W.callWith_K (h₀:=X.base) I.ok.mod.kin M.kp (thn (ha pos pins s σ H _ I h) fun us s1 ⟨vs,H1,I1,r,q⟩=>⟨I1.kIn,?_⟩) he hpl
 exact aBp M F hr hb hd hx I1 r q
end
section
variable {X:Cx} {CX:CXT} {k:Nat} {f C:Addr} {fd:FuncData} {ps ks:List Str} {sp:Sp} {E:XK} {x m:Str} {p pos apos kpos:Pos} {e o:Expr} {es:List Expr} {kws:List Keyword} {te ta:TE} {t tk:TA} {nm:Option Str}
structure KBinds (K:PySem.W.Frag) (fd:FuncData) (ps ks:List Str) (g:List Value->List Value->List Value) (gV:List V->List V->List V):Prop where
 to:∀ (s:Shared) (us ws:List Value),K.In s.heap->(g us ws).length=ps.length->BindsTo s fd ⟨us,ks.zip ws⟩ (ps.zip (g us ws))
 rel:∀ {vs:List V} {us:List Value} {zs:List V} {ws:List Value},aY vs us->aY zs ws->aY (gV vs zs) (g us ws)
variable {g:List Value->List Value->List Value} {gV:List V->List V->List V}
end
structure FnScope (N P:List Str) (sc:Scope):Prop where
 kind:sc.kind=.function
 co:sc.isCoroutine=false
 gen:sc.isGenerator=false
 nd:N.Nodup
 pre:N.take P.length=P
 par:∀ x∈P,sc.names.lookup x=some .local∨sc.names.lookup x=some .cell
 nofree:∀ y∈sc.names,y.2≠.free
theorem tI {kindOf:Str->Option NameKind} {x:Str}:∀ {binds:List (Str×Value)} {m:Str->Option Value},(∀ v,(x,v)∉binds)->bindL kindOf binds m x=m x
 | [],_,_=>rfl
 | (n,v)::r,m,h=>by
  unfold bindL
  rw [tI fun w hw=>h w (Qo _ hw)]
  split
  ·have:x≠n:=by rintro rfl; exact h v Qr
   simp [this]
  ·rfl
theorem tJ {kindOf:Str->Option NameKind} {x:Str}:∀ {binds:List (Str×Value)} {m:Str->Option Value},(∀ v,(x,v)∉binds)->bindC kindOf binds m x=m x
 | [],_,_=>rfl
 | (n,v)::r,m,h=>by
  unfold bindC
  rw [tJ fun w hw=>h w (Qo _ hw)]
  split
  ·rfl
  ·have:x≠n:=by rintro rfl; exact h v Qr
   simp [this]
theorem tK {kindOf:Str->Option NameKind} {x:Str} {v:Value}:∀ {P:List Str} {vs:List Value} {i:Nat} {m:Str->Option Value},P.Nodup->P[i]?=some x->vs[i]?=some v->kindOf x=some .local ->
  bindL kindOf (P.zip vs) m x=some v
 | [],_,_,_,_,h,_,_=>by simp at h
 | _::_,[],_,_,_,_,h,_=>by simp at h
 | p::P,w::vs,0,m,nd,h1,h2,hk=>by
  simp at h1 h2; subst h1; subst h2
  show bindL kindOf ((p,w)::P.zip vs) m p=_
  unfold bindL
  rw [tI fun v hv=>(Qx.mp nd).1 (Yi hv).1,if_pos hk]
  simp
 | p::P,w::vs,i+1,m,nd,h1,h2,hk=>by
  show bindL kindOf ((p,w)::P.zip vs) m x=_
  unfold bindL
  exact tK (i:=i) (Qx.mp nd).2 (by simpa using h1) (by simpa using h2) hk
theorem tL {kindOf:Str->Option NameKind} {x:Str} {v:Value}:∀ {P:List Str} {vs:List Value} {i:Nat} {m:Str->Option Value},P.Nodup->P[i]?=some x->vs[i]?=some v->kindOf x≠some .local ->
  bindC kindOf (P.zip vs) m x=some v
 | [],_,_,_,_,h,_,_=>by simp at h
 | _::_,[],_,_,_,_,h,_=>by simp at h
 | p::P,w::vs,0,m,nd,h1,h2,hk=>by
  simp at h1 h2; subst h1; subst h2
  show bindC kindOf ((p,w)::P.zip vs) m p=_
  unfold bindC
  rw [tJ fun v hv=>(Qx.mp nd).1 (Yi hv).1,if_neg hk]
  simp
 | p::P,w::vs,i+1,m,nd,h1,h2,hk=>by
  show bindC kindOf ((p,w)::P.zip vs) m x=_
  unfold bindC
  exact tL (i:=i) (Qx.mp nd).2 (by simpa using h1) (by simpa using h2) hk
def start (N:List Str) (vs:List V):St:=vs.map some++List.replicate (N.length - vs.length) none
def yI (CX:CXT) (P:Program) (w:World) (K:PySem.W.Frag) (mg:Str->Option Value) (base:Heap) (N:List Str) (qual:Str) (scope:Scope) (f:Addr) (cd:Value) (A:Around) (outer:List Env) (s:Shared) (H:Hp) (E:XK):Cx where
 prog:=P
 w:=w
 K:=K
 mg:=mg
 base:=base
 A:=A.deeper (envOfC qual scope s.heap.objs.size f cd)
 N:=N
 s₀:=s
 H₀:=H
 env:=envOfC qual scope s.heap.objs.size f cd
 outer:=outer
 stack:=envOfC qual scope s.heap.objs.size f cd::outer
 ex:=[]
 calm:=true
 fn:=fun _=>true
 pn:=[]
 xe:=fun e s'=>wpAny (model P w) (A.deeper (envOfC qual scope s.heap.objs.size f cd)) (leaving (envOfC qual scope s.heap.objs.size f cd) e) (fun _ s''=>CX outer H s E e s'') (fun e' s''=>CX outer H s E e' s'') s'
theorem wN {sc:Scope} {n:Nat} {x:Str} (h:sc.names.lookup x=some .cell):∃ c,(cellsFrom n sc.names []).lookup x=some c:=by
 have q:=PySem.W.cellsFrom_some sc.names n [] (.inl h)
 exact Yr.mp q
theorem aAz {CX:CXT} {P:Program} {w:World} {K:PySem.W.Frag} {mg:Str->Option Value} {base:Heap} {N ps:List Str} {qual:Str} {scope:Scope} {f:Addr} {cd:Value} {A:Around} {outer:List Env} {s s1:Shared} {H:Hp} {E:XK} {us:List Value} {vs:List V}
  (S:FnScope N ps scope) (hd:A.handled=none) (e0:Env0 P w K mg base A outer s H) (hl:vs.length=ps.length) (r:aY vs us)
  (x:InCallC s s.heap.objs.size (bindL (envOfC qual scope s.heap.objs.size f cd).kindOf (ps.zip us) fun _=>none) (cellsFrom (s.heap.objs.size+1) scope.names []) (bindC (envOfC qual scope s.heap.objs.size f cd).kindOf (ps.zip us) fun _=>none) s1) :
  Inv (yI CX P w K mg base N qual scope f cd A outer s H E) [] (start N vs) H s1:=by
 have hpl:ps.length<=N.length:=by have:=congrArg Wj S.pre; rw [Jq] at this; omega
 obtain ⟨h1,tk,rfl,hk⟩:=x.done
 have noA:∀ b:Addr,b∉(yI CX P w K mg base N qual scope f cd A outer s H E).ex:=fun b z=>absurd (show b∈([]:List Addr) from z) (by simp)
 refine ⟨⟨e0.mod,S.kind,rfl,rfl,Qg _,fun y z c h1 h2=>?_,fun y hy=>?_,fun y c _ h=>?_,fun _=>hd,Around.frames_deeper e0.frames,.inr ⟨rfl,rfl⟩,fun b z=>absurd z (noA b),e0.bs,e0.bsz,fun b _ _=>noA b,fun b z=>absurd z (noA b),e0.funs,e0.frf⟩,
  rfl,e0.bare,Un.kept hk,⟨_,x.toInCall.ns,fun i y v h1 h2 h3=>?_⟩,fun y c h=>⟨_,x.cell y c h⟩,e0.hok.fresh (Qg _),fun y c h=>?_,fun p hp=>absurd (show p∈([]:List (Addr×Obj)) from hp) (by simp),e0.hok.kept hk,?_⟩
 ·exact name_of_addr x.apart (PySem.mem_of_lookup h1) (PySem.mem_of_lookup h2)
 ·have hy:scope.names.lookup y=some .cell∨scope.names.lookup y=some .free:=hy
  rcases hy with hy | hy
  ·exact wN hy
  ·exact absurd rfl (S.nofree _ (PySem.mem_of_lookup hy))
 ·exact Js (x.above y c (PySem.mem_of_lookup h))
 ·have hi:i < vs.length:=by
   unfold start at h2
   by_cases hi:i < vs.length
   ·exact hi
   ·rw [Qt (by simpa using hi)] at h2
    rw [Xo] at h2
    split at h2 <;> cases h2
  have ha:vs[i]?=some v:=by
   unfold start at h2
   rw [Ql (by simpa using hi),Qi] at h2
   cases e:vs[i]? with
   | none=>rw [e] at h2; cases h2
   | some a=>rw [e] at h2; cases h2; rfl
  obtain ⟨u,hu,rv⟩:=r.get ha
  have hp:ps[i]?=some y:=by
   rw [<- S.pre,List.getElem?_take_of_lt (by omega)]; exact h1
  have ndP:ps.Nodup:=by rw [<- S.pre]; exact S.nd.sublist (List.take_sublist _ _)
  refine ⟨u,rv,?_⟩
  rcases S.par y (Qe hp) with k | k
  ·exact .inl ⟨k,tK ndP hp hu k⟩
  ·obtain ⟨c,e⟩:=wN (n:=s.heap.objs.size+1) k
   refine .inr ⟨.inl k,c,e,?_⟩
   have q:=x.cell y c e
   rw [tL ndP hp hu (by show scope.names.lookup y≠_; rw [k]; decide)] at q
   exact q
 ·exact e0.hok.fresh (Js (x.above y c (PySem.mem_of_lookup h)))
 ·unfold start
  show _=N.length
  rw [Qh,Qd,Jj]
  omega
theorem aDQ {CX:CXT} {P:Program} {w:World} {K:PySem.W.Frag} {mg:Str->Option Value} {base:Heap} {k:Nat} {f:Addr} {name qual:Str} {params:Arguments} {body:List Stmt} {scope:Scope} {dV kV doc pm cdv ct oc:Value} {an od:Option Addr}
  {osl:Array (Option Value)} {N ps:List Str} {sp:Sp} (lk:K.lookup f=some ⟨oc,od,.func (PySem.W.fnOf name qual params body scope dV kV doc pm an cdv ct),osl⟩) (hcd:PySem.W.codeIn K cdv qual=true) (S:FnScope N ps scope)
  (len:∀ vs H Q E,sp vs H Q E->vs.length=ps.length)
  (hbody:∀ (A:Around) (outer:List Env) (s:Shared) (H:Hp) (vs:List V) (Q:VK) (E:XK),Room k (A.deeper (envOfC qual scope s.heap.objs.size f cdv))->sp vs H Q E ->
   ∃ t,PSs (yI CX P w K mg base N qual scope f cdv A outer s H E) body t/\t { nx:=fun _ H'=>Q .non H',rt:=Q } (start N vs) H) :
  FnOk P w K mg base CX (k+1) f (PySem.W.fnOf name qual params body scope dV kV doc pm an cdv ct) ps sp:=by
 refine ⟨len,fun A outer s H args us vs Q E hr e0 hb r hsp=>?_⟩
 have hl:=len _ _ _ _ hsp
 have KX:K.In s.heap:=e0.mod.kin.keeps fun b o e=>(e0.bs b o e).1
 have lim:s.heap.NoLimit:=e0.mod.nolimit.keeps fun b o e=>(e0.bs b o e).1
 have hkind:∀ y∈ps.zip us,scope.names.lookup y.1=some .local∨(scope.names.lookup y.1=some .cell/\((cellsFrom (s.heap.objs.size+1) scope.names []).lookup y.1).isSome=true):=fun ⟨n,v⟩ hy=>by
  rcases S.par n (Yi hy).1 with q | q
  ·exact .inl q
  ·exact .inr ⟨q,PySem.W.cellsFrom_some _ _ _ (.inl q)⟩
 refine codeAny_call_function hr.depth (KX _ _ lk) rfl S.co S.gen rfl (PySem.W.codeRec_of KX hcd) (hb _ _ _ _ ?_)
 refine wpAny_newFunctionEnv_cells S.kind hkind fun env he s1 x=>?_
 subst he
 refine ⟨lim.keeps x.toInCall.keep,codeAny_func ?_⟩
 obtain ⟨t,ht,hq⟩:=hbody A outer s H vs Q E (hr.deeper _) hsp
 have I:Inv (yI CX P w K mg base N qual scope f cdv A outer s H E) [] (start N vs) H s1:=aAz S hr.hd e0 hl r x
 refine wpAny_mono (ht [] s1 (start N vs) H _ I hq) (fun fl s' hs=>?_) fun e s' hs=>hs
 have fin:∀ {σ':St} {H':Hp} {v:V} {u:Value},Inv (yI CX P w K mg base N qual scope f cdv A outer s H E) [] σ' H' s'->bB v u->Q v H'->CE outer P w H s Q u s' :=
  fun {σ' H' v u} J rv q=>⟨v,H',J.os,J.bare,J.base,J.hok,rv,q⟩
 cases fl with
 | ret u =>
  obtain ⟨v,σ',H',J,rv,q⟩:=hs
  exact fin J rv q
 | next =>
  obtain ⟨σ',H',J,q⟩:=hs
  exact fin (v:=V.non) (u:=Value.none) J rfl q
 | brk =>
  obtain ⟨_,_,_,q⟩:=hs
  exact False.elim q
 | cont =>
  obtain ⟨_,_,_,q⟩:=hs
  exact False.elim q
section
variable {X:Cx} {x:Str} {p pos:Pos} {e:Expr} {es:List Expr} {t:TA} {id T:String} {r:List V->Hp->VK->Prop}
def tCB (r:List V->Hp->VK->Prop) (t:TA):TE:=fun σ H Q=>t σ H fun vs H1=>r vs H1 Q
theorem aJ (hc:dJ X (.builtin id) r) (hg:Gl X x) (hm:X.mg x=none) (hv:bootBuiltins x=some (.builtin id)) (ha:PA X (e::es) t) (hn:x ≠ "__name__" := by decide) (hdb:(x==("__debug__" : Str))=false:=by decide)
  (he:starEach (e::es) X.env=(false,eval e X.env)::starEach es X.env:=by rfl) (hpl:(backTo pos (starEach es X.env)).any (·.1)=false:=by rfl):PE X (.Call (.Name x p) (e::es) [] pos) (tCB r t):=by
 intro pins s σ H Q I h
 refine wpAny_Call_Name_kw (kD I hg hm hv ?_ hn hdb)
 refine PyProof.Rows.callWith_builtin1 (thn (ha pos pins s σ H _ I h) fun us s1 hx9=>?_) he hpl
 obtain ⟨vs,H1,I1,r1,q1⟩:=hx9
 exact hc pins s1 σ H1 vs us Q I1 r1 q1
theorem bV (hc:dJ X (.type T) r) (hg:Gl X x) (hm:X.mg x=none) (hv:bootBuiltins x=some (.type T)) (ha:PA X (e::es) t) (hn:x ≠ "__name__" := by decide) (hdb:(x==("__debug__" : Str))=false:=by decide)
  (he:starEach (e::es) X.env=(false,eval e X.env)::starEach es X.env:=by rfl) (hpl:(backTo pos (starEach es X.env)).any (·.1)=false:=by rfl):PE X (.Call (.Name x p) (e::es) [] pos) (tCB r t):=by
 intro pins s σ H Q I h
 refine wpAny_Call_Name_kw (kD I hg hm hv ?_ hn hdb)
 refine PyProof.Rows.callWith_type1 (thn (ha pos pins s σ H _ I h) fun us s1 hx9=>?_) he hpl
 obtain ⟨vs,H1,I1,r1,q1⟩:=hx9
 exact hc pins s1 σ H1 vs us Q I1 r1 q1
end
end L2
namespace HT
open PySem PyProof.Rows
section
open PySem.SeqAt
open PySem.AutoSeq1 (wpAny_loadPart')
open PySem.MeetsSeq PySem.MeetsSeq2 PySem.MeetsSeq3
end
section
variable {prog:Program} {w:World} {A:Around} {E:Value->Shared->Prop} {s:Shared}
theorem pick_gen (xs:Array Value) (i k:Nat):((List.range k).filterMap fun (m:Nat)=>xs[((i:Int)+(m:Int)*1).toNat]?).toArray=((xs.toList.drop i).take k).toArray:=by
 have e:(fun (m:Nat)=>xs[((i:Int)+(m:Int)*1).toNat]?)=fun m=>xs[i+m]?:=by
  funext m
  have:((i:Int)+(m:Int)*1).toNat=i+m:=by omega
  rw [this]
 rw [e]
 have:=pick_run xs i k
 rw [Wq] at this
 have e2:((fun x=>xs[x]?) ∘ fun x=>i+x)=fun m=>xs[i+m]?:=rfl
 rw [e2] at this
 rw [this]
end
end HT
namespace L2
open PySem PySem.Spec PyProof.Rows
abbrev TO:=St->Hp->(Option Int->Hp->Prop)->Prop
theorem mR {ns:List Int}:∀ {us:List Value},aY (ns.map V.int) us->IntsAre us ns:=by
 induction ns with
 | nil=>intro us r; rw [Xz] at r; cases r; exact .nil
 | cons n ns ih =>
  intro us r
  rw [Qw] at r
  cases r with
  | cons r1 r2 =>
   obtain ⟨t,e⟩:=r1
   subst e
   exact .cons n t (ih r2)
section
variable {X:Cx} {e:Expr} {te:TE} {lo hi:Option Expr} {tl th:TO} {pos p2:Pos}
end
def ixN (n:Nat) (i:Int):Option Nat:=if 0<=i then (if i < n then some i.toNat else none) else if -(n:Int)<=i then some (i+n).toNat else none
def atI {α:Type} (xs:List α) (i:Int):Option α:=(ixN xs.length i).bind fun j=>xs[j]?
theorem uN {n:Nat} {i:Int} {j:Nat} (h:ixN n i=some j):seqIndex? i n=some j/\j < n/\-(n:Int)<=i/\i < n:=by
 unfold ixN at h
 by_cases h0:0<=i
 ·rw [if_pos h0] at h
  by_cases h1:i < n
  ·rw [if_pos h1] at h
   have e:i.toNat=j:=Option.some.inj h
   exact ⟨by rw [seqIndex_of h0 h1,e],by omega,by omega,h1⟩
  ·rw [if_neg h1] at h; cases h
 ·rw [if_neg h0] at h
  by_cases h1:-(n:Int)<=i
  ·rw [if_pos h1] at h
   have e:(i+n).toNat=j:=Option.some.inj h
   exact ⟨by rw [seqIndex_neg (by omega) h1,e],by omega,h1,by omega⟩
  ·rw [if_neg h1] at h; cases h
theorem zS {α:Type} {xs:List α} {i:Int} {v:α} (h:atI xs i=some v):∃ j,seqIndex? i xs.length=some j/\xs[j]?=some v/\j < xs.length/\-(xs.length:Int)<=i/\i < xs.length:=by
 unfold atI at h
 cases e:ixN xs.length i with
 | none=>rw [e] at h; cases h
 | some j =>
  rw [e] at h
  obtain ⟨h1,h2,h3,h4⟩:=uN e
  exact ⟨j,h1,h,h2,h3,h4⟩
theorem eS {α:Type} {xs:List α} {j:Nat} {v:α} (h:xs[j]?=some v):atI xs (j:Int)=some v:=by
 have hj:j < xs.length:=(Qa.mp h).1
 have e:ixN xs.length (j:Int)=some j:=by
  unfold ixN
  rw [if_pos (by omega),if_pos (by omega)]; simp
 unfold atI; rw [e]; exact h
theorem aBq {α:Type} (xs:List α) (v:α):atI (xs++[v]) (-1)=some v:=by
 have hl:(xs++[v]).length=xs.length+1:=by simp
 have e:ixN (xs++[v]).length (-1)=some xs.length:=by
  unfold ixN
  rw [hl,if_neg (by decide),if_pos (by omega)]
  congr 1
  omega
 unfold atI
 rw [e]
 show (xs++[v])[xs.length]?=some v
 simp
def aCV (b:Expr):Prop:=∀ o i,subscripted b false o i=operate [o,i] (getItem o i)
def IxR (X:Cx) (r:R2):Prop :=
 ∀ (value slice:Expr) (pins:List (Addr×Obj)) (s:Shared) (σ:St) (H:Hp) (x y:V) (v u:Value) (Q:VK),Inv X pins σ H s->bB x v->bB y u->r x y H Q ->
  subscripted slice false v u=operate [v,u] (getItem v u)->wpAny (model X.prog X.w) X.A (subscriptTail value slice v u) (EP X pins σ Q) X.xe s
def MtR (X:Cx) (id:String) (r:V->List V->Hp->VK->Prop):Prop :=
 ∀ (pins:List (Addr×Obj)) (s:Shared) (σ:St) (H:Hp) (x:V) (xs:List V) (v:Value) (us:List Value) (Q:VK),Inv X pins σ H s->bB x v->aY xs us->r x xs H Q ->
  wpAny (model X.prog X.w) X.A (call (.builtin id) (v::us)) (EP X pins σ Q) X.xe s
section
variable {X:Cx} {a b:Expr} {ta tb:TE} {pos:Pos}
theorem bE {r:R2} (hr:IxR X r) (ha:PE X a ta) (hb:PE X b tb) (hs:aCV b):PE X (.Subscript a b pos) (tOp r ta tb):=by
 intro pins s σ H Q I h
 exact Subscript_ (aEd ha hb I h fun v u s2 x y H2 I2 rx ry q=>hr a b pins s2 σ H2 x y v u Q I2 rx ry q (hs _ _))
def aEl (K:PySem.W.Frag):R2:=fun x y H Q=>∃ p xs i v,x=.ref p/\y=.int i/\SqL K H p xs/\atI xs i=some v/\Q v H
def aEm (K:PySem.W.Frag):R2:=fun x y H Q=>∃ p xs i v,x=.ref p/\y=.int i/\SqT K H p xs/\atI xs i=some v/\Q v H
theorem bX:IxR X (aEl X.K):=by
 intro value slice pins s σ H x y v u Q I rx ry h hs
 obtain ⟨p,xs,i,z,rfl,rfl,hq,he,q⟩:=h
 cases rx
 obtain ⟨t,rfl⟩:=ry
 obtain ⟨its,r,pl,hz⟩:=I.list hq
 obtain ⟨j,h1,h2,h3,h4,h5⟩:=zS he
 obtain ⟨w,ew,rw'⟩:=r.get h2
 have hl:=r.length
 have hn:=qR
 have fin:EP X pins σ Q w s:=⟨z,H,I,rw',q⟩
 by_cases h0:0<=i
 ·have hj:i.toNat=j:=by
   rw [seqIndex_of h0 h5] at h1
   exact Option.some.inj h1
  exact item_listR pl.isList h0 (by omega) (by rw [hj]; simpa using ew) fin hs
 ·have hj:(i+(its.toArray.size:Int)).toNat=j:=by
   rw [seqIndex_neg (by omega) h4] at h1
   rw [Qq,<- hl]
   exact Option.some.inj h1
  exact subscriptTail_builtinR (x:=w) pl.isList.typeIs slot_list_getitem.lookup
   (wpAny_getItem_list_neg (Q:=fun r s'=>r=w/\EP X pins σ Q r s') pl.isList (by omega) (by rw [Qq] <;> omega) (by omega) (by rw [hj]; simpa using ew) ⟨rfl,fin⟩) hs
theorem bU:IxR X (aEm X.K):=by
 intro value slice pins s σ H x y v u Q I rx ry h hs
 obtain ⟨p,xs,i,z,rfl,rfl,hq,he,q⟩:=h
 cases rx
 obtain ⟨t,rfl⟩:=ry
 obtain ⟨its,r,pl,hz⟩:=I.tuple hq
 obtain ⟨j,h1,h2,h3,h4,h5⟩:=zS he
 obtain ⟨w,ew,rw'⟩:=r.get h2
 have hl:=r.length
 have hn:=qR
 have fin:EP X pins σ Q w s:=⟨z,H,I,rw',q⟩
 exact subscriptTail_builtinR (x:=w) pl.typeIs slot_tuple_getitem.lookup
  (getItem_tuple (j:=j) (Q:=fun r s'=>r=w/\EP X pins σ Q r s') pl (by omega) (by omega) (by rw [Qq,<- hl]; exact h1) (by simpa using ew) ⟨rfl,fin⟩) hs
theorem yJ (its:List Value) (n j:Nat) (u:Value):Obj.mapSeq (·.setIfInBounds j u) { cls:=.type "list",data:=.seq its.toArray n }={ cls:=.type "list",data:=.seq (its.set j u).toArray n }:=by
 simp [Obj.mapSeq]
theorem Inv.lst {pins:List (Addr×Obj)} {σ:St} {H:Hp} {s:Shared} {p:Addr} {xs:List V} (I:Inv X pins σ H s) (h:H p=some (.lst xs)) :
  ∃ (its:List Value) (n:Nat),aY xs its/\s.heap.get? p=some { cls:=.type "list",data:=.seq its.toArray n }/\xs.length<=sizeLine:=by
 obtain ⟨z,its,n,r,e⟩:=I.hok p _ h
 exact ⟨its,n,r,e,z⟩
theorem Inv.lstUpd {pins:List (Addr×Obj)} {σ:St} {H:Hp} {s:Shared} {p:Addr} {xs ys:List V} {its its':List Value} {n n':Nat} {f:Obj->Obj} (I:Inv X pins σ H s) (h:H p=some (.lst xs))
  (ho:s.heap.get? p=some { cls:=.type "list",data:=.seq its.toArray n }) (hf:f { cls:=.type "list",data:=.seq its.toArray n }={ cls:=.type "list",data:=.seq its'.toArray n' }) (r:aY ys its') (hz:ys.length<=sizeLine) (t:Nat) :
  Inv X pins σ (upd H p (.lst ys)) { s with heap:=s.heap.update p f,toks:=t }:=by
 have e:(s.heap.update p f).get? p=some { cls:=.type "list",data:=.seq its'.toArray n' }:=by
  rw [Ze f ho (by rw [hf] <;> rfl),hf]
 refine I.write (x:=p) (e:=p) (by rw [h]; trivial) (.inl rfl) (fun b u hb q=>(Jt _ _ (Ne.symm hb)).trans q) ⟨_,e⟩ ?_
 exact ⟨hz,its',n',r,e⟩
def aE6:V->V->V->Hp->(Hp->Prop)->Prop:=fun o i v H Q=>∃ p xs k j,o=.ref p/\i=.int k/\H p=some (.lst xs)/\ixN xs.length k=some j/\Q (upd H p (.lst (xs.set j v)))
theorem nE:aEY X aE6:=by
 intro pins s σ H o i v ov iv u Q I ro ri rv h
 obtain ⟨p,xs,k,j,rfl,rfl,hp,hj,q⟩:=h
 cases ro
 obtain ⟨t,rfl⟩:=ri
 obtain ⟨its,n,r,ho,hz⟩:=I.lst hp
 obtain ⟨h1,h2,h3,h4⟩:=uN hj
 have hl:=r.length
 have hn:=qR
 have I':Inv X pins σ (upd H p (.lst (xs.set j v))) { s with heap:=s.heap.update p (Obj.mapSeq (·.setIfInBounds j u)) } :=
  I.lstUpd hp ho (yJ its n j u) (r.set rv j) (by rw [Zp]; exact hz) s.toks
 by_cases h0:0<=k
 ·have hk:k.toNat=j:=by
   rw [seqIndex_of h0 h4] at h1
   exact Option.some.inj h1
  exact PySem.W.ki_setAt ho h0 (by omega) (by rw [Qq,<- hl]; exact h4) (by rw [hk]; exact ⟨_,I',q⟩)
 ·have hk:(k+(its.toArray.size:Int)).toNat=j:=by
   rw [seqIndex_neg (by omega) h3] at h1
   rw [Qq,<- hl]
   exact Option.some.inj h1
  exact PySem.W.ki_setBack ho (by omega) (by rw [Qq,<- hl]; exact h3) (by omega) (by rw [hk]; exact ⟨_,I',q⟩)
def lZ:V->Bool
 | .non=>true
 | .bl _=>true
 | .int _=>true
 | .str _=>true
 | _=>false
def eqV:V->V->Bool
 | .non,.non=>true
 | .bl a,.bl b=>a==b
 | .bl a,.int b=>(if a then 1 else 0)==b
 | .int a,.bl b=>a==(if b then 1 else 0)
 | .int a,.int b=>a==b
 | .str a,.str b=>a==b
 | _,_=>false
theorem aEn {A:Around} {s:Shared} {y x:V} {u v:Value} (ry:bB y u) (rx:bB x v) (fy:lZ y=true) (fx:lZ x=true):SeqAt.EqAt A s u v (eqV y x):=by
 cases y with
 | non =>
  cases ry
  cases x with
  | non=>cases rx; exact SeqAt.EqAt.same _
  | bl b=>cases rx; exact SeqAt.EqAt.none_bool b
  | int b=>obtain ⟨t,rfl⟩:=rx; exact SeqAt.EqAt.none_int b t
  | str b=>obtain ⟨t,rfl⟩:=rx; exact SeqAt.EqAt.none_str b t
  | _=>exact absurd (show false=true from fx) Qu
 | bl a =>
  cases ry
  cases x with
  | non=>cases rx; exact SeqAt.EqAt.bool_none a
  | bl b=>cases rx; exact SeqAt.EqAt.bool_bool a b
  | int b=>obtain ⟨t,rfl⟩:=rx; exact SeqAt.EqAt.bool_int a b t
  | str b=>obtain ⟨t,rfl⟩:=rx; exact SeqAt.EqAt.bool_str a b t
  | _=>exact absurd (show false=true from fx) Qu
 | int a =>
  obtain ⟨t',rfl⟩:=ry
  cases x with
  | non=>cases rx; exact SeqAt.EqAt.int_none a t'
  | bl b=>cases rx; exact SeqAt.EqAt.int_bool a t' b
  | int b=>obtain ⟨t,rfl⟩:=rx; exact SeqAt.EqAt.int_int a t' b t
  | str b=>obtain ⟨t,rfl⟩:=rx; exact SeqAt.EqAt.int_str a t' b t
  | _=>exact absurd (show false=true from fx) Qu
 | str a =>
  obtain ⟨t',rfl⟩:=ry
  cases x with
  | non=>cases rx; exact SeqAt.EqAt.str_none a t'
  | bl b=>cases rx; exact SeqAt.EqAt.str_bool a t' b
  | int b=>obtain ⟨t,rfl⟩:=rx; exact SeqAt.EqAt.str_int a t' b t
  | str b=>obtain ⟨t,rfl⟩:=rx; exact SeqAt.EqAt.str_str a t' b t
  | _=>exact absurd (show false=true from fx) Qu
 | _=>exact absurd (show false=true from fy) Qu
def eqU (x:V) (u:Value):Bool:=match u with
 | .none=>eqV .non x
 | .bool b=>eqV (.bl b) x
 | .int i _=>eqV (.int i) x
 | .str z _=>eqV (.str z) x
 | _=>false
theorem aBr {x y:V} {u:Value} (r:bB y u) (f:lZ y=true):eqU x u=eqV y x:=by
 cases y with
 | non=>cases r; rfl
 | bl b=>cases r; rfl
 | int i=>obtain ⟨t,rfl⟩:=r; rfl
 | str z=>obtain ⟨t,rfl⟩:=r; rfl
 | _=>exact absurd (show false=true from f) Qu
theorem pW {x:V}:∀ {xs:List V} {us:List Value},aY xs us->xs.all lZ=true->us.any (eqU x)=xs.any fun y=>eqV y x
 := by
 intro xs us h
 induction h with
 | nil=>intro _; rfl
 | cons r t ih =>
  intro f
  rw [List.all_cons,Ji] at f
  rw [Yf,Yf,aBr r f.1,ih f.2]
theorem kI {A:Around} {s:Shared} {x:V} {v:Value} (rx:bB x v) (fx:lZ x=true):∀ {xs:List V} {us:List Value},aY xs us->xs.all lZ=true->∀ u∈us,SeqAt.EqAt A s u v (eqU x u)
 | _,_,.nil,_=>fun u hu=>by cases hu
 | y::xs,u::us,.cons r t,f=>fun u' hu=>by
  rw [List.all_cons,Ji] at f
  rcases Qm.mp hu with rfl | hu
  ·rw [aBr r f.1]; exact aEn r rx f.1 fx
  ·exact kI rx fx t f.2 u' hu
def inV (x:V) (xs:List V):Bool:=xs.any fun y=>eqV y x
def rIn (K:PySem.W.Frag) (neg:Bool):R2:=fun x y H Q=>∃ p xs,y=.ref p/\(SqL K H p xs∨SqT K H p xs)/\lZ x=true/\xs.all lZ=true/\Q (.bl (if neg then !inV x xs else inV x xs)) H
theorem oJ:OpR X (compareOp .In) (rIn X.K false):=by
 intro pins s σ H x y v u Q I rx ry h
 obtain ⟨p,xs,rfl,hq,fx,fs,q⟩:=h
 cases ry
 rcases hq with hq | hq
 ·obtain ⟨its,r,pl,hz⟩:=I.list hq
  refine SeqAt.in_listAt (eqU x) pl.isList (fun w hw=>kI rx fx r fs w (by simpa using hw)) ⟨.bl _,H,I,rfl,?_⟩
  rw [show its.toArray.any (eqU x)=its.any (eqU x) by simp,pW r fs]
  exact q
 ·obtain ⟨its,r,pl,hz⟩:=I.tuple hq
  refine SeqAt.in_tupleAt (eqU x) pl (fun w hw=>kI rx fx r fs w (by simpa using hw)) ⟨.bl _,H,I,rfl,?_⟩
  rw [show its.toArray.any (eqU x)=its.any (eqU x) by simp,pW r fs]
  exact q
theorem uO:OpR X (compareOp .NotIn) (rIn X.K true):=by
 intro pins s σ H x y v u Q I rx ry h
 obtain ⟨p,xs,rfl,hq,fx,fs,q⟩:=h
 cases ry
 rcases hq with hq | hq
 ·obtain ⟨its,r,pl,hz⟩:=I.list hq
  refine SeqAt.notIn_listAt (eqU x) pl.isList (fun w hw=>kI rx fx r fs w (by simpa using hw)) ⟨.bl _,H,I,rfl,?_⟩
  rw [show its.toArray.any (eqU x)=its.any (eqU x) by simp,pW r fs]
  exact q
 ·obtain ⟨its,r,pl,hz⟩:=I.tuple hq
  refine SeqAt.notIn_tupleAt (eqU x) pl (fun w hw=>kI rx fx r fs w (by simpa using hw)) ⟨.bl _,H,I,rfl,?_⟩
  rw [show its.toArray.any (eqU x)=its.any (eqU x) by simp,pW r fs]
  exact q
theorem aO:dJ X (.builtin "len") (fun xs H Q=>∃ p ys,xs = [.ref p]/\(SqL X.K H p ys∨SqT X.K H p ys)/\Q (.int ys.length) H):=by
 intro pins s σ H xs us Q I r h
 obtain ⟨p,ys,rfl,hq,q⟩:=h
 obtain ⟨u,rfl,rx⟩:=fY r
 cases rx
 have hn:=qR
 rcases hq with hq | hq
 ·obtain ⟨its,r',pl,hz⟩:=I.list hq
  have hlen:=r'.length
  exact Calls.call_len_list pl.isList (by simp only [Qq] <;> omega) ⟨.int ys.length,H,I.tok _,⟨s.toks+1,by rw [Qq,hlen]⟩,q⟩
 ·obtain ⟨its,r',pl,hz⟩:=I.tuple hq
  have hlen:=r'.length
  exact len_tuple pl (by simp only [Qq] <;> omega) ⟨.int ys.length,H,I.tok _,⟨s.toks+1,by rw [Qq,hlen]⟩,q⟩
theorem uP:dJ X (.type "list") (fun xs H Q=>∃ p ys,xs = [.ref p]/\(SqL X.K H p ys∨SqT X.K H p ys)/\∀ l,H l=none->Q (.ref l) (upd H l (.lst ys))):=by
 intro pins s σ H xs us Q I r h
 obtain ⟨p,ys,rfl,hq,q⟩:=h
 obtain ⟨u,rfl,rx⟩:=fY r
 cases rx
 have fin:∀ (its:List Value),aY ys its->ys.length<=sizeLine->∀ (h':Heap) (c':Nat),(∀ b o',s.heap.get? b=some o'->h'.get? b=some o') ->
   h'.get? s.heap.objs.size=some { cls:=.type "list",dict:=none,data:=.seq its.toArray c',slots:=#[] }->EP X pins σ Q (.ref s.heap.objs.size) { s with heap:=h' }:=fun its r' hz h' c' kp e =>
  ⟨.ref s.heap.objs.size,_,I.laid (t':=s.toks) kp (Qg _) (show bG X.prog X.w _ h' _ (.lst ys) from ⟨hz,its,c',r',e⟩),rfl,q _ (I.hok.fresh (Qg _))⟩
 rcases hq with hq | hq
 ·obtain ⟨its,r',pl,hz⟩:=I.list hq
  have hlen:=r'.length
  obtain ⟨o,ho,hc,n,hd⟩:=pl.isList
  exact call_list_seq p (.inl rfl) ho hc hd (fun h' c' kp e=>fin its r' hz h' c' kp e) (by simp only [Qq] <;> omega)
 ·obtain ⟨its,r',pl,hz⟩:=I.tuple hq
  have hlen:=r'.length
  obtain ⟨o,ho,hc,n,hd⟩:=pl
  exact call_list_seq p (.inr rfl) ho hc hd (fun h' c' kp e=>fin its r' hz h' c' kp e) (by simp only [Qq] <;> omega)
theorem gK:dJ X (.type "tuple") (fun xs H Q=>∃ p ys,xs = [.ref p]/\((SqL X.K H p ys/\∀ l,H l=none->Q (.ref l) (upd H l (.tup ys)))∨(SqT X.K H p ys/\Q (.ref p) H))):=by
 intro pins s σ H xs us Q I r h
 obtain ⟨p,ys,rfl,h⟩:=h
 obtain ⟨u,rfl,rx⟩:=fY r
 cases rx
 rcases h with ⟨hq,q⟩ | ⟨hq,q⟩
 ·obtain ⟨its,r',pl,hz⟩:=I.list hq
  have hlen:=r'.length
  refine call_tuple_list pl.isList (fun h' kp=>?_) (by simp only [Qq] <;> omega)
  have I1:Inv X pins σ H { s with heap:=h' }:=I.kept (t':=s.toks) kp
  have I2:Inv X pins σ (upd H h'.objs.size (.tup ys)) { s with heap:=h'.push { cls:=.type "tuple",data:=.seq its.toArray } } :=
   I1.laid (t':=s.toks) (fun b o e=>Qb _ e) (Qg _) (show bG X.prog X.w _ _ _ (.tup ys) from ⟨hz,its,0,r',Qk _ rfl⟩)
  exact ⟨.ref h'.objs.size,_,I2,rfl,q _ (I1.hok.fresh (Qg _))⟩
 ·obtain ⟨its,r',pl,hz⟩:=I.tuple hq
  exact call_tuple_same pl ⟨.ref p,H,I,rfl,q⟩
def tyV (K:PySem.W.Frag) (T:String) (x:V) (H:Hp):Prop:=match x with
 | .str _=>T = "str"
 | .int _=>T = "int"
 | .ref p => (T = "list" /\ ∃ xs, SqL K H p xs) ∨ (T = "tuple" /\ ∃ xs, SqT K H p xs) ∨
     (T = "dict" /\ ((∃ kvs,H p=some (.dK kvs))∨∃ kvs,H p=some (.dT kvs)))∨(T = "set" /\ ∃ S n,H p=some (.set S n))
 | _=>False
theorem aBs {pins:List (Addr×Obj)} {σ:St} {H:Hp} {s:Shared} {T:String} {x:V} {v:Value} (I:Inv X pins σ H s) (r:bB x v) (ty:tyV X.K T x H) :
  s.TypeIs v T/\∀ a,v=.ref a->∃ ob,s.heap.get? a=some ob/\ob.dict=none:=by
 cases x with
 | str z =>
  obtain ⟨t,rfl⟩:=r
  cases (show T = "str" from ty)
  exact ⟨typeIs_str s z t,fun _ e=>nomatch e⟩
 | int i =>
  obtain ⟨t,rfl⟩:=r
  cases (show T = "int" from ty)
  exact ⟨typeIs_int s i t,fun _ e=>nomatch e⟩
 | ref p =>
  cases r
  rcases ty with ⟨rfl,xs,hq⟩ | ⟨rfl,xs,hq⟩ | ⟨rfl,hk⟩ | ⟨rfl,S,n,hk⟩
  ·obtain ⟨its,_,pl,_⟩:=I.list hq
   refine ⟨pl.isList.typeIs,fun a e=>?_⟩
   cases e
   obtain ⟨o,n,e,c,hd,_⟩:=pl
   exact ⟨o,e,hd⟩
  ·obtain ⟨o,e,hc,hd⟩:∃ o,s.heap.get? p=some o/\o.cls=.type "tuple" /\ o.dict=none:=by
    rcases hq with hq | ⟨o,_,_,hk,hc,hd,_⟩
    ·obtain ⟨_,its,n,_,e⟩:=hq.ok I.hok
     exact ⟨_,e,rfl,rfl⟩
    ·exact ⟨o,I.kIn p o hk,hc,hd⟩
   refine ⟨⟨o,e,hc⟩,fun a e2=>?_⟩
   cases e2
   exact ⟨o,e,hd⟩
  ·have z:∃ o,s.heap.get? p=some o/\o.ExactDict:=by
    rcases hk with ⟨kvs,hk⟩ | ⟨kvs,hk⟩
    ·obtain ⟨_,_,_,_,o,_,_,e,ex,_⟩:=I.hok p _ hk
     exact ⟨o,e,ex⟩
    ·obtain ⟨_,_,_,_,o,_,_,e,ex,_⟩:=I.hok p _ hk
     exact ⟨o,e,ex⟩
   obtain ⟨o,e,ex⟩:=z
   refine ⟨⟨o,e,ex.1⟩,fun a e2=>?_⟩
   cases e2
   exact ⟨o,e,ex.2.1⟩
  ·obtain ⟨o,_,_,_,e,ex,_⟩:=I.hok p _ hk
   refine ⟨⟨o,e,ex.1⟩,fun a e2=>?_⟩
   cases e2
   exact ⟨o,e,ex.2.1⟩
 | _=>exact False.elim ty
def aEo (K:PySem.W.Frag) (T:String) (r:V->List V->Hp->VK->Prop) (to:TE):TE:=fun σ H Q=>to σ H fun x H1=>tyV K T x H1/\r x [] H1 Q
def tBM (K:PySem.W.Frag) (T:String) (r:V->List V->Hp->VK->Prop) (to:TE) (t:TA):TE:=fun σ H Q=>to σ H fun x H1=>tyV K T x H1/\t σ H1 fun xs H2=>r x xs H2 Q
variable {o e:Expr} {es:List Expr} {to:TE} {t:TA} {name:Str} {apos cpos:Pos} {T id:String} {r:V->List V->Hp->VK->Prop}
theorem oK (pa:PlainAttrs T) (slot:Slot T name id) (hty:typeOf (.builtin id)=pure (.type "method_descriptor")) (hm:MtR X id r) (ho:PE X o to)
  (hbase:attributeBase o name X.env (eval o X.env)=eval o X.env:=by rfl) (hline:(apos.endLine==cpos.line)=true:=by rfl):PE X (.Call (.Attribute o name apos) [] [] cpos) (aEo X.K T r to):=by
 intro pins s σ H Q I h
 refine wpAny_Call_method0_late hbase hline (thn (ho pins s σ H _ I h) fun v s1 hx9=>?_)
 obtain ⟨x,H1,I1,r1,ty,q1⟩:=hx9
 obtain ⟨h1,h2⟩:=aBs I1 r1 ty
 exact ⟨T,id,pa,slot,hty,h1,h2,Calls.callWith_builtin rfl (PySem.evalArgs_none (hm pins s1 σ H1 x [] v [] Q I1 r1 .nil q1))⟩
theorem pL (pa:PlainAttrs T) (slot:Slot T name id) (hty:typeOf (.builtin id)=pure (.type "method_descriptor")) (hm:MtR X id r) (ho:PE X o to) (ha:PA X (e::es) t)
  (hbase:attributeBase o name X.env (eval o X.env)=eval o X.env:=by rfl)
  (hfew:((backTo cpos (starEach (e::es) X.env)).all (fun x=>!x.1) && (backToKw cpos (keywordEach [] X.env)).all (fun x=>x.1.isSome)
   && decide ((e::es).length+([]:List Keyword).length+(if ([]:List Keyword).isEmpty then 0 else 1) < 30))=true:=by rfl)
  (hline:(apos.endLine==cpos.line)=true:=by rfl) (hs:starEach (e::es) X.env=(false,eval e X.env)::starEach es X.env:=by rfl) (hplain:(backTo cpos (starEach es X.env)).any (·.1)=false:=by rfl) :
  PE X (.Call (.Attribute o name apos) (e::es) [] cpos) (tBM X.K T r to t):=by
 intro pins s σ H Q I h
 refine wpAny_Call_method_late hbase hfew hline rfl (thn (ho pins s σ H _ I h) fun v s1 hx9=>?_)
 obtain ⟨x,H1,I1,r1,ty,q1⟩:=hx9
 obtain ⟨h1,h2⟩:=aBs I1 r1 ty
 refine ⟨T,id,pa,slot,hty,h1,h2,?_⟩
 have hA:=ha cpos pins s1 σ H1 _ I1 q1
 rw [hs] at hA ⊢
 refine Calls.callWith_builtin (by show (false || (backTo cpos (starEach es X.env)).any (·.1))=false; rw [hplain] <;> rfl) (Calls.evalArgs_plain ?_)
 refine thn hA fun us s2 hx9=>?_
 obtain ⟨vs,H2,I2,r2,q2⟩:=hx9
 exact hm pins s2 σ H2 x vs v us Q I2 r1 r2 q2
/- xs.append(e),list.index on a module's tuple .. are MtR facts of 06m -/
end
def MtM (X:Cx) (id:String) (r:V->List V->Hp->VK->Prop):Prop :=
 ∀ (pins:List (Addr×Obj)) (s:Shared) (σ:St) (H:Hp) (x:V) (xs:List V) (v:Value) (us:List Value) (Q:VK),Inv X pins σ H s->bB x v->aY xs us->r x xs H Q ->
  wpAny (model X.prog X.w) X.A (call (.builtin id) (v::us)) (EP X pins σ Q) X.xe s
theorem aY.one {x:V} {us:List Value} (r:aY [x] us):∃ u,us = [u]/\bB x u:=fY r
theorem aY.two {x y:V} {us:List Value} (r:aY [x,y] us):∃ u v,us = [u,v]/\bB x u/\bB y v:=pI r
theorem aY.zero:∀ {us:List Value},aY [] us->us = []
 | _,.nil=>rfl
theorem aY.dropLast {xs:List V} {us:List Value} (h:aY xs us):aY xs.dropLast us.dropLast:=by
 induction h with
 | nil=>exact .nil
 | cons r t ih =>
  cases t with
  | nil=>exact .nil
  | cons q t'=>exact .cons r ih
theorem aY.eraseIdx:∀ {xs:List V} {us:List Value} (i:Nat),aY xs us->aY (xs.eraseIdx i) (us.eraseIdx i)
 | _,_,_,.nil=>.nil
 | _,_,0,.cons _ t=>t
 | _,_,i+1,.cons r t=>.cons r (aY.eraseIdx i t)
theorem aY.reverse {xs:List V} {us:List Value} (h:aY xs us):aY xs.reverse us.reverse:=by
 induction h with
 | nil=>exact .nil
 | cons r t ih=>rw [List.reverse_cons,List.reverse_cons]; exact aY.append ih (.cons r .nil)
theorem aY.rep {xs:List V} {us:List Value} (h:aY xs us):∀ k:Nat,aY (List.replicate k xs).flatten (List.replicate k us).flatten
 | 0=>.nil
 | k+1=>by
  rw [Xg,Xg,Zh,Zh]
  exact aY.append h (aY.rep h k)
theorem tM {α:Type}:∀ (l:List α) (i:Nat),(l.eraseIdx i).length<=l.length
 | [],_=>Qg _
 | _::_,0=>Yu _
 | _::r,i+1=>Zn (tM r i)
theorem tN (its:List Value):∀ (k:Nat) (acc:List Value),
  List.foldl (fun x1 x2=>x1++x2) acc.toArray (List.replicate k its.toArray)=(acc++(List.replicate k its).flatten).toArray
 | 0,acc=>by simp
 | k+1,acc=>by
  have e:acc.toArray++its.toArray=(acc++its).toArray:=by simp
  have e2:(acc++its)++(List.replicate k its).flatten=acc++(List.replicate (k+1) its).flatten:=by
   rw [Xg,Zh,List.append_assoc]
  rw [<- e2,<- tN its k (acc++its),<- e,Xg,List.foldl_cons]
section
variable {X:Cx} {pins:List (Addr×Obj)} {σ:St} {H:Hp} {s:Shared} {l b:Addr} {xs ys zs:List V}
theorem Inv.lset {its its':List Value} {n:Nat} {f:Array Value->Array Value} {t':Nat} (I:Inv X pins σ H s) (hH:H l=some (.lst xs))
  (e:s.heap.get? l=some { cls:=.type "list",data:=.seq its.toArray n }) (hf:f its.toArray=its'.toArray) (hv:aY ys its') (hz:ys.length<=sizeLine) :
  Inv X pins σ (upd H l (.lst ys)) { s with heap:=s.heap.update l (Obj.mapSeq f),toks:=t' }:=by
 have q:=PySem.IsL.update e f
 rw [hf] at q
 refine I.write (x:=l) (e:=l) (by rw [hH]; exact trivial) (.inl rfl) (fun b' u hb hu=>(Jt s.heap (Obj.mapSeq f) (Ne.symm hb)).trans hu) ⟨_,q⟩ ?_
 exact ⟨hz,its',_,hv,q⟩
theorem Inv.lnew {its:List Value} {t':Nat} (I:Inv X pins σ H s) (hv:aY ys its) (hz:ys.length<=sizeLine) :
  Inv X pins σ (upd H s.heap.objs.size (.lst ys)) { s with heap:=s.heap.push { cls:=.type "list",data:=.seq its.toArray },toks:=t' } :=
 I.laid (fun _ _ q=>Qb _ q) (Qg _) ⟨hz,its,0,hv,Qk _ rfl⟩
theorem Inv.fresh (I:Inv X pins σ H s):H s.heap.objs.size=none:=I.hok.fresh (Qg _)
theorem Inv.lstM (I:Inv X pins σ H s) (hH:H l=some (.lst xs)):xs.length<=sizeLine/\∃ (its:List Value) (n:Nat),aY xs its/\xs.length=its.length/\s.heap.get? l=some { cls:=.type "list",data:=.seq its.toArray n }:=by
 obtain ⟨z,its,n,r,e⟩:=I.hok l _ hH
 exact ⟨z,its,n,r,r.length,e⟩
theorem aBt {n:Nat} (h:n<=sizeLine):Builtin.List.listTooLong n=false:=by
 unfold Builtin.List.listTooLong
 exact decide_eq_false (by omega)
end
section
variable {X:Cx}
def zT:V->List V->Hp->VK->Prop:=fun x vs H Q=>∃ l xs y,x=.ref l/\vs = [y]/\H l=some (.lst xs)/\xs.length < sizeLine/\Q .non (upd H l (.lst (xs++[y])))
theorem lD:MtM X "list.append" zT:=by
 intro pins s σ H x vs v us Q I rx rv h
 obtain ⟨l,xs,y,rfl,rfl,hH,hz,q⟩:=h
 cases rx
 obtain ⟨u,rfl,ru⟩:=rv.one
 obtain ⟨z,its,n,r,hl,e⟩:=I.lstM hH
 refine call_meets F.slot_list_append ⟨_,e,rfl⟩ F.entry_list_append (F.args_list_append_2 _ _) (PySem.list_append l its.toArray n u (by rw [Qq]; omega)) ⟨e,?_⟩
 refine ⟨.non,_,I.lset (its':=its++[u]) hH e (by simp) (r.append (.cons ru .nil)) ?_,rfl,q⟩
 rw [Qh,List.length_singleton]
 omega
def aEp:V->List V->Hp->VK->Prop:=fun x vs H Q=>∃ l xs i k y,x=.ref l/\vs = [.int i]/\H l=some (.lst xs)/\-(2^63)<=i/\i < 2^63/\seqIndex? i xs.length=some k/\xs[k]?=some y/\Q y (upd H l (.lst (xs.eraseIdx k)))
theorem wO:MtM X "list.pop" aEp:=by
 intro pins s σ H x vs v us Q I rx rv h
 obtain ⟨l,xs,i,k,y,rfl,rfl,hH,h1,h2,hk,hy,q⟩:=h
 cases rx
 obtain ⟨u,rfl,ru⟩:=rv.one
 obtain ⟨t,rfl⟩:=ru
 obtain ⟨z,its,n,r,hl,e⟩:=I.lstM hH
 obtain ⟨w,hw,rw'⟩:=r.get hy
 refine call_meets F.slot_list_pop ⟨_,e,rfl⟩ F.entry_list_pop (F.args_list_pop_2 _ _)
  (MeetsSeq.list_pop_at l its.toArray n i t k w (fitsIndex_both h1 h2) (by rw [Qq,<- hl]; exact hk) (by rw [<- Array.getElem?_toList]; exact hw) (by rw [Qq]; omega)) ⟨e,?_⟩
 refine ⟨y,_,I.lset (its':=its.eraseIdx k) hH e ?_ (r.eraseIdx k) ?_,rw',q⟩
 ·show its.toArray.eraseIdxIfInBounds k=(its.eraseIdx k).toArray
  rw [List.eraseIdxIfInBounds_toArray]
 ·have:=tM xs k
  omega
def aFx:R2:=fun x y H Q=>∃ l b xs zs,x=.ref l/\y=.ref b/\H l=some (.lst xs)/\H b=some (.lst zs)/\xs.length+zs.length<=sizeLine/\∀ p,H p=none->Q (.ref p) (upd H p (.lst (xs++zs)))
theorem aBu:OpR X (binaryOp .Add) aFx:=by
 intro pins s σ H x y v u Q I rx ry h
 obtain ⟨l,b,xs,zs,rfl,rfl,hH,hB,hz,q⟩:=h
 cases rx
 cases ry
 obtain ⟨z,its,n,r,hl,e⟩:=I.lstM hH
 obtain ⟨z2,its2,n2,r2,hl2,e2⟩:=I.lstM hB
 refine PySem.P.add_list e e2 ?_ (by rw [Qq,Qq]; omega)
 have ea:its.toArray++its2.toArray=(its++its2).toArray:=by simp
 rw [ea]
 exact ⟨.ref _,_,I.lnew (t':=s.toks) (r.append r2) (by rw [Qh]; omega),rfl,q _ I.fresh⟩
def aFy:R2:=fun x y H Q=>∃ l k xs,x=.ref l/\y=.int k/\H l=some (.lst xs)/\-(2^63)<=k/\k < 2^63/\xs.length*k.toNat<=sizeLine /\
 ∀ p,H p=none->Q (.ref p) (upd H p (.lst (List.replicate k.toNat xs).flatten))
theorem aCW {α:Type} (xs:List α) (k:Nat):(List.replicate k xs).flatten.length=k*xs.length:=by
 induction k with
 | zero=>simp
 | succ k ih=>rw [Xg,Zh,Qh,ih,Nat.succ_mul,Nat.add_comm]
theorem aEq:OpR X (binaryOp .Mult) aFy:=by
 intro pins s σ H x y v u Q I rx ry h
 obtain ⟨l,k,xs,rfl,rfl,hH,h1,h2,hz,q⟩:=h
 cases rx
 obtain ⟨t,rfl⟩:=ry
 obtain ⟨z,its,n,r,hl,e⟩:=I.lstM hH
 have hlen:its.toArray.size*k.toNat<=sizeLine:=by rw [Qq,<- hl]; exact hz
 have hcap:¬ its.toArray.size*k.toNat > (2^63 - 1) / 8:=by
  have:(sizeLine:Nat)<=(2^63 - 1) / 8:=by decide
  omega
 have hfit:¬ (!Builtin.List.listFitsIndex k)=true:=by
  rw [fitsIndex_both h1 h2]
  exact Qu
 have hlong:¬ Builtin.List.listTooLong (its.toArray.size*k.toNat)=true:=by
  rw [aBt hlen]
  exact Qu
 have hnew:List.foldl (fun x1 x2=>x1++x2) #[] (List.replicate (if its.toArray.isEmpty=true then 0 else k.toNat) its.toArray)=(List.replicate k.toNat its).flatten.toArray:=by
  have f0:∀ m:Nat,List.foldl (fun x1 x2=>x1++x2) #[] (List.replicate m its.toArray)=(List.replicate m its).flatten.toArray:=fun m=>by
   have:=tN its m []
   rw [Wa] at this
   exact this
  rw [f0]
  cases its with
  | nil=>simp
  | cons a r'=>rw [if_neg (by simp)]
 refine wpAny_binaryOp_repeat_ref (T := "list") (U := "int") (by decide) ⟨_,e,rfl⟩ (fun s'=>typeIs_int s' k t) noFill_list_mul F.fills_int_mul F.slot_int_rmul repeat_list F.slot_int_index.lookup
  (call_meets F.slot_int_rmul (typeIs_int s k t) F.entry_int_rmul (F.args_int_rmul_2 _ _) (int___rmul___int_list k t l its.toArray n)
   ⟨e,rfl,⟨_,e,rfl⟩,call_meets F.slot_list_mul ⟨_,e,rfl⟩ F.entry_list_mul (F.args_list_mul_2 _ _) (AutoListH.list___mul___list_int_3 l its.toArray n k t hfit hcap hlong) ⟨e,?_⟩⟩)
 rw [hnew]
 exact ⟨.ref _,_,I.lnew (t':=s.toks) (r.rep k.toNat) (by rw [aCW,Nat.mul_comm]; exact hz),rfl,q _ I.fresh⟩
end
section
variable {prog:Program} {w:World} {A:Around} {E:Value->Shared->Prop} {s:Shared}
end
section
variable {X:Cx}
end
end L2
namespace Att
open PySem PySem.W PySem.Calls PyProof.Rows
theorem pR {P:Params} {h:Heap}:∀ (ns:List Int) (vs:List Value),WellAll P h vs (ns.map WData.int)->IntsAre vs ns:=by
 intro ns
 induction ns with
 | nil =>
  intro vs w
  rw [Xz] at w
  cases w
  exact .nil
 | cons n ns ih =>
  intro vs w
  rw [Qw] at w
  cases w with
  | cons a b =>
   cases a
   exact .cons _ _ (ih _ b)
theorem aAA {l:OpenLaw} {n:Nat} (hn:l.most=some n) {P:Params} {h:Heap} {args:List WData} {vals:List Value}
  (hpre:l.row.toRowW.claim.pre args=true) (hwl:WellAll P h vals args) :
  ∃ a vs ns,vals = [Value.ref a]/\args = [WData.list (ns.map WData.int)]/\h.get? a=some { cls:=.type "list",data:=.seq vs.toArray }/\IntsAre vs ns/\ns.length<=n:=by
 have hsh:WShape.hasAll [] args [.list .int]=true:=(pre_splitW hpre).1
 have hc:l.pre.holds [] { args:=args }=true:=(pre_splitW hpre).2
 obtain ⟨d,r,rfl,h1,h2⟩:=hasAllW_cons hsh
 obtain rfl:=hasAllW_nil h2
 obtain ⟨xs,rfl,h3⟩:=hasW_list h1
 obtain ⟨ns,rfl⟩:=items_int h3
 have hlen:ns.length<=n:=by
  unfold OpenLaw.pre at hc
  have h4:(WTm.not (.lt (.lit (.int (n:Int))) (.len (.arg 0)))).holds [] { args:=[.list (ns.map .int)] }=true:=by
   have h4:=(holds_andW hc).1
   rw [hn] at h4
   exact h4
  have h5:=condW_of h4 (w_not (w_lt w_lit (w_len_list (w_arg rfl))))
  rw [Qd] at h5
  refine Nat.le_of_not_lt fun q=>?_
  have q':(n:Int) < ((ns.length:Nat):Int):=by omega
  first
   | (rw [decide_eq_true q'] at h5; exact absurd h5 (by decide))
   | (simp at h5; omega)
 cases hwl with
 | cons w1 w2 =>
  cases w2
  cases w1 with
  | list ho hall=>exact ⟨_,_,ns,rfl,rfl,ho,pR ns _ hall,hlen⟩
theorem aAB (l:OpenLaw) (args:List WData):l.row.toRowW.claim.post args (.bool true) args=true :=
 postW_of (r:=l.row.toRowW) (X:=(true==true))
  (show WShape.has [] (.bool true) .bool=true by first | rfl | decide | simp [WShape.has,WShape.arms,WShape.armsAll])
  (show (WTm.eq .res (.lit (.bool true))).value [] { args:=args,res:=some (.bool true),after:=args }=some (.bool (true==true)) from w_eq_bool (w_res rfl) w_lit) rfl
theorem attach_call {l:OpenLaw} {n:Nat} {q:Program} {loose:List Str} {XP:(Str->Option Value)->Heap->Prop} {YP:World->Heap->Prop} {d:DefRec}
  (hn:l.most=some n) (hdf:d.params.defaults = [])
  (call:∀ (w:World) (s₀ s₁:Shared) (mg mb:Str->Option Value) (fa:Addr) (o:Obj) (pm cd doc:Value) (a:Addr) (vs:List Value) (ns:List Int),
   Ground q loose [] XP w s₀ mg mb s₁.heap->YP w s₁.heap ->
   s₁.heap.get? fa=some o->o.data=.func (docDef d.name d.params d.body d.scope pm cd doc)->s₁.heap.CodeRec cd d.name->mg d.name=some (.ref fa) ->
   s₁.heap.get? a=some { cls:=.type "list",data:=.seq vs.toArray }->IntsAre vs ns->ns.length<=n->s₁.gens = #[] ->
   codeAny (model l.prog w) callerA (.call (.ref fa) ⟨[.ref a],[]⟩) (fun r s'=>r=.ok (.ret (.bool true))/\OldK s₁.heap s'.heap/\s'.os=s₁.os/\AllBare s'.gens) s₁) :
  WalkO q loose XP YP l.row.toRowW d [] (fun f vs=>PySem.call f vs):=by
 intro w s₀ s₁ mg mb G Y fa o pm cd doc dV kV ho hd hcd hD hmg hg args vals as hpre hlay hrd hwl hlo
 obtain rfl:dV=.none:=Dflts.none hD hdf
 obtain rfl:kV=.none:=Dflts.noKw hD
 obtain ⟨a,vs,ns,rfl,rfl,hobj,hints,hlen⟩:=aAA hn hpre hwl
 refine enter_call (codeAny_mono (call w s₀ s₁ mg mb fa o pm cd doc a vs ns G Y ho (fd_plain hd) hcd hmg hobj hints hlen hg) fun r s' hq=>?_)
 obtain ⟨rfl,h2,h3,h4⟩:=hq
 exact ⟨.inl ⟨.bool true,.bool true,[],rfl,fun _=>rfl,.bool true,aAB l _,fun _=>⟨List.Pairwise.nil,fun _ hm=>(nomatch hm)⟩⟩,h2,h3,h4⟩
section
variable {prog:Program} {w:World} {A:Around} {E:Value->Shared->Prop} {s:Shared} {K:Frag}
end
end Att
namespace L2
open PySem PySem.Spec PyProof.Rows
theorem tO:∀ {vs:List Value} {ns:List Int},IntsAre vs ns->aY (ns.map V.int) vs
 := by
 intro vs ns h
 induction h with
 | nil=>exact .nil
 | cons n t h ih=>exact .cons ⟨t,rfl⟩ ih
def gL (s:Stmt):Arguments:=match s with
 | .FunctionDef _ a _ _ _ _ _ _ _ _=>a
 | _=>{ posonlyargs:=[],args:=[],vararg:=none,kwonlyargs:=[],kw_defaults:=[],kwarg:=none,defaults:=[] }
def eT (s:Stmt):List Stmt:=match s with
 | .FunctionDef _ _ b _ _ _ _ _ _ _=>b
 | _=>[]
def aH (s:Stmt):Scope:=match s with
 | .FunctionDef _ _ _ _ _ _ sc _ _ _=>sc
 | _=>{ kind:=.function,names:=[],isGenerator:=false,isCoroutine:=false }
abbrev CX0:CXT:=fun _ _ _ _ _ _=>False
abbrev E0:XK:=fun _ _ _=>False
theorem dP {X:Cx}:mQ CX0 X E0:=fun _ _ _ _ _ _ _ h=>h.elim
structure Fun (K:PySem.W.Frag) (x qual:Str) (st:Stmt) (f:Addr) (fd:FuncData):Prop where
 ex:∃ (oc:Value) (od:Option Addr) (kV doc pm:Value) (an:Option Addr) (cdv ct:Value) (osl:Array (Option Value)),
  fd=PySem.W.fnOf x qual (gL st) (eT st) (aH st) .none kV doc pm an cdv ct/\K.lookup f=some ⟨oc,od,.func fd,osl⟩/\PySem.W.codeIn K cdv qual=true
 kp:PySem.W.keepIn K (.ref f)=true
section
variable {P:Program} {w:World} {K:PySem.W.Frag} {mg:Str->Option Value} {base:Heap}
theorem Fun.ok {x qual:Str} {st:Stmt} {f:Addr} {fd:FuncData} {N ps:List Str} {k:Nat} {sp:Sp} (F:Fun K x qual st f fd) (S:FnScope N ps (aH st)) (len:∀ vs H Q E,sp vs H Q E->vs.length=ps.length)
  (hbody:∀ (cdv:Value) (A:Around) (outer:List Env) (s:Shared) (H:Hp) (vs:List V) (Q:VK) (E:XK),Room k (A.deeper (envOfC qual (aH st) s.heap.objs.size f cdv))->sp vs H Q E ->
   ∃ t,PSs (yI CX0 P w K mg base N qual (aH st) f cdv A outer s H E).nox (eT st) t/\t { nx:=fun _ H'=>Q .non H',rt:=Q } (start N vs) H):FnOk P w K mg base CX0 (k+1) f fd ps sp:=by
 obtain ⟨oc,od,kV,doc,pm,an,cdv,ct,osl,rfl,lk,hcd⟩:=F.ex
 refine aDQ lk hcd S len fun A outer s H vs Q E hr hsp=>?_
 obtain ⟨t,h,q⟩:=hbody cdv A outer s H vs Q E hr hsp
 exact ⟨t,h.nox,q⟩
theorem Fun.binds {x qual:Str} {st:Stmt} {f:Addr} {fd:FuncData} {ps:List Str} (F:Fun K x qual st f fd)
  (h:∀ (kV doc pm:Value) (an:Option Addr) (cdv ct:Value) (us:List Value),us.length=ps.length->bindArgs (PySem.W.fnOf x qual (gL st) (eT st) (aH st) .none kV doc pm an cdv ct) ⟨us,[]⟩=pure (ps.zip us)):kH K fd ps []:=by
 obtain ⟨oc,od,kV,doc,pm,an,cdv,ct,osl,rfl,lk,hcd⟩:=F.ex
 exact .all (h kV doc pm an cdv ct)
theorem yK {x qual:Str} {st:Stmt} {f:Addr} {oc:Value} {od an:Option Addr} {osl:Array (Option Value)} {kV doc pm cdv ct:Value} (l:K.lookup f=some ⟨oc,od,.func (PySem.W.fnOf x qual (gL st) (eT st) (aH st) .none kV doc pm an cdv ct),osl⟩)
  (c:PySem.W.codeIn K cdv qual=true) (k:PySem.W.keepIn K (.ref f)=true):Fun K x qual st f (PySem.W.fnOf x qual (gL st) (eT st) (aH st) .none kV doc pm an cdv ct):=⟨⟨oc,od,kV,doc,pm,an,cdv,ct,osl,rfl,l,c⟩,k⟩
end
theorem eC {A:Around} {k:Nat} (hr:Room k A):A.units+1 < cLine:=Zd (Nat.add_le_add_left (by decide:1<=64) _) hr.units
section
variable {X:Cx}
theorem pv (i:Nat) {x:Str} {pos:Pos} (hN:X.N[i]?=some x:=by rfl) (hv:Vis X.env.scope x:=by first | exact Or.inl rfl | exact Or.inr (Or.inl rfl) | exact Or.inr (Or.inr rfl)) (hd:(x==("__debug__" : Str))=false:=by decide)
  (hcd:(x==("__classdict__" : Str))=false:=by decide):PE X (.Name x pos) (cS i):=aD9 hN hv hd hcd
end
theorem mS {A B:Prop} (h:B):if false=true then A else B:=by
 rw [if_neg Qu]
 exact h
theorem iQ {A B:Prop} (h:A):if true=true then A else B:=by
 rw [if_pos rfl]
 exact h
theorem fF {c A B:Prop} [Decidable c] (h1:c->A) (h2:¬ c->B):if c then A else B:=by
 by_cases h:c
 ·rw [if_pos h]
  exact h1 h
 ·rw [if_neg h]
  exact h2 h
def aG (H H':Hp):Prop:=∀ b o,H b=some o->H' b=some o
theorem aG.refl (H:Hp):aG H H:=fun _ _ h=>h
theorem aG.trans {H H1 H2:Hp} (a:aG H H1) (b:aG H1 H2):aG H H2:=fun c o h=>b c o (a c o h)
theorem aG.free {H H':Hp} (e:aG H H') {l:Addr} (h:H' l=Option.none):H l=Option.none:=by
 cases q:H l with
 | none=>rfl
 | some o =>
  rw [e l o q] at h
  cases h
theorem aG.seq {K:PySem.W.Frag} {H H':Hp} {a:Addr} {xs:List V} (e:aG H H') (h:SqL K H a xs):SqL K H' a xs:=by
 rcases h with (h | ⟨o,h⟩) | h
 ·exact .inl (.inl (e _ _ h))
 ·exact .inl (.inr ⟨o,e _ _ h⟩)
 ·exact .inr h
def eA (env:Env):List (Str×NameKind)->List (Str×Addr)->List (Str×Addr)
 | [],acc=>acc
 | (n,k)::r,acc=>if k==.free then (match env.cells.lookup n with | some c=>eA env r ((n,c)::acc) | none=>eA env r acc) else eA env r acc
theorem wP {env:Env}:∀ (names:List (Str×NameKind)) (acc:List (Str×Addr)),(∀ y∈names,y.2=.free->∃ c,env.cells.lookup y.1=some c) ->
  (forIn names acc fun (x:Str×NameKind) (r:List (Str×Addr))=>(match x with
   | (name,kind)=>if (kind==NameKind.free)=true then (do let a<-cellOf env name; pure (ForInStep.yield ((name,a)::r))) else pure (ForInStep.yield r):Sem (ForInStep (List (Str×Addr)))))=(pure (eA env names acc):Sem _)
 | [],acc,_=>rfl
 | (n,k)::r,acc,h=>by
  have ih:=fun acc=>wP r acc fun y hy=>h y (Qo _ hy)
  rw [Xw]
  by_cases hk:(k==NameKind.free)=true
  ·obtain ⟨c,hc⟩:=h (n,k) Qr (by simpa using hk)
   have e1:eA env ((n,k)::r) acc=eA env r ((n,c)::acc):=by
    show (if k==.free then _ else _)=_
    rw [if_pos hk]; simp only at hc; rw [hc]
   simp only at hc
   rw [e1,<- ih]
   simp only [hk,if_true,cellOf,hc]
   rfl
  ·have e1:eA env ((n,k)::r) acc=eA env r acc:=by
    show (if k==.free then _ else _)=_
    rw [if_neg hk]
   rw [e1,<- ih]
   simp only [hk,if_false]
   rfl
theorem yL {env:Env} {scope:Scope} (h:∀ y∈scope.names,y.2=.free->∃ c,env.cells.lookup y.1=some c):closureFor scope env=pure (eA env scope.names []):=by
 unfold closureFor
 have e:=wP scope.names [] h
 show (forIn scope.names [] _ >>= _)=_
 exact (congrArg (fun z=>z >>= fun r=>pure r) e).trans rfl
theorem jA {env:Env}:∀ (names:List (Str×NameKind)) (acc:List (Str×Addr)) (n:Str) (c:Addr),(n,c)∈eA env names acc->(n,c)∈acc∨env.cells.lookup n=some c
 | [],_,_,_,h=>.inl h
 | (m,k)::r,acc,n,c,h=>by
  by_cases hk:(k==NameKind.free)=true
  ·rw [show eA env ((m,k)::r) acc=(match env.cells.lookup m with | some c=>eA env r ((m,c)::acc) | none=>eA env r acc) from if_pos hk] at h
   cases e:env.cells.lookup m with
   | none=>rw [e] at h; exact jA r acc n c h
   | some d =>
    rw [e] at h
    rcases jA r _ n c h with q | q
    ·rcases Qm.mp q with q | q
     ·cases q; exact .inr e
     ·exact .inl q
    ·exact .inr q
  ·rw [show eA env ((m,k)::r) acc=eA env r acc from if_neg hk] at h
   exact jA r acc n c h
theorem kJ {env:Env}:∀ (names:List (Str×NameKind)) (acc:List (Str×Addr)) (n:Str),((∃ c,(n,c)∈acc)∨((n,NameKind.free)∈names/\∃ c,env.cells.lookup n=some c))->∃ c,(n,c)∈eA env names acc
 | [],_,_,h=>by
  rcases h with h | ⟨h,_⟩
  ·exact h
  ·cases h
 | (m,k)::r,acc,n,h=>by
  by_cases hk:(k==NameKind.free)=true
  ·rw [show eA env ((m,k)::r) acc=(match env.cells.lookup m with | some c=>eA env r ((m,c)::acc) | none=>eA env r acc) from if_pos hk]
   cases e:env.cells.lookup m with
   | none =>
    refine kJ r acc n ?_
    rcases h with h | ⟨h,c,hc⟩
    ·exact .inl h
    ·rcases Qm.mp h with h | h
     ·cases h; rw [e] at hc; cases hc
     ·exact .inr ⟨h,c,hc⟩
   | some d =>
    refine kJ r _ n ?_
    rcases h with ⟨c,h⟩ | ⟨h,c,hc⟩
    ·exact .inl ⟨c,Qo _ h⟩
    ·rcases Qm.mp h with h | h
     ·cases h; exact .inl ⟨d,Qr⟩
     ·exact .inr ⟨h,c,hc⟩
  ·rw [show eA env ((m,k)::r) acc=eA env r acc from if_neg hk]
   refine kJ r acc n ?_
   rcases h with h | ⟨h,c,hc⟩
   ·exact .inl h
   ·rcases Qm.mp h with h | h
    ·cases h; exact absurd rfl hk
    ·exact .inr ⟨h,c,hc⟩
theorem gS {β:Type}:∀ {l:List (Str×β)} {a:Str} {b:β},l.lookup a=some b->(a,b)∈l:=PySem.mem_of_lookup_some
theorem kK {β:Type}:∀ {l:List (Str×β)} {a:Str} {b:β},(a,b)∈l->∃ c,l.lookup a=some c
 | (k,v)::l,a,b,h=>by
  rw [Jp]
  by_cases e:(a==k)=true
  ·rw [e]; exact ⟨v,rfl⟩
  ·have e':(a==k)=false:=by simpa using e
   rw [e']
   rcases Qm.mp h with h | h
   ·cases h; simp at e
   ·exact kK h
theorem iH {env:Env} (x:Str):∀ (names:List (Str×NameKind)),
  (names.map fun (n,k)=>if (k==NameKind.free && env.scope.kind==.function && env.kindOf n==some .cell) then (n,NameKind.cell) else (n,k)).lookup x =
   (names.lookup x).map fun k=>if (k==NameKind.free && env.scope.kind==.function && env.kindOf x==some .cell) then NameKind.cell else k
 | []=>rfl
 | (n,k)::r=>by
  have ih:=iH (env:=env) x r
  rw [Qw]
  by_cases e:(x==n)=true
  ·have en:x=n:=by simpa using e
   subst en
   dsimp only
   by_cases c:(k==NameKind.free && env.scope.kind==.function && env.kindOf x==some .cell)=true
   ·rw [if_pos c,Jp,Jp,e]
    simp only [Xj,c,if_true]
   ·rw [if_neg c,Jp,Jp,e]
    simp only [Xj,c]
    rfl
  ·have e':(x==n)=false:=by simpa using e
   dsimp only
   by_cases c:(k==NameKind.free && env.scope.kind==.function && env.kindOf n==some .cell)=true
   ·rw [if_pos c,Jp,Jp,e']; exact ih
   ·rw [if_neg c,Jp,Jp,e']; exact ih
def aU (X:Cx) (scope:Scope) (N:List Str) (C:Addr) (s0:Shared) (H0:Hp) (fp:List Addr):Cx where
 prog:=X.prog
 w:=X.w
 K:=X.K
 mg:=X.mg
 base:=X.base
 A:=X.A
 N:=N
 s₀:=s0
 H₀:=H0
 env:=compEnvC scope (eA X.env scope.names []) C X.env
 outer:=X.stack
 stack:=X.stack
 ex:=fp
 fn:=fun _=>false
 calm:=X.calm
 pn:=[]
 xe:=fun _ _=>False
def oM (sc scope:Scope) (own:List Str) (frn:List Str):Bool :=
 scope.kind==.function && scope.names.all (fun y=>y.2 !=.cell) && scope.names.all (fun y=>y.2 !=.local || scope.names.lookup y.1==some .local) &&
 scope.names.all (fun y=>y.2 !=.free || sc.names.lookup y.1==some .cell || sc.names.lookup y.1==some .free) && decide (own++frn).Nodup &&
 own.all (fun x=>scope.names.lookup x==some .local) && frn.all (fun x=>scope.names.lookup x==some .free)
def blk (own:Nat) (fr:List Nat) (σ:St):St:=List.replicate own none++fr.map fun j=>(σ[j]?).join
structure CompOk (X:Cx) (scope:Scope) (own:List Str) (fr:List Nat) (frn:List Str):Prop where
 ck:oM X.env.scope scope own frn=true
 ix:∀ (k:Nat) (x:Str),frn[k]?=some x->∃ j:Nat,fr[k]?=some j/\X.N[j]?=some x
 len:fr.length=frn.length
section
variable {X:Cx} {scope:Scope} {own frn:List Str} {fr:List Nat}
theorem CompOk.parts (S:CompOk X scope own fr frn):scope.kind=.function/\(∀ y∈scope.names,y.2≠.cell)/\(∀ y∈scope.names,y.2=.local->scope.names.lookup y.1=some .local) /\
  (∀ y∈scope.names,y.2=.free->X.env.scope.names.lookup y.1=some .cell∨X.env.scope.names.lookup y.1=some .free)/\(own++frn).Nodup/\(∀ x∈own,scope.names.lookup x=some .local)/\∀ x∈frn,scope.names.lookup x=some .free:=by
 have h:=S.ck
 unfold oM at h
 simp only [Ji,Xb,decide_eq_true_eq,Wb,bne_iff_ne,ne_eq,beq_iff_eq] at h
 obtain ⟨⟨⟨⟨⟨⟨h1,h2⟩,h3⟩,h4⟩,h5⟩,h6⟩,h7⟩:=h
 refine ⟨h1,h2,fun y hy e=>?_,fun y hy e=>?_,h5,h6,h7⟩
 ·rcases h3 y hy with z | z
  ·exact absurd e z
  ·exact z
 ·rcases h4 y hy with (z | z) | z
  ·exact absurd e z
  ·exact .inl z
  ·exact .inr z
theorem yM (S:CompOk X scope own fr frn) (σ:St):(blk own.length fr σ).length=(own++frn).length:=by
 unfold blk
 rw [Qh,Qh,Jj,Qd,S.len]
theorem wQ {pins:List (Addr×Obj)} {σ:St} {H:Hp} {s:Shared} {fp:List Addr} {h1:Heap} {tk:Nat} {C D:Addr} {oD:Obj} {m:Str->Option Value} (I:Inv X pins σ H s) (S:CompOk X scope own fr frn)
  (hfp:∀ b∈fp,mL X pins H b) (hlt:∀ b∈fp,b < s.heap.objs.size) (hC:s.heap.objs.size<=C) (hn:h1.Ns C m) (hk:∀ b o,s.heap.get? b=some o->h1.get? b=some o)
  (hD:s.heap.objs.size<=D) (hDC:D≠C) (hoD:h1.get? D=some oD) (hdD:∀ v,oD.data≠.cell v) :
  Inv (aU X scope (own++frn) C s H fp) [(D,oD)] (blk own.length fr σ) H { s with heap:=h1,toks:=tk }:=by
 obtain ⟨p1,p2,p3,p4,p5,p6,p7⟩:=S.parts
 have below:∀ b,b < s.heap.objs.size->b≠C:=fun b hb z=>Je _ (Qn (z ▸ hb) hC)
 have clsub:∀ x c,(eA X.env scope.names []).lookup x=some c->X.env.cells.lookup x=some c:=fun x c e=>by
  rcases jA _ _ _ _ (gS e) with q | q
  ·cases q
  ·exact q
 have clt:∀ x c,X.env.cells.lookup x=some c->c < s.heap.objs.size:=fun x c e=>by
  obtain ⟨v,q⟩:=I.cell x c e
  exact q.lt
 have nstk:∀ b∈fp,b∉frs X.stack:=fun b hb z=>by
  obtain ⟨_,f1,f2,_⟩:=hfp b hb
  rcases Qm.mp (I.stkSub b z) with e | e
  ·exact f1 e
  ·exact f2 e
 have Dfs:D∉frs X.stack:=fun z=>by
  have q:=I.stkSub D z
  rcases Qm.mp q with e | e
  ·exact Je _ (Qn (e ▸ I.lt:D < _) hD)
  ·exact I.nofs hD e
 refine ⟨⟨I.ok.mod,p1,I.ok.glob,I.ok.blt,hC,fun x y c e1 e2=>I.ok.inj x y c (clsub x c e1) (clsub y c e2),fun x hx=>?_,fun x c e=>absurd e (by show ¬ (false=true); decide),I.ok.hd,I.ok.frames,.inl rfl,fun b hb=>?_,I.bs,Ja I.ok.bsz I.sz,fun b o e hb=>?_,nstk,I.stack,I.stkFree⟩,
  rfl,I.bare,Un.kept hk,⟨m,hn,fun i x v e1 e2 e3=>?_⟩,fun x c e=>?_,I.hok.fresh hC,fun x c e=>I.freeC x c (clsub x c e),fun p hp=>?_,I.hok.kept hk,yM S σ⟩
 ·-- has
  have hx':(relabel scope X.env).names.lookup x=some .cell∨(relabel scope X.env).names.lookup x=some .free:=hx
  have hl:(relabel scope X.env).names.lookup x=_:=iH (env:=X.env) x scope.names
  rw [hl] at hx'
  cases e:scope.names.lookup x with
  | none =>
   rw [e] at hx'
   rcases hx' with z | z <;> cases z
  | some k =>
   have hmem:=gS e
   have hkf:k=.free:=by
    rw [e] at hx'
    simp only [Xj,Option.some.injEq] at hx'
    by_cases c:(k==NameKind.free && X.env.scope.kind==.function && X.env.kindOf x==some .cell)=true
    ·simp only [Ji,beq_iff_eq] at c
     exact c.1.1
    ·rw [if_neg c] at hx'
     rcases hx' with z | z
     ·exact absurd z (p2 _ hmem)
     ·exact z
   subst hkf
   obtain ⟨c,hc⟩:=I.ok.has x (p4 _ hmem rfl)
   obtain ⟨c',hc'⟩:=kJ (env:=X.env) scope.names [] x (.inr ⟨hmem,c,hc⟩)
   exact kK hc'
 ·-- exf
  refine ⟨below b (hlt b hb),fun x c e=>?_⟩
  exact (hfp b hb).2.2.2.2.1 x c (clsub x c e)
 ·-- noex
  rcases (hfp b hb).2.2.2.1 with z | z
  ·exact I.ok.noex b o e z
  ·exact absurd (Qn (Qj (I.ok.bs b o e).1) z) (Je _)
 ·-- loc
  show ∃ u,bB v u/\aEU _ _ _ x u
  have e1':(own++frn)[i]?=some x:=e1
  have e2':(blk own.length fr σ)[i]?=some (some v):=e2
  unfold blk at e2'
  by_cases hi:i < own.length
  ·rw [Ql (by simpa using hi),Xo] at e2'
   rw [if_pos hi] at e2'
   cases e2'
  ·rw [Qt (by simpa using hi)] at e2'
   rw [Qt (by omega)] at e1'
   rw [Jj,Qi] at e2'
   obtain ⟨j,hj1,hj2⟩:=S.ix _ _ e1'
   rw [hj1] at e2'
   simp only [Xj,Option.some.injEq] at e2'
   have hσ:σ[j]?=some (some v):=by
    cases q:σ[j]? with
    | none=>rw [q] at e2'; cases e2'
    | some w=>rw [q] at e2'; exact congrArg some e2'
   have hfree:=p7 x (Qe e1')
   have hmem:=gS hfree
   have kx:=p4 _ hmem rfl
   have vis:Vis X.env.scope x:=by
    rcases kx with z | z
    ·exact .inr (.inl z)
    ·exact .inr (.inr z)
   obtain ⟨m0,hn0,hl0⟩:=I.loc
   obtain ⟨u,ru,lk⟩:=hl0 j x v hj2 hσ vis
   refine ⟨u,ru,.inr ⟨?_,?_⟩⟩
   ·show (relabel scope X.env).names.lookup x=some .cell∨(relabel scope X.env).names.lookup x=some .free
    have hl:(relabel scope X.env).names.lookup x=_:=iH (env:=X.env) x scope.names
    rw [hl,hfree]
    simp only [Xj,Option.some.injEq]
    by_cases c:(NameKind.free==NameKind.free && X.env.scope.kind==.function && X.env.kindOf x==some .cell)=true
    ·rw [if_pos c]; exact .inl rfl
    ·rw [if_neg c]; exact .inr rfl
   ·rcases lk with ⟨kl,_⟩ | ⟨_,c,hc,hcell⟩
    ·have kl':X.env.scope.names.lookup x=some .local:=kl
     rcases kx with z | z <;> (have z':X.env.scope.names.lookup x=_:=z; rw [kl'] at z'; cases z')
    ·obtain ⟨c',hc'⟩:=kJ (env:=X.env) scope.names [] x (.inr ⟨hmem,c,hc⟩)
     obtain ⟨c2,hc2⟩:=kK hc'
     have ec:c2=c:=by
      have:=clsub x c2 hc2
      rw [hc] at this
      exact (Option.some.inj this).symm
     subst ec
     obtain ⟨oc,ho,hd⟩:=hcell
     exact ⟨c2,hc2,oc,hk _ _ ho,hd⟩
 ·obtain ⟨v,o,ho,hd⟩:=I.cell x c (clsub x c e)
  exact ⟨v,o,hk _ _ ho,hd⟩
 ·have hp':p∈([]:List (Addr×Obj))++[(D,oD)]:=hp
  simp only [Wa,Qs] at hp'
  subst hp'
  exact ⟨hoD,I.hok.fresh hD,hDC,Dfs,hdD⟩
end
theorem wR {prog:Program} {w:World} {A:Around} {R:Result->Shared->Prop} {s:Shared} {elt target iter:Expr} {ifs:List Expr} {scope:Scope} {pos:Pos} {it acc:Value} {env:Env} (I:Nat->Shared->Prop)
  (turn:∀ n s,I n s->wpAny (model prog w) A (pyNext it) (fun r s₁=>match r with
   | none=>R (.ok .next) s₁
   | some v=>wpAny (model prog w) A (letOwnedTupleGo target it v) (fun _ s₁'=>wpAny (model prog w) A (assign target env v) (fun _ s₂ =>
     wpAny (model prog w) A (forIn ifs true fun c r=>if r=true then do let ok<-isTrue c env (eval c env); pure (ForInStep.yield ok) else pure (ForInStep.yield r)) (fun ok s₃ =>
      if ok=true then wpAny (model prog w) A (eval elt env) (fun x s₄ =>
       wpAny (model prog w) A (call (.builtin "list.append") [acc,x]) (fun _ s₅=>∃ m,m < n/\I m s₅) (fun _ _=>False) s₄) (fun _ _=>False) s₃
      else ∃ m,m < n/\I m s₃) (fun _ _=>False) s₂) (fun _ _=>False) s₁') (fun _ _=>False) s₁) (fun _ _=>False) s)
  (n:Nat) (h:I n s) :
  codeAny (model prog w) A (.compLoop (.ListComp elt [⟨target,iter,ifs,0⟩] scope pos) 0 it acc env) R s:=by
 refine codeAny_loop rfl I (fun n s hI=>?_) n h
 show wpAny _ A ((compTurn (.ListComp elt [⟨target,iter,ifs,0⟩] scope pos) 0 it acc env).onRaise (fun x=>do noteFrame x env; theTreesLotGoes x)) _ _ s
 refine wpAny_noted ?_
 rw [compTurn_list]
 refine wpAny_bind (wpAny_standAt (wpAny_bind (wpAny_mono (turn n s hI) (fun r s₁ h₁=>?_) fun _ _ h'=>h'.elim)))
 cases r with
 | none=>exact wpAny_pure h₁
 | some v =>
  refine wpAny_bind (wpAny_mono h₁ (fun _ s₁' h₁'=>?_) fun _ _ h'=>h'.elim)
  refine wpAny_bind (wpAny_mono h₁' (fun _ s₂ h₂=>wpAny_bind (wpAny_mono h₂ (fun ok s₃ h₃=>?_) fun _ _ h'=>h'.elim)) fun _ _ h'=>h'.elim)
  cases ok with
  | false=>exact wpAny_pure ⟨rfl,h₃⟩
  | true =>
   exact wpAny_bind (wpAny_bind (wpAny_mono h₃ (fun x s₄ h₄=>wpAny_bind (wpAny_mono h₄ (fun _ s₅ h₅=>wpAny_pure (wpAny_pure ⟨rfl,h₅⟩)) fun _ _ h'=>h'.elim)) fun _ _ h'=>h'.elim))
def PF (X:Cx) (ifs:List Expr) (t:TT):Prop :=
 ∀ (pins:List (Addr×Obj)) (s:Shared) (σ:St) (H:Hp) (Q:Bool->Hp->Prop),Inv X pins σ H s->t σ H Q ->
  wpAny (model X.prog X.w) X.A (forIn ifs true fun c r=>if r=true then do let ok<-isTrue c X.env (eval c X.env); pure (ForInStep.yield ok) else pure (ForInStep.yield r)) (TP X pins σ Q) X.xe s
def wS:TT:=fun _ H Q=>Q true H
theorem dQ {X:Cx}:PF X [] wS:=fun _ _ _ H _ I h=>wpAny_tests_nil ⟨H,I,h⟩
theorem qV {X:Cx} {c:Expr} {t:TT} (h:PT X c t):PF X [c] t:=fun pins s σ H Q I hq=>wpAny_tests_one (h pins s σ H Q I hq)
def aBv (own:Nat) (fr:List Nat) (wi:TI) (g:TG) (tt:TT) (te:TE):TE:=fun σ H Q=>wi σ H fun J H1=>∃ W:Nat->Nat->List V->St->Hp->Prop,(∃ m,W 0 m [] (blk own fr σ) H1)/\∀ i m ys σ' H,W i m ys σ' H ->
 (J.stop i H/\∀ p,H p=none->Q (.ref p) (upd H p (.lst ys))) ∨
 (J.go i H/\∃ N:List V->St->Hp->Prop,(∀ ys' σ2 H2,N ys' σ2 H2->∃ m',m' < m/\W (i+1) m' ys' σ2 H2) /\
  ∀ x H',J.yld i H x H'->g x σ' H' fun σ2 H2=>tt σ2 H2 fun b H3=>if b=true then te σ2 H3 fun y H4=>ys.length < sizeLine/\N (ys++[y]) σ2 H4 else N ys σ2 H3)
section
variable {X:Cx} {scope:Scope} {own frn:List Str} {fr:List Nat} {elt tg iter:Expr} {ifs:List Expr} {pos:Pos} {wi:TI} {g:TG} {tt:TT} {te:TE}
theorem Inv.track {pins:List (Addr×Obj)} {σ:St} {H:Hp} {s:Shared} {D:Addr} {ys:List V} {its:Array Value} (I:Inv X pins σ H s) (hD:s.heap.PlainList D its) (hv:aY ys its.toList) (hz:ys.length<=sizeLine) (hn:H D=none) (hL:D≠X.env.locals)
  (h1:X.s₀.heap.objs.size<=D) (h2:∀ x c,X.env.cells.lookup x=some c->c≠D) (h3:∀ p∈X.pn++pins,p.1≠D):Inv X pins σ (upd H D (.lst ys)) s:=by
 have ne:∀ b u,H b=some u->b≠D:=fun b u e z=>by rw [z,hn] at e; cases e
 refine I.step (g':=s.gens) (d':=s.drawn) (t':=s.toks) (h':=s.heap) (ch:=[D]) (fun b hb=>?_) (fun b o _ _ _ e _=>e) (fun b o _ _ _ e _=>⟨o.slots,e⟩) (fun b o hc _ n=>?_) (fun b o _ e=>⟨o,e⟩)
  (fun b xs e=>by rw [aD (ne b _ e)]; exact e) (fun b o u e=>by rw [aD (ne b _ e)]; exact e) (fun b ps e=>⟨#[],by rw [aD (ne b _ e),e]; simp⟩) (fun _ h=>h) (fun b u e=>?_) I.bare
 ·have e:b=D:=by simpa using hb
  subst e
  exact ⟨.inr h1,hL,h2,h3⟩
 ·rw [aD (by simpa using hc)]; exact n
 ·by_cases hb:b=D
  ·subst hb
   rw [aB] at e; cases e
   obtain ⟨n,e⟩:=hD
   exact ⟨hz,its.toList,n,hv,by simpa using e⟩
  ·rw [aD hb] at e
   exact (I.hok b u e).stay (fun c v _ q=>q) (fun c q=>by rw [aD (ne c _ q)]; exact q) fun c xs q=>by rw [aD (ne c _ q)]; exact q
theorem qW {pins:List (Addr×Obj)} {σ:St} {H2:Hp} {s2:Shared} {it:Addr} {fp:List Addr} {tn:Nat->Heap->Prop} {J:It} {RR:Value->Addr->Result->Shared->Prop} {E:Value->Shared->Prop} {Q:Hp->List V->Prop}
  (S:CompOk X scope own fr frn) (hc:X.calm=true) (I2:Inv X pins σ H2 s2) (T:Turn X.prog X.w X.K tg J fp it tn) (st2:tn 0 s2.heap) (f2:∀ b∈fp,mL X pins H2 b)
  (hg:∀ C s0 H0 fp,PG (aU X scope (own++frn) C s0 H0 fp) tg g) (ht:∀ C s0 H0 fp,PF (aU X scope (own++frn) C s0 H0 fp) ifs tt) (he:∀ C s0 H0 fp,PE (aU X scope (own++frn) C s0 H0 fp) elt te)
  (w:∃ W:Nat->Nat->List V->St->Hp->Prop,(∃ m,W 0 m [] (blk own.length fr σ) H2)/\∀ i m ys σ' H,W i m ys σ' H ->
   (J.stop i H/\Q H ys) ∨
   (J.go i H/\∃ N:List V->St->Hp->Prop,(∀ ys' σ2 H2,N ys' σ2 H2->∃ m',m' < m/\W (i+1) m' ys' σ2 H2) /\
    ∀ x H',J.yld i H x H'->g x σ' H' fun σ2 H2=>tt σ2 H2 fun b H3=>if b=true then te σ2 H3 fun y H4=>ys.length < sizeLine/\N (ys++[y]) σ2 H4 else N ys σ2 H3))
  (hRR:∀ (C D:Addr) (s':Shared) (H':Hp) (ys:List V) (its:Array Value) (m:Str->Option Value),s2.heap.objs.size<=C->s2.heap.objs.size<=D->D≠C->s'.heap.Ns C m->H' C=none->H' D=none->s'.heap.PlainList D its->aY ys its.toList->ys.length<=sizeLine ->
   Inv X pins σ H' s'->Q H' ys->RR (.ref D) C (.ok .next) s') :
  wpAny (model X.prog X.w) X.A (newList []) (fun acc s₃=>wpAny (model X.prog X.w) X.A (newFunctionEnv scope X.env.globals (eA X.env scope.names []) [] X.env.qual none .none (some X.env)) (fun cenv s₄ =>
   codeAny (model X.prog X.w) X.A (.compStart (.ListComp elt [⟨tg,iter,ifs,0⟩] scope pos) 0 (.ref it) acc { cenv with scope:=relabel scope X.env }) (RR acc cenv.locals) s₄) E s₃) E s2:=by
 obtain ⟨p1,p2,p3,p4,p5,p6,p7⟩:=S.parts
 obtain ⟨W,⟨m0,w0⟩,turn⟩:=w
 refine wpAny_newObj_type (wpAny_newFunctionEnv p2 (by intro y hy; simp at hy) (fun h₁ hns₁ hsb₁=>?_) p1)
 dsimp only at hns₁ hsb₁ ⊢
 generalize hH2:s2.heap.push { cls:=.type "list",dict:=none,data:=.seq ([]:List Value).toArray }=HD at hns₁ hsb₁ ⊢
 have hCs:HD.objs.size=s2.heap.objs.size+1:=by rw [<- hH2,Jn]
 have hDC:s2.heap.objs.size≠HD.objs.size:=by omega
 have hCle:s2.heap.objs.size<=HD.objs.size:=by omega
 have below:∀ b,b < s2.heap.objs.size->b≠HD.objs.size/\b≠s2.heap.objs.size:=fun b hb=>⟨by omega,by omega⟩
 have old:∀ b o,s2.heap.get? b=some o->h₁.get? b=some o:=fun b o e=>hsb₁.extBut b o (below b (Qj e)).1 (Qb _ (hH2 ▸ Qb _ e))
 have hacc:h₁.get? s2.heap.objs.size=some { cls:=.type "list",data:=.seq ([]:List Value).toArray }:=hsb₁.extBut _ _ hDC (Qb _ (hH2 ▸ Qk _ rfl))
 have flt:∀ b∈fp,b < s2.heap.objs.size:=fun b hb=>by
  obtain ⟨o,e,_⟩:=T.obj _ _ st2 b hb
  exact Qj e
 generalize hDg:s2.heap.objs.size=D at *
 generalize hCg:HD.objs.size=C at *
 have st3:tn 0 h₁:=T.keep _ _ _ st2 fun b _ o e=>old b o e
 -- facts of the block
 have clsub:∀ x c,(eA X.env scope.names []).lookup x=some c->X.env.cells.lookup x=some c:=fun x c e=>by
  rcases jA _ _ _ _ (gS e) with q | q
  ·cases q
  ·exact q
 have cD:∀ x c,(eA X.env scope.names []).lookup x=some c->c≠D:=fun x c e z=>by
  obtain ⟨v,q⟩:=I2.cell x c (clsub x c e)
  exact Je _ (Qn q.lt (by rw [hDg,z]; exact Qg _))
 have loop:∀ s₃:Shared,s₃={ s2 with heap:=h₁,toks:=s2.toks+([]:List (Str×Value)).length } ->
   codeAny (model X.prog X.w) X.A (.compLoop (.ListComp elt [⟨tg,iter,ifs,0⟩] scope pos) 0 (.ref it) (.ref D) (compEnvC scope (eA X.env scope.names []) C X.env)) (RR (.ref D) C) s₃:=by
  rintro s₃ rfl
  have I3:Inv (aU X scope (own++frn) C s2 H2 fp) [(D,_)] (blk own.length fr σ) H2 { s2 with heap:=h₁,toks:=s2.toks+([]:List (Str×Value)).length } :=
   wQ (m:=fun _=>none) I2 S f2 (by rw [hDg]; exact flt) (by rw [hDg]; exact hCle) (hns₁:h₁.Ns C _) old (by rw [hDg]; exact Qg _) hDC hacc (fun v z=>by cases z)
  have stat:∀ {H':Hp} {pl:List (Addr×Obj)},(∀ p∈pl,p.1=D)->(∀ b∈fp,H' b=none)->∀ b∈fp,mL (aU X scope (own++frn) C s2 H2 fp) pl H' b:=fun {H' pl} hpl hn b hb=>by
   refine ⟨hn b hb,(below b (flt b hb)).1,fun z=>?_,.inl hb,fun x c e=>(f2 b hb).2.2.2.2.1 x c (clsub x c e),fun p hp=>?_⟩
   ·have z':b∈frs X.stack:=z
    rcases Qm.mp (I2.stkSub b z') with e | e
    ·exact (f2 b hb).2.1 e
    ·exact (f2 b hb).2.2.1 e
   ·have hp':p∈pl:=by simpa [aU] using hp
    rw [hpl p hp']
    exact Ne.symm (below b (flt b hb)).2
  refine wR (env:=compEnvC scope (eA X.env scope.names []) C X.env) (fun n s'=>∃ i σ' H' ys its o,Inv (aU X scope (own++frn) C s2 H2 fp) [(D,o)] σ' H' s'/\s'.heap.PlainList D its/\aY ys its.toList/\ys.length<=sizeLine/\tn i s'.heap/\(∀ b∈fp,H' b=none)/\W i n ys σ' H') ?_ m0
   ⟨0,_,H2,[],#[],_,I3,⟨_,hacc⟩,.nil,Jk _,st3,fun b hb=>(f2 b hb).1,w0⟩
  rintro n s5 ⟨i,σ5,H5,ys,its,o,I5,pl5,v5,z5,st5,fr5,w5⟩
  have one:∀ {o:Obj},∀ p∈[(D,o)],p.1=D:=fun p hp=>by
   have e:=Qs.mp hp
   rw [e]
  rcases turn i n ys σ5 H5 w5 with ⟨stop,qn⟩ | ⟨go,N,hN,step⟩
  ·refine wpAny_mono (T.done (aU X scope (own++frn) C s2 H2 fp) rfl rfl rfl hc i _ s5 σ5 H5 (fun _ _=>False) I5 (stat one fr5) st5 stop) (fun r s6 hx9=>?_) fun _ _ z=>z
   obtain ⟨hr,I6⟩:=hx9
   subst hr
   obtain ⟨m6,hn6,_⟩:=I6.loc
   have p6:=I6.pin (D,o) (by simp [aU])
   have p5':=I5.pin (D,o) (by simp [aU])
   have pl6:s6.heap.PlainList D its:=by
    obtain ⟨k,e⟩:=pl5
    have e1:o=_:=Option.some.inj (p5'.1.symm.trans e)
    exact ⟨k,by rw [p6.1]; exact congrArg some e1⟩
   have IX:Inv X pins σ H5 s6:=I2.call' (ch:=fp) I6.os I6.base I6.hok I6.bare fun b hb=>⟨(f2 b hb).2.2.2.1,(f2 b hb).2.1,(f2 b hb).2.2.2.2.1,(f2 b hb).2.2.2.2.2⟩
   exact hRR C D s6 H5 ys its m6 hCle (Qg _) hDC hn6 I6.free p6.2.1 pl6 v5 z5 IX qn
  ·refine wpAny_mono (T.item (aU X scope (own++frn) C s2 H2 fp) rfl rfl rfl hc i _ s5 σ5 H5 (fun _ _=>False) I5 (stat one fr5) st5 go) (fun r s6 hx9=>?_) fun _ _ z=>z
   obtain ⟨u,hr,h6⟩:=hx9
   subst hr
   refine wpAny_mono h6 (fun _ s7 hx9=>?_) fun _ _ z=>z
   obtain ⟨x,H7,I7,r7,y7,st7,fr7⟩:=hx9
   have I7':=I7.pinned (stat one fr7) (T.obj _ _ st7)
   refine wpAny_mono (hg C s2 H2 fp _ s7 σ5 H7 x u _ I7' r7 (step x H7 y7)) (fun _ s8 hx9=>?_) fun _ _ z=>z
   obtain ⟨σ8,H8,I8,q8⟩:=hx9
   refine wpAny_mono (ht C s2 H2 fp _ s8 σ8 H8 _ I8 q8) (fun b s9 hx9=>?_) fun _ _ z=>z
   obtain ⟨H9,I9,q9⟩:=hx9
   -- what stands of the iterator and of the gathered list behind the tests,behind the item
   have keepT:∀ {H':Hp} {s':Shared} {σ':St},Inv (aU X scope (own++frn) C s2 H2 fp) ([(D,o)]++oH fp s7.heap) σ' H' s'->tn (i+1) s'.heap/\(∀ b∈fp,H' b=none)/\s'.heap.PlainList D its/\H' D=none:=fun {H' s' σ'} I'=>by
    refine ⟨T.keep _ _ _ st7 fun b hb o e=>(I'.pin (b,o) (Jh _ (Jh _ (gC hb e)))).1,fun b hb=>?_,?_,?_⟩
    ·obtain ⟨o,e,d⟩:=T.obj _ _ st7 b hb
     exact (I'.pin (b,o) (Jh _ (Jh _ (gC hb e)))).2.1
    ·have p':=I'.pin (D,o) (by simp [aU])
     have p5':=I5.pin (D,o) (by simp [aU])
     obtain ⟨k,e⟩:=pl5
     have e1:o=_:=Option.some.inj (p5'.1.symm.trans e)
     exact ⟨k,by rw [p'.1]; exact congrArg some e1⟩
    ·exact (I'.pin (D,o) (by simp [aU])).2.1
   cases b with
   | false =>
    rw [if_neg Qu] at q9
    rw [if_neg Qu]
    obtain ⟨m',hm,w'⟩:=hN ys σ8 H9 q9
    obtain ⟨t9,fr9,pl9,_⟩:=keepT I9
    exact ⟨m',hm,i+1,σ8,H9,ys,its,o,I9.unpinned,pl9,v5,z5,t9,fr9,w'⟩
   | true =>
    rw [if_pos rfl] at q9
    rw [if_pos rfl]
    refine wpAny_mono (he C s2 H2 fp _ s9 σ8 H9 _ I9 q9) (fun y s10 hx9=>?_) fun _ _ z=>z
    obtain ⟨yv,H10,I10,r10,lt10,q10⟩:=hx9
    obtain ⟨t10,fr10,pl10,hD10⟩:=keepT I10
    have hl:=v5.length
    refine wpAny_list_append_plain pl10 (fun h11 pl11 sb11=>?_) (by rw [<- Array.length_toList,<- hl]; exact Js lt10)
    obtain ⟨m',hm,w'⟩:=hN _ σ8 H10 q10
    have I10':Inv (aU X scope (own++frn) C s2 H2 fp) [] σ8 H10 s10:=I10.pins_of fun p hp=>by cases hp
    have I11:Inv (aU X scope (own++frn) C s2 H2 fp) [] σ8 H10 { s10 with heap:=h11 } :=
     I10'.turned (t':=s10.toks) (it:=D) (fun b o hb e=>(sb11.2 b hb).trans e) hD10 hDC (.inr (by show s2.heap.objs.size<=D; rw [hDg]; exact Qg _)) cD (fun p hp=>by simp [aU] at hp)
    obtain ⟨k11,e11⟩:=id pl11
    have DfsX:D∉frs X.stack:=fun z=>by
     rcases Qm.mp (I2.stkSub D z) with e | e
     ·exact Je _ (Qn I2.lt (by rw [hDg,e]; exact Qg _))
     ·exact I2.nofs (by rw [hDg]; exact Qg _) e
    refine ⟨m',hm,i+1,σ8,H10,ys++[yv],its.push y,{ cls:=.type "list",data:=.seq (its.push y) k11 },I11.pins_of fun p hp=>?_,pl11,?_,by rw [Qh]; show ys.length+1<=_; omega,T.keep _ _ _ t10 fun b hb o e=>(sb11.2 b (below b (flt b hb)).2).trans e,fr10,w'⟩
    ·have e:=Qs.mp hp
     subst e
     exact ⟨e11,hD10,hDC,DfsX,fun v z=>by cases z⟩
    ·rw [Array.toList_push]
     exact v5.append (.cons r10 .nil)
 exact codeAny_compStart_list (loop _ rfl) (T.self X.A 0 _ _ _ st3 (loop _ rfl))
theorem CompOk.clo {pins:List (Addr×Obj)} {σ:St} {H:Hp} {s:Shared} (S:CompOk X scope own fr frn) (I:Inv X pins σ H s):closureFor scope X.env=pure (eA X.env scope.names []):=by
 obtain ⟨p1,p2,p3,p4,p5,p6,p7⟩:=S.parts
 exact yL fun y hy e=>I.ok.has y.1 (p4 y hy e)
theorem cZ (S:CompOk X scope own fr frn) (hc:X.calm=true) (hi:PI X tg iter wi) (hg:∀ C s0 H0 fp,PG (aU X scope (own++frn) C s0 H0 fp) tg g) (ht:∀ C s0 H0 fp,PF (aU X scope (own++frn) C s0 H0 fp) ifs tt)
  (he:∀ C s0 H0 fp,PE (aU X scope (own++frn) C s0 H0 fp) elt te) (hs:∀ x,foldedSetIterable iter X.env x=pure x:=by intro _; rfl) :
  PE X (.ListComp elt [⟨tg,iter,ifs,0⟩] scope pos) (aBv own.length fr wi g tt te):=by
 intro pins s σ H Q I h
 obtain ⟨p1,p2,p3,p4,p5,p6,p7⟩:=S.parts
 rw [eval_ListComp]
 refine wpAny_comprehension_free (use:=none) rfl hs (S.clo I) p1 p3 (thn (hi pins s σ H _ I h) fun v s1 h1=>thn h1 fun itv s2 h2=>?_)
 obtain ⟨it,fp,tn,J,H2,e,I2,T,st2,f2,hw⟩:=h2
 subst e
 refine qW (RR:=fun acc C=>compPost (model X.prog X.w) X.A X.xe none (EP X pins σ Q) acc C) (Q:=fun H ys=>∀ p,H p=none->Q (.ref p) (upd H p (.lst ys))) S hc I2 T st2 f2 hg ht he hw ?_
 intro C D s' H' ys its m hC hD hDC hns hHC hHD pl v z IX q
 have cne:∀ a,s2.heap.objs.size<=a->∀ x c,X.env.cells.lookup x=some c->c≠a:=fun a ha x c e z=>by
  obtain ⟨v,w⟩:=I2.cell x c e
  exact Je _ (Qn w.lt (by rw [z]; exact ha))
 have pne:∀ a,s2.heap.objs.size<=a->∀ p∈X.pn++pins,p.1≠a:=fun a ha p hp z=>Je _ (Qn (Qj (I2.pin p hp).1) (by rw [z]; exact ha))
 have lne:∀ a,s2.heap.objs.size<=a->a≠X.env.locals:=fun a ha z=>Je _ (Qn I2.lt (by rw [<- z]; exact ha))
 refine ⟨m,hns,fun h' hs'=>⟨.ref D,upd H' D (.lst ys),?_,rfl,q D hHD⟩⟩
 have IT:Inv X pins σ (upd H' D (.lst ys)) s':=IX.track pl v z hHD (lne D hD) (Ja I2.sz hD) (cne D hD) (pne D hD)
 exact IT.turned (t':=s'.toks) (it:=C) (fun b o hb e=>(hs'.2 b hb).trans e) (by rw [aD (Ne.symm hDC)]; exact hHC) (lne C hC) (.inr (Ja I2.sz hC)) (cne C hC) (pne C hC)
theorem qX {i:Nat} {y:Str} {py spos:Pos} (S:CompOk X scope own fr frn) (hc:X.calm=true) (hN:X.N.Nodup) (hyi:X.N[i]?=some y) (hx:X.env.scope.names.lookup y=some .local)
  (hsw:swapsWith (.ListComp elt [⟨tg,iter,ifs,0⟩] scope pos) (some (.Name y py)) spos.line X.env=pure true)
  (hi:PI X tg iter wi) (hg:∀ C s0 H0 fp,PG (aU X scope (own++frn) C s0 H0 fp) tg g) (ht:∀ C s0 H0 fp,PF (aU X scope (own++frn) C s0 H0 fp) ifs tt)
  (he:∀ C s0 H0 fp,PE (aU X scope (own++frn) C s0 H0 fp) elt te) (hs:∀ x,foldedSetIterable iter X.env x=pure x:=by intro _; rfl) :
  PS X (.Assign [.Name y py] (.ListComp elt [⟨tg,iter,ifs,0⟩] scope pos) spos) (nD (aBv own.length fr wi g tt te) (aV i)):=by
 intro pins s σ H D I h
 obtain ⟨p1,p2,p3,p4,p5,p6,p7⟩:=S.parts
 rw [exec_Assign_Name_used _ _ _ _ hsw]
 refine wpAny_bind (wpAny_standAt (wpAny_bind ?_))
 show wpAny _ X.A (do let _<-comprehension (.ListComp elt [⟨tg,iter,ifs,0⟩] scope pos) scope X.env _ (newList []) false (eval iter X.env) (some (assign (.Name y py) X.env))) _ _ s
 refine wpAny_bind (wpAny_mono (wpAny_comprehension_free (use:=some (assign (.Name y py) X.env)) (Q:=fun _ s'=>SP X pins D .next s') rfl hs (S.clo I) p1 p3 (thn (hi pins s σ H _ I h) fun v s1 h1=>thn h1 fun itv s2 h2=>?_))
  (fun _ s' hq=>wpAny_pure (wpAny_pure hq)) fun _ _ e=>e)
 obtain ⟨it,fp,tn,J,H2,e,I2,T,st2,f2,hw⟩:=h2
 subst e
 refine qW (RR:=fun acc C=>compPost (model X.prog X.w) X.A X.xe (some (assign (.Name y py) X.env)) (fun _ s'=>SP X pins D .next s') acc C) (Q:=fun H ys=>∀ p,H p=none->D.nx (σ.set i (some (.ref p))) (upd H p (.lst ys))) S hc I2 T st2 f2 hg ht he hw ?_
 intro C L s' H' ys its m hC hL hLC hns hHC hHL pl v z IX q
 have cne:∀ a,s2.heap.objs.size<=a->∀ x c,X.env.cells.lookup x=some c->c≠a:=fun a ha x c e z=>by
  obtain ⟨v,w⟩:=I2.cell x c e
  exact Je _ (Qn w.lt (by rw [z]; exact ha))
 have pne:∀ a,s2.heap.objs.size<=a->∀ p∈X.pn++pins,p.1≠a:=fun a ha p hp z=>Je _ (Qn (Qj (I2.pin p hp).1) (by rw [z]; exact ha))
 have lne:∀ a,s2.heap.objs.size<=a->a≠X.env.locals:=fun a ha z=>Je _ (Qn I2.lt (by rw [<- z]; exact ha))
 have IT:Inv X pins σ (upd H' L (.lst ys)) s':=IX.track pl v z hHL (lne L hL) (Ja I2.sz hL) (cne L hL) (pne L hL)
 show wpAny _ _ (assign (.Name y py) X.env (.ref L)) _ _ s'
 refine wpAny_assign_Name (tH IT hN hyi (.inl hx) (v:=.ref L) rfl (fun s'' I'' hch=>?_) (.inr hx))
 obtain ⟨a,sb,ha⟩:=hch
 have hCa:C≠a:=by
  rcases ha with e | e
  ·rw [e]; exact lne C hC
  ·exact Ne.symm (cne C hC y a e)
 refine ⟨m,hns.sameBut sb hCa,fun h' hs'=>⟨σ.set i (some (.ref L)),upd H' L (.lst ys),?_,q L hHL⟩⟩
 exact I''.turned (t':=s''.toks) (it:=C) (fun b o hb e=>(hs'.2 b hb).trans e) (by rw [aD (Ne.symm hLC)]; exact hHC) (lne C hC) (.inr (Ja I2.sz hC)) (cne C hC) (pne C hC)
end
inductive Kd where
 | int | bl | non | str | tup | lst | dct
 deriving DecidableEq
def KdV (K:PySem.W.Frag) (H:Hp):V->Kd->Prop
 | .int _,k=>k=.int
 | .bl _,k=>k=.bl
 | .non,k=>k=.non
 | .str _,k=>k=.str
 | .ref p,k=>(k=.lst/\∃ xs,SqL K H p xs)∨(k=.tup/\∃ xs,SqT K H p xs)∨(k=.dct/\∃ kvs,H p=some (.dK kvs))
 | _,_=>False
section
variable {X:Cx}
theorem uQ {pins:List (Addr×Obj)} {σ:St} {H:Hp} {s:Shared} {p:Addr} {kvs:List (Key×V)} (I:Inv X pins σ H s) (h:H p=some (.dK kvs)):∃ o,s.heap.get? p=some o/\o.cls=.type "dict" := by
 obtain ⟨_,_,vs,_,o,es,ep,e,ex,_⟩:=I.hok p _ h
 exact ⟨o,e,ex.1⟩
theorem nF:dJ X (.builtin "isinstance") (fun xs H Q=>∃ x k,xs = [x,.ty "int"]/\KdV X.K H x k/\Q (.bl (decide (k=.int∨k=.bl))) H):=by
 intro pins s σ H xs us Q I r h
 obtain ⟨x,k,rfl,hk,q⟩:=h
 obtain ⟨u,t,rfl,rx,rt⟩:=pI r
 cases rt
 cases x with
 | int i=>cases hk; obtain ⟨t,rfl⟩:=rx; exact IsiPair.int_int ⟨.bl true,H,I,rfl,q⟩
 | bl b=>cases hk; cases rx; exact IsiPair.bool_int ⟨.bl true,H,I,rfl,q⟩
 | non=>cases hk; cases rx; exact IsiPair.NoneType_int ⟨.bl false,H,I.tok _,rfl,q⟩
 | str y=>cases hk; obtain ⟨t,rfl⟩:=rx; exact IsiPair.str_int ⟨.bl false,H,I.tok _,rfl,q⟩
 | ref p =>
  cases rx
  rcases hk with ⟨rfl,xs,hx⟩ | ⟨rfl,xs,hx⟩ | ⟨rfl,kvs,hx⟩
  ·obtain ⟨its,r',pl,hz⟩:=I.list hx; exact IsiPair.isList_int pl.isList (fun _ _ e=>e) ⟨.bl false,H,I.tok _,rfl,q⟩
  ·obtain ⟨its,r',pl,hz⟩:=I.tuple hx; exact IsiPair.isTuple_int pl (fun _ _ e=>e) ⟨.bl false,H,I.tok _,rfl,q⟩
  ·obtain ⟨o,e,c⟩:=uQ I hx; exact IsiPair.dict_int e c ⟨.bl false,H,I.tok _,rfl,q⟩
 | _=>exact hk.elim
theorem iX:dJ X (.builtin "isinstance") (fun xs H Q=>∃ x k,xs = [x,.ty "bool"]/\KdV X.K H x k/\Q (.bl (decide (k=.bl))) H):=by
 intro pins s σ H xs us Q I r h
 obtain ⟨x,k,rfl,hk,q⟩:=h
 obtain ⟨u,t,rfl,rx,rt⟩:=pI r
 cases rt
 cases x with
 | int i=>cases hk; obtain ⟨t,rfl⟩:=rx; exact IsiPair.int_bool ⟨.bl false,H,I.tok _,rfl,q⟩
 | bl b=>cases hk; cases rx; exact IsiPair.bool_bool ⟨.bl true,H,I,rfl,q⟩
 | non=>cases hk; cases rx; exact IsiPair.NoneType_bool ⟨.bl false,H,I.tok _,rfl,q⟩
 | str y=>cases hk; obtain ⟨t,rfl⟩:=rx; exact IsiPair.str_bool ⟨.bl false,H,I.tok _,rfl,q⟩
 | ref p =>
  cases rx
  rcases hk with ⟨rfl,xs,hx⟩ | ⟨rfl,xs,hx⟩ | ⟨rfl,kvs,hx⟩
  ·obtain ⟨its,r',pl,hz⟩:=I.list hx; exact IsiPair.isList_bool pl.isList (fun _ _ e=>e) ⟨.bl false,H,I.tok _,rfl,q⟩
  ·obtain ⟨its,r',pl,hz⟩:=I.tuple hx; exact IsiPair.isTuple_bool pl (fun _ _ e=>e) ⟨.bl false,H,I.tok _,rfl,q⟩
  ·obtain ⟨o,e,c⟩:=uQ I hx; exact IsiPair.dict_bool e c ⟨.bl false,H,I.tok _,rfl,q⟩
 | _=>exact hk.elim
theorem cA:dJ X (.builtin "isinstance") (fun xs H Q=>∃ x k,xs = [x,.ty "tuple"]/\KdV X.K H x k/\Q (.bl (decide (k=.tup))) H):=by
 intro pins s σ H xs us Q I r h
 obtain ⟨x,k,rfl,hk,q⟩:=h
 obtain ⟨u,t,rfl,rx,rt⟩:=pI r
 cases rt
 cases x with
 | int i=>cases hk; obtain ⟨t,rfl⟩:=rx; exact IsiPair.int_tuple ⟨.bl false,H,I.tok _,rfl,q⟩
 | bl b=>cases hk; cases rx; exact IsiPair.bool_tuple ⟨.bl false,H,I.tok _,rfl,q⟩
 | non=>cases hk; cases rx; exact IsiPair.NoneType_tuple ⟨.bl false,H,I.tok _,rfl,q⟩
 | str y=>cases hk; obtain ⟨t,rfl⟩:=rx; exact IsiPair.str_tuple ⟨.bl false,H,I.tok _,rfl,q⟩
 | ref p =>
  cases rx
  rcases hk with ⟨rfl,xs,hx⟩ | ⟨rfl,xs,hx⟩ | ⟨rfl,kvs,hx⟩
  ·obtain ⟨its,r',pl,hz⟩:=I.list hx; exact IsiPair.isList_tuple pl.isList (fun _ _ e=>e) ⟨.bl false,H,I.tok _,rfl,q⟩
  ·obtain ⟨its,r',pl,hz⟩:=I.tuple hx; exact IsiPair.isTuple_tuple pl (fun _ _ e=>e) ⟨.bl true,H,I,rfl,q⟩
  ·obtain ⟨o,e,c⟩:=uQ I hx; exact IsiPair.dict_tuple e c ⟨.bl false,H,I.tok _,rfl,q⟩
 | _=>exact hk.elim
theorem aAC (bs:List Bool) (tr:Nat->Bool) (h:∀ i b,bs[i]?=some b->tr i=b):(List.range bs.length).all tr=bs.all id:=by
 rw [Xi,Xb,Xb]
 constructor
 ·intro q b hb
  obtain ⟨i,hi⟩:=Wh hb
  have:=q i (Zi.mpr (Qa.mp hi).1)
  rw [h i b hi] at this
  exact this
 ·intro q i hi
  have hi':=Zi.mp hi
  have e:bs[i]?=some bs[i]:=Qc hi'
  rw [h i _ e]
  exact q _ (Yx hi')
theorem jB (hc:X.calm=true):dJ X (.builtin "all") (fun xs H Q=>∃ (p:Addr) (bs:List Bool),xs = [.ref p]/\SqL X.K H p (bs.map V.bl)/\Q (.bl (bs.all id)) H):=by
 intro pins s σ H xs us Q I r h
 obtain ⟨p,bs,rfl,hx,q⟩:=h
 obtain ⟨u,rfl,rx⟩:=fY r
 cases rx
 obtain ⟨its,rv,pl,hz⟩:=I.list hx
 have hl:=rv.length
 rw [Qd] at hl
 have hlt:p < s.heap.objs.size:=by obtain ⟨o,n,e,_⟩:=pl; exact Qj e
 refine call_all_walk (wpAny_pyIter_list pl.isList ?_)
 refine ⟨s.heap.objs.size,_,_,_,_,_,fun i=>(bs[i]?).getD false,rfl,Walks.list (A:=X.A.in1) (I.ok.hd hc) s.heap.objs.size p (Qz hlt) its.toArray,⟨⟨_,Qk _ rfl,rfl,rfl⟩,pl.isList.push _⟩,?_,fun h' tk hk=>?_⟩
 ·intro i v s' Q' E' hP hQ'
  have hP':its[i]?=some v:=by simpa using hP
  have hi:i < bs.length:=by rw [hl]; exact (Qa.mp hP').1
  obtain ⟨w,hw,rw'⟩:=rv.get (i:=i) (x:=.bl bs[i]) (by rw [Qi,Qc hi]; rfl)
  rw [hw] at hP'
  cases hP'
  cases rw'
  have e:(bs[i]?).getD false=bs[i]:=by rw [Qc hi]; rfl
  rw [<- e]
  exact wpAny_truthy_bool hQ'
 ·have e:(List.range its.toArray.size).all (fun i=>(bs[i]?).getD false)=bs.all id:=by
   rw [Qq,<- hl]
   exact aAC bs _ fun i b hb=>by rw [hb]; rfl
  rw [e]
  refine ⟨.bl _,H,I.kept (h':=h') fun b o e=>hk b o ?_ (Qb _ e),rfl,q⟩
  intro z
  have z':b=s.heap.objs.size:=by simpa using z
  exact Je _ (z' ▸ Qj e)
end
mutual
def Den (K:PySem.W.Frag) (H:Hp):PyData->V->Prop
 | .none,v=>v=.non
 | .bool b,v=>v=.bl b
 | .int i,v=>v=.int i
 | .str x,v=>v=.str x
 | .list ds,v=>∃ a xs,v=.ref a/\SqL K H a xs/\bK K H ds xs
 | .tuple ds,v=>∃ a xs,v=.ref a/\SqT K H a xs/\bK K H ds xs
 | .dict kvs,v=>kvs = []/\∃ a,v=.ref a/\H a=some (.dK [])
def bK (K:PySem.W.Frag) (H:Hp):List PyData->List V->Prop
 | [],xs=>xs = []
 | d::ds,xs=>∃ x r,xs=x::r/\Den K H d x/\bK K H ds r
end
theorem aG.rd {H H':Hp} {a:Addr} {u:HO} (e:aG H H') (h:Rd H a u):Rd H' a u:=by
 rcases h with h | ⟨o,h⟩
 ·exact .inl (e a u h)
 ·exact .inr ⟨o,e a _ h⟩
theorem aG.seqL {K:PySem.W.Frag} {H H':Hp} {a:Addr} {xs:List V} (e:aG H H') (h:SqL K H a xs):SqL K H' a xs:=by
 rcases h with h | h
 ·exact .inl (e.rd h)
 ·exact .inr h
theorem aG.seqT {K:PySem.W.Frag} {H H':Hp} {a:Addr} {xs:List V} (e:aG H H') (h:SqT K H a xs):SqT K H' a xs:=by
 rcases h with h | h
 ·exact .inl (e.rd h)
 ·exact .inr h
theorem aG.new {H:Hp} {p:Addr} {o:HO} (h:H p=none):aG H (upd H p o):=fun b u e=>by rw [aD (gB e h)]; exact e
mutual
theorem aG.den {K:PySem.W.Frag} {H H':Hp} (e:aG H H'):∀ (d:PyData) (v:V),Den K H d v->Den K H' d v
 | .none,v,h=>by unfold Den at h ⊢; exact h
 | .bool b,v,h=>by unfold Den at h ⊢; exact h
 | .int i,v,h=>by unfold Den at h ⊢; exact h
 | .str x,v,h=>by unfold Den at h ⊢; exact h
 | .list ds,v,h=>by unfold Den at h ⊢; obtain ⟨a,xs,h1,h2,h3⟩:=h; exact ⟨a,xs,h1,e.seqL h2,aG.denAll e ds xs h3⟩
 | .tuple ds,v,h=>by unfold Den at h ⊢; obtain ⟨a,xs,h1,h2,h3⟩:=h; exact ⟨a,xs,h1,e.seqT h2,aG.denAll e ds xs h3⟩
 | .dict kvs,v,h=>by unfold Den at h ⊢; obtain ⟨h1,a,h2,h3⟩:=h; exact ⟨h1,a,h2,e a _ h3⟩
theorem aG.denAll {K:PySem.W.Frag} {H H':Hp} (e:aG H H'):∀ (ds:List PyData) (xs:List V),bK K H ds xs->bK K H' ds xs
 | [],xs,h=>by unfold bK at h ⊢; exact h
 | d::ds,xs,h=>by unfold bK at h ⊢; obtain ⟨x,r,h1,h2,h3⟩:=h; exact ⟨x,r,h1,aG.den e d x h2,aG.denAll e ds r h3⟩
end
section
variable {K:PySem.W.Frag} {H:Hp}
theorem eI {i:Int} {v:V}:Den K H (.int i) v↔v=.int i:=by unfold Den; exact Iff.rfl
theorem wT {b:Bool} {v:V}:Den K H (.bool b) v↔v=.bl b:=by unfold Den; exact Iff.rfl
theorem wU {v:V}:Den K H .none v↔v=.non:=by unfold Den; exact Iff.rfl
theorem uR {x:Str} {v:V}:Den K H (.str x) v↔v=.str x:=by unfold Den; exact Iff.rfl
theorem nG {ds:List PyData} {v:V}:Den K H (.list ds) v↔∃ a xs,v=.ref a/\SqL K H a xs/\bK K H ds xs:=by
 constructor
 ·intro h; unfold Den at h; exact h
 ·intro h; unfold Den; exact h
theorem cN {ds:List PyData} {v:V}:Den K H (.tuple ds) v↔∃ a xs,v=.ref a/\SqT K H a xs/\bK K H ds xs:=by
 constructor
 ·intro h; unfold Den at h; exact h
 ·intro h; unfold Den; exact h
theorem aBw {kvs:List (PyData×PyData)} {v:V}:Den K H (.dict kvs) v↔kvs = []/\∃ a,v=.ref a/\H a=some (.dK []):=by
 constructor
 ·intro h; unfold Den at h; exact h
 ·intro h; unfold Den; exact h
theorem eD {xs:List V}:bK K H [] xs↔xs = []:=by unfold bK; exact Iff.rfl
theorem bQ {d:PyData} {ds:List PyData} {xs:List V}:bK K H (d::ds) xs↔∃ x r,xs=x::r/\Den K H d x/\bK K H ds r:=by
 constructor
 ·intro h; unfold bK at h; exact h
 ·intro h; unfold bK; exact h
theorem cJ:∀ {ds:List PyData} {xs:List V},bK K H ds xs->xs.length=ds.length
 | [],xs,h=>by rw [eD.mp h]; rfl
 | d::ds,xs,h=>by
  obtain ⟨x,r,rfl,_,h3⟩:=bQ.mp h
  rw [Jf,Jf,cJ h3]
theorem qY:∀ {ds:List PyData} {xs:List V} {i:Nat} {d:PyData},bK K H ds xs->ds[i]?=some d->∃ x,xs[i]?=some x/\Den K H d x
 | [],_,_,_,_,e=>by simp at e
 | d::ds,xs,0,d',h,e=>by
  obtain ⟨x,r,rfl,h2,_⟩:=bQ.mp h
  simp at e; subst e
  exact ⟨x,rfl,h2⟩
 | d::ds,xs,i+1,d',h,e=>by
  obtain ⟨x,r,rfl,_,h3⟩:=bQ.mp h
  obtain ⟨y,h4,h5⟩:=qY (i:=i) (d:=d') h3 (by simpa using e)
  exact ⟨y,by simpa using h4,h5⟩
theorem jC {ds:List PyData} {xs:List V} {i:Nat} {x:V} (h:bK K H ds xs) (e:xs[i]?=some x):∃ d,ds[i]?=some d/\Den K H d x:=by
 have hl:=cJ h
 have hi:i < ds.length:=by rw [<- hl]; exact (Qa.mp e).1
 obtain ⟨y,h1,h2⟩:=qY h (Qc hi)
 rw [e] at h1; cases h1
 exact ⟨_,Qc hi,h2⟩
theorem eX:∀ {ns:List Int} {xs:List V},bK K H (ns.map PyData.int) xs↔xs=ns.map V.int
 | [],xs=>eD
 | n::ns,xs=>by
  rw [Qw,bQ]
  constructor
  ·rintro ⟨x,r,rfl,h2,h3⟩
   rw [eI.mp h2,eX.mp h3]
   rfl
  ·intro e
   exact ⟨_,_,e,eI.mpr rfl,eX.mpr rfl⟩
theorem bR {ns:List Int} {v:V}:Den K H (.tuple (ns.map .int)) v↔∃ a,v=.ref a/\SqT K H a (ns.map V.int):=by
 rw [cN]
 constructor
 ·rintro ⟨a,xs,rfl,h1,h2⟩
  rw [eX.mp h2] at h1
  exact ⟨a,rfl,h1⟩
 ·rintro ⟨a,rfl,h⟩
  exact ⟨a,_,rfl,h,eX.mpr rfl⟩
theorem iB {ns:List Int} {v:V}:Den K H (.list (ns.map .int)) v↔∃ a,v=.ref a/\SqL K H a (ns.map V.int):=by
 rw [nG]
 constructor
 ·rintro ⟨a,xs,rfl,h1,h2⟩
  rw [eX.mp h2] at h1
  exact ⟨a,rfl,h1⟩
 ·rintro ⟨a,rfl,h⟩
  exact ⟨a,_,rfl,h,eX.mpr rfl⟩
def kC:PyData->Kd
 | .none=>.non | .bool _=>.bl | .int _=>.int | .str _=>.str | .list _=>.lst | .tuple _=>.tup | .dict _=>.dct
theorem Den.kd {d:PyData} {v:V} (h:Den K H d v):KdV K H v (kC d):=by
 cases d with
 | none=>rw [wU.mp h]; rfl
 | bool b=>rw [wT.mp h]; rfl
 | int i=>rw [eI.mp h]; rfl
 | str x=>rw [uR.mp h]; rfl
 | list ds=>obtain ⟨a,xs,rfl,h1,_⟩:=nG.mp h; exact .inl ⟨rfl,xs,h1⟩
 | tuple ds=>obtain ⟨a,xs,rfl,h1,_⟩:=cN.mp h; exact .inr (.inl ⟨rfl,xs,h1⟩)
 | dict kvs=>obtain ⟨_,a,rfl,h1⟩:=aBw.mp h; exact .inr (.inr ⟨rfl,[],h1⟩)
end
section
variable {X:Cx} {pins:List (Addr×Obj)} {σ:St} {H:Hp} {s:Shared}
mutual
def cR:PyData->Bool
 | .dict _=>false
 | .list ds=>hV ds
 | .tuple ds=>hV ds
 | _=>true
def hV:List PyData->Bool
 | []=>true
 | d::ds=>cR d && hV ds
end
mutual
theorem Den.reads (I:Inv X pins σ H s):∀ (d:PyData) (v:V) (u:Value),cR d=true->Den X.K H d v->bB v u->∃ as,Reads s.heap u d as
 | .none,v,u,_,h,r=>by rw [wU.mp h] at r; cases r; exact ⟨_,.none⟩
 | .bool b,v,u,_,h,r=>by rw [wT.mp h] at r; cases r; exact ⟨_,.bool b⟩
 | .int i,v,u,_,h,r=>by rw [eI.mp h] at r; obtain ⟨t,rfl⟩:=r; exact ⟨_,.int i t⟩
 | .str x,v,u,_,h,r=>by rw [uR.mp h] at r; obtain ⟨t,rfl⟩:=r; exact ⟨_,.str x t⟩
 | .list ds,v,u,hn,h,r=>by
  obtain ⟨a,xs,rfl,h1,h2⟩:=nG.mp h
  cases r
  obtain ⟨its,rv,⟨o,n,e,c,_,d⟩,_⟩:=I.list h1
  obtain ⟨as,ra⟩:=bK.reads I ds xs its (by unfold cR at hn; exact hn) h2 rv
  exact ⟨_,.list e c d (by simpa using ra)⟩
 | .tuple ds,v,u,hn,h,r=>by
  obtain ⟨a,xs,rfl,h1,h2⟩:=cN.mp h
  cases r
  obtain ⟨its,rv,⟨o,e,c,n,d⟩,_⟩:=I.tuple h1
  obtain ⟨as,ra⟩:=bK.reads I ds xs its (by unfold cR at hn; exact hn) h2 rv
  exact ⟨_,.tuple e c d (by simpa using ra)⟩
 | .dict kvs,v,u,hn,_,_=>by unfold cR at hn; cases hn
theorem bK.reads (I:Inv X pins σ H s):∀ (ds:List PyData) (xs:List V) (us:List Value),hV ds=true->bK X.K H ds xs->aY xs us->∃ as,ReadsAll s.heap us ds as
 | [],xs,us,_,h,r=>by rw [eD.mp h] at r; cases r; exact ⟨_,.nil⟩
 | d::ds,xs,us,hn,h,r=>by
  obtain ⟨x,rr,rfl,h2,h3⟩:=bQ.mp h
  unfold hV at hn
  rw [Ji] at hn
  cases r with
  | cons r1 r2 =>
   obtain ⟨as,ra⟩:=Den.reads I d x _ hn.1 h2 r1
   obtain ⟨bs,rb⟩:=bK.reads I ds rr _ hn.2 h3 r2
   exact ⟨_,.cons ra rb⟩
end
theorem aBx (hu:X.A.units+64 < cLine):OpR X (compareOp .Eq) (fun x y H Q=>∃ d e,Den X.K H d x/\Den X.K H e y/\cR d=true/\cR e=true/\SeqAt.shaped d=true/\SeqAt.shaped e=true/\Q (.bl (PyData.eqv d e)) H):=by
 intro pins s σ H x y v u Q I rx ry h
 obtain ⟨d,e,hd,he,n1,n2,s1,s2,q⟩:=h
 obtain ⟨as,ra⟩:=Den.reads I d x v n1 hd rx
 obtain ⟨bs,rb⟩:=Den.reads I e y u n2 he ry
 exact eq_dataH ra rb s1 s2 hu ⟨.bl _,H,I,rfl,q⟩
theorem uS (hu:X.A.units+64 < cLine):OpR X (compareOp .NotEq) (fun x y H Q=>∃ d e,Den X.K H d x/\Den X.K H e y/\cR d=true/\cR e=true/\SeqAt.shaped d=true/\SeqAt.shaped e=true/\Q (.bl (!PyData.eqv d e)) H):=by
 intro pins s σ H x y v u Q I rx ry h
 obtain ⟨d,e,hd,he,n1,n2,s1,s2,q⟩:=h
 obtain ⟨as,ra⟩:=Den.reads I d x v n1 hd rx
 obtain ⟨bs,rb⟩:=Den.reads I e y u n2 he ry
 exact ne_dataH ra rb s1 s2 hu ⟨.bl _,H,I,rfl,q⟩
theorem aAD:MtR X "tuple.count" (fun x vs H Q=>∃ (a:Addr) (ns:List Int) (n:Int),x=.ref a/\vs = [.int n]/\SqT X.K H a (ns.map V.int)/\Q (.int (ns.count n:Nat)) H):=by
 intro pins s σ H x v vs us Q I rx r h
 obtain ⟨a,ns,n,rfl,rfl,ha,q⟩:=h
 obtain ⟨u,rfl,t,rfl⟩:=fY r
 cases rx
 obtain ⟨its,rv,⟨⟨cls,dd,data,sl⟩,ho,hc,k,hd⟩,hzz⟩:=I.tuple ha
 simp only at hc hd
 subst hc hd
 have hi:IntsAre its ns:=mR rv
 refine call_meets PySem.F.slot_tuple_count ⟨_,ho,rfl⟩ PySem.F.entry_tuple_count (PySem.F.args_tuple_count_2 _ _) (SeqAt.tuple_countAt a its.toArray k dd sl (.int n t) (isInt n)) ⟨ho,fun y hy=>(eq_isInt n t hi y (by simpa using hy)).at _ _,?_⟩
 have e:(its.toArray.toList.countP (isInt n))=ns.count n:=by
  simp only [List.toList_toArray]
  clear q r ha rv ho hzz
  induction hi with
  | nil=>rfl
  | cons m t' _ ih =>
   rw [List.countP_cons,Xk,ih]
   rfl
 rw [e]
 exact ⟨.int _,H,I.tok _,⟨_,rfl⟩,q⟩
end
section
variable {prog:Program} {w:World} {A:Around} {E:Value->Shared->Prop} {s:Shared}
theorem aAE {x:Value} {ns:List Int} {Q:Value->Shared->Prop} (h64:ns.length < 64)
  (hc:∀ Q':List Value->Shared->Prop,(∀ h' tk vs,(∀ b o,s.heap.get? b=some o->h'.get? b=some o)->IntsAre vs ns->Q' vs { s with heap:=h',toks:=tk })->wpAny (model prog w) A.in1 (collect x) Q' E s)
  (h:∀ (h1 h':Heap) tk out ns',(∀ b o,s.heap.get? b=some o->h1.get? b=some o)->(∀ b o,h1.get? b=some o->h'.get? b=some o)->h'.PlainList h1.objs.size out->IntsAre out.toList ns'->ns'.Perm ns->ns'.Pairwise (·<=·)->Q (.ref h1.objs.size) { s with heap:=h',toks:=tk }) :
  wpAny (model prog w) A (call (.builtin "sorted") [x]) Q E s:=by
 refine Calls.call_function_entry kind_sorted plain_sorted entry_sorted (args_sorted1 _) ?_
 unfold Builtin.«sorted»
 refine wpAny_bind (m:=checkCount "sorted" 1 1 _) (wpAny_pure ?_)
 refine wpAny_bind (hc _ fun h1 tk vs kp hi=>?_)
 have hlen:=hi.length
 refine wpAny_bind (wpAny_newList ?_ (by rw [sizeLine_eq]; omega))
 have hoL:(h1.push (seqObj "list" vs.toArray 0)).get? h1.objs.size=some (seqObj "list" vs.toArray 0):=Qk _ rfl
 refine wpAny_bind (wpAny_holding (wpAny_call_entry slot_list_sort ⟨_,hoL,rfl⟩ entry_list_sort (list_sort_tree hoL hi (by omega) fun out ns' a1 a2 a3=>⟨_,rfl,?_⟩) (args_list_sort _)))
 refine wpAny_pure ⟨_,rfl,?_⟩
 obtain ⟨e,he⟩:=sortedHeap_at (out:=out) hoL
 refine h h1 _ tk out ns' kp (fun b o q=>?_) ⟨e,he⟩ a1 a2 a3
 rw [sortedHeap_old (Qz (Qj q)) (by rw [size_push']; exact Xh (Qj q))]
 exact Qb _ q
end
section
variable {X:Cx}
def aAF (n:Nat):List Int:=(List.range n).map fun (i:Nat)=>(i:Int)
end
def tab (L:Bool) (ns:List Nat):SetTable:={ mask:=7,place:=ns.toArray,dummies:=#[],finger:=0,led:=L,moves:=0,plain:=true }
def aFz (l:List (Nat×Tok)):Array (Int×Value):=(l.map fun p=>((p.1:Int),Value.int (p.1:Int) p.2)).toArray
def SX (L:Bool) (h:Heap) (a:Addr) (l:List (Nat×Tok)):Prop:=∃ o ep,h.get? a=some o/\o.ExactSet/\o.data=.set (aFz l) ep (tab L (l.map (·.1)))
section
variable {prog:Program} {w:World} {A:Around} {E:Value->Shared->Prop} {s:Shared} {L:Bool} {a:Addr}
end
section
variable {prog:Program} {w:World} {A:Around} {E:Value->Shared->Prop} {s:Shared}
abbrev Led (w:World):Bool:=!(w.params.followText "set-order")
theorem qZ (a:Value) {Q₁:Value->Shared->Prop}
  (h:Q₁ (.ref s.heap.objs.size) { s with heap:=s.heap.push { cls:=.type "set",dict:=none,data:=.set #[] 0 (.fresh 0 0 (Led w)) } }) :
  codeAny (model prog w) A (.call (.builtin "set.__new__") ⟨[.type "set",a],[]⟩) (wants Q₁ E) s:=by
 refine codeAny_of_tree ?_
 show wpAny _ A.in1 (do checkBuiltinCall "set.__new__" ⟨[.type "set",a],[]⟩; again (.builtin "set.__new__" ⟨[.type "set",a],[]⟩)) _ _ s
 refine wpAny_bind (wpAny_of_eq (PySem.F.newCall_set_1 a) (wpAny_pure ⟨plainId_quiet PySem.F.plain_set_new _,codeAny_builtin PySem.F.entry_set_new ?_⟩))
 rw [Around.under_plainId PySem.F.plain_set_new _]
 unfold Builtin.«set.__new__» Builtin.Frozenset.newClass
 have hsub:=sub_set_self
 obtain ⟨hp,g,d,tk,os⟩:=s
 dsimp only
 wp_walk
 refine wpAny_askSetting (wpAny_pure ?_)
 dsimp only
 simp only [newObj]
 refine wpAny_bind (wpAny_alloc (wpAny_pure ?_))
 exact wpAny_pure h
theorem aBy {I S:Addr} {fp wr:List Addr} {n i:Nat} {P:Nat->Value->Prop} {St:Nat->Heap->Prop} {R:Result->Shared->Prop} (W:Walks prog w A.in1 I fp wr n P St) (hi:i < n) (st:St i s.heap)
  (h:∀ v h' tk,P i v->St (i+1) h'->(∀ b o,b∉wr->s.heap.get? b=some o->h'.get? b=some o) ->
   wpAny (model prog w) A.in1 (setAdd S v) (fun _ s2=>codeAny (model prog w) A (.builtin "set.update.loop" ⟨[.ref S,.ref I],[]⟩) R s2) (fun e s'=>R (.error e) s') { s with heap:=h',toks:=tk }) :
  codeAny (model prog w) A (.builtin "set.update.loop" ⟨[.ref S,.ref I],[]⟩) R s:=by
 refine codeAny_builtin PyProof.Rows.F.entry_set_update_loop ?_
 rw [Around.under_plainId PyProof.Rows.F.plain_set_update_loop _]
 show wpAny _ A.in1 (pyNext (.ref I) >>= _) _ _ s
 refine wpAny_bind (W.item i s _ _ hi st fun v h' tk hP hst' hk=>?_)
 show wpAny _ A.in1 (holding [v] (setAdd S v) >>= _) _ _ _
 refine wpAny_bind (wpAny_holding (wpAny_mono (h v h' tk hP hst' hk) (fun _ s2 q=>?_) fun _ _ e=>e))
 exact wpAny_pure ⟨plainId_quiet PyProof.Rows.F.plain_set_update_loop _,q⟩
theorem aBz {I S:Addr} {fp wr:List Addr} {n:Nat} {P:Nat->Value->Prop} {St:Nat->Heap->Prop} {R:Result->Shared->Prop} (W:Walks prog w A.in1 I fp wr n P St) (st:St n s.heap)
  (h:∀ h' tk,(∀ b o,b∉wr->s.heap.get? b=some o->h'.get? b=some o)->R (.ok (.ret .none)) { s with heap:=h',toks:=tk }) :
  codeAny (model prog w) A (.builtin "set.update.loop" ⟨[.ref S,.ref I],[]⟩) R s:=by
 refine codeAny_builtin PyProof.Rows.F.entry_set_update_loop ?_
 rw [Around.under_plainId PyProof.Rows.F.plain_set_update_loop _]
 show wpAny _ A.in1 (pyNext (.ref I) >>= _) _ _ s
 refine wpAny_bind (W.done s _ _ st fun h' tk hk=>?_)
 show wpAny _ A.in1 (ret Value.none) _ _ _
 exact wpAny_pure (h h' tk hk)
def two (a b:Nat) (t u:Tok):List (Nat×Tok):=if a=b then [(a,t)] else if a < b then [(a,t),(b,u)] else [(b,u),(a,t)]
theorem SX.keep {L:Bool} {h h':Heap} {a:Addr} {l:List (Nat×Tok)} (x:SX L h a l) (k:∀ o,h.get? a=some o->h'.get? a=some o):SX L h' a l:=by
 obtain ⟨o,ep,e,r⟩:=x
 exact ⟨o,ep,k o e,r⟩
end
section
variable {prog:Program} {w:World} {A:Around} {E:Value->Shared->Prop} {s:Shared} {S:Addr} {o:Obj} {ep:Nat} {l:List (Nat×Tok)}
end
def aFA (w:World) (p:Addr) (a b:Nat):HO:=.ext fun h=>∃ t u,SX (Led w) h p (two a b t u)
section
variable {X:Cx}
end
structure Sub (prog:Program) (w:World) (i l:Addr) (n:Nat) (P:Nat->Value->Prop) (st:Nat->Heap->Prop):Prop where
 keep:∀ k h h',st k h->(∀ b,b=i∨b=l->∀ o,h.get? b=some o->h'.get? b=some o)->st k h'
 obj:∀ k h,st k h->(∃ o,h.get? i=some o/\∀ v,o.data≠.cell v)/\∃ o,h.get? l=some o
 item:∀ (A:Around) k (s:Shared) (Q:Value->Shared->Prop) (E:Value->Shared->Prop),k < n->st k s.heap->(∀ v h',P k v->st (k+1) h'->Heap.SameBut i s.heap h'->Q v { s with heap:=h' })->wpAny (model prog w) A (Builtin.SmallTypes.nextOf (.ref i)) Q E s
 done:∀ (A:Around) (s:Shared) (Q:Value->Shared->Prop) (E:Value->Shared->Prop),A.handled=none->st n s.heap->(∀ h' e,Heap.ExtBut i s.heap h'->(∃ o,h'.get? e=some o/\o.cls=.type "StopIteration")->E (.ref e) { s with heap:=h' }) ->
  wpAny (model prog w) A (Builtin.SmallTypes.nextOf (.ref i)) Q E s
theorem aBA (prog:Program) (w:World) (i l:Addr) (items:Array Value) (hne:l≠i):Sub prog w i l items.size (fun k v=>items[k]?=some v) (fun k h=>h.IsListIter i l k/\h.IsList l items) where
 keep:=fun k h h' st kp=>⟨st.1.at fun o e=>kp i (.inl rfl) o e,st.2.at fun o e=>kp l (.inr rfl) o e⟩
 obj:=fun k h st=>by
  obtain ⟨⟨o,e,_,d⟩,⟨o2,e2,_⟩⟩:=st
  exact ⟨⟨o,e,fun v z=>by rw [d] at z; cases z⟩,o2,e2⟩
 item:=fun A k s Q E hk st hQ=>wpAny_nextOf_list_item st.1 st.2 (Array.getElem?_eq_getElem hk) fun h' a b=>hQ _ h' (Array.getElem?_eq_getElem hk) ⟨a,st.2.at fun o e=>b.extBut l o hne e⟩ b
 done:=fun A s Q E hh st hE=>wpAny_nextOf_list_end hh st.1 st.2 (Array.getElem?_eq_none (Qg _)) hE
theorem nH {prog:Program} {w:World} {A:Around} {E:Value->Shared->Prop} {s:Shared} {it t:Addr} {i:Nat} {items:Array Value} {x:Value} {Q:Value->Shared->Prop} (hit:s.heap.IsTupleIter it t i) (ht:s.heap.IsTuple t items) (hx:items[i]?=some x)
  (hQ:∀ h',h'.IsTupleIter it t (i+1)->Heap.SameBut it s.heap h'->Q x { s with heap:=h' }):wpAny (model prog w) A (Builtin.SmallTypes.nextOf (.ref it)) Q E s:=by
 obtain ⟨o,ho,hc,hd⟩:=id hit
 obtain ⟨ol,hol,_,nl,hdl⟩:=ht
 have hT:=hit.typeIs
 unfold Builtin.SmallTypes.nextOf
 refine wpAny_bind (wpAny_callSpecial?_slot (name:=Str.ofString "__next__") hT PySem.F.slot_tuple_iterator_next (wpAny_call_entry PySem.F.slot_tuple_iterator_next hT PySem.F.entry_tuple_iterator_next ?_ (PySem.F.args_tuple_iterator_next_1 _)))
 refine wpAny_bind (m:=field (.ref it) 0) (wpAny_field ho hd (x:=.ref t) rfl ?_)
 have hno:¬ ((Value.ref t==Value.none)=true):=Qu
 show wpAny _ _ (if (Value.ref t==Value.none)=true then _ else _) _ _ s
 rw [if_neg hno]
 refine wpAny_bind (m:=field (.ref it) 1) (wpAny_field ho hd (x:=.int i 0) rfl ?_)
 refine wpAny_bind (m:=seqItems? (.ref t)) (wpAny_seqItems hol hdl ?_)
 simp only [Int.toNat_natCast,hx]
 refine wpAny_bind (wpAny_setField ho hd (by simp) (wpAny_pure ⟨x,rfl,wpAny_pure (hQ _ ?_ (Heap.SameBut.update ..))⟩))
 refine ⟨_,Ze _ ho (Obj.isFreed_of_fields (Obj.data_mapFields hd _)),(Obj.cls_mapFields ..).trans hc,?_⟩
 rw [Obj.data_mapFields hd]
 simp [rawInt]
theorem oN {prog:Program} {w:World} {A:Around} {E:Value->Shared->Prop} {s:Shared} {it t:Addr} {i:Nat} {items:Array Value} {Q:Value->Shared->Prop} (hh:A.handled=none) (hit:s.heap.IsTupleIter it t i) (ht:s.heap.IsTuple t items) (hx:items[i]?=none)
  (hE:∀ h' e,Heap.ExtBut it s.heap h'->(∃ o,h'.get? e=some o/\o.cls=.type "StopIteration")->E (.ref e) { s with heap:=h' }):wpAny (model prog w) A (Builtin.SmallTypes.nextOf (.ref it)) Q E s:=by
 obtain ⟨o,ho,hc,hd⟩:=id hit
 obtain ⟨ol,hol,_,nl,hdl⟩:=ht
 have hT:=hit.typeIs
 unfold Builtin.SmallTypes.nextOf
 refine wpAny_bind (wpAny_callSpecial?_slot (name:=Str.ofString "__next__") hT PySem.F.slot_tuple_iterator_next (wpAny_call_entry PySem.F.slot_tuple_iterator_next hT PySem.F.entry_tuple_iterator_next ?_ (PySem.F.args_tuple_iterator_next_1 _)))
 refine wpAny_bind (m:=field (.ref it) 0) (wpAny_field ho hd (x:=.ref t) rfl ?_)
 have hno:¬ ((Value.ref t==Value.none)=true):=Qu
 show wpAny _ _ (if (Value.ref t==Value.none)=true then _ else _) _ _ s
 rw [if_neg hno]
 refine wpAny_bind (m:=field (.ref it) 1) (wpAny_field ho hd (x:=.int i 0) rfl ?_)
 refine wpAny_bind (m:=seqItems? (.ref t)) (wpAny_seqItems hol hdl ?_)
 simp only [Int.toNat_natCast,hx]
 refine wpAny_bind (wpAny_rule (wpAny_bind (wpAny_setField ho hd (by simp) ?_)))
 refine wpAny_bind (m:=newExc (.type "StopIteration") []) ?_
 simp only [newExc,newTuple]
 refine wpAny_bind (wpAny_newObj_type ?_ (by size_fits))
 refine wpAny_bind (m:=firstArgMember _ _) (wpAny_of_eq (a:=Value.none) (by first | rfl | (simp only [firstArgMember]; rfl)) ?_)
 refine wpAny_newObj_type ?_ (by size_fits)
 simp only [raiseNew]
 refine wpAny_bind (wpAny_handled ?_)
 first | rw [show A.in1.handled=none from hh] | rw [hh]
 refine wpAny_bind (wpAny_pure (wpAny_throw ?_))
 exact hE _ _ (((Heap.SameBut.update ..).extBut.push _).push _) ⟨_,Qk _ rfl,rfl⟩
theorem aAG (prog:Program) (w:World) (i l:Addr) (items:Array Value) (hne:l≠i):Sub prog w i l items.size (fun k v=>items[k]?=some v) (fun k h=>h.IsTupleIter i l k/\h.IsTuple l items) where
 keep:=fun k h h' st kp=>⟨st.1.at fun o e=>kp i (.inl rfl) o e,by obtain ⟨o,e,r⟩:=st.2; exact ⟨o,kp l (.inr rfl) o e,r⟩⟩
 obj:=fun k h st=>by
  obtain ⟨⟨o,e,_,d⟩,⟨o2,e2,_⟩⟩:=st
  exact ⟨⟨o,e,fun v z=>by rw [d] at z; cases z⟩,o2,e2⟩
 item:=fun A k s Q E hk st hQ=>nH st.1 st.2 (Array.getElem?_eq_getElem hk) fun h' a b=>hQ _ h' (Array.getElem?_eq_getElem hk) ⟨a,by obtain ⟨o,e,r⟩:=st.2; exact ⟨o,b.extBut l o hne e,r⟩⟩ b
 done:=fun A s Q E hh st hE=>oN hh st.1 st.2 (Array.getElem?_eq_none (Qg _)) hE
section
variable {prog:Program} {w:World} {A:Around} {E:Value->Shared->Prop} {s:Shared} {z TI TO i1 i2 l1 l2:Addr} {n1 n2:Nat} {P1 P2:Nat->Value->Prop} {st1 st2:Nat->Heap->Prop}
theorem aCX {k:Nat} {a b:Value} {Q:Value->Shared->Prop} (D:ZipApart z TI TO i1 i2 l1 l2) (S1:Sub prog w i1 l1 n1 P1 st1) (S2:Sub prog w i2 l2 n2 P2 st2)
  (hz:IsZip s.heap z TI TO .none) (hTI:IsPair s.heap TI (.ref i1) (.ref i2)) (hTO:IsPair s.heap TO a b) (h1:st1 k s.heap) (h2:st2 k s.heap) (k1:k < n1) (k2:k < n2)
  (hQ:∀ h' x y,P1 k x->P2 k y->IsZip h' z TI TO (rawInt s.heap.objs.size)->IsPair h' TO x y->st1 (k+1) h'->st2 (k+1) h'->IsPair h' s.heap.objs.size x y ->
   (∀ c o,c≠z->c≠TO->c≠i1->c≠i2->s.heap.get? c=some o->h'.get? c=some o)->Q (.ref s.heap.objs.size) { s with heap:=h' }) :
  wpAny (model prog w) A (Builtin.«zip.__next__» ⟨[.ref z],[]⟩) (fun fin s'=>∃ v,fin=.done (.ret v)/\Q v s') E s:=by
 refine wpAny_bind (m:=field (.ref z) 2) (wpAny_field hz rfl (x:=.bool false) rfl ?_)
 refine wpAny_bind (m:=field (.ref z) 3) (wpAny_field hz rfl (x:=.ref TI) rfl ?_)
 refine wpAny_bind (wpAny_seqItems hTI rfl ?_)
 refine wpAny_bind (m:=Builtin.SmallTypes.ownedTupleIsFree (.ref z)) ?_
 unfold Builtin.SmallTypes.ownedTupleIsFree
 refine wpAny_bind (wpAny_field hz rfl (x:=.none) rfl (wpAny_pure ?_))
 simp only [if_true]
 refine wpAny_bind (wpAny_rule ?_)
 refine wpAny_bind (wpAny_field hz rfl (x:=.ref TO) rfl ?_)
 refine wpAny_bind (wpAny_setField_rec hz (by simp) fun g1 hz1 b1=>?_)
 have hz1':IsZip g1 z TI TO .ellipsis:=hz1
 refine wpAny_bind ?_
 simp only [Yc,Yj,Xw,Zj]
 -- the first one
 have s1:st1 k g1:=S1.keep _ _ _ h1 fun c hc o e=>b1.extBut c o (by rcases hc with r | r <;> rw [r]; exact D.i1z; exact D.l1z) e
 refine wpAny_bind (wpAny_bind (wpAny_onRaise ?_))
 refine wpAny_bind (m:=Builtin.SmallTypes.nextOf (.ref i1)) (S1.item _ k _ _ _ k1 s1 fun x g2 px t1 b2=>wpAny_pure ?_)
 have o2:IsPair g2 TO a b:=b2.extBut _ _ D.TOi1 (b1.extBut _ _ D.TOz hTO)
 refine wpAny_bind (wpAny_seqItems o2 rfl ?_)
 refine wpAny_bind (wpAny_updateSeq_pair o2 fun g3 o3 b3=>?_)
 have o3':IsPair g3 TO x b:=o3
 refine wpAny_bind (wpAny_letGo (wpAny_pure ?_))
 -- the second one
 have s2:st2 k g3:=S2.keep _ _ _ h2 fun c hc o e=>by
  rcases hc with r | r
  ·rw [r] at e ⊢; exact b3.extBut _ _ D.TOi2.symm (b2.extBut _ _ D.i12.symm (b1.extBut _ _ D.i2z e))
  ·rw [r] at e ⊢; exact b3.extBut _ _ D.l2TO (b2.extBut _ _ D.l2i1 (b1.extBut _ _ D.l2z e))
 refine wpAny_bind (wpAny_bind (wpAny_onRaise ?_))
 refine wpAny_bind (m:=Builtin.SmallTypes.nextOf (.ref i2)) (S2.item _ k _ _ _ k2 s2 fun y g4 py t2 b4=>wpAny_pure ?_)
 have o4:IsPair g4 TO x b:=b4.extBut _ _ D.TOi2 o3'
 refine wpAny_bind (wpAny_seqItems o4 rfl ?_)
 refine wpAny_bind (wpAny_updateSeq_pair o4 fun g5 o5 b5=>?_)
 have o5':IsPair g5 TO x y:=o5
 refine wpAny_bind (wpAny_letGo (wpAny_pure (wpAny_pure ?_)))
 refine wpAny_bind (wpAny_seqItems o5' rfl ?_)
 refine wpAny_bind (wpAny_newTuple ?_)
 have sz:g5.objs.size=s.heap.objs.size:=by rw [b5.1,b4.1,b3.1,b2.1,b1.1]
 have z5:IsZip g5 z TI TO .ellipsis:=b5.extBut _ _ D.TOz.symm (b4.extBut _ _ D.i2z.symm (b3.extBut _ _ D.TOz.symm (b2.extBut _ _ D.i1z.symm hz1')))
 have kp5:∀ c o,c≠z->c≠TO->c≠i1->c≠i2->s.heap.get? c=some o->g5.get? c=some o:=fun c o c1 c2 c3 c4 e =>
  b5.extBut _ _ c2 (b4.extBut _ _ c4 (b3.extBut _ _ c2 (b2.extBut _ _ c3 (b1.extBut _ _ c1 e))))
 have t1':st1 (k+1) g5:=S1.keep _ _ _ t1 fun c hc o e=>by
  rcases hc with r | r
  ·rw [r] at e ⊢; exact b5.extBut _ _ D.TOi1.symm (b4.extBut _ _ D.i12 (b3.extBut _ _ D.TOi1.symm e))
  ·rw [r] at e ⊢; exact b5.extBut _ _ D.l1TO (b4.extBut _ _ D.l1i2 (b3.extBut _ _ D.l1TO e))
 have t2':st2 (k+1) g5:=S2.keep _ _ _ t2 fun c hc o e=>by
  rcases hc with r | r
  ·rw [r] at e ⊢; exact b5.extBut _ _ D.TOi2.symm e
  ·rw [r] at e ⊢; exact b5.extBut _ _ D.l2TO e
 have zlt:g5.objs.size≠z:=Xy (Qj z5)
 refine wpAny_bind (m:=Builtin.SmallTypes.ownedTupleHandOut (.ref z) (.ref g5.objs.size)) ?_
 unfold Builtin.SmallTypes.ownedTupleHandOut
 have z6:IsZip (g5.push { cls:=.type "tuple",data:=.seq #[x,y] }) z TI TO .ellipsis:=Qb _ z5
 refine wpAny_bind (wpAny_setField_rec z6 (by simp) fun g7 z7 b7=>?_)
 have z7':IsZip g7 z TI TO (rawInt g5.objs.size):=z7
 refine wpAny_setField_rec z7' (by simp) fun g8 z8 b8=>?_
 have z8':IsZip g8 z TI TO (rawInt g5.objs.size):=z8
 have up:∀ c o,c≠z->g5.get? c=some o->g8.get? c=some o:=fun c o c1 e=>b8.extBut _ _ c1 (b7.extBut _ _ c1 (Qb _ e))
 have T8:IsPair g8 g5.objs.size x y:=b8.extBut _ _ zlt (b7.extBut _ _ zlt (Qk _ rfl))
 rw [sz] at z8' T8
 refine wpAny_pure ⟨_,rfl,?_⟩
 show Q (.ref g5.objs.size) _
 rw [sz]
 refine hQ g8 x y px py z8' (up _ _ D.TOz o5') (S1.keep _ _ _ t1' fun c hc o e=>up c o (by rcases hc with r | r <;> rw [r]; exact D.i1z; exact D.l1z) e) (S2.keep _ _ _ t2' fun c hc o e=>up c o (by rcases hc with r | r <;> rw [r]; exact D.i2z; exact D.l2z) e) T8 fun c o c1 c2 c3 c4 e=>up c o c1 (kp5 c o c1 c2 c3 c4 e)
theorem aEr {k:Nat} {a b:Value} {Q:Fin->Shared->Prop} (hh:A.handled=none) (D:ZipApart z TI TO i1 i2 l1 l2) (S1:Sub prog w i1 l1 n1 P1 st1) (S2:Sub prog w i2 l2 n2 P2 st2)
  (hz:IsZip s.heap z TI TO .none) (hTI:IsPair s.heap TI (.ref i1) (.ref i2)) (hTO:IsPair s.heap TO a b) (h1:st1 k s.heap) (h2:st2 k s.heap) (hend:k=n1/\k<=n2∨k=n2/\k < n1)
  (hE:∀ h' e,(∀ c o,c≠z->c≠TO->c≠i1->c≠i2->s.heap.get? c=some o->h'.get? c=some o)->(∃ o,h'.get? e=some o/\o.cls=.type "StopIteration")->E (.ref e) { s with heap:=h' }) :
  wpAny (model prog w) A (Builtin.«zip.__next__» ⟨[.ref z],[]⟩) Q E s:=by
 refine wpAny_bind (m:=field (.ref z) 2) (wpAny_field hz rfl (x:=.bool false) rfl ?_)
 refine wpAny_bind (m:=field (.ref z) 3) (wpAny_field hz rfl (x:=.ref TI) rfl ?_)
 refine wpAny_bind (wpAny_seqItems hTI rfl ?_)
 refine wpAny_bind (m:=Builtin.SmallTypes.ownedTupleIsFree (.ref z)) ?_
 unfold Builtin.SmallTypes.ownedTupleIsFree
 refine wpAny_bind (wpAny_field hz rfl (x:=.none) rfl (wpAny_pure ?_))
 simp only [if_true]
 refine wpAny_bind (wpAny_rule ?_)
 refine wpAny_bind (wpAny_field hz rfl (x:=.ref TO) rfl ?_)
 refine wpAny_bind (wpAny_setField_rec hz (by simp) fun g1 hz1 b1=>?_)
 have hz1':IsZip g1 z TI TO .ellipsis:=hz1
 refine wpAny_bind ?_
 simp only [Yc,Yj,Xw,Zj]
 have s1:st1 k g1:=S1.keep _ _ _ h1 fun c hc o e=>b1.extBut c o (by rcases hc with r | r <;> rw [r]; exact D.i1z; exact D.l1z) e
 refine wpAny_bind (wpAny_bind (wpAny_onRaise ?_))
 have fin:∀ (g:Heap) (e:Addr) (g0:Heap),(∃ o,g.get? e=some o/\o.cls=.type "StopIteration")->IsZip g z TI TO .ellipsis->(∀ c o,c≠z->c≠TO->c≠i1->c≠i2->s.heap.get? c=some o->g.get? c=some o) ->
   wpAny (model prog w) A (setField (.ref z) 0 .none) (fun _ s'=>E (.ref e) s') E { s with heap:=g }:=fun g e g0 ⟨oe,hoe,hce⟩ hzz kp=>by
  have hez:e≠z:=fun q=>by rw [q,hzz] at hoe; cases hoe; simp at hce
  exact wpAny_setField_rec hzz (by simp) fun g' _ b'=>hE g' e (fun c o c1 c2 c3 c4 q=>b'.extBut _ _ c1 (kp c o c1 c2 c3 c4 q)) ⟨oe,b'.extBut _ _ hez hoe,hce⟩
 rcases hend with ⟨e1,_⟩ | ⟨e2,k1⟩
 ·rw [e1] at s1
  refine wpAny_bind (m:=Builtin.SmallTypes.nextOf (.ref i1)) (S1.done _ _ _ _ hh s1 fun g2 e b2 he=>?_)
  exact fin g2 e g1 he (b2 _ _ D.i1z.symm hz1') fun c o c1 _ c3 _ q=>b2 _ _ c3 (b1.extBut _ _ c1 q)
 ·refine wpAny_bind (m:=Builtin.SmallTypes.nextOf (.ref i1)) (S1.item _ k _ _ _ k1 s1 fun x g2 px t1 b2=>wpAny_pure ?_)
  have o2:IsPair g2 TO a b:=b2.extBut _ _ D.TOi1 (b1.extBut _ _ D.TOz hTO)
  refine wpAny_bind (wpAny_seqItems o2 rfl ?_)
  refine wpAny_bind (wpAny_updateSeq_pair o2 fun g3 o3 b3=>?_)
  refine wpAny_bind (wpAny_letGo (wpAny_pure ?_))
  have s2:st2 n2 g3:=by
   rw [<- e2]
   exact S2.keep _ _ _ h2 fun c hc o e=>by
    rcases hc with r | r
    ·rw [r] at e ⊢; exact b3.extBut _ _ D.TOi2.symm (b2.extBut _ _ D.i12.symm (b1.extBut _ _ D.i2z e))
    ·rw [r] at e ⊢; exact b3.extBut _ _ D.l2TO (b2.extBut _ _ D.l2i1 (b1.extBut _ _ D.l2z e))
  refine wpAny_bind (wpAny_bind (wpAny_onRaise ?_))
  refine wpAny_bind (m:=Builtin.SmallTypes.nextOf (.ref i2)) (S2.done _ _ _ _ hh s2 fun g4 e b4 he=>?_)
  exact fin g4 e g3 he (b4 _ _ D.i2z.symm (b3.extBut _ _ D.TOz.symm (b2.extBut _ _ D.i1z.symm hz1'))) fun c o c1 c2 c3 c4 q=>b4 _ _ c4 (b3.extBut _ _ c2 (b2.extBut _ _ c3 (b1.extBut _ _ c1 q)))
end
inductive Sk where
 | l | t
def SqK (k:Sk) (K:PySem.W.Frag) (H:Hp) (a:Addr) (xs:List V):Prop:=match k with | .l=>SqL K H a xs | .t=>SqT K H a xs
def AtK (k:Sk) (h:Heap) (a:Addr) (its:Array Value):Prop:=match k with | .l=>h.IsList a its | .t=>h.IsTuple a its
def ItK (k:Sk) (h:Heap) (i a:Addr) (n:Nat):Prop:=match k with | .l=>h.IsListIter i a n | .t=>h.IsTupleIter i a n
def itK (k:Sk) (a:Addr):Obj:=match k with | .l=>{ cls:=.type "list_iterator",data:=.fields #[.ref a,.int 0 0] } | .t=>{ cls:=.type "tuple_iterator",data:=.fields #[.ref a,.int 0 0] }
theorem ItK.new (k:Sk) (h:Heap) (a:Addr):ItK k (h.push (itK k a)) h.objs.size a 0:=by
 cases k
 ·exact ⟨_,Qk _ rfl,rfl,rfl⟩
 ·exact ⟨_,Qk _ rfl,rfl,rfl⟩
theorem ItK.obj {k:Sk} {h:Heap} {i a:Addr} {n:Nat} (x:ItK k h i a n):∃ o,h.get? i=some o/\∀ v,o.data≠.cell v:=by
 cases k
 ·obtain ⟨o,e,_,d⟩:=x; exact ⟨o,e,fun v z=>by rw [d] at z; cases z⟩
 ·obtain ⟨o,e,_,d⟩:=x; exact ⟨o,e,fun v z=>by rw [d] at z; cases z⟩
theorem ItK.at {k:Sk} {h h':Heap} {i a:Addr} {n:Nat} (x:ItK k h i a n) (kp:∀ o,h.get? i=some o->h'.get? i=some o):ItK k h' i a n:=by
 cases k
 ·exact Heap.IsListIter.at x kp
 ·exact Heap.IsTupleIter.at x kp
theorem AtK.at {k:Sk} {h h':Heap} {a:Addr} {its:Array Value} (x:AtK k h a its) (kp:∀ o,h.get? a=some o->h'.get? a=some o):AtK k h' a its:=by
 cases k
 ·exact Heap.IsList.at x kp
 ·obtain ⟨o,e,r⟩:=x; exact ⟨o,kp o e,r⟩
theorem wV (k:Sk) (prog:Program) (w:World) (i l:Addr) (items:Array Value) (hne:l≠i):Sub prog w i l items.size (fun j v=>items[j]?=some v) (fun j h=>ItK k h i l j/\AtK k h l items):=by
 cases k
 ·exact aBA prog w i l items hne
 ·exact aAG prog w i l items hne
theorem aDR {prog:Program} {w:World} {A:Around} {E:Value->Shared->Prop} {s:Shared} {k:Sk} {a:Addr} {its:Array Value} {Q:Value->Shared->Prop} (h:AtK k s.heap a its) (hQ:Q (.ref s.heap.objs.size) { s with heap:=s.heap.push (itK k a) }):wpAny (model prog w) A (pyIter (.ref a)) Q E s:=by
 cases k
 ·exact wpAny_pyIter_list h hQ
 ·exact wpAny_pyIter_tuple h hQ
section
variable {X:Cx} {pins:List (Addr×Obj)} {σ:St} {H:Hp} {s:Shared}
theorem Inv.seqK (I:Inv X pins σ H s) {k:Sk} {a:Addr} {xs:List V} (h:SqK k X.K H a xs):∃ its:List Value,aY xs its/\AtK k s.heap a its.toArray:=by
 cases k
 ·obtain ⟨its,r,p,_⟩:=I.list h; exact ⟨its,r,p.isList⟩
 ·obtain ⟨its,r,p,_⟩:=I.tuple h; exact ⟨its,r,p⟩
theorem Inv.seqK_inj (I:Inv X pins σ H s) {k:Sk} {a:Addr} {xs ys:List V} (h:SqK k X.K H a xs) (h':SqK k X.K H a ys):xs=ys:=by
 cases k
 ·exact I.list_inj h h'
 ·exact I.tuple_inj h h'
theorem Inv.seq_ne (I:Inv X pins σ H s) {k:Sk} {a b:Addr} {xs:List V} (h:SqK k X.K H a xs) (f:mL X pins H b):a≠b:=by
 have rd:∀ {u:HO},Rd H a u->a≠b:=fun {u} r z=>by
  rcases r with r | ⟨o,r⟩ <;> (rw [z,f.1] at r; cases r)
 have kk:∀ {o:Obj},X.K.lookup a=some o->a≠b:=fun {o} e z=>by
  have e1:=I.ok.mod.kin a o e
  rcases f.2.2.2.1 with q | q
  ·exact I.ok.noex a o e1 (z ▸ q)
  ·exact Je _ (Qn (Qj (I.ok.bs a o e1).1) (z ▸ q))
 cases k
 ·rcases h with h | ⟨o,_,_,e,_⟩
  ·exact rd h
  ·exact kk e
 ·rcases h with h | ⟨o,_,_,e,_⟩
  ·exact rd h
  ·exact kk e
theorem Inv.turnedL {h':Heap} {t':Nat} (ch:List Addr) (I:Inv X pins σ H s) (k:∀ b o,b∉ch->s.heap.get? b=some o->h'.get? b=some o) (f:∀ b∈ch,mL X pins H b):Inv X pins σ H { s with heap:=h',toks:=t' }:=by
 have nit:∀ b u,H b=some u->b∉ch:=fun b u e z=>by rw [(f b z).1] at e; cases e
 have nL:X.env.locals∉ch:=fun z=>(f _ z).2.1 rfl
 refine I.step (g':=s.gens) (d':=s.drawn) (ch:=ch) (fun b hb=>⟨(f b hb).2.2.2.1,(f b hb).2.1,(f b hb).2.2.2.2.1,(f b hb).2.2.2.2.2⟩) (fun b o _ _ hc e _=>k b o hc e) (fun b o _ _ hc e _=>⟨o.slots,k b o hc e⟩) (fun _ _ _ _ n=>n)
  (fun b o hc e=>⟨o,k b o hc e⟩) (fun _ _ e=>e) (fun _ _ _ e=>e) (fun b ps e=>⟨#[],by rw [e]; simp⟩) (fun m hm=>?_) (fun b u e=>?_) I.bare
 ·obtain ⟨o,es,ep,ho,r⟩:=hm
  exact ⟨o,es,ep,k _ o nL ho,r⟩
 ·refine (I.hok b u e).stay (fun c v hc q=>k c v ?_ q) (fun _ q=>q) fun _ _ q=>q
  rcases hc with z | z
  ·rw [z]; exact nit b u e
  ·exact nit c _ z
theorem Inv.trackO {D:Addr} {u:HO} (I:Inv X pins σ H s) (new:bG X.prog X.w (upd H D u) s.heap D u) (hn:H D=none) (hL:D≠X.env.locals)
  (h1:X.s₀.heap.objs.size<=D) (h2:∀ x c,X.env.cells.lookup x=some c->c≠D) (h3:∀ p∈X.pn++pins,p.1≠D):Inv X pins σ (upd H D u) s:=by
 have ne:∀ b v,H b=some v->b≠D:=fun b v e z=>by rw [z,hn] at e; cases e
 refine I.step (g':=s.gens) (d':=s.drawn) (t':=s.toks) (h':=s.heap) (ch:=[D]) (fun b hb=>?_) (fun b o _ _ _ e _=>e) (fun b o _ _ _ e _=>⟨o.slots,e⟩) (fun b o hc _ n=>?_) (fun b o _ e=>⟨o,e⟩)
  (fun b xs e=>by rw [aD (ne b _ e)]; exact e) (fun b o v e=>by rw [aD (ne b _ e)]; exact e) (fun b ps e=>⟨#[],by rw [aD (ne b _ e),e]; simp⟩) (fun _ h=>h) (fun b v e=>?_) I.bare
 ·have e:b=D:=by simpa using hb
  subst e
  exact ⟨.inr h1,hL,h2,h3⟩
 ·rw [aD (by simpa using hc)]; exact n
 ·by_cases hb:b=D
  ·subst hb
   rw [aB] at e; cases e
   exact new
  ·rw [aD hb] at e
   exact (I.hok b v e).stay (fun c v _ q=>q) (fun c q=>by rw [aD (ne c _ q)]; exact q) fun c xs q=>by rw [aD (ne c _ q)]; exact q
end
def Itz (K:PySem.W.Frag) (k1 k2:Sk) (a b:Addr):It :=
 ⟨fun i H => ∃ xs ys x y, SqK k1 K H a xs /\ SqK k2 K H b ys /\ xs[i]? = some x /\ ys[i]? = some y,
  fun i H v H'=>∃ p,H p=none/\v=.ref p/\∀ xs ys,SqK k1 K H a xs->SqK k2 K H b ys->∃ x y,xs[i]?=some x/\ys[i]?=some y/\H'=upd H p (.tup [x,y]),
  fun i H=>∃ xs ys,SqK k1 K H a xs/\SqK k2 K H b ys/\min xs.length ys.length=i⟩
theorem aBB {P:Program} {w:World} {K:PySem.W.Frag} {es:List Expr} {x1} {pos:Pos} (k1 k2:Sk) (a b z TI TO i1 i2:Addr) (D:∀ l1 l2:Addr,(∀ c∈[z,TI,TO,i1,i2],l1≠c)->(∀ c∈[z,TI,TO,i1,i2],l2≠c)->ZipApart z TI TO i1 i2 l1 l2) :
  Turn P w K (.Tuple es x1 pos) (Itz K k1 k2 a b) [z,TI,TO,i1,i2] z (fun i h=>IsZip h z TI TO .none/\IsPair h TI (.ref i1) (.ref i2)/\(∃ x y,IsPair h TO x y)/\ItK k1 h i1 a i/\ItK k2 h i2 b i) where
 mem:=by simp
 obj:=fun i h st c hc=>by
  obtain ⟨hz,hTI,⟨x,y,hTO⟩,h1,h2⟩:=st
  simp only [Qm,Qp,or_false] at hc
  rcases hc with rfl | rfl | rfl | rfl | rfl
  ·exact ⟨_,hz,fun v q=>by cases q⟩
  ·exact ⟨_,hTI,fun v q=>by cases q⟩
  ·exact ⟨_,hTO,fun v q=>by cases q⟩
  ·exact h1.obj
  ·exact h2.obj
 keep:=fun i h h' st k=>by
  obtain ⟨hz,hTI,⟨x,y,hTO⟩,h1,h2⟩:=st
  exact ⟨k z (by simp) _ hz,k TI (by simp) _ hTI,⟨x,y,k TO (by simp) _ hTO⟩,h1.at fun o e=>k i1 (by simp) o e,h2.at fun o e=>k i2 (by simp) o e⟩
 item:=by
  intro X hP hw hK hc i pins s σ H E I hf st hg
  subst hP hw hK
  obtain ⟨hz,hTI,⟨x0,y0,hTO⟩,h1,h2⟩:=st
  obtain ⟨xs,ys,x,y,ha,hb,hx,hy⟩:=hg
  obtain ⟨its,rv,pa⟩:=I.seqK ha
  obtain ⟨jts,rw',pb⟩:=I.seqK hb
  obtain ⟨u,hu,ru⟩:=rv.get hx
  obtain ⟨v,hv,rv2⟩:=rw'.get hy
  have na:∀ c∈[z,TI,TO,i1,i2],a≠c:=fun c hc'=>I.seq_ne ha (hf c hc')
  have nb:∀ c∈[z,TI,TO,i1,i2],b≠c:=fun c hc'=>I.seq_ne hb (hf c hc')
  have DD:=D a b na nb
  have hT:s.TypeIs (.ref z) "zip" := ⟨_,hz,rfl⟩
  have hi1:i < its.toArray.size:=by rw [Qq]; exact (Qa.mp hu).1
  have hi2:i < jts.toArray.size:=by rw [Qq]; exact (Qa.mp hv).1
  unfold pyNext
  refine wpAny_bind (wpAny_attempt (wpAny_callSpecial?_slot (name:=Str.ofString "__next__") hT PySem.F.slot_zip_next (wpAny_call_entry PySem.F.slot_zip_next hT PySem.F.entry_zip_next
   (aCX DD (wV k1 X.prog X.w i1 a its.toArray (na i1 (by simp))) (wV k2 X.prog X.w i2 b jts.toArray (nb i2 (by simp))) hz hTI hTO ⟨h1,pa⟩ ⟨h2,pb⟩ hi1 hi2 fun h' u' v' pu pv hz' hTO' s1 s2 hT' kp=>wpAny_pure ?_) (PySem.F.args_zip_next_1 _))))
  have eu:u'=u:=by
   have q:its[i]?=some u':=by simpa using pu
   rw [hu] at q
   exact (Option.some.inj q).symm
  have ev:v'=v:=by
   have q:jts[i]?=some v':=by simpa using pv
   rw [hv] at q
   exact (Option.some.inj q).symm
  subst eu ev
  refine ⟨_,rfl,wpAny_letOwnedTupleGo_zip hz' fun h2 hz2 sb2=>?_⟩
  have Tz:s.heap.objs.size≠z:=Xy (Qj hz)
  have hT2:IsPair h2 s.heap.objs.size u' v':=sb2.extBut _ _ Tz hT'
  have hf0:=I.hok.fresh (Qg s.heap.objs.size)
  have fz:=I.fpOk (Qg s.heap.objs.size) hf0
  have I2:Inv X pins σ H { s with heap:=h2 }:=by
   refine I.turnedL (t':=s.toks) [z,TO,i1,i2] (fun c o hc' e=>?_) (fun c hc'=>hf c ?_)
   ·simp only [Qm,Qp,or_false,not_or] at hc'
    exact sb2.extBut _ _ hc'.1 (kp c o hc'.1 hc'.2.1 hc'.2.2.1 hc'.2.2.2 e)
   ·simp only [Qm,Qp,or_false] at hc' ⊢
    rcases hc' with r | r | r | r
    ·exact .inl r
    ·exact .inr (.inr (.inl r))
    ·exact .inr (.inr (.inr (.inl r)))
    ·exact .inr (.inr (.inr (.inr r)))
  have I3:Inv X pins σ (upd H s.heap.objs.size (.tup [x,y])) { s with heap:=h2 }:=by
   refine I2.trackO (show bG X.prog X.w _ _ _ (.tup [x,y]) from ⟨by show 2<=sizeLine; rw [sizeLine_eq]; decide,[u',v'],0,.cons ru (.cons rv2 .nil),hT2⟩) hf0 fz.2.1 I.sz fz.2.2.2.2.1 fz.2.2.2.2.2
  refine ⟨.ref s.heap.objs.size,_,I3,rfl,⟨s.heap.objs.size,hf0,rfl,fun xs' ys' ha' hb'=>?_⟩,⟨hz2,sb2.extBut _ _ DD.TIz (kp _ _ DD.TIz DD.TITO DD.TIi1 DD.TIi2 hTI),⟨_,_,sb2.extBut _ _ DD.TOz hTO'⟩,s1.1.at fun o e=>sb2.extBut _ _ DD.i1z e,s2.1.at fun o e=>sb2.extBut _ _ DD.i2z e⟩,fun c hc'=>?_⟩
  ·rw [I.seqK_inj ha' ha,I.seqK_inj hb' hb]
   exact ⟨x,y,hx,hy,rfl⟩
  ·have cl:c≠s.heap.objs.size:=by
    obtain ⟨o,e⟩:∃ o,s.heap.get? c=some o:=by
     simp only [Qm,Qp,or_false] at hc'
     rcases hc' with rfl | rfl | rfl | rfl | rfl
     ·exact ⟨_,hz⟩
     ·exact ⟨_,hTI⟩
     ·exact ⟨_,hTO⟩
     ·obtain ⟨o,e,_⟩:=h1.obj; exact ⟨o,e⟩
     ·obtain ⟨o,e,_⟩:=h2.obj; exact ⟨o,e⟩
    exact Qz (Qj e)
   rw [aD cl]
   exact (hf c hc').1
 done:=by
  intro X hP hw hK hc i pins s σ H E I hf st hg
  subst hP hw hK
  obtain ⟨hz,hTI,⟨x0,y0,hTO⟩,h1,h2⟩:=st
  obtain ⟨xs,ys,ha,hb,hmin⟩:=hg
  obtain ⟨its,rv,pa⟩:=I.seqK ha
  obtain ⟨jts,rw',pb⟩:=I.seqK hb
  have la:=rv.length
  have lb:=rw'.length
  have na:∀ c∈[z,TI,TO,i1,i2],a≠c:=fun c hc'=>I.seq_ne ha (hf c hc')
  have nb:∀ c∈[z,TI,TO,i1,i2],b≠c:=fun c hc'=>I.seq_ne hb (hf c hc')
  have DD:=D a b na nb
  have hT:s.TypeIs (.ref z) "zip" := ⟨_,hz,rfl⟩
  unfold pyNext
  refine wpAny_bind (wpAny_attempt (wpAny_callSpecial?_slot (name:=Str.ofString "__next__") hT PySem.F.slot_zip_next (wpAny_call_entry PySem.F.slot_zip_next hT PySem.F.entry_zip_next
   (aEr (I.ok.hd hc) DD (wV k1 X.prog X.w i1 a its.toArray (na i1 (by simp))) (wV k2 X.prog X.w i2 b jts.toArray (nb i2 (by simp))) hz hTI hTO ⟨h1,pa⟩ ⟨h2,pb⟩ (by rw [Qq,Qq]; omega) fun h' e kp he=>?_) (PySem.F.args_zip_next_1 _))))
  obtain ⟨oe,hoe,hce⟩:=he
  refine wpAny_bind (wpAny_isInstance (T := "StopIteration") (b:=true) ⟨oe,hoe,hce⟩ isSubtype_stop (wpAny_pure ⟨rfl,?_⟩))
  refine I.turnedL (t':=s.toks) [z,TO,i1,i2] (fun c o hc' e=>?_) (fun c hc'=>hf c ?_)
  ·simp only [Qm,Qp,or_false,not_or] at hc'
   exact kp c o hc'.1 hc'.2.1 hc'.2.2.1 hc'.2.2.2 e
  ·simp only [Qm,Qp,or_false] at hc' ⊢
   rcases hc' with r | r | r | r
   ·exact .inl r
   ·exact .inr (.inr (.inl r))
   ·exact .inr (.inr (.inr (.inl r)))
   ·exact .inr (.inr (.inr (.inr r)))
 self:=fun _ _ _ _ _ st h=>wpAny_pyIter_zip st.1 h
abbrev zh1 (k1:Sk) (h:Heap) (a:Addr):Heap:=h.push (itK k1 a)
abbrev zh2 (k1 k2:Sk) (h:Heap) (a b:Addr):Heap:=(zh1 k1 h a).push (itK k2 b)
abbrev zh3 (k1 k2:Sk) (h:Heap) (a b:Addr):Heap:=(zh2 k1 k2 h a b).push { cls:=.type "tuple",data:=.seq #[.ref h.objs.size,.ref (zh1 k1 h a).objs.size] }
abbrev zh4 (k1 k2:Sk) (h:Heap) (a b:Addr):Heap:=(zh3 k1 k2 h a b).push { cls:=.type "tuple",data:=.seq #[.none,.none] }
abbrev zh5 (k1 k2:Sk) (h:Heap) (a b:Addr):Heap:=(zh4 k1 k2 h a b).push { cls:=.type "zip",data:=.fields #[.none,.bool false,.bool false,.ref (zh2 k1 k2 h a b).objs.size,.ref (zh3 k1 k2 h a b).objs.size] }
theorem wW (k1 k2:Sk) (a b:Addr) (xs ys:Array Value) :
  Meets (Builtin.«zip.__new__» ⟨[.type "zip",.ref a,.ref b],[]⟩) (fun _ R s=>AtK k1 s.heap a xs/\AtK k2 s.heap b ys/\R (.ok (.ret (.ref (zh4 k1 k2 s.heap a b).objs.size))) { s with heap:=zh5 k1 k2 s.heap a b }) :=
 .of_wp fun prog w A R s h=>by
  obtain ⟨hp,g,d,tk,os⟩:=s
  obtain ⟨hl1,hl2,h⟩:=h
  have hsub:=sub_zip
  have hA:AtK k1 (Shared.heap ⟨hp,g,d,tk,os⟩) a xs:=hl1
  have hB:AtK k2 (Shared.heap ⟨hp.push (itK k1 a),g,d,tk,os⟩) b ys:=AtK.at hl2 fun o e=>Qb _ e
  wp_walk using aDR hA,aDR hB
  exact ⟨_,rfl,h⟩
section
variable {X:Cx} {es:List Expr} {x1:Nat} {tpos:Pos}
def aFB (K:PySem.W.Frag) (k1 k2:Sk) (ta:TA):TI:=fun σ H R=>ta σ H fun vs H1=>∃ a b xs ys,vs = [.ref a,.ref b]/\SqK k1 K H1 a xs/\SqK k2 K H1 b ys/\R (Itz K k1 k2 a b) H1
theorem aEs (k1 k2:Sk) {a b:Expr} {ta:TA} {p pos:Pos} (hg:Gl X "zip") (hm:X.mg "zip" = none) (ha:PA X [a,b] ta) (hs:starEach [a,b] X.env = [(false,eval a X.env),(false,eval b X.env)]:=by rfl) (hs2:starEach [b] X.env = [(false,eval b X.env)]:=by rfl) :
  PI X (.Tuple es x1 tpos) (.Call (.Name "zip" p) [a,b] [] pos) (aFB X.K k1 k2 ta):=by
 intro pins s σ H R I h
 refine Call_ (kD (u:=.type "zip") I hg hm (by decide +kernel) (PyProof.Rows.callWith_type1 (thn (ha pos pins s σ H _ I h) fun us s1 hx9=>?_) (by rw [hs,hs2]) (by rw [hs2]; rfl)))
 obtain ⟨vs,H1,I1,r1,q1⟩:=hx9
 obtain ⟨l1,l2,xs,ys,rfl,hA,hB,q⟩:=q1
 obtain ⟨u1,u2,rfl,r1',r2'⟩:=pI r1
 cases r1'
 cases r2'
 obtain ⟨its,rv,pa⟩:=I1.seqK hA
 obtain ⟨jts,rw',pb⟩:=I1.seqK hB
 refine callType_new PySem.F.called_zip (by decide) (PySem.F.typeCall_zip_2 _ _) (PySem.F.newCall_zip_2 _ _) (fun obj=>PySem.F.args_object_init_3 obj _ _) PySem.F.entry_zip_new (wW k1 k2 l1 l2 its.toArray jts.toArray) ⟨pa,pb,?_⟩
 have n1:(zh1 k1 s1.heap l1).objs.size=s1.heap.objs.size+1:=Jn ..
 have n2:(zh2 k1 k2 s1.heap l1 l2).objs.size=s1.heap.objs.size+2:=by rw [Jn,n1]
 have n3:(zh3 k1 k2 s1.heap l1 l2).objs.size=s1.heap.objs.size+3:=by rw [Jn,n2]
 have n4:(zh4 k1 k2 s1.heap l1 l2).objs.size=s1.heap.objs.size+4:=by rw [Jn,n3]
 have g5:IsZip (zh5 k1 k2 s1.heap l1 l2) (zh4 k1 k2 s1.heap l1 l2).objs.size (zh2 k1 k2 s1.heap l1 l2).objs.size (zh3 k1 k2 s1.heap l1 l2).objs.size .none:=Qk _ rfl
 have g4:IsPair (zh5 k1 k2 s1.heap l1 l2) (zh3 k1 k2 s1.heap l1 l2).objs.size .none .none:=Qb _ (Qk _ rfl)
 have g3:IsPair (zh5 k1 k2 s1.heap l1 l2) (zh2 k1 k2 s1.heap l1 l2).objs.size (.ref s1.heap.objs.size) (.ref (zh1 k1 s1.heap l1).objs.size):=Qb _ (Qb _ (Qk _ rfl))
 have g2:ItK k2 (zh5 k1 k2 s1.heap l1 l2) (zh1 k1 s1.heap l1).objs.size l2 0:=(ItK.new k2 (zh1 k1 s1.heap l1) l2).at fun o e=>Qb _ (Qb _ (Qb _ e))
 have g1:ItK k1 (zh5 k1 k2 s1.heap l1 l2) s1.heap.objs.size l1 0:=(ItK.new k1 s1.heap l1).at fun o e=>Qb _ (Qb _ (Qb _ (Qb _ e)))
 have kp:∀ c o,s1.heap.get? c=some o->(zh5 k1 k2 s1.heap l1 l2).get? c=some o:=fun c o e=>Qb _ (Qb _ (Qb _ (Qb _ (Qb _ e))))
 refine ⟨⟨_,g5,rfl⟩,wpAny_pyIter_zip (f0:=.none) g5 ?_⟩
 rw [n1,n2,n3,n4] at *
 have I2:Inv X pins σ H1 { s1 with heap:=zh5 k1 k2 s1.heap l1 l2 }:=I1.kept (t':=s1.toks) kp
 refine ⟨s1.heap.objs.size+4,[s1.heap.objs.size+4,s1.heap.objs.size+2,s1.heap.objs.size+3,s1.heap.objs.size,s1.heap.objs.size+1],_,_,H1,rfl,I2,aBB k1 k2 l1 l2 _ _ _ _ _ ?_,⟨g5,g3,⟨_,_,g4⟩,g1,g2⟩,fun c hc=>?_,q⟩
 ·intro m1 m2 h1 h2
  have d:∀ i j:Nat,i≠j->s1.heap.objs.size+i≠s1.heap.objs.size+j:=fun i j h=>by omega
  exact ⟨d 2 4 (by decide),d 3 4 (by decide),d 0 4 (by decide),d 1 4 (by decide),d 2 3 (by decide),d 2 0 (by decide),d 2 1 (by decide),d 3 0 (by decide),d 3 1 (by decide),d 0 1 (by decide),
   h1 _ (by simp),h1 _ (by simp),h1 _ (by simp),h1 _ (by simp),h2 _ (by simp),h2 _ (by simp),h2 _ (by simp),h2 _ (by simp)⟩
 ·have hc':s1.heap.objs.size<=c:=by
   simp only [Qm,Qp,or_false] at hc
   rcases hc with r | r | r | r | r
   ·rw [r]; exact Xm _ _
   ·rw [r]; exact Xm _ _
   ·rw [r]; exact Xm _ _
   ·rw [r]; exact Qg _
   ·rw [r]; exact Xm _ _
  exact I1.fpOk hc' (I1.hok.fresh hc')
end
open PySem.AutoSeq1 (wpAny_loadPart')
section
variable {X:Cx}
end
def zU (N frn:List Str) (fr:List Nat):Bool:=frn.length==fr.length && (frn.zip fr).all fun y=>N[y.2]?==some y.1
theorem bD {X:Cx} {scope:Scope} {own frn:List Str} {fr:List Nat} (sc:Scope) (N:List Str) (h1:X.env.scope=sc) (h2:X.N=N) (h:(oM sc scope own frn && zU N frn fr)=true):CompOk X scope own fr frn:=by
 rw [Ji] at h
 obtain ⟨ha,hb⟩:=h
 unfold zU at hb
 simp only [Ji,beq_iff_eq,Xb] at hb
 refine ⟨by rw [h1]; exact ha,fun k x hk=>?_,hb.1.symm⟩
 have hlt:k < fr.length:=by rw [<- hb.1]; exact (Qa.mp hk).1
 refine ⟨fr[k],Qc hlt,?_⟩
 have hm:(x,fr[k])∈frn.zip fr:=by
  refine Qe (i:=k) ?_
  rw [Jb]
  exact ⟨hk,Qc hlt⟩
 rw [h2]
 exact hb.2 _ hm
section
variable {J:It} {own:Nat} {fr:List Nat} {g:TG} {tt:TT} {te:TE} {σ:St} {H:Hp} {Q:Hp->List V->Prop}
theorem jT (n:Nat) (hn:n<=sizeLine) (SH:St->Prop) (Pv:Nat->List V->Hp->Prop) (hσ:SH (blk own fr σ)) (h0:Pv 0 [] H) (hlen:∀ i ys H,Pv i ys H->ys.length<=i)
  (hstop:∀ ys H,Pv n ys H->J.stop n H) (hgo:∀ i ys H,i < n->Pv i ys H->J.go i H)
  (hs:∀ i ys σ x H H',i < n->SH σ->Pv i ys H->J.yld i H x H'->ys.length < sizeLine->g x σ H' fun σ2 H2=>tt σ2 H2 fun b H3=>if b=true then te σ2 H3 fun y H4=>ys.length < sizeLine/\SH σ2/\Pv (i+1) (ys++[y]) H4 else SH σ2/\Pv (i+1) ys H3)
  (hd:∀ ys H,Pv n ys H->Q H ys) :
  ∃ W:Nat->Nat->List V->St->Hp->Prop,(∃ m,W 0 m [] (blk own fr σ) H)/\∀ i m ys σ' H,W i m ys σ' H ->
   (J.stop i H/\Q H ys) ∨
   (J.go i H/\∃ N:List V->St->Hp->Prop,(∀ ys' σ2 H2,N ys' σ2 H2->∃ m',m' < m/\W (i+1) m' ys' σ2 H2) /\
    ∀ x H',J.yld i H x H'->g x σ' H' fun σ2 H2=>tt σ2 H2 fun b H3=>if b=true then te σ2 H3 fun y H4=>ys.length < sizeLine/\N (ys++[y]) σ2 H4 else N ys σ2 H3):=by
 refine ⟨fun i m ys σ' H=>m=n - i/\i<=n/\SH σ'/\Pv i ys H,⟨n,by simp,Jk _,hσ,h0⟩,?_⟩
 rintro i m ys σ' H ⟨rfl,hi,sh,p⟩
 by_cases hlt:i < n
 ·refine .inr ⟨hgo i ys H hlt p,fun ys' σ2 H2=>SH σ2/\Pv (i+1) ys' H2,fun ys' σ2 H2 ⟨e,q⟩=>⟨n - (i+1),by omega,rfl,hlt,e,q⟩,fun x H' y=>?_⟩
  exact hs i ys σ' x H H' hlt sh p y (by have:=hlen i ys H p; omega)
 ·have e:i=n:=by omega
  subst e
  exact .inl ⟨hstop ys H p,hd ys H p⟩
theorem aBC {K:PySem.W.Frag} {a:Addr} {xs:List V} (SH:St->Prop) (Pv:Nat->List V->Hp->Prop) (hn:xs.length<=sizeLine) (hσ:SH (blk own fr σ)) (h0:Pv 0 [] H) (hlen:∀ i ys H,Pv i ys H->ys.length<=i) (hl:∀ i ys H,Pv i ys H->SqT K H a xs)
  (hs:∀ i ys σ x H,xs[i]?=some x->SH σ->Pv i ys H->ys.length < sizeLine->g x σ H fun σ2 H2=>tt σ2 H2 fun b H3=>if b=true then te σ2 H3 fun y H4=>ys.length < sizeLine/\SH σ2/\Pv (i+1) (ys++[y]) H4 else SH σ2/\Pv (i+1) ys H3)
  (hd:∀ ys H,Pv xs.length ys H->Q H ys) :
  ∃ W:Nat->Nat->List V->St->Hp->Prop,(∃ m,W 0 m [] (blk own fr σ) H)/\∀ i m ys σ' H,W i m ys σ' H ->
   ((Itt K a).stop i H/\Q H ys) ∨
   ((Itt K a).go i H/\∃ N:List V->St->Hp->Prop,(∀ ys' σ2 H2,N ys' σ2 H2->∃ m',m' < m/\W (i+1) m' ys' σ2 H2) /\
    ∀ x H',(Itt K a).yld i H x H'->g x σ' H' fun σ2 H2=>tt σ2 H2 fun b H3=>if b=true then te σ2 H3 fun y H4=>ys.length < sizeLine/\N (ys++[y]) σ2 H4 else N ys σ2 H3):=by
 refine jT xs.length hn SH Pv hσ h0 hlen (fun ys H p=>⟨xs,hl _ _ _ p,Qg _⟩) (fun i ys H hi p=>⟨xs,xs[i],hl _ _ _ p,Qc hi⟩) (fun i ys σ x H H' hi sh p y hz=>?_) hd
 obtain ⟨e,y⟩:=y
 subst e
 exact hs i ys σ x _ (y xs (hl _ _ _ p)) sh p hz
theorem lE {K:PySem.W.Frag} {a:Addr} {xs:List V} (SH:St->Prop) (Pv:Nat->List V->Hp->Prop) (hn:xs.length<=sizeLine) (hσ:SH (blk own fr σ)) (h0:Pv 0 [] H) (hlen:∀ i ys H,Pv i ys H->ys.length<=i) (hl:∀ i ys H,Pv i ys H->SqL K H a xs)
  (hs:∀ i ys σ x H,xs[i]?=some x->SH σ->Pv i ys H->ys.length < sizeLine->g x σ H fun σ2 H2=>tt σ2 H2 fun b H3=>if b=true then te σ2 H3 fun y H4=>ys.length < sizeLine/\SH σ2/\Pv (i+1) (ys++[y]) H4 else SH σ2/\Pv (i+1) ys H3)
  (hd:∀ ys H,Pv xs.length ys H->Q H ys) :
  ∃ W:Nat->Nat->List V->St->Hp->Prop,(∃ m,W 0 m [] (blk own fr σ) H)/\∀ i m ys σ' H,W i m ys σ' H ->
   ((Itl K a).stop i H/\Q H ys) ∨
   ((Itl K a).go i H/\∃ N:List V->St->Hp->Prop,(∀ ys' σ2 H2,N ys' σ2 H2->∃ m',m' < m/\W (i+1) m' ys' σ2 H2) /\
    ∀ x H',(Itl K a).yld i H x H'->g x σ' H' fun σ2 H2=>tt σ2 H2 fun b H3=>if b=true then te σ2 H3 fun y H4=>ys.length < sizeLine/\N (ys++[y]) σ2 H4 else N ys σ2 H3):=by
 refine jT xs.length hn SH Pv hσ h0 hlen (fun ys H p=>⟨xs,hl _ _ _ p,Qg _⟩) (fun i ys H hi p=>⟨xs,xs[i],hl _ _ _ p,Qc hi⟩) (fun i ys σ x H H' hi sh p y hz=>?_) hd
 obtain ⟨e,y⟩:=y
 subst e
 exact hs i ys σ x _ (y xs (hl _ _ _ p)) sh p hz
theorem mT {lo:Int} {n:Nat} (SH:St->Prop) (Pv:Nat->List V->Hp->Prop) (hn:n<=sizeLine) (hσ:SH (blk own fr σ)) (h0:Pv 0 [] H) (hlen:∀ i ys H,Pv i ys H->ys.length<=i)
  (hs:∀ i ys σ H,i < n->SH σ->Pv i ys H->ys.length < sizeLine->g (.int (lo+i)) σ H fun σ2 H2=>tt σ2 H2 fun b H3=>if b=true then te σ2 H3 fun y H4=>ys.length < sizeLine/\SH σ2/\Pv (i+1) (ys++[y]) H4 else SH σ2/\Pv (i+1) ys H3)
  (hd:∀ ys H,Pv n ys H->Q H ys) :
  ∃ W:Nat->Nat->List V->St->Hp->Prop,(∃ m,W 0 m [] (blk own fr σ) H)/\∀ i m ys σ' H,W i m ys σ' H ->
   ((Itr lo n).stop i H/\Q H ys) ∨
   ((Itr lo n).go i H/\∃ N:List V->St->Hp->Prop,(∀ ys' σ2 H2,N ys' σ2 H2->∃ m',m' < m/\W (i+1) m' ys' σ2 H2) /\
    ∀ x H',(Itr lo n).yld i H x H'->g x σ' H' fun σ2 H2=>tt σ2 H2 fun b H3=>if b=true then te σ2 H3 fun y H4=>ys.length < sizeLine/\N (ys++[y]) σ2 H4 else N ys σ2 H3):=by
 refine jT n hn SH Pv hσ h0 hlen (fun ys H p=>Qg _) (fun i ys H hi p=>hi) (fun i ys σ x H H' hi sh p y hz=>?_) hd
 obtain ⟨e,y⟩:=y
 subst e y
 exact hs i ys σ _ hi sh p hz
theorem aBD {K:PySem.W.Frag} {k1 k2:Sk} {a b:Addr} {xs ys:List V} (SH:St->Prop) (Pv:Nat->List V->Hp->Prop) (hn:xs.length<=sizeLine) (heq:xs.length=ys.length) (hσ:SH (blk own fr σ)) (h0:Pv 0 [] H) (hlen:∀ i zs H,Pv i zs H->zs.length<=i) (hl:∀ i zs H,Pv i zs H->SqK k1 K H a xs/\SqK k2 K H b ys)
  (hs:∀ i zs σ x y p H,xs[i]?=some x->ys[i]?=some y->SH σ->Pv i zs H->H p=none->zs.length < sizeLine->g (.ref p) σ (upd H p (.tup [x,y])) fun σ2 H2=>tt σ2 H2 fun c H3=>if c=true then te σ2 H3 fun y H4=>zs.length < sizeLine/\SH σ2/\Pv (i+1) (zs++[y]) H4 else SH σ2/\Pv (i+1) zs H3)
  (hd:∀ zs H,Pv xs.length zs H->Q H zs) :
  ∃ W:Nat->Nat->List V->St->Hp->Prop,(∃ m,W 0 m [] (blk own fr σ) H)/\∀ i m ys σ' H,W i m ys σ' H ->
   ((Itz K k1 k2 a b).stop i H/\Q H ys) ∨
   ((Itz K k1 k2 a b).go i H/\∃ N:List V->St->Hp->Prop,(∀ ys' σ2 H2,N ys' σ2 H2->∃ m',m' < m/\W (i+1) m' ys' σ2 H2) /\
    ∀ x H',(Itz K k1 k2 a b).yld i H x H'->g x σ' H' fun σ2 H2=>tt σ2 H2 fun b H3=>if b=true then te σ2 H3 fun y H4=>ys.length < sizeLine/\N (ys++[y]) σ2 H4 else N ys σ2 H3):=by
 refine jT xs.length hn SH Pv hσ h0 hlen (fun zs H p=>⟨xs,ys,(hl _ _ _ p).1,(hl _ _ _ p).2,by rw [<- heq,Ya]⟩) (fun i zs H hi p=>⟨xs,ys,xs[i],ys[i]'(by omega),(hl _ _ _ p).1,(hl _ _ _ p).2,Qc hi,Qc (by omega)⟩) (fun i zs σ v H H' hi sh p y hz=>?_) hd
 obtain ⟨q,hq,rfl,hy⟩:=y
 obtain ⟨x,y,h1,h2,rfl⟩:=hy xs ys (hl _ _ _ p).1 (hl _ _ _ p).2
 exact hs i zs σ x y q H h1 h2 sh p hq hz
end
section
variable {X:Cx}
theorem uT:∀ {xs:List V} {us:List Value},xs.length=us.length->(∀ (j:Nat) (x:V) (u:Value),xs[j]?=some x->us[j]?=some u->bB x u)->aY xs us
 | [],[],_,_=>.nil
 | [],_::_,h,_=>by cases h
 | _::_,[],h,_=>by cases h
 | x::xs,u::us,h,k=>.cons (k 0 x u rfl rfl) (uT (by simpa using h) fun j y v hy hv=>k (j+1) y v hy hv)
theorem wX {α β:Type} {f g:α->Option β}:∀ {l:List α},(∀ x∈l,f x=g x)->l.filterMap f=l.filterMap g
 | [],_=>rfl
 | x::r,h=>by rw [Za,Za,h x (Qr ..),wX fun y hy=>h y (Qo _ hy)]
theorem aBE (xs:Array Value):((List.range xs.size).filterMap fun (k:Nat)=>xs[((xs.size:Int) - 1+(k:Int)*(-1)).toNat]?).toArray=xs.toList.reverse.toArray:=by
 have h:=HT.pick_gen xs.toList.reverse.toArray 0 xs.size
 have e:(List.range xs.size).filterMap (fun (k:Nat)=>xs[((xs.size:Int) - 1+(k:Int)*(-1)).toNat]?)=(List.range xs.size).filterMap (fun (m:Nat)=>xs.toList.reverse.toArray[(((0:Nat):Int)+(m:Int)*1).toNat]?):=by
  refine wX fun k hk=>?_
  have hk':=Zi.mp hk
  have h1:((xs.size:Int) - 1+(k:Int)*(-1)).toNat=xs.size - 1 - k:=by omega
  have h2:(((0:Nat):Int)+(k:Int)*1).toNat=k:=by omega
  rw [h1,h2]
  simp only [List.getElem?_toArray]
  rw [List.getElem?_reverse (by simpa using hk')]
  simp
 rw [e,h]
 congr 1
 rw [List.drop_zero,Xt (by simp)]
end
def Vw (S:List Addr) (H:Hp):Hp:=fun b=>if b∈S then none else H b
theorem Vw.out {S:List Addr} {H:Hp} {b:Addr} (n:b∉S):Vw S H b=H b:=by unfold Vw; rw [if_neg n]
theorem Vw.sub {S:List Addr} {H:Hp}:aG (Vw S H) H:=fun b o h=>by
 by_cases z:b∈S
 ·unfold Vw at h; rw [if_pos z] at h; cases h
 ·rw [Vw.out z] at h; exact h
theorem Vw.keep {S:List Addr} {H H':Hp} (e:∀ b o,b∉S->H b=some o->H' b=some o):aG (Vw S H) (Vw S H'):=fun b o h=>by
 by_cases z:b∈S
 ·unfold Vw at h; rw [if_pos z] at h; cases h
 ·rw [Vw.out z] at h ⊢; exact e b o z h
theorem Vw.same {S:List Addr} {H H':Hp} (e:aG H H'):aG (Vw S H) (Vw S H'):=Vw.keep fun b o _ h=>e b o h
def Fx (S:List Addr) (H:Hp):Prop:=∀ b∈S,∃ xs,H b=some (.lst xs)
theorem Fx.same {S:List Addr} {H H':Hp} (f:Fx S H) (e:aG H H'):Fx S H':=fun b hb=>let ⟨xs,h⟩:=f b hb; ⟨xs,e b _ h⟩
theorem Fx.new {S:List Addr} {H:Hp} {p:Addr} (f:Fx S H) (h:H p=none):p∉S:=fun z=>by
 obtain ⟨xs,q⟩:=f p z
 rw [q] at h; cases h
theorem Fx.nil {H:Hp}:Fx [] H:=fun _ h=>(Qp h).elim
section
variable {K:PySem.W.Frag} {S:List Addr} {H H' H0:Hp}
theorem Fx.seqT {a:Addr} {xs:List V} (f:Fx S H) (h:SqT K H a xs):SqT K (Vw S H) a xs:=by
 rcases h with (h | ⟨o,h⟩) | h
 ·exact .inl (.inl (by rw [Vw.out fun z=>by obtain ⟨ys,q⟩:=f a z; rw [q] at h; cases h]; exact h))
 ·exact .inl (.inr ⟨o,by rw [Vw.out fun z=>by obtain ⟨ys,q⟩:=f a z; rw [q] at h; cases h]; exact h⟩)
 ·exact .inr h
theorem Vw.at {p:Addr} {o:HO} (f:Fx S H) (h:H p=none):Vw S (upd H p o) p=some o:=by rw [Vw.out (f.new h)]; exact aB
def Dn (K:PySem.W.Frag) (S:List Addr) (H:Hp) (x:V):Prop:=∃ d,Den K (Vw S H) d x
def DT (K:PySem.W.Frag) (S:List Addr) (n:Nat) (H:Hp) (x:V):Prop:=∃ a xs,x=.ref a/\SqT K (Vw S H) a xs/\xs.length<=n/\∀ y∈xs,Dn K S H y
def II (_:Hp) (x:V):Prop:=∃ i,x=.int i
class Mo (R:Hp->V->Prop):Prop where
 mo:∀ {H H':Hp} {v:V},aG H H'->R H v->R H' v
theorem Dn.keep {x:V} (h:Dn K S H x) (e:aG (Vw S H) (Vw S H')):Dn K S H' x:=let ⟨d,h⟩:=h; ⟨d,e.den _ _ h⟩
theorem Dn.same {x:V} (h:Dn K S H x) (e:aG H H'):Dn K S H' x:=h.keep (Vw.same e)
theorem DT.keep {n:Nat} {x:V} (h:DT K S n H x) (e:aG (Vw S H) (Vw S H')):DT K S n H' x:=let ⟨a,xs,h1,h2,h3,h4⟩:=h; ⟨a,xs,h1,e.seqT h2,h3,fun y hy=>(h4 y hy).keep e⟩
theorem DT.same {n:Nat} {x:V} (h:DT K S n H x) (e:aG H H'):DT K S n H' x:=h.keep (Vw.same e)
instance:Mo (Dn K S):=⟨fun e h=>Dn.same h e⟩
instance {n:Nat}:Mo (DT K S n):=⟨fun e h=>DT.same h e⟩
instance:Mo II:=⟨fun _ h=>h⟩
theorem aBF (i:Int):Dn K S H (.int i):=⟨.int i,eI.mpr rfl⟩
theorem II.dn {x:V} (h:II H x):Dn K S H x:=let ⟨i,h⟩:=h; h ▸ aBF i
theorem aBG:∀ {xs:List V},(∀ x∈xs,Dn K S H x)->∃ ds,bK K (Vw S H) ds xs
 | [],_=>⟨[],eD.mpr rfl⟩
 | x::r,h=>by
  obtain ⟨d,hd⟩:=h x (Qr ..)
  obtain ⟨ds,hds⟩:=aBG (xs:=r) fun y hy=>h y (Qo _ hy)
  exact ⟨d::ds,bQ.mpr ⟨x,r,rfl,hd,hds⟩⟩
theorem DT.dn {n:Nat} {x:V} (h:DT K S n H x):Dn K S H x:=by
 obtain ⟨a,xs,rfl,h2,_,h4⟩:=h
 obtain ⟨ds,hds⟩:=aBG h4
 exact ⟨.tuple ds,cN.mpr ⟨a,xs,rfl,h2,hds⟩⟩
theorem aCY {l:List Int}:∀ x∈l.map V.int,Dn K S H x:=fun x hx=>by
 obtain ⟨i,_,rfl⟩:=Jm.mp hx
 exact aBF i
theorem DT.ints {a:Addr} {l:List Int} {n:Nat} (f:Fx S H) (h:SqT K H a (l.map V.int)) (hn:l.length<=n):DT K S n H (.ref a):=⟨a,_,rfl,f.seqT h,by rw [Qd]; exact hn,aCY⟩
def Al (H0:Hp) (S:List Addr) (te:TE) (σ:St) (R:Hp->V->Prop):Prop:=∀ H,aG H0 H->Fx S H->∀ Q:VK,(∀ v H',aG H H'->R H' v->Q v H')->te σ H Q
variable {σ:St} {R R':Hp->V->Prop} {te ta tb ts:TE} {t tr:TA} {tl th:TO}
theorem Al.mono (h:Al H0 S te σ R) (m:∀ H v,R H v->R' H v):Al H0 S te σ R':=fun H s f Q k=>h H s f Q fun v H' s' r=>k v H' s' (m H' v r)
theorem Al.i (h:Al H0 S te σ II):Al H0 S te σ (Dn K S):=h.mono fun _ _ r=>r.dn
theorem Al.d {n:Nat} (h:Al H0 S te σ (DT K S n)):Al H0 S te σ (Dn K S):=h.mono fun _ _ r=>r.dn
instance {a:Addr} {xs:List V}:Mo (fun H v=>v=.ref a/\SqT K H a xs):=⟨fun e h=>⟨h.1,e.seqT h.2⟩⟩
instance {x:V}:Mo (fun _ v=>v=x):=⟨fun _ h=>h⟩
end
open PySem.AutoSeq1 (wpAny_loadPart')
theorem nf {b:Bool} (h:b=false):decide (b=true)=false:=by rw [h]; rfl
theorem nt {b:Bool} (h:b=true):decide (b=true)=true:=by rw [h]; rfl
section
variable {X:Cx} {pins:List (Addr×Obj)} {σ:St} {H:Hp} {s:Shared}
theorem Inv.low (I:Inv X pins σ H s):H sysModules=none:=by
 obtain ⟨mm,o,es,ep,e,_⟩:=I.mod.mods
 exact (I.bs _ _ e).2
end
section
variable {K:PySem.W.Frag} {S:List Addr} {H H' H0:Hp} {E E':Hp->V->Prop}
def DTe (K:PySem.W.Frag) (S:List Addr) (E:Hp->V->Prop) (n:Nat) (H:Hp) (x:V):Prop:=∃ a xs,x=.ref a/\SqT K (Vw S H) a xs/\xs.length<=n/\∀ y∈xs,E H y
def LTe (S:List Addr) (E:Hp->V->Prop) (n:Nat) (H:Hp) (x:V):Prop:=∃ a xs,x=.ref a/\Vw S H a=some (.lst xs)/\xs.length<=n/\∀ y∈xs,E H y
instance {n:Nat} [m:Mo E]:Mo (DTe K S E n):=⟨fun e ⟨a,xs,h1,h2,h3,h4⟩=>⟨a,xs,h1,(Vw.same e).seqT h2,h3,fun y hy=>m.mo e (h4 y hy)⟩⟩
instance {n:Nat} [m:Mo E]:Mo (LTe S E n):=⟨fun e ⟨a,xs,h1,h2,h3,h4⟩=>⟨a,xs,h1,Vw.same e _ _ h2,h3,fun y hy=>m.mo e (h4 y hy)⟩⟩
variable {σ:St} {te ta tb ts:TE} {t tr:TA} {tl th:TO}
end
section
variable {env:Env} {mJ es:List Expr} {k:Nat} {pos:Pos} {a b c:Expr}
end
def rA (sc scope:Scope) (z0:Str) (own:List Str) (frn:List Str):Bool :=
 scope.kind==.function && scope.names.all (fun y=>y.2 !=.cell || y.1==z0) && scope.names.all (fun y=>y.2 !=.local || scope.names.lookup y.1==some .local) &&
 scope.names.all (fun y=>y.2 !=.free || sc.names.lookup y.1==some .cell || sc.names.lookup y.1==some .free) && decide (own++frn).Nodup &&
 frn.all (fun x=>scope.names.lookup x==some .free) && scope.names.lookup z0==some .cell && scope.names.all (fun y=>y.2 !=.free || y.1 !=z0)
structure CompOk1 (X:Cx) (scope:Scope) (z0:Str) (own:List Str) (fr:List Nat) (frn:List Str):Prop where
 ck:rA X.env.scope scope z0 own frn=true
 ix:∀ (k:Nat) (x:Str),frn[k]?=some x->∃ j:Nat,fr[k]?=some j/\X.N[j]?=some x
 len:fr.length=frn.length
 cf:∀ (n:Nat) (cl:List (Str×Addr)),cellsFrom n scope.names cl=(z0,n)::cl
 pc:∀ h:Heap,pushCells h scope.names=h.push { cls:=.type "cell",data:=.cell none }
section
variable {X:Cx} {scope:Scope} {z0:Str} {own frn:List Str} {fr:List Nat}
theorem CompOk1.parts (S:CompOk1 X scope z0 own fr frn):scope.kind=.function/\(∀ y∈scope.names,y.2=.cell->y.1=z0)/\(∀ y∈scope.names,y.2=.local->scope.names.lookup y.1=some .local) /\
  (∀ y∈scope.names,y.2=.free->X.env.scope.names.lookup y.1=some .cell∨X.env.scope.names.lookup y.1=some .free)/\(own++frn).Nodup/\(∀ x∈frn,scope.names.lookup x=some .free)/\scope.names.lookup z0=some .cell/\∀ y∈scope.names,y.2=.free->y.1≠z0:=by
 have h:=S.ck
 unfold rA at h
 simp only [Ji,Xb,decide_eq_true_eq,Wb,bne_iff_ne,ne_eq,beq_iff_eq] at h
 obtain ⟨⟨⟨⟨⟨⟨⟨h1,h2⟩,h3⟩,h4⟩,h5⟩,h7⟩,h8⟩,h9⟩:=h
 refine ⟨h1,fun y hy e=>?_,fun y hy e=>?_,fun y hy e=>?_,h5,h7,h8,fun y hy e=>?_⟩
 ·rcases h2 y hy with z | z
  ·exact absurd e z
  ·exact z
 ·rcases h3 y hy with z | z
  ·exact absurd e z
  ·exact z
 ·rcases h4 y hy with (z | z) | z
  ·exact absurd e z
  ·exact .inl z
  ·exact .inr z
 ·rcases h9 y hy with z | z
  ·exact absurd e z
  ·exact z
end
section
variable {X:Cx} {scope:Scope} {z0:Str} {own frn:List Str} {fr:List Nat} {elt tg iter:Expr} {ifs:List Expr} {pos:Pos} {wi:TI} {g:TG} {tt:TT} {te:TE}
theorem CompOk1.clo {pins:List (Addr×Obj)} {σ:St} {H:Hp} {s:Shared} (S:CompOk1 X scope z0 own fr frn) (I:Inv X pins σ H s):closureFor scope X.env=pure (eA X.env scope.names []):=by
 obtain ⟨p1,p2,p3,p4,p5,p7,p8,p9⟩:=S.parts
 exact yL fun y hy e=>I.ok.has y.1 (p4 y hy e)
end
def aFC (scope sc:Scope):Scope:={ scope with names:=scope.names.map fun (n,k)=>if (k==NameKind.free && sc.kind==.function && sc.names.lookup n==some .cell) then (n,NameKind.cell) else (n,k) }
section
variable {X:Cx}
theorem aAH:MtR X "list.index" (fun x vs H Q=>∃ (a:Addr) (ns:List Int) (n:Int) (j:Nat),x=.ref a/\vs = [.int n]/\SqL X.K H a (ns.map V.int)/\ns[j]?=some n/\(∀ m,m < j->ns[m]?≠some n)/\Q (.int (j:Nat)) H):=by
 intro pins s σ H x xs v us Q I rx r h
 obtain ⟨a,ns,n,j,rfl,rfl,ha,hj,hno,q⟩:=h
 obtain ⟨u,rfl,t,rfl⟩:=fY r
 cases rx
 obtain ⟨its,rv,⟨⟨cls,dd,data,sl⟩,k,ho,hc,hdd,hd⟩,hzz⟩:=I.list ha
 simp only at hc hd
 subst hc hd
 have hi:IntsAre its ns:=mR rv
 have hl:=hi.length
 have hjl:j < ns.length:=(Qa.mp hj).1
 have hzl:ns.length<=sizeLine:=by rw [Qd] at hzz; exact hzz
 have val:∀ m (hm:m < its.toArray.size),isInt n its.toArray[m]=decide (ns[m]?=some n):=fun m hm=>by
  have hm':m < its.length:=by simpa using hm
  have hmn:m < ns.length:=by omega
  obtain ⟨w,hw,rw'⟩:=rv.get (i:=m) (x:=.int ns[m]) (by rw [Qi,Qc hmn]; rfl)
  obtain ⟨t',rfl⟩:=rw'
  have e:its.toArray[m]=.int ns[m] t':=by
   have:=Qc hm'
   rw [hw] at this
   simpa using (Option.some.inj this).symm
  rw [e,Qc hmn]
  unfold isInt
  by_cases z:ns[m]=n
  ·simp [z]
  ·simp [z]
 refine call_meets PySem.F.slot_list_index ⟨_,ho,rfl⟩ PySem.F.entry_list_index (PySem.F.args_list_index_2 _ _) (SeqAt.list_indexAt a its.toArray k dd sl (.int n t) (isInt n) j (by simp; omega) (by rw [sizeLine_eq] at hzl; omega) ?_ ?_) ⟨ho,fun y hy=>(eq_isInt n t hi y (by simpa using hy)).at _ _,?_⟩
 ·rw [val,hj]; simp
 ·intro m hm hlt
  rw [val]
  exact decide_eq_false (hno m hlt)
 ·exact ⟨.int _,H,I.tok _,⟨_,rfl⟩,q⟩
end
section
variable {P:Program} {w:World} {K:PySem.W.Frag} {mg:Str->Option Value} {base:Heap} {N:List Str} {qual:Str} {scope:Scope} {f:Addr} {cd:Value} {A:Around} {outer:List Env} {s0:Shared} {H0:Hp} {E:XK}
end
abbrev vbm:List Value:=[.type "ValueError",.type "Exception",.type "BaseException",.type "object"]
def qns:List Str:=["__init__", "__getattribute__", "__getattr__", "__class__"]
inductive TailN (h:Heap) (bmB:List Value):List Value->Prop
 | base:TailN h bmB bmB
 | own {A:Addr} {c0:Value} {dd:Option Addr} {cd:ClassData} {sl:Array (Option Value)} {mA:Str->Option Value} {tl:List Value} :
   h.get? A=some { cls:=c0,dict:=dd,data:=.cls cd,slots:=sl }->h.Ns cd.ns mA->(∀ n∈qns,mA n=none)->TailN h bmB tl->TailN h bmB (.ref A::tl)
theorem TailN.tail {h:Heap} {bmB tl:List Value} (T:TailN h bmB tl):OwnTail h bmB tl:=by
 induction T with
 | base=>exact .base
 | own hA hN hq _ ih=>exact .own hA hN (hq _ (.head _)) ih
theorem TailN.keeps {h h':Heap} {bmB tl:List Value} (T:TailN h bmB tl) (hk:∀ b o,h.get? b=some o->h'.get? b=some o):TailN h' bmB tl:=by
 induction T with
 | base=>exact .base
 | own hA hN hq _ ih=>exact .own (hk _ _ hA) (hN.keeps hk) hq ih
def EcH (h:Heap) (C:Addr) (bm:List Value):Prop:=∃ N nm q bs hdct sn sub ab col dd k0 k1 k2 k3 k5 mN,h.get? C=some (excClassObj nm q C N bs bm hdct sn sub ab col dd k0 k1 k2 k3 k5 "ValueError.__new__")/\h.Ns N mN/\(∀ n∈qns,mN n=none)/\TailN h vbm bm
theorem EcH.keeps {h h':Heap} {C:Addr} {bm:List Value} (x:EcH h C bm) (hk:∀ b o,h.get? b=some o->h'.get? b=some o):EcH h' C bm:=by
 obtain ⟨N,nm,q,bs,hdct,sn,sub,ab,col,dd,k0,k1,k2,k3,k5,mN,hC,hN,hq,T⟩:=x
 exact ⟨N,nm,q,bs,hdct,sn,sub,ab,col,dd,k0,k1,k2,k3,k5,mN,hk _ _ hC,hN.keeps hk,hq,T.keeps hk⟩
section
variable {M:Model} {prog:Program} {w:World} {A:Around} {E:Value->Shared->Prop} {h:Heap} {g:Array GenState} {d:Drawn} {t:Nat} {os:OsState} {a C:Addr} {o:Obj} {bm:List Value}
theorem EcH.has {T:String} (x:EcH h C bm) (hb:vbm.contains (.type T)=true):(Value.ref C::bm).contains (.type T)=true:=by
 obtain ⟨N,nm,q,bs,hdct,sn,sub,ab,col,dd,k0,k1,k2,k3,k5,mN,hC,hN,hmN,TT⟩:=x
 rw [List.contains_cons,TT.tail.hasType hb,Bool.or_true]
end
section
variable {X:Cx}
end
section
variable {P:Program} {w:World} {l:List Env} {H H':Hp} {s s':Shared} {E:XK} {a T C:Addr}
end
section
variable {X:Cx} {pins:List (Addr×Obj)} {σ:St} {H:Hp} {s s':Shared} {E:XK} {e:Value} {M:Model} {A:Around} {F:Value->Shared->Prop} {L:Addr}
end
section
variable {M:Model} {A:Around} {E:Value->Shared->Prop} {h:Heap} {g:Array GenState} {d:Drawn} {t:Nat} {os:OsState} {a C C':Addr} {oe:Obj} {bm bm':List Value}
end
section
variable {X:Cx} {k:Nat} {f:Addr} {fd:FuncData} {ps:List Str} {sp:Sp} {dvs:List V} {ds:List Value} {x:Str} {p pos apos:Pos} {e:Expr} {es:List Expr} {t:TA}
end
section
variable {X:Cx} {K:PySem.W.Frag}
end
structure PEo (X:Cx) (e:Expr) (t:TE):Prop where
 go:PE X e t
structure PAo (X:Cx) (es:List Expr) (t:TA):Prop where
 go:PA X es t
structure PSo (X:Cx) (st:Stmt) (t:TS):Prop where
 go:PS X st t
structure PSso (X:Cx) (sts:List Stmt) (t:TS):Prop where
 go:PSs X sts t
section
variable {X:Cx} {pos:Pos} {e a b:Expr} {es:List Expr} {te ta tb:TE} {t:TA} {st:Stmt} {mJ:List Stmt} {ts us:TS}
end
def tDt (K:PySem.W.Frag) (Z:List Addr) (S:St->Prop) (d:PyData):TE:=fun σ H Q=>S σ/\Fx Z H/\∀ v H',aG H H'->Den K (Vw Z H') d v->Q v H'
def tDA (K:PySem.W.Frag) (Z:List Addr) (S:St->Prop) (ds:List PyData):TA:=fun σ H Q=>S σ/\Fx Z H/\∀ vs H',aG H H'->bK K (Vw Z H') ds vs->Q vs H'
structure Dt (X:Cx) (K:PySem.W.Frag) (Z:List Addr) (S:St->Prop) (e:Expr) (d:PyData):Prop where
 go:PE X e (tDt K Z S d)
structure DA (X:Cx) (K:PySem.W.Frag) (Z:List Addr) (S:St->Prop) (es:List Expr) (ds:List PyData):Prop where
 go:PA X es (tDA K Z S ds)
section
variable {X:Cx} {K:PySem.W.Frag} {Z:List Addr} {S:St->Prop} {te:TE} {pos:Pos} {e a b:Expr} {es:List Expr} {d:PyData} {ds:List PyData}
theorem PE.imp {t t':TE} (h:PE X e t) (q:∀ σ H Q,t' σ H Q->t σ H Q):PE X e t':=fun pins s σ H Q I z=>h pins s σ H Q I (q σ H Q z)
theorem PA.imp {t t':TA} (h:PA X es t) (q:∀ σ H Q,t' σ H Q->t σ H Q):PA X es t':=fun pos pins s σ H Q I z=>h pos pins s σ H Q I (q σ H Q z)
theorem PSso.ex {sts:List Stmt} {t:TS} {R:TS->Prop} (h:PSso X sts t) (r:R t):∃ t,PSs X sts t/\R t:=⟨t,h.go,r⟩
end
section
variable {X:Cx} {tg l:Expr} {body:List Stmt} {tl:TE} {g:TG} {tb:TS} {pos:Pos}
end
def mB:List Int->Nat
 | []=>0
 | k::r=>if k∈r then mB r else mB r+1
def lW (l:List Int):Nat:=mB l.reverse
theorem aAI (l:List Int) (k:Int):lW (l++[k])=if k∈l then lW l else lW l+1:=by
 unfold lW
 rw [Wk]
 show mB (k::l.reverse)=_
 simp only [mB,List.mem_reverse]
theorem rB:∀ l:List Int,mB l<=l.length
 | []=>Qg _
 | k::r=>by
  have:=rB r
  unfold mB
  split <;> simp <;> omega
theorem aCZ (l:List Int):lW l<=l.length:=by
 have:=rB l.reverse
 rwa [Yk] at this
theorem pM:∀ l:List Int,mB l=l.length↔l.Nodup
 | []=>by simp [mB]
 | k::r=>by
  have h1:=pM r
  have h2:=rB r
  unfold mB
  rw [Qx,<- h1,Jf]
  by_cases hk:k∈r
  ·rw [if_pos hk]
   constructor
   ·intro h; omega
   ·intro h; exact absurd hk h.1
  ·rw [if_neg hk]
   constructor
   ·intro h; exact ⟨hk,by omega⟩
   ·intro h; omega
theorem yN (l:List Int):lW l=l.length↔l.Nodup:=by
 have h:=pM l.reverse
 rw [Yk] at h
 unfold lW
 rw [h]
 unfold List.Nodup
 rw [List.pairwise_reverse]
 constructor <;> intro h <;> exact h.imp fun z=>Ne.symm z
section
variable {prog:Program} {w:World} {A:Around} {E:Value->Shared->Prop} {s:Shared}
theorem aAJ {a:Addr} {S:Int->Bool} {n:Nat} {k:Int} {t:Tok} {Q:Bool->Shared->Prop} (hS:s.heap.SetOf (intKind prog w) a S n) (hroom:n+1 < scanBound)
  (h:∀ h',Heap.SameBut a s.heap h'->h'.SetOf (intKind prog w) a (fun k'=>S k' || decide (k'=k)) (if S k then n else n+1)->Q (!S k) { s with heap:=h',toks:=s.toks+1 }) :
  wpAny (model prog w) A (setAdd a (.int k t)) Q E s:=by
 have hkey:(intKind prog w).is k (.int k t)=true:=by simp [intKind,Value.isInt]
 unfold setAdd
 refine wpAny_bind ((intKind prog w).pyHash hkey ?_)
 exact wpAny_setAddHashed_of (s:={ s with toks:=s.toks+1 }) hkey rfl hS hroom fun h' hsb hS'=>h h' hsb hS'
theorem aBH {I S:Addr} {fp wr:List Addr} {ns:List Int} {P:Nat->Value->Prop} {St:Nat->Heap->Prop} {R:Result->Shared->Prop} (W:Walks prog w A.in1 I fp wr ns.length P St)
  (hP:∀ i v,P i v->∃ k t,ns[i]?=some k/\v=.int k t) (hfp:∀ c∈fp,c≠S) (hwr:S∉wr) (hlen:ns.length+1 < scanBound) :
  ∀ (j i:Nat) (s:Shared),i+j=ns.length->St i s.heap->s.heap.SetOf (intKind prog w) S (fun k=>decide (k∈ns.take i)) (lW (ns.take i)) ->
   (∀ h' tk,h'.SetOf (intKind prog w) S (fun k=>decide (k∈ns)) (lW ns)->(∀ b o,b≠S->b∉wr->s.heap.get? b=some o->h'.get? b=some o)->R (.ok (.ret .none)) { s with heap:=h',toks:=tk }) ->
   codeAny (model prog w) A (.builtin "set.update.loop" ⟨[.ref S,.ref I],[]⟩) R s:=by
 intro j
 induction j with
 | zero =>
  intro i s hi st hS h
  have e:i=ns.length:=by omega
  subst e
  rw [Ju] at hS
  refine aBz W st fun h' tk k=>h h' tk ?_ fun b o _ hb e=>k b o hb e
  obtain ⟨o,es,ep,t,e,c⟩:=hS
  exact ⟨o,es,ep,t,k _ _ hwr e,c⟩
 | succ j ih =>
  intro i s hi st hS h
  refine aBy W (i:=i) (by omega) st fun v h2 tk2 hv st2 k2=>?_
  obtain ⟨k,t,hk,rfl⟩:=hP i v hv
  have hS2:h2.SetOf (intKind prog w) S (fun k=>decide (k∈ns.take i)) (lW (ns.take i)):=by
   obtain ⟨o,es,ep,t,e,c⟩:=hS
   exact ⟨o,es,ep,t,k2 _ _ hwr e,c⟩
  have hd:=aCZ (ns.take i)
  rw [Jq] at hd
  refine aAJ (s:={ s with heap:=h2,toks:=tk2 }) hS2 (by omega) fun h3 sb hS3=>?_
  have et:ns.take (i+1)=ns.take i++[k]:=by rw [Xd,hk]; rfl
  refine ih (i+1) _ (by omega) (W.frame _ _ _ st2 fun c hc o e=>(sb.2 c (hfp c hc)).trans e) ?_ fun h' tk hS' kp=>?_
  ·have e1:(fun k_1=>decide (k_1∈ns.take (i+1)))=(fun k'=>decide (k'∈ns.take i) || decide (k'=k)):=by
    funext k'
    rw [et]
    simp
   have e2:lW (ns.take (i+1))=if decide (k∈ns.take i)=true then lW (ns.take i) else lW (ns.take i)+1:=by
    rw [et,aAI]
    by_cases z:k∈ns.take i
    ·rw [if_pos z,if_pos (decide_eq_true z)]
    ·rw [if_neg z,if_neg (by simpa using z)]
   rw [e1,e2]
   exact hS3
  ·exact h h' tk hS' fun b o nb hb e=>kp b o nb hb ((sb.2 b nb).trans (k2 b o hb e))
set_option maxHeartbeats 3200000 in
theorem sV {l:Addr} {its:Array Value} {ns:List Int} {Q:Value->Shared->Prop} (hh:A.handled=none) (hl:s.heap.IsList l its) (hi:IntsAre its.toList ns) (hlen:ns.length+1 < scanBound)
  (h:∀ (h':Heap) (tk:Nat),h'.SetOf (intKind prog w) s.heap.objs.size (fun k=>decide (k∈ns)) (lW ns)->(∀ b o,b < s.heap.objs.size->s.heap.get? b=some o->h'.get? b=some o)->Q (.ref s.heap.objs.size) { s with heap:=h',toks:=tk }) :
  wpAny (model prog w) A (call (.type "set") [.ref l]) Q E s:=by
 obtain ⟨c,tl,hmro⟩:=PySem.F.called_set.mro
 have hmade:=PySem.F.called_set.made
 have hsub:=PySem.F.called_set.sub
 refine wpAny_call (codeAny_of_tree ?_)
 show wpAny _ _ (callAny (.type "set") _) _ _ _
 refine wpAny_pure ⟨Code.quiet_builtin _ (by decide +kernel),codeAny_builtin PySem.F.entry_type_call ?_⟩
 rw [Around.under_plain (weight_type_call_type "set" [.ref l] []) rfl]
 have h1:=PySem.F.called_set.notType
 have h2:=PySem.F.called_set.canCreate
 have hct:=PySem.F.typeCall_set_1 (.ref l)
 repeat (any_goals (first | assumption | wp_step))
 refine codeAny_mono (qZ (.ref l) (E:=E) (Q₁:=fun obj s₁=>obj=.ref s.heap.objs.size/\s₁={ s with heap:=s.heap.push { cls:=.type "set",dict:=none,data:=.set #[] 0 (.fresh 0 0 (Led w)) } }) ⟨rfl,rfl⟩) fun r s₁ hr=>?_
 cases r with
 | error e=>exact hr
 | ok fl =>
  cases fl with
  | ret obj =>
   obtain ⟨rfl,rfl⟩:=hr
   generalize hled:Led w=led at h ⊢
   have hS:(s.heap.push { cls:=.type "set",dict:=none,data:=.set #[] 0 (.fresh 0 0 led) }).get? s.heap.objs.size=some { cls:=.type "set",dict:=none,data:=.set #[] 0 (.fresh 0 0 led) }:=Qk _ rfl
   have hT:Shared.TypeIs { s with heap:=s.heap.push { cls:=.type "set",dict:=none,data:=.set #[] 0 (.fresh 0 0 led) } } (.ref s.heap.objs.size) "set" := ⟨_,hS,rfl⟩
   have hli:=PySem.F.called_set.init.lookup
   have hbi:=PySem.F.called_set.init.bind (.ref s.heap.objs.size)
   repeat (any_goals (first | assumption | wp_step))
   refine codeAny_mono (codeAny_call_builtin (R:=wants (fun r s₂=>r=.none/\∃ h' tk,s₂={ s with heap:=h',toks:=tk }/\h'.SetOf (intKind prog w) s.heap.objs.size (fun k=>decide (k∈ns)) (lW ns) /\
     (∀ b o,b < s.heap.objs.size->s.heap.get? b=some o->h'.get? b=some o)) E) PySem.F.called_set.init.plain PySem.F.entry_set_init (check_set_init_1 hT ?_)) fun r₂ s₂ hr₂=>?_
   ·obtain ⟨ol,hol,hcl,nl,hdl⟩:=hl
    obtain ⟨ocls,odict,odata,oslots⟩:=ol
    simp only at hcl hdl
    subst hcl; subst hdl
    have hol':(s.heap.push { cls:=.type "set",dict:=none,data:=.set #[] 0 (.fresh 0 0 led) }).get? l=some { cls:=.type "list",dict:=odict,data:=.seq its nl,slots:=oslots }:=Qb _ hol
    have hsls:=PySem.F.sub_list_set
    have hslf:=PySem.F.sub_list_frozenset
    have hne:(Value.type "list" == Value.type "dict")=false:=by decide
    have hl1:(s.heap.push { cls:=.type "set",dict:=none,data:=.set #[] 0 (.fresh 0 0 led) }).IsList l its:=⟨_,hol',rfl,nl,rfl⟩
    unfold Builtin.«set.__init__» noKeywords Builtin.Frozenset.updateFrom
    generalize hPI:pyIter=PI
    wp_walk
    subst hPI
    refine wpAny_pyIter_list hl1 ?_
    refine wpAny_bind (wpAny_runValue ?_)
    have hlS:l < s.heap.objs.size:=Qj hol
    have hh3:A.in1.in1.in1.handled=none:=by simp [hh]
    generalize hH1:s.heap.push { cls:=.type "set",dict:=none,data:=.set #[] 0 (.fresh 0 0 led) }=H1 at *
    have szH1:H1.objs.size=s.heap.objs.size+1:=by rw [<- hH1,Jn]
    have hneI:l≠H1.objs.size:=by rw [szH1]; exact Qz (Xh hlS)
    have W:=Walks.list (prog:=prog) (w:=w) hh3 H1.objs.size l hneI its
    have hsz:its.size=ns.length:=by rw [<- hi.length,Array.length_toList]
    rw [hsz] at W
    generalize hS0:s.heap.objs.size=S at *
    have SI:S≠H1.objs.size:=by omega
    have lS:l≠S:=Qz hlS
    refine aBH W (fun i v hv=>?_) (fun c hc=>?_) (by simpa using SI) hlen ns.length 0 _ (by omega) ⟨⟨_,Qk _ rfl,rfl,rfl⟩,hl1.push _⟩ ?_ fun h6 tk6 x6 k6=>?_
    ·have hv':its[i]?=some v:=hv
     have hil:i < its.toList.length:=by
      rw [Array.length_toList]
      exact (Array.getElem?_eq_some_iff.mp hv').1
     have e1:its.toList[i]?=some v:=by rw [Array.getElem?_toList]; exact hv'
     obtain ⟨k,t,e2,e3⟩:=IntsAre.at hi i v e1
     exact ⟨k,t,e3,e2⟩
    ·rcases Qm.mp hc with z | z
     ·rw [z]; exact Ne.symm SI
     ·have z':c=l:=by simpa using z
      rw [z']; exact lS
    ·refine ⟨_,#[],0,_,Qb _ hS,⟨rfl,rfl,rfl⟩,rfl,fun e he=>by simp at he,fun k=>by simp,by decide,by rfl,rfl⟩
    ·show wpAny _ _ _ _ _ _
     refine wpAny_pure ?_
     show wpAny _ _ (ret Value.none) _ _ _
     refine wpAny_pure ⟨rfl,h6,tk6,rfl,x6,fun c o hc e=>?_⟩
     have c1:c≠S:=Qz hc
     have c2:c∉[H1.objs.size]:=by
      intro z
      have z':c=H1.objs.size:=by simpa using z
      omega
     exact k6 c o c1 c2 (Qb _ (hH1 ▸ Qb _ e))
   ·cases r₂ with
    | error e=>exact hr₂
    | ok fl₂ =>
     cases fl₂ with
     | ret r =>
      obtain ⟨rfl,h',tk,rfl,hS',hk'⟩:=hr₂
      repeat (any_goals (first | assumption | wp_step))
      exact h _ _ hS' hk'
     | _=>exact hr₂.elim
  | _=>exact hr.elim
end
theorem tP:∀ {vs:List Value} {ns:List Int},aY (ns.map V.int) vs->IntsAre vs ns
 | [],[],_=>.nil
 | v::vs,n::ns,h=>by
  cases h with
  | cons r t =>
   obtain ⟨k,rfl⟩:=r
   exact .cons n k (tP t)
 | [],n::ns,h=>by cases h
 | v::vs,[],h=>by cases h
section
variable {X:Cx}
theorem aAK {K:PySem.W.Frag} (hK:X.K=K) (hc:X.calm=true):dJ X (.type "set") (fun xs H Q=>∃ (l:Addr) (ns:List Int),xs = [.ref l]/\SqL K H l (ns.map V.int)/\ns.length<=40/\∀ p,H p=none->Q (.ref p) (upd H p (.set (fun k=>decide (k∈ns)) (lW ns)))):=by
 subst hK
 intro pins s σ H xs us Q I r h
 obtain ⟨l,ns,rfl,hL,hn,q⟩:=h
 obtain ⟨u,rfl,rx⟩:=fY r
 cases rx
 obtain ⟨its,rv,pl,hz⟩:=I.list hL
 refine sV (I.ok.hd hc) pl.isList (tP rv) (Zd (Zn hn) (by decide)) fun h' tk x kp=>?_
 have kp':∀ b o,s.heap.get? b=some o->h'.get? b=some o:=fun b o e=>kp b o (Qj e) e
 have hf:=I.hok.fresh (Qg s.heap.objs.size)
 exact ⟨.ref s.heap.objs.size,_,I.laid (t':=tk) kp' (Qg _) (show bG X.prog X.w _ _ _ (.set _ _) from x),rfl,q _ hf⟩
theorem sW:dJ X (.builtin "len") (fun xs H Q=>∃ p S n,xs = [.ref p]/\H p=some (.set S n)/\Q (.int (n:Nat)) H):=by
 intro pins s σ H xs us Q I r h
 obtain ⟨p,S,n,rfl,hp,q⟩:=h
 obtain ⟨u,rfl,rx⟩:=fY r
 cases rx
 obtain ⟨o,es,ep,t,ho,hex,hd,_,_,hb,hf,hn⟩:=I.hok p _ hp
 subst hn
 have hb':es.size < 2^20:=Yn hb (by decide)
 have:(2:Int)^63=9223372036854775808:=by decide
 have:(2:Nat)^20=1048576:=by decide
 exact PySem.call_len_set ho hex hd hf (by omega) ⟨.int es.size,H,I.tok _,⟨_,rfl⟩,q⟩
end
section
variable {prog:Program} {w:World} {A:Around} {E:Value->Shared->Prop} {s:Shared} {e it l:Addr} {n:Nat} {P:Nat->Value->Prop} {st:Nat->Heap->Prop}
end
section
variable {X:Cx} {es:List Expr} {x1:Nat} {tpos:Pos}
end
theorem aEt {n:Nat} (h:n<=1000):n<=sizeLine:=by rw [sizeLine_eq]; omega
section
variable {own:Nat} {fr:List Nat} {g:TG} {te:TE} {σ:St} {H:Hp} {Qf:Hp->List V->Prop} {K:PySem.W.Frag}
theorem aC0 {vs:List V} {i:Nat} {v:V} (h:vs[i]?=some v):vs.take (i+1)=vs.take i++[v]:=by rw [Xd,h]; rfl
theorem uU {J:It} {n:Nat} {vs:List V} (SH:St->Prop) (hn:n<=1000) (hl:vs.length=n) (hσ:SH (blk own fr σ)) (hstop:∀ H',aG H H'->J.stop n H') (hgo:∀ i H',i < n->aG H H'->J.go i H')
  (hs:∀ i v x σ H1 H2,i < n->vs[i]?=some v->SH σ->aG H H1->J.yld i H1 x H2->∀ Q:V->St->Hp->Prop,(∀ σ2 H4,SH σ2->aG H1 H4->Q v σ2 H4)->g x σ H2 fun σ2 H3=>te σ2 H3 fun y H4=>Q y σ2 H4)
  (hd:∀ H',aG H H'->Qf H' vs) :
  ∃ W:Nat->Nat->List V->St->Hp->Prop,(∃ m,W 0 m [] (blk own fr σ) H)/\∀ i m ys σ' H,W i m ys σ' H ->
   (J.stop i H/\Qf H ys) ∨
   (J.go i H/\∃ N:List V->St->Hp->Prop,(∀ ys' σ2 H2,N ys' σ2 H2->∃ m',m' < m/\W (i+1) m' ys' σ2 H2) /\
    ∀ x H',J.yld i H x H'->g x σ' H' fun σ2 H2=>wS σ2 H2 fun b H3=>if b=true then te σ2 H3 fun y H4=>ys.length < sizeLine/\N (ys++[y]) σ2 H4 else N ys σ2 H3):=by
 refine jT n (aEt hn) SH (fun i ys H'=>ys=vs.take i/\aG H H') hσ ⟨rfl,aG.refl H⟩ (fun i ys H' p=>by rw [p.1,Jq]; omega) (fun ys H' p=>hstop H' p.2) (fun i ys H' hi p=>hgo i H' hi p.2) ?_ (fun ys H' p=>?_)
 ·rintro i ys σ' x H1 H2 hi sh ⟨rfl,s1⟩ hy hz
  have hv:vs[i]?=some vs[i]:=Qc (by omega)
  have h:=hs i vs[i] x σ' H1 H2 hi hv sh s1 hy (fun y σ2 H4=>(vs.take i).length < sizeLine/\SH σ2/\(vs.take i++[y]=vs.take (i+1)/\aG H H4)) fun σ2 H4 sh2 s4=>⟨hz,sh2,(aC0 hv).symm,s1.trans s4⟩
  exact h
 ·obtain ⟨rfl,s1⟩:=p
  rw [Xt (by omega)]
  exact hd H' s1
theorem aBI {a:Addr} {xs vs:List V} (SH:St->Prop) (hn:xs.length<=1000) (hl:vs.length=xs.length) (ha:SqL K H a xs) (hσ:SH (blk own fr σ))
  (hs:∀ (i:Nat) x v σ H1,xs[i]?=some x->vs[i]?=some v->SH σ->aG H H1->∀ Q:V->St->Hp->Prop,(∀ σ2 H4,SH σ2->aG H1 H4->Q v σ2 H4)->g x σ H1 fun σ2 H2=>te σ2 H2 fun y H4=>Q y σ2 H4)
  (hd:∀ H',aG H H'->Qf H' vs) :
  ∃ W:Nat->Nat->List V->St->Hp->Prop,(∃ m,W 0 m [] (blk own fr σ) H)/\∀ i m ys σ' H,W i m ys σ' H ->
   ((Itl K a).stop i H/\Qf H ys) ∨
   ((Itl K a).go i H/\∃ N:List V->St->Hp->Prop,(∀ ys' σ2 H2,N ys' σ2 H2->∃ m',m' < m/\W (i+1) m' ys' σ2 H2) /\
    ∀ x H',(Itl K a).yld i H x H'->g x σ' H' fun σ2 H2=>wS σ2 H2 fun b H3=>if b=true then te σ2 H3 fun y H4=>ys.length < sizeLine/\N (ys++[y]) σ2 H4 else N ys σ2 H3):=by
 refine uU SH hn hl hσ (fun H' s=>⟨xs,s.seqL ha,Qg _⟩) (fun i H' hi s=>⟨xs,xs[i],s.seqL ha,Qc hi⟩) (fun i v x σ H1 H2 hi hv sh s y Q k=>?_) hd
 obtain ⟨e,y⟩:=y
 subst e
 exact hs i x v σ _ (y xs (s.seqL ha)) hv sh s Q k
theorem rC {a:Addr} {xs vs:List V} (SH:St->Prop) (hn:xs.length<=1000) (hl:vs.length=xs.length) (ha:SqT K H a xs) (hσ:SH (blk own fr σ))
  (hs:∀ (i:Nat) x v σ H1,xs[i]?=some x->vs[i]?=some v->SH σ->aG H H1->∀ Q:V->St->Hp->Prop,(∀ σ2 H4,SH σ2->aG H1 H4->Q v σ2 H4)->g x σ H1 fun σ2 H2=>te σ2 H2 fun y H4=>Q y σ2 H4)
  (hd:∀ H',aG H H'->Qf H' vs) :
  ∃ W:Nat->Nat->List V->St->Hp->Prop,(∃ m,W 0 m [] (blk own fr σ) H)/\∀ i m ys σ' H,W i m ys σ' H ->
   ((Itt K a).stop i H/\Qf H ys) ∨
   ((Itt K a).go i H/\∃ N:List V->St->Hp->Prop,(∀ ys' σ2 H2,N ys' σ2 H2->∃ m',m' < m/\W (i+1) m' ys' σ2 H2) /\
    ∀ x H',(Itt K a).yld i H x H'->g x σ' H' fun σ2 H2=>wS σ2 H2 fun b H3=>if b=true then te σ2 H3 fun y H4=>ys.length < sizeLine/\N (ys++[y]) σ2 H4 else N ys σ2 H3):=by
 refine uU SH hn hl hσ (fun H' s=>⟨xs,s.seqT ha,Qg _⟩) (fun i H' hi s=>⟨xs,xs[i],s.seqT ha,Qc hi⟩) (fun i v x σ H1 H2 hi hv sh s y Q k=>?_) hd
 obtain ⟨e,y⟩:=y
 subst e
 exact hs i x v σ _ (y xs (s.seqT ha)) hv sh s Q k
theorem aBJ {lo:Int} {n:Nat} {vs:List V} (SH:St->Prop) (hn:n<=1000) (hl:vs.length=n) (hσ:SH (blk own fr σ))
  (hs:∀ i v σ H1,i < n->vs[i]?=some v->SH σ->aG H H1->∀ Q:V->St->Hp->Prop,(∀ σ2 H4,SH σ2->aG H1 H4->Q v σ2 H4)->g (.int (lo+i)) σ H1 fun σ2 H2=>te σ2 H2 fun y H4=>Q y σ2 H4)
  (hd:∀ H',aG H H'->Qf H' vs) :
  ∃ W:Nat->Nat->List V->St->Hp->Prop,(∃ m,W 0 m [] (blk own fr σ) H)/\∀ i m ys σ' H,W i m ys σ' H ->
   ((Itr lo n).stop i H/\Qf H ys) ∨
   ((Itr lo n).go i H/\∃ N:List V->St->Hp->Prop,(∀ ys' σ2 H2,N ys' σ2 H2->∃ m',m' < m/\W (i+1) m' ys' σ2 H2) /\
    ∀ x H',(Itr lo n).yld i H x H'->g x σ' H' fun σ2 H2=>wS σ2 H2 fun b H3=>if b=true then te σ2 H3 fun y H4=>ys.length < sizeLine/\N (ys++[y]) σ2 H4 else N ys σ2 H3):=by
 refine uU SH hn hl hσ (fun H' s=>Qg _) (fun i H' hi s=>hi) (fun i v x σ H1 H2 hi hv sh s y Q k=>?_) hd
 obtain ⟨e,y⟩:=y
 subst e y
 exact hs i v σ _ hi hv sh s Q k
end
section
variable {X:Cx} {st:Stmt} {mJ:List Stmt} {t u:TS} {e:Expr} {te:TE} {tt:TT}
end
section
variable {X:Cx} {K:PySem.W.Frag}
theorem aBK (hK:X.K=K):IxR X (aEl K):=by subst hK; exact bX
theorem mC (hK:X.K=K):OpR X (compareOp .NotIn) (rIn K true):=by subst hK; exact uO
end
theorem sX (xs:Array Value):slicePick xs none none (some (-1))=xs.toList.reverse.toArray:=by
 unfold slicePick
 have e1:sliceBounds none none (some (-1)) xs.size=((xs.size:Int) - 1,-1,-1):=by simp [sliceBounds]
 rw [e1,<- aBE xs]
 congr 1
 show List.filterMap (fun x=>xs[x]?) (sliceRange ((xs.size:Int) - 1) (-1) (-1))=_
 have e2:sliceRange ((xs.size:Int) - 1) (-1) (-1)=(List.range xs.size).map fun (k:Nat)=>((xs.size:Int) - 1+(k:Int)*(-1)).toNat:=by
  unfold sliceRange
  rw [if_neg (by decide)]
  have e3:(if (xs.size:Int) - 1 > -1 then ((xs.size:Int) - 1 - -1 - -1 - 1) / (- -1) else 0).toNat=xs.size:=by
   by_cases h0:xs.size=0
   ·rw [h0]; decide
   ·rw [if_pos (by omega),show (- -1:Int)=1 from rfl,Int.ediv_one]; omega
  show (List.range (if (xs.size:Int) - 1 > -1 then ((xs.size:Int) - 1 - -1 - -1 - 1) / (- -1) else 0).toNat).map _=_
  rw [e3]
  refine Zb fun k _=>?_
  congr 1
  omega
 rw [e2,Wq]
 rfl
section
variable {X:Cx}
def aE7 (K:PySem.W.Frag) (te ts:TE):TE:=fun σ H Q=>te σ H fun x H1=>ts σ H1 fun y H2=>y=.int (-1)/\∃ a xs,x=.ref a/\SqL K H2 a xs/\∀ p,H2 p=none->Q (.ref p) (upd H2 p (.lst xs.reverse))
theorem aC1 {e st:Expr} {te ts:TE} {pos p2:Pos} (he:PE X e te) (hst:PE X st ts):PE X (.Subscript e (.Slice none none (some st) p2) pos) (aE7 X.K te ts):=by
 intro pins s σ H Q I h
 refine Subscript_ (thn (he pins s σ H _ I h) fun v s1 hx9=>?_)
 obtain ⟨x,H1,I1,r1,q1⟩:=hx9
 refine wpAny_Slice ?_
 rw [evalPart_none]
 refine wpAny_pure ?_
 show wpAny _ _ (evalPart none X.env) _ _ s1
 rw [evalPart_none]
 refine wpAny_pure ?_
 show wpAny _ _ (evalPart (some st) X.env) _ _ s1
 rw [evalPart_some]
 refine thn (hst pins s1 σ H1 _ I1 q1) fun vst s3 hx9=>?_
 obtain ⟨y,H3,I3,r3,q3⟩:=hx9
 obtain ⟨rfl,a,xs,rfl,hx,q⟩:=q3
 obtain ⟨tk,rfl⟩:=r3
 cases r1
 have I4:Inv X pins σ H3 { s3 with heap:=s3.heap.push { cls:=.type "slice",data:=.fields #[.none,.none,.int (-1) tk] } }:=I3.kept (t':=s3.toks) fun b ob q=>Qb _ q
 obtain ⟨its,r,ht,hz⟩:=I4.list hx
 have hlen:=r.length
 have hg:wpAny (model X.prog X.w) X.A (getItem (.ref a) (.ref s3.heap.objs.size)) (EP X pins σ Q) X.xe { s3 with heap:=s3.heap.push { cls:=.type "slice",data:=.fields #[.none,.none,.int (-1) tk] } }:=by
  refine wpAny_getItem_list_slice ht.isList (Heap.IsSliceOf.new ..) .none .none (.int (-1) tk) (by decide) ?_ (by rw [Qq]; omega)
  rw [sX]
  refine ⟨.ref _,_,I4.laid (t':=s3.toks) (o:=.lst xs.reverse) (fun b ob q=>Qb _ q) (Qg _) ?_,rfl,q _ (I4.hok.fresh (Qg _))⟩
  exact ⟨by rw [Yk]; exact hz,its.reverse,0,r.reverse,Qk _ rfl⟩
 show wpAny (model X.prog X.w) X.A (subscriptTail e (.Slice none none (some st) p2) (.ref a) (.ref s3.heap.objs.size)) (EP X pins σ Q) X.xe { s3 with heap:=s3.heap.push { cls:=.type "slice",data:=.fields #[.none,.none,.int (-1) tk] } }
 exact tail_any (ops:=[.ref a,.ref s3.heap.objs.size]) ht.isList.typeIs slot_list_getitem.lookup hg (by with_unfolding_all rfl)
end
section
variable {K:PySem.W.Frag} {S:List Addr} {H H' H0:Hp} {E E':Hp->V->Prop} {σ:St} {te ta tb ts:TE} {t tr:TA} {tl th:TO}
instance {a:Addr} {xs:List V}:Mo (fun H v=>v=.ref a/\SqT K (Vw S H) a xs):=⟨fun e h=>⟨h.1,(Vw.same e).seqT h.2⟩⟩
end
section
variable {prog:Program} {w:World} {A:Around} {R:Result->Shared->Prop} {s:Shared} {elt tg iter tg2 iter2:Expr} {scope:Scope} {pos:Pos} {it acc:Value} {env:Env}
end
section
variable {X:Cx} {scope:Scope} {own frn:List Str} {fr:List Nat} {elt tg iter tg2 iter2:Expr} {pos:Pos} {wi wi2:TI} {g g2:TG} {te:TE}
end
section
variable {own:Nat} {fr:List Nat} {g g2:TG} {wi2:TI} {te:TE} {σ:St} {H:Hp} {Qf:Hp->List V->Prop} {K:PySem.W.Frag}
end
section
variable {X:Cx}
theorem aAL (bs:List Bool) (tr:Nat->Bool) (h:∀ i b,bs[i]?=some b->tr i=b):(List.range bs.length).any tr=bs.any id:=by
 rw [Xi,Xn,Xn]
 constructor
 ·rintro ⟨i,hi,q⟩
  have hi':=Zi.mp hi
  rw [h i _ (Qc hi')] at q
  exact ⟨_,Yx hi',q⟩
 ·rintro ⟨b,hb,q⟩
  obtain ⟨i,hi⟩:=Wh hb
  exact ⟨i,Zi.mpr (Qa.mp hi).1,by rw [h i b hi]; exact q⟩
theorem nI (hc:X.calm=true):dJ X (.builtin "any") (fun xs H Q=>∃ (p:Addr) (bs:List Bool),xs = [.ref p]/\SqL X.K H p (bs.map V.bl)/\Q (.bl (bs.any id)) H):=by
 intro pins s σ H xs us Q I r h
 obtain ⟨p,bs,rfl,hx,q⟩:=h
 obtain ⟨u,rfl,rx⟩:=fY r
 cases rx
 obtain ⟨its,rv,pl,hz⟩:=I.list hx
 have hl:=rv.length
 rw [Qd] at hl
 have hlt:p < s.heap.objs.size:=by obtain ⟨o,n,e,_⟩:=pl; exact Qj e
 refine call_any_walk (wpAny_pyIter_list pl.isList ?_)
 refine ⟨s.heap.objs.size,_,_,_,_,_,fun i=>(bs[i]?).getD false,rfl,Walks.list (A:=X.A.in1) (I.ok.hd hc) s.heap.objs.size p (Qz hlt) its.toArray,⟨⟨_,Qk _ rfl,rfl,rfl⟩,pl.isList.push _⟩,?_,fun h' tk hk=>?_⟩
 ·intro i v s' Q' E' hP hQ'
  have hP':its[i]?=some v:=by simpa using hP
  have hi:i < bs.length:=by rw [hl]; exact (Qa.mp hP').1
  obtain ⟨w,hw,rw'⟩:=rv.get (i:=i) (x:=.bl bs[i]) (by rw [Qi,Qc hi]; rfl)
  rw [hw] at hP'
  cases hP'
  cases rw'
  have e:(bs[i]?).getD false=bs[i]:=by rw [Qc hi]; rfl
  rw [<- e]
  exact wpAny_truthy_bool hQ'
 ·have e:(List.range its.toArray.size).any (fun i=>(bs[i]?).getD false)=bs.any id:=by
   rw [Qq,<- hl]
   exact aAL bs _ fun i b hb=>by rw [hb]; rfl
  rw [e]
  refine ⟨.bl _,H,I.kept (h':=h') fun b o e=>hk b o ?_ (Qb _ e),rfl,q⟩
  intro z
  have z':b=s.heap.objs.size:=by simpa using z
  exact Je _ (z' ▸ Qj e)
end
section
variable {κ:Type} [DecidableEq κ]
def bJ (kvs:List (κ×V)) (k:κ):Option V:=(kvs.find? fun kv=>decide (kv.1=k)).map (·.2)
def cB (kvs:List (κ×V)) (k:κ) (v:V):List (κ×V) :=
 if (kvs.any fun kv=>decide (kv.1=k))=true then kvs.map (fun kv=>if kv.1=k then (kv.1,v) else kv) else kvs++[(k,v)]
def nJ (kvs:List (κ×V)) (k:κ):List (κ×V):=kvs.filter fun kv=>decide (kv.1≠k)
theorem aBL {k:κ}:bJ ([]:List (κ×V)) k=none:=rfl
theorem bO {p:κ×V} {r:List (κ×V)} {k:κ} (e:p.1=k):bJ (p::r) k=some p.2:=by simp [bJ,Zf,e]
theorem bL {p:κ×V} {r:List (κ×V)} {k:κ} (e:¬ p.1=k):bJ (p::r) k=bJ r k:=by simp [bJ,Zf,e]
theorem eP (k:κ):∀ kvs:List (κ×V),(kvs.any fun kv=>decide (kv.1=k))=(bJ kvs k).isSome
 | []=>rfl
 | p::r=>by
  rw [Yf]
  by_cases e:p.1=k
  ·simp only [bO e,decide_eq_true e,Bool.true_or,Option.isSome_some]
  ·rw [bL e,decide_eq_false e,Bool.false_or]; exact eP k r
theorem wY (k j:κ) (y:V):∀ kvs:List (κ×V),bJ (kvs.map fun kv=>if kv.1=k then (kv.1,y) else kv) j=(bJ kvs j).map fun x=>if j=k then y else x
 | []=>rfl
 | p::r=>by
  have ih:=wY k j y r
  rw [Qw]
  by_cases h:p.1=k
  ·rw [if_pos h]
   by_cases e:p.1=j
   ·rw [bO (p:=(p.1,y)) e,bO e,Xj,if_pos (e.symm.trans h)]
   ·rw [bL (p:=(p.1,y)) e,bL e,ih]
  ·rw [if_neg h]
   by_cases e:p.1=j
   ·rw [bO (p:=p) e,bO e,Xj,if_neg (fun z=>h (e.trans z))]
   ·rw [bL (p:=p) e,bL e,ih]
theorem oO (k j:κ) (y:V):∀ kvs:List (κ×V),bJ kvs k=none->bJ (kvs++[(k,y)]) j=if j=k then some y else bJ kvs j
 | [],_=>by
  by_cases e:k=j
  ·rw [if_pos e.symm]; exact bO (p:=(k,y)) e
  ·rw [if_neg (fun z=>e z.symm)]; exact bL (p:=(k,y)) e
 | p::r,hn=>by
  rw [Yy]
  have hk:¬ p.1=k:=fun z=>by rw [bO z] at hn; cases hn
  rw [bL hk] at hn
  have ih:=oO k j y r hn
  by_cases e:p.1=j
  ·rw [bO e,bO e,if_neg (fun z=>hk (e.trans z))]
  ·rw [bL e,bL e,ih]
theorem rD (kvs:List (κ×V)) (k j:κ) (y:V):bJ (cB kvs k y) j=if j=k then some y else bJ kvs j:=by
 unfold cB
 by_cases a:(kvs.any fun kv=>decide (kv.1=k))=true
 ·rw [if_pos a,wY]
  rw [eP] at a
  by_cases e:j=k
  ·obtain ⟨x,hx⟩:=Yr.mp a
   rw [if_pos e,e,hx,Xj,if_pos rfl]
  ·rw [if_neg e]
   cases bJ kvs j with
   | none=>rfl
   | some x=>rw [Xj,if_neg e]
 ·rw [if_neg a]
  refine oO k j y kvs ?_
  rw [eP] at a
  cases q:bJ kvs k with
  | none=>rfl
  | some x=>rw [q] at a; exact (a rfl).elim
theorem cU (kvs:List (κ×V)) (k:κ) (v:V):(cB kvs k v).length<=kvs.length+1:=by
 unfold cB
 split
 ·rw [Qd]; omega
 ·rw [Qh,Jf,Wc]; omega
theorem gT {kvs:List (κ×V)} {k:κ} (v:V) (h:bJ kvs k=none):cB kvs k v=kvs++[(k,v)]:=by
 unfold cB
 rw [eP,h]
 exact if_neg (by decide)
theorem iZ.isSome_eq {o:Option V} {u:Option Value} (r:iZ o u):o.isSome=u.isSome:=by
 cases o with
 | none => cases u with
   | none=>rfl
   | some _=>exact (show False from r).elim
 | some _ => cases u with
   | none=>exact (show False from r).elim
   | some _=>rfl
theorem iZ.getD {o:Option V} {u:Option Value} {d:V} {d':Value} (r:iZ o u) (rd:bB d d'):bB (o.getD d) (u.getD d'):=by
 cases o with
 | none => cases u with
   | none=>exact rd
   | some _=>exact (show False from r).elim
 | some _ => cases u with
   | none=>exact (show False from r).elim
   | some _=>exact r
theorem KV.val {kvs:List (κ×V)} {vs:List (κ×Value)} (r:KV kvs vs) (k:κ):iZ (bJ kvs k) (valueAt vs k):=by
 unfold KV at r
 induction r with
 | nil=>exact True.intro
 | @cons p q ps qs h t ih =>
  obtain ⟨h1,h2⟩:=h
  by_cases e:p.1=k
  ·have e':q.1=k:=h1.symm.trans e
   have b:valueAt (q::qs) k=some q.2:=by simp [valueAt,Zf,e']
   rw [bO e,b]; exact h2
  ·have e':¬ q.1=k:=fun z=>e (h1.trans z)
   have b:valueAt (q::qs) k=valueAt qs k:=by simp [valueAt,Zf,e']
   rw [bL e,b]; exact ih
theorem KV.any {kvs:List (κ×V)} {vs:List (κ×Value)} (r:KV kvs vs) (k:κ):(kvs.any fun kv=>decide (kv.1=k))=vs.any fun kv=>decide (kv.1=k):=by
 unfold KV at r
 induction r with
 | nil=>rfl
 | cons h t ih=>rw [Yf,Yf,ih,h.1]
theorem KV.repl {kvs:List (κ×V)} {vs:List (κ×Value)} (r:KV kvs vs) (k:κ) {y:V} {u:Value} (ry:bB y u) :
  KV (kvs.map fun kv=>if kv.1=k then (kv.1,y) else kv) (vs.map fun kv=>if kv.1=k then (kv.1,u) else kv):=by
 unfold KV at r ⊢
 induction r with
 | nil=>exact .nil
 | @cons p q ps qs h t ih =>
  rw [Qw,Qw]
  refine .cons ?_ ih
  obtain ⟨h1,h2⟩:=h
  by_cases e:p.1=k
  ·rw [if_pos e,if_pos (h1.symm.trans e)]; exact ⟨h1,ry⟩
  ·rw [if_neg e,if_neg (fun z=>e (h1.trans z))]; exact ⟨h1,h2⟩
theorem KV.put {kvs:List (κ×V)} {vs:List (κ×Value)} (r:KV kvs vs) (k:κ) {y:V} {u:Value} (ry:bB y u):KV (cB kvs k y) (stored vs k u):=by
 unfold cB stored
 rw [r.any k]
 by_cases e:(vs.any fun kv=>decide (kv.1=k))=true
 ·rw [if_pos e,if_pos e]; exact r.repl k ry
 ·rw [if_neg e,if_neg e]; exact Paired.snoc r ⟨rfl,ry⟩
theorem KV.drop {kvs:List (κ×V)} {vs:List (κ×Value)} (r:KV kvs vs) (k:κ):KV (nJ kvs k) (without vs k):=by
 unfold KV at r ⊢
 unfold nJ without
 induction r with
 | nil=>exact .nil
 | @cons p q ps qs h t ih =>
  obtain ⟨h1,h2⟩:=h
  rw [Jv,Jv]
  by_cases e:p.1=k
  ·have a:¬ decide (p.1≠k)=true:=by simp [e]
   have b:¬ decide (q.1≠k)=true:=by simp [h1.symm.trans e]
   rw [if_neg a,if_neg b]; exact ih
  ·have e':¬ q.1=k:=fun z=>e (h1.trans z)
   have a:decide (p.1≠k)=true:=by simp [e]
   have b:decide (q.1≠k)=true:=by simp [e']
   rw [if_pos a,if_pos b]; exact .cons ⟨h1,h2⟩ ih
theorem KV.keys {kvs:List (κ×V)} {vs:List (κ×Value)} (r:KV kvs vs):kvs.map (·.1)=vs.map (·.1):=by
 unfold KV at r
 induction r with
 | nil=>rfl
 | cons h t ih=>rw [Qw,Qw,ih,h.1]
theorem KV.length {kvs:List (κ×V)} {vs:List (κ×Value)} (r:KV kvs vs):kvs.length=vs.length:=Paired.length r
theorem aBM (kvs:List (κ×V)) (k:κ):(nJ kvs k).length<=kvs.length:=Xl _ _
end
theorem mD {P:Program} {w:World} {k:Key} {u:Value} (r:bB (kV k) u):(aW P w).is k u=true:=by
 cases k with
 | inl i=>obtain ⟨t,e⟩:=(show ∃ t,u=Value.int i t from r); subst e; exact wG P w i t
 | inr x=>obtain ⟨t,e⟩:=(show ∃ t,u=Value.str x t from r); subst e; exact wH P w x t
theorem tQ {P:Program} {w:World}:∀ {ks:List Key} {us:List Value},aY (ks.map kV) us->ItemsAre (aW P w) ks us
 | [],_,r=>by rw [Xz] at r; cases r; exact .nil
 | k::ks,_,r=>by
  rw [Qw] at r
  cases r with
  | cons h t=>exact .cons (mD h) (tQ t)
abbrev KT (H:Hp):List (List Key×V)->List (List Key×Addr×Value)->Prop:=Paired fun p q=>p.1=q.1/\H q.2.1=some (.tup (p.1.map kV))/\bB p.2 q.2.2
theorem KT.val {H:Hp} {kvs:List (List Key×V)} {xs:List (List Key×Addr×Value)} (r:KT H kvs xs) (k:List Key):iZ (bJ kvs k) ((atKey xs k).map (·.2)):=by
 induction r with
 | nil=>exact True.intro
 | @cons p q ps qs h t ih =>
  obtain ⟨h1,_,h2⟩:=h
  by_cases e:p.1=k
  ·have e':q.1=k:=h1.symm.trans e
   have b:atKey (q::qs) k=some q.2:=by simp [atKey,Zf,e']
   rw [bO e,b]; exact h2
  ·have e':¬ q.1=k:=fun z=>e (h1.trans z)
   have b:atKey (q::qs) k=atKey qs k:=by simp [atKey,Zf,e']
   rw [bL e,b]; exact ih
theorem KT.repl {H:Hp} {kvs:List (List Key×V)} {xs:List (List Key×Addr×Value)} (r:KT H kvs xs) (k:List Key) {y:V} {u:Value} (ry:bB y u) :
  KT H (kvs.map fun kv=>if kv.1=k then (kv.1,y) else kv) (xs.map (putAt k u)):=by
 induction r with
 | nil=>exact .nil
 | @cons p q ps qs h t ih =>
  rw [Qw,Qw]
  refine .cons ?_ ih
  obtain ⟨h1,h2,h3⟩:=h
  unfold putAt
  by_cases e:p.1=k
  ·rw [if_pos e,if_pos (h1.symm.trans e)]; exact ⟨h1,h2,ry⟩
  ·rw [if_neg e,if_neg (fun z=>e (h1.trans z))]; exact ⟨h1,h2,h3⟩
theorem KT.put {H:Hp} {kvs:List (List Key×V)} {xs:List (List Key×Addr×Value)} (r:KT H kvs xs) (k:List Key) {b:Addr} {y:V} {u:Value} (hb:H b=some (.tup (k.map kV))) (ry:bB y u) :
  KT H (cB kvs k y) (storedH xs k b u):=by
 have e:(kvs.any fun kv=>decide (kv.1=k))=(atKey xs k).isSome:=by
  rw [eP,(r.val k).isSome_eq,Zz]
 unfold cB storedH
 rw [e]
 by_cases q:(atKey xs k).isSome=true
 ·rw [if_pos q,if_pos q]; exact r.repl k ry
 ·rw [if_neg q,if_neg q]; exact Paired.snoc r ⟨rfl,hb,ry⟩
theorem KT.keeps {H H':Hp} {kvs:List (List Key×V)} {xs:List (List Key×Addr×Value)} (r:KT H kvs xs) (ht:∀ b ys,H b=some (.tup ys)->H' b=some (.tup ys)):KT H' kvs xs :=
 Paired.mapP r fun _ _ z=>⟨z.1,ht _ _ z.2.1,z.2.2⟩
section
variable {P:Program} {w:World} {H:Hp} {h:Heap} {a:Addr}
theorem aDS {u:HO} (ok:HOk P w H h) (e:Rd H a u):bG P w H h a u:=e.ok ok
theorem iI {kvs:List (Key×V)} (ok:HOk P w H h) (e:Rd H a (.dK kvs)):kvs.length<=sizeLine/\(a==sysModules)=false/\∃ vs,KV kvs vs/\h.DictOf (aW P w) a vs :=
 show bG P w H h a (.dK kvs) from aDS ok e
theorem wZ {kvs:List (Key×V)} (ok:HOk P w H h) (e:H a=some (.dK kvs)):kvs.length<=sizeLine/\(a==sysModules)=false/\∃ vs,KV kvs vs/\h.DictOf (aW P w) a vs:=iI ok (.inl e)
theorem rE {ks:List Key} (ok:HOk P w H h) (e:H a=some (.tup (ks.map kV))):(tupleKind (aW P w)).is h ks a:=by
 obtain ⟨_,its,n,r,e1⟩:=(show bG P w H h a (.tup (ks.map kV)) from ok a _ e)
 exact ⟨_,its.toArray,n,e1,rfl,rfl,by simpa using tQ r⟩
theorem tR {kvs:List (List Key×V)} (ok:HOk P w H h) (e:Rd H a (.dT kvs)):kvs.length<=sizeLine/\(a==sysModules)=false /\
  ∃ xs,KT H kvs xs/\h.DictOfH (tupleKind (aW P w)) a xs:=by
 obtain ⟨z,y,xs,r,o,es,ep,h1,h2,h3,h4,h5⟩:=(show bG P w H h a (.dT kvs) from aDS ok e)
 refine ⟨z,y,xs,r,o,es,ep,h1,h2,h3,h4,fun x hx=>?_,h5⟩
 have all:∀ {l:List (List Key×V)} {m:List (List Key×Addr×Value)},KT H l m->∀ x∈m,(tupleKind (aW P w)).is h x.1 x.2.1:=by
  intro l m q
  induction q with
  | nil=>intro x hx; exact nomatch hx
  | @cons p q ps qs hq t ih =>
   intro x hx
   rcases Qm.mp hx with e | hx
   ·subst e
    exact rE ok (by rw [<- hq.1]; exact hq.2.1)
   ·exact ih x hx
 exact all r x hx
theorem aE8 {kvs:List (List Key×V)} (ok:HOk P w H h) (e:H a=some (.dT kvs)):kvs.length<=sizeLine/\(a==sysModules)=false /\
  ∃ xs,KT H kvs xs/\h.DictOfH (tupleKind (aW P w)) a xs:=tR ok (.inl e)
end
def gG (H:Hp) (a:Addr) (y:V) (r:Option V):Prop :=
 (∃ kvs k,Rd H a (.dK kvs)/\y=kV k/\r=bJ kvs k)∨∃ kvs k b,Rd H a (.dT kvs)/\y=.ref b/\H b=some (.tup (k.map kV))/\r=bJ kvs k
def lX (H:Hp) (a:Addr) (y v:V) (H':Hp):Prop :=
 (∃ kvs k,H a=some (.dK kvs)/\y=kV k/\kvs.length < sizeLine/\H'=upd H a (.dK (cB kvs k v))) ∨
 ∃ kvs k b,H a=some (.dT kvs)/\y=.ref b/\H b=some (.tup (k.map kV))/\kvs.length < sizeLine/\H'=upd H a (.dT (cB kvs k v))
theorem gG.k {H:Hp} {a:Addr} {kvs:List (Key×V)} {k:Key} (e:H a=some (.dK kvs)):gG H a (kV k) (bJ kvs k):=.inl ⟨kvs,k,.inl e,rfl,rfl⟩
theorem gG.t {H:Hp} {a b:Addr} {kvs:List (List Key×V)} {k:List Key} (e:H a=some (.dT kvs)) (eb:H b=some (.tup (k.map kV))):gG H a (.ref b) (bJ kvs k):=.inr ⟨kvs,k,b,.inl e,rfl,eb,rfl⟩
theorem lX.k {H:Hp} {a:Addr} {kvs:List (Key×V)} {k:Key} {v:V} (e:H a=some (.dK kvs)) (hl:kvs.length < sizeLine):lX H a (kV k) v (upd H a (.dK (cB kvs k v))):=.inl ⟨kvs,k,e,rfl,hl,rfl⟩
theorem lX.t {H:Hp} {a b:Addr} {kvs:List (List Key×V)} {k:List Key} {v:V} (e:H a=some (.dT kvs)) (eb:H b=some (.tup (k.map kV))) (hl:kvs.length < sizeLine) :
  lX H a (.ref b) v (upd H a (.dT (cB kvs k v))):=.inr ⟨kvs,k,b,e,rfl,eb,hl,rfl⟩
section
variable {X:Cx} {pins:List (Addr×Obj)} {σ:St} {H:Hp} {s:Shared} {a:Addr} {y v:V} {u r:Value} {o:Option V} {A:Around} {E:Value->Shared->Prop}
theorem Inv.big (I:Inv X pins σ H s):sysModules < s.heap.objs.size:=by
 have h:mainGlobals < s.heap.objs.size:=(I.mod.glob.keeps I.bk).lt
 exact Yn (by decide) h
theorem aAM {Q:Value->Shared->Prop} (hu:A.units+1 < cLine) (I:Inv X pins σ H s) (g:gG H a y (some v)) (ry:bB y u) (h:∀ w' s',Inv X pins σ H s'->bB v w'->Q w' s') :
  wpAny (model X.prog X.w) A (getItem (.ref a) u) Q E s:=by
 rcases g with ⟨kvs,k,e,ey,l⟩ | ⟨kvs,k,b,e,ey,eb,l⟩
 ·subst ey
  obtain ⟨z,hd,vs,rel,dd⟩:=iI I.hok e
  obtain ⟨w',hw,rw'⟩:=iZ.some_of (v:=v) (o:=valueAt vs k) (by rw [l]; exact rel.val k)
  exact wpAny_getItem_of (mD ry) dd.mapOf hw (h w' _ (I.tok _) rw')
 ·subst ey
  cases (show u=Value.ref b from ry)
  obtain ⟨z,hd,xs,rel,dd⟩:=tR I.hok e
  obtain ⟨w',hw,rw'⟩:=iZ.some_of (v:=v) (o:=(atKey xs k).map (·.2)) (by rw [l]; exact rel.val k)
  obtain ⟨p,hp,hp2⟩:=Qv.mp hw
  refine wpAny_getItem_heap (tupleKind_room_in1 hu) (rE I.hok eb) dd hp ?_
  rw [hp2]
  exact h w' _ (I.tok _) rw'
theorem aFD {Q:Value->Shared->Prop} (hu:A.units+1 < cLine) (I:Inv X pins σ H s) (g:gG H a y o) (ry:bB y u) (h:∀ s',Inv X pins σ H s'->Q (.bool o.isSome) s') :
  wpAny (model X.prog X.w) A (compareOp .In u (.ref a)) Q E s:=by
 rcases g with ⟨kvs,k,e,ey,l⟩ | ⟨kvs,k,b,e,ey,eb,l⟩
 ·subst ey
  obtain ⟨z,hd,vs,rel,dd⟩:=iI I.hok e
  refine wpAny_in_of (mD ry) hd dd.mapOf ?_
  rw [<- (rel.val k).isSome_eq,<- l]
  exact h _ (I.tok _)
 ·subst ey
  cases (show u=Value.ref b from ry)
  obtain ⟨z,hd,xs,rel,dd⟩:=tR I.hok e
  refine wpAny_in_heap (tupleKind_room_in1 hu) (rE I.hok eb) hd dd ?_
  have q:=(rel.val k).isSome_eq
  rw [Zz] at q
  rw [<- q,<- l]
  exact h _ (I.tok _)
theorem aC2 {Q:Value->Shared->Prop} (hu:A.units+1 < cLine) (I:Inv X pins σ H s) (g:gG H a y o) (ry:bB y u) (h:∀ s',Inv X pins σ H s'->Q (.bool (!o.isSome)) s') :
  wpAny (model X.prog X.w) A (compareOp .NotIn u (.ref a)) Q E s:=by
 rcases g with ⟨kvs,k,e,ey,l⟩ | ⟨kvs,k,b,e,ey,eb,l⟩
 ·subst ey
  obtain ⟨z,hd,vs,rel,dd⟩:=iI I.hok e
  refine wpAny_notIn_of (mD ry) hd dd.mapOf ?_
  rw [<- (rel.val k).isSome_eq,<- l]
  exact h _ (I.tok _)
 ·subst ey
  cases (show u=Value.ref b from ry)
  obtain ⟨z,hd,xs,rel,dd⟩:=tR I.hok e
  refine wpAny_notIn_heap (tupleKind_room_in1 hu) (rE I.hok eb) hd dd ?_
  have q:=(rel.val k).isSome_eq
  rw [Zz] at q
  rw [<- q,<- l]
  exact h _ (I.tok _)
theorem jU {h':Heap} {t':Nat} {ob:HO} (I:Inv X pins σ H s) (mu:Mut (H a)) (hs:Heap.SameBut a s.heap h') (he:∃ q,h'.get? a=some q) (new:bG X.prog X.w (upd H a ob) h' a ob) :
  Inv X pins σ (upd H a ob) { s with heap:=h',toks:=t' } :=
 I.write (x:=a) (e:=a) mu (.inl rfl) (fun b q hb z=>(hs.2 b hb).trans z) he new
theorem mU {P:Program} {w:World} {H':Hp} {h':Heap} {kvs:List (Key×V)} {vs:List (Key×Value)} (z:kvs.length<=sizeLine) (hd:(a==sysModules)=false) (rel:KV kvs vs) (dd:h'.DictOf (aW P w) a vs) :
  bG P w H' h' a (.dK kvs):=⟨z,hd,vs,rel,dd⟩
theorem aAN {H':Hp} {Q:Unit->Shared->Prop} (hu:A.units+1 < cLine) (I:Inv X pins σ H s) (g:lX H a y v H') (ry:bB y u) (rv:bB v r) (h:∀ s',Inv X pins σ H' s'->Q () s') :
  wpAny (model X.prog X.w) A (setItem (.ref a) u r) Q E s:=by
 rcases g with ⟨kvs,k,e,ey,l,eH⟩ | ⟨kvs,k,b,e,ey,eb,l,eH⟩
 ·subst ey eH
  obtain ⟨z,hd,vs,rel,dd⟩:=wZ I.hok e
  have hz:vs.length<=sizeLine:=by rw [<- rel.length]; exact z
  have hl:(cB kvs k v).length<=sizeLine:=by have:=cU kvs k v; omega
  refine wpAny_setItem_pairs (hsz:=hz) (mD ry) dd fun h' dd' hs=>h _ ?_
  have he:∃ q,h'.get? a=some q:=let ⟨q,_,_,hq,_⟩:=dd'; ⟨q,hq⟩
  exact jU I (by rw [e]; exact True.intro) hs he (mU hl hd (rel.put k rv) dd')
 ·subst ey eH
  cases (show u=Value.ref b from ry)
  obtain ⟨z,hd,xs,rel,dd⟩:=aE8 I.hok e
  have hz:xs.length<=sizeLine:=by rw [<- Paired.length rel]; exact z
  have hl:(cB kvs k v).length<=sizeLine:=by have:=cU kvs k v; omega
  refine wpAny_setItem_heap (hsz:=hz) (tupleKind_room_in1 hu) (rE I.hok eb) dd fun h' dd' hs=>h _ ?_
  obtain ⟨q,es,ep,hq,h2,h3,h4,_,h5⟩:=dd'
  refine jU I (by rw [e]; exact True.intro) hs ⟨q,hq⟩ ⟨hl,hd,_,(rel.put k eb rv).keeps fun c ys ec=>?_,q,es,ep,hq,h2,h3,h4,h5⟩
  rw [aD (aET ec e (fun z=>nomatch z))]
  exact ec
end
section
variable {X:Cx} {pins:List (Addr×Obj)} {σ:St} {H:Hp} {s:Shared} {a:Addr} {kvs:List (Key×V)} {k:Key} {u:Value} {A:Around} {E:Value->Shared->Prop}
theorem aE9 {v:V} {more:List Value} {Q:Value->Shared->Prop} (I:Inv X pins σ H s) (e:H a=some (.dK kvs)) (ry:bB (kV k) u) (l:bJ kvs k=some v) (hm:more = []∨∃ x,more = [x])
  (h:∀ w' s',Inv X pins σ (upd H a (.dK (nJ kvs k))) s'->bB v w'->Q w' s'):wpAny (model X.prog X.w) A (call (.builtin "dict.pop") (.ref a::u::more)) Q E s:=by
 obtain ⟨z,hd,vs,rel,dd⟩:=wZ I.hok e
 obtain ⟨w',hw,rw'⟩:=iZ.some_of (v:=v) (o:=valueAt vs k) (by rw [<- l]; exact rel.val k)
 have hp:(keyPart u).isSome=true:=by
  cases k with
  | inl i=>obtain ⟨t,q⟩:=(show ∃ t,u=Value.int i t from ry); subst q; rfl
  | inr x=>obtain ⟨t,q⟩:=(show ∃ t,u=Value.str x t from ry); subst q; rfl
 have ha:argsOk "dict.pop" ⟨.ref a::u::more,[]⟩:=by
  rcases hm with q | ⟨x,q⟩
  ·subst q; exact PySem.F.args_dict_pop_2 _ _
  ·subst q; exact PySem.F.args_dict_pop_3 _ _ _
 refine call_meetsIn PySem.F.slot_dict_pop dd.typeIs PySem.F.entry_dict_pop ha (meets_dict_pop_there (aW X.prog X.w) a (mD ry) more hm hp)
  ⟨vs,w',dd,by rw [<- rel.length]; exact z,hw,fun h' dd' hs=>h w' _ ?_ rw'⟩
 have he:∃ q,h'.get? a=some q:=let ⟨q,_,_,hq,_⟩:=dd'; ⟨q,hq⟩
 exact jU I (by rw [e]; exact True.intro) hs he (mU (Ja (aBM kvs k) z) hd (rel.drop k) dd')
theorem aC3 {Q:Value->Shared->Prop} (I:Inv X pins σ H s) (e:H a=some (.dK kvs)) (h:∀ s',Inv X pins σ (upd H a (.dK [])) s'->Q .none s'):wpAny (model X.prog X.w) A (call (.builtin "dict.clear") [.ref a]) Q E s:=by
 obtain ⟨z,hd,vs,rel,dd⟩:=wZ I.hok e
 refine call_meetsIn PySem.F.slot_dict_clear dd.typeIs PySem.F.entry_dict_clear (PySem.F.args_dict_clear_1 _) (meets_dict_clear (aW X.prog X.w) a) ⟨vs,dd,by rw [<- rel.length]; exact z,fun h' dd' hs=>h _ ?_⟩
 have he:∃ q,h'.get? a=some q:=let ⟨q,_,_,hq,_⟩:=dd'; ⟨q,hq⟩
 exact jU (t':=s.toks) I (by rw [e]; exact True.intro) hs he (mU (Jk _) hd .nil dd')
theorem aFa {Q:Value->Shared->Prop} (I:Inv X pins σ H s) (e:Rd H a (.dK kvs)) (h:∀ t s',Inv X pins σ H s'->Q (.int kvs.length t) s'):wpAny (model X.prog X.w) A (call (.builtin "len") [.ref a]) Q E s:=by
 obtain ⟨z,hd,vs,rel,dd⟩:=iI I.hok e
 refine call_len_dict hd dd (by rw [<- rel.length]; rw [sizeLine_eq] at z; omega) ?_
 rw [<- rel.length]
 exact h _ _ (I.tok _)
end
def aFb (i:Expr):Prop:=∀ ov iv,subscripted i false ov iv=operate [ov,iv] (getItem ov iv)
theorem aC4 {prog:Program} {w:World} {A:Around} {E:Value->Shared->Prop} {s:Shared} {env:Env} {value slice:Expr} {pos:Pos} {T id:String} {Q:Value->Shared->Prop}
  (hl:typeLookup (.type T) "__getitem__" = pure (some (.builtin id))) (hs:aFb slice)
  (h:wpAny (model prog w) A (eval value env) (fun o s₁=>wpAny (model prog w) A (eval slice env) (fun i s₂=>s₂.TypeIs o T/\wpAny (model prog w) A (getItem o i) Q E s₂) E s₁) E s) :
  wpAny (model prog w) A (eval (.Subscript value slice pos) env) Q E s:=by
 refine Subscript_ (wpAny_mono h (fun o s₁ h₁=>wpAny_mono h₁ (fun i s₂ h₂=>?_) fun _ _ x=>x) fun _ _ x=>x)
 obtain ⟨hT,h₂⟩:=h₂
 unfold subscriptTail
 refine wpAny_bind ?_
 rw [getitemInPython_of_ne hT.not_modules]
 refine wpAny_bind (wpAny_specialOf hT hl ?_)
 have fin:wpAny (model prog w) A (subscripted slice false o i) (fun r s₃=>wpAny (model prog w) A (letTemporaryGo value o r >>= fun _=>pure r) Q E s₃) E s₂:=by
  rw [hs o i]
  exact wpAny_operating (wpAny_mono h₂ (fun r s₃ h₃=>wpAny_bind (wpAny_letTemporaryGo (wpAny_pure h₃))) fun _ _ x=>x)
 first
  | exact wpAny_pure (wpAny_bind fin)
  | exact wpAny_bind (wpAny_pure (wpAny_bind fin))
  | exact wpAny_bind fin
theorem xA {X:Cx} {pins:List (Addr×Obj)} {σ:St} {H:Hp} {s:Shared} {a:Addr} {y:V} {o:Option V} (I:Inv X pins σ H s) (g:gG H a y o):s.TypeIs (.ref a) "dict" := by
 rcases g with ⟨kvs,k,e,_,_⟩ | ⟨kvs,k,b,e,_,_,_⟩
 ·obtain ⟨_,_,vs,_,dd⟩:=iI I.hok e
  exact dd.typeIs
 ·obtain ⟨_,_,xs,_,dd⟩:=tR I.hok e
  exact dd.typeIs
def xB (td ty:TE):TE:=fun σ H Q=>td σ H fun x H1=>ty σ H1 fun y H2=>∃ a v,x=.ref a/\gG H2 a y (some v)/\Q v H2
def aFE (ty td:TE):TE:=fun σ H Q=>ty σ H fun y H1=>td σ H1 fun x H2=>∃ a o,x=.ref a/\gG H2 a y o/\Q (.bl o.isSome) H2
def aC5 (ty td:TE):TE:=fun σ H Q=>ty σ H fun y H1=>td σ H1 fun x H2=>∃ a o,x=.ref a/\gG H2 a y o/\Q (.bl (!o.isSome)) H2
def aFc (td ty tv:TE):TS:=fun D σ H=>tv σ H fun v H1=>td σ H1 fun x H2=>ty σ H2 fun y H3=>∃ a H4,x=.ref a/\lX H3 a y v H4/\D.nx σ H4
section
variable {X:Cx} {o i e value:Expr} {pos pos' tpos:Pos} {td ty tv:TE}
theorem aQ (hu:X.A.units+1 < cLine) (ho:PE X o td) (hi:PE X i ty) (hs:aFb i):PE X (.Subscript o i pos) (xB td ty):=by
 intro pins s σ H Q I h
 refine aC4 PySem.F.slot_dict_getitem.lookup hs (thn (ho pins s σ H _ I h) fun u s1 ⟨x,H1,I1,rx,q1⟩=>thn (hi pins s1 σ H1 _ I1 q1) fun iv s2 hx9=>?_)
 obtain ⟨y,H2,I2,ry,a,v,ex,g,q2⟩:=hx9
 subst ex
 obtain rfl:u=Value.ref a:=rx
 exact ⟨xA I2 g,aAM hu I2 g ry fun w' s3 I3 rw'=>⟨v,H2,I3,rw',q2⟩⟩
theorem aBN (hu:X.A.units+1 < cLine) (hi:PE X i ty) (ho:PE X o td):PC X .In i o (aFE ty td):=by
 intro pins s σ H Q I h
 refine thn (hi pins s σ H _ I h) fun iv s1 ⟨y,H1,I1,ry,q1⟩=>thn (ho pins s1 σ H1 _ I1 q1) fun u s2 hx9=>?_
 obtain ⟨x,H2,I2,rx,a,ov,ex,g,q2⟩:=hx9
 subst ex
 obtain rfl:u=Value.ref a:=rx
 exact aFD hu I2 g ry fun s3 I3=>⟨.bl ov.isSome,H2,I3,rfl,q2⟩
theorem oP (hu:X.A.units+1 < cLine) (hi:PE X i ty) (ho:PE X o td):PC X .NotIn i o (aC5 ty td):=by
 intro pins s σ H Q I h
 refine thn (hi pins s σ H _ I h) fun iv s1 ⟨y,H1,I1,ry,q1⟩=>thn (ho pins s1 σ H1 _ I1 q1) fun u s2 hx9=>?_
 obtain ⟨x,H2,I2,rx,a,ov,ex,g,q2⟩:=hx9
 subst ex
 obtain rfl:u=Value.ref a:=rx
 exact aC2 hu I2 g ry fun s3 I3=>⟨.bl (!ov.isSome),H2,I3,rfl,q2⟩
theorem gM (hu:X.A.units+1 < cLine) (ho:PE X o td) (hi:PE X i ty) (hv:PE X value tv) (hs:swapsWith value (some (.Subscript o i pos')) pos.line X.env=pure false) :
  PS X (.Assign [.Subscript o i pos'] value pos) (aFc td ty tv):=by
 intro pins s σ H D I h
 refine wpAny_Assign_Subscript (thn (hv pins s σ H _ I h) fun r s1 ⟨v,H1,I1,rv,q1⟩=>thn (ho pins s1 σ H1 _ I1 q1) fun u s2 ⟨x,H2,I2,rx,q2⟩=>thn (hi pins s2 σ H2 _ I2 q2) fun iv s3 hx9=>?_) hs
 obtain ⟨y,H3,I3,ry,a,H4,ex,g,q3⟩:=hx9
 subst ex
 obtain rfl:u=Value.ref a:=rx
 exact aAN hu I3 g ry rv fun s4 I4=>⟨σ,H4,I4,q3⟩
end
theorem nK {P:Program} {w:World} {H:Hp} (h:Heap) (hb:sysModules < h.objs.size):bG P w H (h.push { cls:=.type "dict",data:=.dict #[] }) h.objs.size (.dK []) :=
 ⟨Jk _,beq_eq_false_iff_ne.mpr (Ne.symm (Qz hb)),[],.nil,Heap.DictOf.new h⟩
def aBO:TE:=fun _ H Q=>∀ p,H p=none->Q (.ref p) (upd H p (.dK []))
section
variable {X:Cx} {pos:Pos}
theorem jD:PE X (.Dict [] [] pos) aBO:=fun pins s σ H Q I h =>
 wpAny_Dict_empty ⟨.ref s.heap.objs.size,_,I.laid (a:=s.heap.objs.size) (o:=.dK []) (t':=s.toks) (fun _ _ q=>Qb _ q) (Qg _) (nK s.heap I.big),rfl,h _ (I.hok.fresh (Qg _))⟩
end
def NF (H0:Hp) (a:Addr):Prop:=∀ o u,H0 a≠some (.frz o u)
section
variable {X:Cx} {pins:List (Addr×Obj)} {σ:St} {H:Hp} {s:Shared} {a:Addr}
theorem Inv.freeze {kvs:List (Key×V)} {o:Obj} (I:Inv X pins σ H s) (e:H a=some (.dK kvs)) (ho:s.heap.get? a=some o):Inv X pins σ (upd H a (.frz o (.dK kvs))) s:=by
 have m:Mut (H a):=by rw [e]; trivial
 have q:bG X.prog X.w H s.heap a (.dK kvs):=I.hok a _ e
 exact I.write (x:=a) (e:=a) (t':=s.toks) m (.inl rfl) (fun b u _ z=>z) ⟨o,ho⟩ ⟨ho,q⟩
theorem Inv.nf {kvs:List (Key×V)} (I:Inv X pins σ H s) (e:H a=some (.dK kvs)):NF X.H₀ a:=fun o u z=>by
 have:=I.base.frzs a o u z
 rw [e] at this; cases this
theorem Inv.thaw {kvs:List (Key×V)} {o:Obj} (I:Inv X pins σ H s) (e:H a=some (.frz o (.dK kvs))) (nf:NF X.H₀ a):Inv X pins σ (upd H a (.dK kvs)) s:=by
 have ne:∀ b,H b=none->b≠a:=fun b n z=>by rw [z,e] at n; cases n
 have nt:∀ b xs,H b=some (.tup xs)->b≠a:=fun b xs n z=>by rw [z,e] at n; cases n
 have no:∀ b x,H b=some (.own x)->b≠a:=fun b xs n z=>by rw [z,e] at n; cases n
 obtain ⟨ho,q⟩:s.heap.get? a=some o/\bG X.prog X.w H s.heap a (.dK kvs):=I.hok a _ e
 have un:Un X.fs X.ex X.H₀ (upd H a (.dK kvs)) X.s₀.heap s.heap:=by
  refine ⟨I.base.keep,I.base.slot,fun b ob q n hx=>?_,I.base.there,fun b xs q=>?_,fun b ob u q=>?_,fun b ps q=>?_⟩
  ·have z:=I.base.free b ob q n hx
   rw [aD (ne b z)]; exact z
  ·have z:=I.base.tups b xs q
   rw [aD (nt b xs z)]; exact z
  ·have z:=I.base.frzs b ob u q
   have n:b≠a:=fun y=>nf ob u (y ▸ q)
   rw [aD n]; exact z
  ·obtain ⟨m,z⟩:=I.base.tbls b ps q
   have n:b≠a:=fun y=>by rw [y,e] at z; cases z
   exact ⟨m,by rw [aD n]; exact z⟩
 refine ⟨I.ok,I.os,I.bare,un,I.loc,I.cell,?_,fun x c h=>?_,fun p hp=>?_,fun b u h=>?_,I.len⟩
 ·rw [aD (ne _ I.free)]; exact I.free
 ·have z:=I.freeC x c h
  rw [aD (ne _ z)]; exact z
 ·obtain ⟨p1,p2,p3⟩:=I.pin p hp
  exact ⟨p1,by rw [aD (ne _ p2)]; exact p2,p3⟩
 ·by_cases hb:b=a
  ·subst hb
   rw [aB] at h
   cases h
   exact bG.stay q (fun _ _ _ z=>z) (fun c z=>by rw [aD (no c _ z)]; exact z) (fun c xs z=>by rw [aD (nt c xs z)]; exact z)
  ·rw [aD hb] at h
   exact bG.stay (I.hok b u h) (fun _ _ _ z=>z) (fun c z=>by rw [aD (no c _ z)]; exact z) (fun c xs z=>by rw [aD (nt c xs z)]; exact z)
end
def Itd (a:Addr) (o:Obj) (kvs:List (Key×V)):It :=
 ⟨fun i H=>H a=some (.frz o (.dK kvs))/\i < kvs.length,fun i H x H'=>H'=H/\∃ p,kvs[i]?=some p/\x=kV p.1,fun i H=>H a=some (.frz o (.dK kvs))/\i=kvs.length⟩
theorem rF {P:Program} {w:World} {k:Key} {u:Value} (h:(aW P w).is k u=true):bB (kV k) u:=by
 rcases cI h with ⟨i,t,rfl,rfl⟩ | ⟨x,t,rfl,rfl⟩
 ·exact ⟨t,rfl⟩
 ·exact ⟨t,rfl⟩
theorem iC {P:Program} {w:World} {h:Heap} {a:Addr} {o:Obj} {es:Array DictEntry} {ep:Nat} {vs:List (Key×Value)} (ho:h.get? a=some o) (hd:o.data=.dict es ep) (d:h.DictOf (aW P w) a vs):h.DictAt (aW P w) a vs ep:=by
 obtain ⟨o',es',ep',q1,q2,q3,r⟩:=d
 rw [ho] at q1; cases q1
 rw [hd] at q3; cases q3
 exact ⟨o,es,ho,q2,hd,r⟩
theorem aAO {P:Program} {w:World} {K:PySem.W.Frag} {tg:Expr} (a it:Addr) (o:Obj) (es:Array DictEntry) (ep:Nat) (hd:o.data=.dict es ep) (kvs:List (Key×V)) :
  Turn P w K tg (Itd a o kvs) [it] it (fun i h=>h.IsKeyIter it a i kvs.length ep) where
 mem:=by simp
 obj:=fun i h st b hb=>by
  have e:b=it:=by simpa using hb
  subst e
  obtain ⟨o,e,c,d⟩:=st
  exact ⟨o,e,fun v z=>by rw [d] at z; cases z⟩
 keep:=fun i h h' st k=>st.at fun o e=>k it (by simp) o e
 item:=by
  intro X hP hw hK hc i pins s σ H E I hf st hg
  subst hP hw hK
  obtain ⟨hA,hi⟩:=hg
  obtain ⟨ho,hz,hs,vs,kv,dd⟩:s.heap.get? a=some o/\bG X.prog X.w H s.heap a (.dK kvs):=I.hok a _ hA
  have da:=iC ho hd dd
  have hl:kvs.length=vs.length:=kv.length
  obtain ⟨f0,f1,f2,f3,f4,f5⟩:=hf it (by simp)
  obtain ⟨⟨k,x⟩,hx⟩:∃ p,vs[i]?=some p:=⟨vs[i]'(by omega),by simp⟩
  rw [hl] at st
  refine wpAny_pyNext_dict_item st da hx fun key h' hkey st' sb=>?_
  have I1:Inv X pins σ H { s with heap:=h' }:=I.turned (t':=s.toks) (fun b o hb e=>(sb.2 b hb).trans e) f0 f1 f3 f4 f5
  obtain ⟨o',e',c',d'⟩:=id st'
  have hk:kvs[i]?=some (kvs[i]):=Qc hi
  have hkk:(kvs[i]).1=k:=by
   have e:=kv.keys
   have e1:(kvs.map (·.1))[i]?=some (kvs[i]).1:=by rw [Qi,hk]; rfl
   have e2:(vs.map (·.1))[i]?=some k:=by rw [Qi,hx]; rfl
   rw [e,e2] at e1
   exact (Option.some.inj e1).symm
  rw [<- hl] at st'
  exact ⟨key,rfl,wK (s:={ s with heap:=h' }) e' c' d' (by decide) ⟨kV k,H,I1,rF hkey,⟨rfl,_,hk,by rw [hkk]⟩,st',fun b hb=>(hf b hb).1⟩⟩
 done:=by
  intro X hP hw hK hc i pins s σ H E I hf st hg
  subst hP hw hK
  obtain ⟨hA,hi⟩:=hg
  obtain ⟨ho,hz,hs,vs,kv,dd⟩:s.heap.get? a=some o/\bG X.prog X.w H s.heap a (.dK kvs):=I.hok a _ hA
  have da:=iC ho hd dd
  have hl:kvs.length=vs.length:=kv.length
  obtain ⟨f0,f1,f2,f3,f4,f5⟩:=hf it (by simp)
  rw [hl] at st
  exact wpAny_pyNext_dict_end (I.ok.hd hc) st da (by simp; omega) fun h' eb=>⟨rfl,I.turned (t':=s.toks) (fun b o hb e=>eb b o hb e) f0 f1 f3 f4 f5⟩
 self:=fun _ _ _ _ _ st h=>wpAny_pyIter_keyiter st h
section
variable {X:Cx} {tg:Expr}
def aFd (H0:Hp) (td:TE):TI:=fun σ H R=>td σ H fun x H1=>∃ a kvs,x=.ref a/\H1 a=some (.dK kvs)/\∀ o,NF H0 a->R (Itd a o kvs) (upd H1 a (.frz o (.dK kvs)))
theorem lF {d:Expr} {td:TE} (hl:PE X d td):PI X tg d (aFd X.H₀ td):=by
 intro pins s σ H R I h
 refine thn (hl pins s σ H _ I h) fun v s1 hx9=>?_
 obtain ⟨x,H1,I1,r1,q1⟩:=hx9
 obtain ⟨a,kvs,e,hq,q⟩:=q1
 subst e
 cases r1
 obtain ⟨hz,hs,vs,kv,dd⟩:bG X.prog X.w H1 s1.heap a (.dK kvs):=I1.hok a _ hq
 obtain ⟨o,es,ep,ho,oe,hd,r⟩:=id dd
 have da:=iC ho hd dd
 refine wpAny_pyIter_dict hs da ?_
 have I2:=(I1.freeze hq ho).kept (h':=s1.heap.push { cls:=.type "dict_keyiterator",data:=.fields #[.ref a,.int 0 0,.int vs.length 0,.int ep 0] }) (t':=s1.toks) fun b o e=>Qb _ e
 have nA:a≠s1.heap.objs.size:=Qz (Qj ho)
 refine ⟨s1.heap.objs.size,[s1.heap.objs.size],_,_,_,rfl,I2,aAO a _ o es ep hd kvs,?_,fun b hb=>?_,q o (I1.nf hq)⟩
 ·refine ⟨_,Qk _ rfl,rfl,?_⟩
  rw [kv.length]; rfl
 ·have e:b=s1.heap.objs.size:=by simpa using hb
  subst e
  exact I1.fpOk (Qg _) (by rw [aD (Ne.symm nA)]; exact I1.hok.fresh (Qg _))
def aFe (H0:Hp) (t:TS):TS:=fun D σ H=>t { D with nx:=fun σ' H'=>∃ a o kvs,H' a=some (.frz o (.dK kvs))/\NF H0 a/\D.nx σ' (upd H' a (.dK kvs)) } σ H
theorem pX {st:Stmt} {t:TS} (h:PS X st t):PS X st (aFe X.H₀ t):=by
 intro pins s σ H D I q
 refine thn (h pins s σ H _ I q) fun f s1 z=>?_
 cases f with
 | next =>
  obtain ⟨σ',H',I',a,o,kvs,e,nf,k⟩:=z
  exact ⟨σ',_,I'.thaw e nf,k⟩
 | brk=>exact z
 | cont=>exact z
 | ret u=>exact z
end
theorem rG {a:Addr} {o:Obj} {kvs:List (Key×V)} {g:TG} {tb:TS} {D:Ends} {σ:St} {H:Hp} (Pv:Nat->St->Hp->Prop) (h0:Pv 0 σ H) (hl:∀ i σ H,i<=kvs.length->Pv i σ H->H a=some (.frz o (.dK kvs)))
  (hs:∀ i p σ H,kvs[i]?=some p->Pv i σ H->g (kV p.1) σ H fun σ2 H2=>tb { D with nx:=Pv (i+1),ct:=Pv (i+1),bk:=D.nx } σ2 H2) (hd:∀ σ H,Pv kvs.length σ H->D.nx σ H) :
  ∃ W:Nat->Nat->St->Hp->Prop,(∃ m,W 0 m σ H)/\∀ i m σ H,W i m σ H ->
   ((Itd a o kvs).stop i H/\D.nx σ H)∨((Itd a o kvs).go i H/\∃ N:St->Hp->Prop,(∀ σ' H',N σ' H'->∃ m',m' < m/\W (i+1) m' σ' H')/\∀ x H',(Itd a o kvs).yld i H x H'->g x σ H' fun σ2 H2=>tb { D with nx:=N,ct:=N,bk:=D.nx } σ2 H2):=by
 refine ⟨fun i m σ H=>m=kvs.length - i/\i<=kvs.length/\Pv i σ H,⟨kvs.length,by simp,Jk _,h0⟩,?_⟩
 rintro i m σ H ⟨rfl,hi,p⟩
 have q:=hl i σ H hi p
 by_cases hlt:i < kvs.length
 ·refine .inr ⟨⟨q,hlt⟩,Pv (i+1),fun σ' H' p'=>⟨kvs.length - (i+1),by omega,rfl,hlt,p'⟩,fun x H' y=>?_⟩
  obtain ⟨rfl,v,hv,rfl⟩:=y
  exact hs i v σ H' hv p
 ·have e:i=kvs.length:=by omega
  subst e
  exact .inl ⟨⟨q,rfl⟩,hd σ H p⟩
def aEu (tk tv:TE):TE:=fun σ H Q=>∀ p,H p=none->tk σ (upd H p (.dK [])) fun x H1=>tv σ H1 fun y H2=>∃ k,x=kV k/\H2 p=some (.dK [])/\Q (.ref p) (upd H2 p (.dK [(k,y)]))
section
variable {X:Cx} {pos:Pos} {ek ev:Expr} {tk tv:TE}
theorem aBP (hk:PE X ek tk) (hv:PE X ev tv) (he:evalEachOpt [some ek] X.env = [some (eval ek X.env)]:=by rfl) (he2:evalEach [ev] X.env = [eval ev X.env]:=by rfl):PE X (.Dict [some ek] [ev] pos) (aEu tk tv):=by
 intro pins s σ H Q I h
 have I0:Inv X pins σ (upd H s.heap.objs.size (.dK [])) { s with heap:=s.heap.push { cls:=.type "dict",data:=.dict #[] } }:=I.laid (a:=s.heap.objs.size) (o:=.dK []) (t':=s.toks) (fun _ _ q=>Qb _ q) (Qg _) (nK s.heap I.big)
 have h0:=h s.heap.objs.size (I.hok.fresh (Qg _))
 refine wpAny_Dict_pairs (knd:=aW X.prog X.w) (pairs:=[(eval ek X.env,do let x<-eval ev X.env; standAt pos; pure x)]) (by rw [he,he2]; rfl) (by simp) (by simp) ?_
 refine evalPairs_cons (thn (hk pins _ σ _ _ I0 h0) fun kv s1 hx9=>?_)
 obtain ⟨x,H1,I1,r1,q1⟩:=hx9
 refine wpAny_bind (thn (hv pins _ σ _ _ I1 q1) fun vv s2 hx9=>?_)
 obtain ⟨y,H2,I2,r2,q2⟩:=hx9
 refine wpAny_bind (wpAny_standAt (wpAny_pure (evalPairs_nil ?_)))
 obtain ⟨k,rfl,hp,q⟩:=q2
 obtain ⟨hz,hs,vs,kv',dd⟩:bG X.prog X.w H2 s2.heap s.heap.objs.size (.dK []):=I2.hok _ _ hp
 have ev0:vs = []:=by
  have:=kv'.length
  exact Xp.mp this.symm
 subst ev0
 refine ⟨[(k,vv)],⟨mD r1,rfl,trivial⟩,dd,fun h' dd' sb=>?_⟩
 have em:merged ([]:List (Key×Value)) [(k,vv)] = [(k,vv)]:=by simp [merged,stored]
 rw [em] at dd'
 obtain ⟨o',es',ep',ho',_⟩:=id dd'
 have mu:Mut (H2 s.heap.objs.size):=by rw [hp]; trivial
 refine ⟨.ref s.heap.objs.size,_,jU (t':=s2.toks+1) I2 mu sb ⟨_,ho'⟩ (mU (kvs:=[(k,y)]) (by simp [sizeLine_eq]) hs (.cons ⟨rfl,r2⟩ .nil) dd'),rfl,q⟩
end
section
variable {prog:Program} {w:World} {A:Around} {E:Value->Shared->Prop} {s:Shared}
def iY (h:Heap) (u:Value) (i:Int) (v:Value):Prop:=∃ p,u=.ref p/\((∃ its:Array Value,h.IsTuple p its/\0<=i/\i < 1000/\its[i.toNat]?=some v)∨∃ its:Array Value,h.IsList p its/\0<=i/\i < 1000/\its[i.toNat]?=some v)
theorem iY.keeps {h h':Heap} {u:Value} {i:Int} {v:Value} (x:iY h u i v) (k:∀ b o,h.get? b=some o->h'.get? b=some o):iY h' u i v:=by
 obtain ⟨p,rfl,⟨its,⟨o,ho,r⟩,q⟩ | ⟨its,⟨o,ho,r⟩,q⟩⟩:=x
 ·exact ⟨p,rfl,.inl ⟨its,⟨o,k _ _ ho,r⟩,q⟩⟩
 ·exact ⟨p,rfl,.inr ⟨its,⟨o,k _ _ ho,r⟩,q⟩⟩
theorem nM {i:Int} {n:Nat} (h0:0<=i) (h1:i.toNat < n):seqIndex? i n=some i.toNat:=by
 unfold seqIndex?
 have e:¬ (i < 0):=by omega
 simp only [e,if_false]
 have e2:(decide (0<=i) && decide (i < (n:Int)))=true:=by simp; omega
 rw [if_pos e2]
theorem aC6 {env:Env} {vn xn:Str} {p1 p2 p3:Pos} {m:Str->Option Value} {c:Addr} {u v:Value} {i:Int} {t:Tok} {Q:Value->Shared->Prop} (hk:env.scope.kind=.function) (hv:env.kindOf vn=some .free) (hx:env.kindOf xn=some .local)
  (hc:env.cells.lookup vn=some c) (hC:s.heap.IsCell c (some u)) (hn:s.heap.Ns env.locals m) (hm:m xn=some (.int i t)) (hI:iY s.heap u i v) (h:Q v s)
  (d1:(vn==("__debug__" : Str))=false) (d2:(vn==("__classdict__" : Str))=false) (d3:(xn==("__debug__" : Str))=false) :
  wpAny (model prog w) A (eval (.Subscript (.Name vn p1) (.Name xn p2) p3) env) Q E s:=by
 refine Subscript_ (wpAny_Name (wpAny_loadName_free hk hv hc hC ?_ d2) d1)
 refine wpAny_Name (wpAny_loadName_local hk hx hn hm ?_) d3
 obtain ⟨p,rfl,⟨its,hp,i0,i1,e⟩ | ⟨its,hp,i0,i1,e⟩⟩:=hI
 ·have hlt:i.toNat < its.size:=(Array.getElem?_eq_some_iff.mp e).1
  exact subscriptTail_builtinR (x:=v) hp.typeIs slot_tuple_getitem.lookup
   (getItem_tuple (j:=i.toNat) (Q:=fun r s'=>r=v/\Q r s') hp (by omega) (by omega) (nM i0 hlt) e ⟨rfl,h⟩)
 ·have hlt:i.toNat < its.size:=(Array.getElem?_eq_some_iff.mp e).1
  exact subscriptTail_builtinR (x:=v) hp.typeIs slot_list_getitem.lookup
   (wpAny_getItem_list (Q:=fun r s'=>r=v/\Q r s') hp (by omega) (by omega) e ⟨rfl,h⟩)
theorem aBQ {f c c':Addr} {q nm vn xn:Str} {params:Arguments} {scope:Scope} {cl:List (Str×Addr)} {pm ctv u v:Value} {p1 p2 p3:Pos} {i:Int} {t:Tok} {Q:Value->Shared->Prop} (hroom:A.depth < recursionLimit) (hlim:s.heap.NoLimit)
  (hf:s.heap.get? f=some { cls:=.type "function",data:=.func (PySem.W.kla_fn nm q params (.Subscript (.Name vn p1) (.Name xn p2) p3) scope cl pm (.ref c') ctv) }) (hcd:s.heap.CodeRec (.ref c') q)
  (hbind:bindArgs (PySem.W.kla_fn nm q params (.Subscript (.Name vn p1) (.Name xn p2) p3) scope cl pm (.ref c') ctv) ⟨[.int i t],[]⟩=pure [(xn,.int i t)])
  (hx:scope.names.lookup xn=some .local) (hv:scope.names.lookup vn=some .free) (hco:scope.isCoroutine=false) (hgen:scope.isGenerator=false) (hk:scope.kind=.function) (hcell:∀ x∈scope.names,x.2≠.cell)
  (hc:cl.lookup vn=some c) (hC:s.heap.IsCell c (some u)) (hI:iY s.heap u i v) (h:∀ h' tk,(∀ b o,s.heap.get? b=some o->h'.get? b=some o)->Q v { s with heap:=h',toks:=tk })
  (d1:(vn==("__debug__" : Str))=false) (d2:(vn==("__classdict__" : Str))=false) (d3:(xn==("__debug__" : Str))=false) :
  wpAny (model prog w) A (call (.ref f) [.int i t]) Q E s:=by
 refine wpAny_call (PySem.W.kla_callFunE hroom hf rfl hco hgen rfl hcd ?_)
 rw [hbind]
 refine wpAny_pure (wpAny_newFunctionEnv hcell (fun y hy=>by rw [Qs.mp hy]; exact hx) (fun h₁ hns hsb=>⟨hlim.fresh _ hsb,?_⟩) hk)
 have hk₁:∀ b o,s.heap.get? b=some o->h₁.get? b=some o:=fun b o e=>hsb.extBut b o (Qz (Qj e)) (Qb _ e)
 obtain ⟨oc,hoc,hdc⟩:=hC
 refine PySem.W.kla_codeExpr (aC6 (env:=newEnv scope s.heap.objs.size mainGlobals cl (q ++ ".<locals>.") (some f) (.ref c') none builtinsNs) (m:=fun x=>[(xn,Value.int i t)].reverse.lookup x) (t:=t) hk hv hx hc ⟨oc,hk₁ _ _ hoc,hdc⟩ hns ?_ (hI.keeps hk₁) (h h₁ _ hk₁) d1 d2 d3)
 simp [List.lookup]
section
variable {R:Result->Shared->Prop} {I:Addr} {fp wr:List Addr} {n:Nat} {Pv:Nat->Value->Prop} {St:Nat->Heap->Prop} {f:Addr} {kf:Nat->Int} {L:List (Addr×Obj)}
def aBR (prog:Program) (w:World) (A:Around) (f:Addr) (L:List (Addr×Obj)) (n:Nat) (Pv:Nat->Value->Prop) (kf:Nat->Int):Prop :=
 ∀ i v (s:Shared) (Q:Value->Shared->Prop) (E:Value->Shared->Prop),i < n->Pv i v->(∀ p∈L,s.heap.get? p.1=some p.2) ->
  (∀ h' tk t,(∀ b o,s.heap.get? b=some o->h'.get? b=some o)->Q (.int (kf i) t) { s with heap:=h',toks:=tk })->wpAny (model prog w) A (call (.ref f) [v]) Q E s
abbrev btK (kf:Nat->Int):Nat->Nat->Bool:=fun i j=>decide (kf i < kf j)
theorem uV (W:Walks prog w A.in1 I fp wr n Pv St) (hkey:aBR prog w A.in1 f L n Pv kf) (S:Addr) (hSf:S∉fp) (hL:∀ p∈L,p.1∉wr/\p.1≠S) :
  ∀ (k j:Nat) (s:Shared) (vb:Value) (t:Tok) (c:Nat),n - (j+1)=k->j+1<=n->St (j+1) s.heap->Pv (argBest (btK kf) j) vb ->
  s.heap.get? S=some { cls:=.type "list",dict:=none,data:=.seq #[vb,.int (kf (argBest (btK kf) j)) t] c,slots:=#[] }->(∀ p∈L,s.heap.get? p.1=some p.2) ->
  (∀ v h' tk,Pv (argBest (btK kf) (n - 1)) v->(∀ b o,b∉wr->b≠S->s.heap.get? b=some o->h'.get? b=some o)->R (.ok (.ret v)) { s with heap:=h',toks:=tk }) ->
  codeAny (model prog w) A (.builtin "min.loop" ⟨[.ref I,.ref f,.ref S],[]⟩) R s:=by
 have hSw:S∉wr:=fun h=>hSf (W.sub _ h)
 have hname:(toString "min" ++ toString ".loop" : String) = "min.loop" := by decide
 intro k
 induction k with
 | zero =>
  intro j s vb t c hk hj hst hPb hS hLs hR
  have hin:j+1=n:=by omega
  refine codeAny_builtin F.entry_min_loop ?_
  rw [Around.under_plainId F.plain_min_loop _]
  show wpAny _ A.in1 (seqItems? (.ref S) >>= _) _ _ s
  refine wpAny_bind (wpAny_seqItems hS rfl ?_)
  show wpAny _ A.in1 (tryCatch (pyNext (.ref I)) _ >>= _) _ _ s
  refine wpAny_bind (wpAny_tryCatch (W.done s _ _ (hin ▸ hst) fun h' tk kk=>?_))
  have hS':=kk S _ hSw hS
  show wpAny _ A.in1 (updateSeq S (fun _=>#[]) >>= _) _ _ _
  refine wpAny_bind ?_
  refine wpAny_updateSeq hS' rfl (wpAny_bind (wpAny_letGo (wpAny_pure ?_)))
  exact hR vb _ _ (by rw [<- hin]; exact hPb) fun b o hb hbS e=>(Jt _ _ (Ne.symm hbS)).trans (kk b o hb e)
 | succ k ih =>
  intro j s vb t c hk hj hst hPb hS hLs hR
  have hlt:j+1 < n:=by omega
  refine codeAny_builtin F.entry_min_loop ?_
  rw [Around.under_plainId F.plain_min_loop _]
  show wpAny _ A.in1 (seqItems? (.ref S) >>= _) _ _ s
  refine wpAny_bind (wpAny_seqItems hS rfl ?_)
  show wpAny _ A.in1 (tryCatch (pyNext (.ref I)) _ >>= _) _ _ s
  refine wpAny_bind (wpAny_tryCatch (W.item (j+1) s _ _ hlt hst fun v h1 tk1 hP hst1 kk1=>?_))
  have hS1:=kk1 S _ hSw hS
  show wpAny _ A.in1 (tryCatch (holding [v] (call (.ref f) [v])) _ >>= _) _ _ _
  refine wpAny_bind (wpAny_tryCatch (wpAny_holding (hkey (j+1) v _ _ _ hlt hP (fun p hp=>kk1 _ _ (hL p hp).1 (hLs p hp)) fun h2 tk2 t2 kk2=>?_)))
  have hS2:=kk2 S _ hS1
  have hst2:St (j+1+1) h2:=W.frame _ _ _ hst1 fun b _ o e=>kk2 b o e
  show wpAny _ A.in1 (tryCatch (holding [v,.int (kf (j+1)) t2] (richCompare .Lt (.int (kf (j+1)) t2) (.int (kf (argBest (btK kf) j)) t) >>= _)) _ >>= _) _ _ _
  have hcmp:CmpOf prog w A.in1 .Lt (fun i u=>∃ t,u=.int (kf i) t) (btK kf):=CmpOf.ints_lt kf fun i v h=>h
  refine wpAny_bind (wpAny_tryCatch (wpAny_holding (wpAny_bind (hcmp (j+1) (argBest (btK kf) j) _ _ _ _ _ ⟨_,rfl⟩ ⟨_,rfl⟩ ?_))))
  refine wpAny_bind (wpAny_holding (wpAny_truthy_bool ?_))
  refine wpAny_bind (wpAny_letGo (wpAny_pure ?_))
  have kk:∀ b o,b∉wr->s.heap.get? b=some o->h2.get? b=some o:=fun b o hb e=>kk2 b o (kk1 b o hb e)
  cases hb:btK kf (j+1) (argBest (btK kf) j) with
  | true =>
   simp only [if_true]
   refine wpAny_bind ?_
   refine wpAny_updateSeq hS2 rfl (wpAny_bind (wpAny_letGo ?_))
   rw [hname]
   have eb:argBest (btK kf) (j+1)=j+1:=by simp only [argBest,hb,if_true]
   refine wpAny_pure ⟨plainId_quiet F.plain_min_loop _,ih (j+1) _ v t2 _ (by omega) hlt (W.frame _ _ _ hst2 fun b hbf o e=>?_) (by rw [eb]; exact hP) (by rw [eb]; exact Ze _ hS2 rfl) (fun p hp=>?_) fun v' h' tk hP' kk'=>?_⟩
   ·exact (Jt _ _ (fun h:S=b=>hSf (by rw [h]; exact hbf))).trans e
   ·exact (Jt _ _ (Ne.symm (hL p hp).2)).trans (kk _ _ (hL p hp).1 (hLs p hp))
   ·exact hR v' h' tk hP' fun b o hb hbS e=>kk' b o hb hbS ((Jt _ _ (Ne.symm hbS)).trans (kk b o hb e))
  | false =>
   simp only [Zq,if_false]
   refine wpAny_bind (wpAny_letGo ?_)
   rw [hname]
   have eb:argBest (btK kf) (j+1)=argBest (btK kf) j:=by simp only [argBest,hb,Zq,if_false]
   refine wpAny_pure ⟨plainId_quiet F.plain_min_loop _,ih (j+1) _ vb t c (by omega) hlt hst2 (by rw [eb]; exact hPb) (by rw [eb]; exact hS2) (fun p hp=>kk _ _ (hL p hp).1 (hLs p hp)) fun v' h' tk hP' kk'=>?_⟩
   exact hR v' h' tk hP' fun b o hb hbS e=>kk' b o hb hbS (kk b o hb e)
theorem sY (W:Walks prog w A.in1 I fp wr n Pv St) (hkey:aBR prog w A.in1 f L n Pv kf) (S:Addr) (hSf:S∉fp) (hL:∀ p∈L,p.1∉wr/\p.1≠S) (hn:0 < n) {s:Shared} {c:Nat} (hst:St 0 s.heap)
  (hS:s.heap.get? S=some { cls:=.type "list",dict:=none,data:=.seq #[] c,slots:=#[] }) (hLs:∀ p∈L,s.heap.get? p.1=some p.2)
  (hR:∀ v h' tk,Pv (argBest (btK kf) (n - 1)) v->(∀ b o,b∉wr->b≠S->s.heap.get? b=some o->h'.get? b=some o)->R (.ok (.ret v)) { s with heap:=h',toks:=tk }) :
  codeAny (model prog w) A (.builtin "min.loop" ⟨[.ref I,.ref f,.ref S],[]⟩) R s:=by
 have hSw:S∉wr:=fun h=>hSf (W.sub _ h)
 have hname:(toString "min" ++ toString ".loop" : String) = "min.loop" := by decide
 refine codeAny_builtin F.entry_min_loop ?_
 rw [Around.under_plainId F.plain_min_loop _]
 show wpAny _ A.in1 (seqItems? (.ref S) >>= _) _ _ s
 refine wpAny_bind (wpAny_seqItems hS rfl ?_)
 show wpAny _ A.in1 (tryCatch (pyNext (.ref I)) _ >>= _) _ _ s
 refine wpAny_bind (wpAny_tryCatch (W.item 0 s _ _ hn hst fun v h1 tk1 hP hst1 kk1=>?_))
 have hS1:=kk1 S _ hSw hS
 show wpAny _ A.in1 (tryCatch (holding [v] (call (.ref f) [v])) _ >>= _) _ _ _
 refine wpAny_bind (wpAny_tryCatch (wpAny_holding (hkey 0 v _ _ _ hn hP (fun p hp=>kk1 _ _ (hL p hp).1 (hLs p hp)) fun h2 tk2 t2 kk2=>?_)))
 have hS2:=kk2 S _ hS1
 have hst2:St (0+1) h2:=W.frame _ _ _ hst1 fun b _ o e=>kk2 b o e
 show wpAny _ A.in1 (updateSeq S (fun _=>#[v,.int (kf 0) t2]) >>= _) _ _ _
 refine wpAny_bind ?_
 refine wpAny_updateSeq hS2 rfl ?_
 rw [hname]
 have kk:∀ b o,b∉wr->s.heap.get? b=some o->h2.get? b=some o:=fun b o hb e=>kk2 b o (kk1 b o hb e)
 refine wpAny_pure ⟨plainId_quiet F.plain_min_loop _,uV W hkey S hSf hL _ 0 _ v t2 _ rfl hn (W.frame _ _ _ hst2 fun b hbf o e=>?_) hP (Ze _ hS2 rfl) (fun p hp=>?_) fun v' h' tk hP' kk'=>?_⟩
 ·exact (Jt _ _ (fun h:S=b=>hSf (by rw [h]; exact hbf))).trans e
 ·exact (Jt _ _ (Ne.symm (hL p hp).2)).trans (kk _ _ (hL p hp).1 (hLs p hp))
 ·exact hR v' h' tk hP' fun b o hb hbS e=>kk' b o hb hbS ((Jt _ _ (Ne.symm hbS)).trans (kk b o hb e))
theorem uW (a k:Value):argsOk "min" ⟨[a],[(Str.ofString "key",k)]⟩:=by unfold argsOk; kernel_rfl
theorem uX {id:String} {b:Builtin} {args:List Value} {kw:List (Str×Value)} {Q:Value->Shared->Prop} (hk:builtinKind id=none) (hp:plainId id=true)
  (hb:entryFor table id=some b) (ha:argsOk id ⟨args,kw⟩)
  (hc:wpAny (model prog w) A.in1 (b ⟨args,kw⟩) (fun fin s'=>match fin with
   | .done f=>(match (Except.ok f:Result) with | .ok (.ret v)=>Q v s' | .ok _=>False | .error e=>E e s')
   | .again c'=>c'.quiet=true/\codeAny (model prog w) A c' (fun r s'=>match r with | .ok (.ret v)=>Q v s' | .ok _=>False | .error e=>E e s') s') E s) :
  wpAny (model prog w) A (call (.builtin id) args kw) Q E s:=by
 refine wpAny_call (codeAny_call_builtin hp hb ?_)
 simp only [checkBuiltinCall,hk]
 cases hsig:Manifest.signature? id with
 | none=>exact wpAny_pure hc
 | some sig =>
  simp only [argsOk,hsig] at ha
  have h2:Bind.checkArgs id sig ⟨args,kw⟩=pure ():=ha
  show wpAny _ A.in1 (Bind.checkArgs id sig ⟨args,kw⟩) _ _ s
  rw [h2]; exact wpAny_pure hc
theorem uY {x:Value} {Q:Value->Shared->Prop}
  (h:wpAny (model prog w) A.in1 (pyIter x) (fun it s₂=>∃ I fp wr n Pv St kf L,it=.ref I/\Walks prog w A.in1 I fp wr n Pv St/\St 0 s₂.heap/\(∀ b∈fp,b < s₂.heap.objs.size)/\0 < n/\aBR prog w A.in1 f L n Pv kf /\
   (∀ p∈L,p.1∉wr)/\(∀ p∈L,s₂.heap.get? p.1=some p.2) /\
   ∀ v h' tk,Pv (argBest (btK kf) (n - 1)) v->(∀ b o,b∉wr->s₂.heap.get? b=some o->h'.get? b=some o)->Q v { s₂ with heap:=h',toks:=tk }) E s) :
  wpAny (model prog w) A (call (.builtin "min") [x] [(Str.ofString "key",.ref f)]) Q E s:=by
 have hname:(toString "min" ++ toString ".loop" : String) = "min.loop" := by decide
 refine uX F.kind_min F.plain_min F.entry_min (uW _ _) ?_
 show wpAny _ A.in1 (Builtin.Builtins.bindParams "min" ["key", "default"] 0 ⟨[],[(Str.ofString "key",.ref f)]⟩ >>= _) _ _ s
 refine wpAny_bind (wpAny_of_eq (show Builtin.Builtins.bindParams "min" ["key", "default"] 0 ⟨[],[(Str.ofString "key",.ref f)]⟩=pure [some (.ref f),none] from rfl) ?_)
 refine wpAny_bind (wpAny_pure ?_)
 refine wpAny_bind (wpAny_mono h (fun it s₂ h₂=>?_) fun _ _ e=>e)
 obtain ⟨I,fp,wr,n,Pv,St,kf,L,rfl,W,hst,hfp,hn,hkey,hLw,hLs,hQ⟩:=h₂
 refine wpAny_bind (wpAny_newObj_type ?_)
 have hSf:s₂.heap.objs.size∉fp:=fun hm=>Je _ (hfp _ hm)
 rw [hname]
 refine wpAny_pure ⟨plainId_quiet F.plain_min_loop _,sY W hkey s₂.heap.objs.size hSf (fun p hp=>⟨hLw p hp,Qz (Qj (hLs p hp))⟩) hn (W.frame _ _ _ hst fun b _ o e=>Qb _ e) (Qk _ rfl) (fun p hp=>Qb _ (hLs p hp)) fun v h' tk hP hk=>?_⟩
 exact hQ v h' tk hP fun b o hbw e=>hk b o hbw (Qz (Qj e)) (Qb _ e)
end
end
structure Lm (K:PySem.W.Frag) (mg:Str->Option Value) (base:Heap) (c P:Addr):Prop where
 hd:PySem.W.codeHdIn K c P=true
 gP:mainGlobals≠P
 bu:base.BuiltinsAt mg P
theorem mE {pos p0:Pos} {c cv:Value}:∀ {l:List Value},TriplesOk l->codeAmong pos (l++[rawInt p0.line,rawInt p0.col,c])=some cv->codeAmong pos l=some cv∨cv=c
 | [],_,e=>by
  simp only [Wa,rawInt,codeAmong] at e
  split at e
  ·exact .inr (Option.some.inj e).symm
  ·cases e
 | .int a t::.int b u::x::r,h,e=>by
  simp only [Yy,codeAmong] at e ⊢
  split
  ·rename_i hc
   rw [if_pos hc] at e
   exact .inl e
  ·rename_i hc
   rw [if_neg hc] at e
   exact mE (show TriplesOk r from h) e
section
variable {X:Cx} {pins:List (Addr×Obj)} {σ:St} {H:Hp} {s:Shared} {c P c':Addr} {q:Str} {ps:Array Value} {h':Heap} {t':Nat}
theorem Inv.grown {p0:Pos} (I:Inv X pins σ H s) (hT:H P=some (.tab q)) (hx:Heap.ExtBut P s.heap h') (hge:s.heap.objs.size<=c') (hcr:h'.CodeRec (.ref c') q) (hP0:s.heap.get? P=some (PySem.W.tabObj ps)) (hPt:h'.get? P=some (PySem.W.tabObj (ps++#[rawInt p0.line,rawInt p0.col,.ref c']))) :
  Inv X pins σ (upd H c' (.own P)) { s with heap:=h',toks:=t' }:=by
 have hf:H c'=none:=I.hok.fresh hge
 have hn:∀ b,H b=none->b≠P:=fun b n z=>by rw [z,hT] at n; cases n
 have hc:∀ b u,H b=some u->b≠c':=fun b u n z=>by rw [z,hf] at n; cases n
 have hlt:∀ b o,s.heap.get? b=some o->b≠c':=fun b o e=>Qz (Qn (Qj e) hge)
 obtain ⟨c2,oc,vs,tq,ec,hoc,hdc,hv⟩:=hcr
 cases ec
 refine I.un ⟨fun b o e n _ _=>hx b o (hn b n) e,fun b o e n _ _=>⟨o.slots,hx b o (hn b n) e⟩,fun b o e n _=>by rw [aD (hlt b o e)]; exact n,fun b o e _=>?_,fun b xs e=>by rw [aD (hc b _ e)]; exact e,fun b o u e=>by rw [aD (hc b _ e)]; exact e,fun b ps e=>⟨#[],by rw [aD (hc b _ e),e]; simp⟩⟩ ?_
 ·by_cases hb:b=P
  ·subst hb; exact ⟨_,hPt⟩
  ·exact ⟨o,hx b o hb e⟩
 ·intro b u e
  by_cases hb:b=c'
  ·subst hb
   rw [aB] at e; cases e
   exact ⟨oc,hoc⟩
  ·rw [aD hb] at e
   by_cases hbP:b=P
   ·subst hbP
    rw [hT] at e; cases e
    obtain ⟨ps0,e0,tr,r⟩:∃ ps:Array Value,s.heap.get? b=some { cls:=.none,data:=.fields ps }/\TriplesOk ps.toList/\∀ (pos:Pos) (cv:Value),codeAmong pos ps.toList=some cv->∃ (c:Addr) (o:Obj) (vs:Array Value) (t:Tok),cv=.ref c/\H c=some (.own b)/\s.heap.get? c=some o/\o.data=.fields vs/\(vs[1]?:Option Value)=some (.str q t):=I.hok b _ hT
    rw [hP0] at e0
    cases e0
    have el:(ps++#[rawInt p0.line,rawInt p0.col,Value.ref c']).toList=ps.toList++[rawInt p0.line,rawInt p0.col,.ref c']:=by simp
    refine ⟨_,hPt,by rw [el]; exact TriplesOk_snoc _ _ _ _ tr,fun pos cv z=>?_⟩
    rw [el] at z
    rcases mE tr z with z | rfl
    ·obtain ⟨c3,o3,vs3,t3,r1,r2,r3,r4⟩:=r pos cv z
     have n3:c3≠b:=fun y=>by rw [y,hT] at r2; cases r2
     exact ⟨c3,o3,vs3,t3,r1,by rw [aD (hc _ _ r2)]; exact r2,hx _ _ n3 r3,r4⟩
    ·exact ⟨c',oc,vs,tq,rfl,aB,hoc,hdc,hv⟩
   ·refine (I.hok b u e).stay (fun d v hd z=>hx d v ?_ z) (fun d z=>by rw [aD (hc _ _ z)]; exact z) fun d xs z=>by rw [aD (hc _ _ z)]; exact z
    rcases hd with rfl | hd
    ·exact hbP
    ·intro z
     rw [z,hT] at hd; cases hd
theorem aBS {params:Arguments} {body:Expr} {scope:Scope} {pos:Pos} {cl:List (Str×Addr)} {Q:Value->Shared->Prop} {E:Value->Shared->Prop} (I:Inv X pins σ H s) (Z:Lm X.K X.mg X.base c P) (hcode:X.env.code=.ref c) (hT:H P=some (.tab q)) (hq:X.env.qual ++ "<lambda>" = q)
  (hdef:defaultsOf params X.env=([],[])) (hcl:closureFor scope X.env=pure cl)
  (h:∀ f c' ctv pm s' H',Inv X pins σ H' s'->aG H H'->(∀ b o,b≠P->s.heap.get? b=some o->s'.heap.get? b=some o) ->
   s'.heap.get? f=some { cls:=.type "function",data:=.func (PySem.W.kla_fn "<lambda>" q params body scope cl pm (.ref c') ctv) }->s'.heap.CodeRec (.ref c') q->Q (.ref f) s') :
  wpAny (model X.prog X.w) X.A (eval (.Lambda params body scope pos) X.env) Q E s:=by
 obtain ⟨ps,hP,tr,r⟩:∃ ps:Array Value,s.heap.get? P=some { cls:=.none,data:=.fields ps }/\TriplesOk ps.toList/\∀ (pos:Pos) (cv:Value),codeAmong pos ps.toList=some cv->∃ (c:Addr) (o:Obj) (vs:Array Value) (t:Tok),cv=.ref c/\H c=some (.own P)/\s.heap.get? c=some o/\o.data=.fields vs/\(vs[1]?:Option Value)=some (.str q t):=I.hok P _ hT
 have hg:s.heap.Ns mainGlobals X.mg:=I.mod.glob.keeps I.bk
 have C:PySem.W.CodeHd s.heap c P:=PySem.W.codeHd_of_K I.kIn Z.hd
 have hb:s.heap.BuiltinsAt X.mg P:=by
  obtain ⟨bm,o,e1,e2,e3,e4,e5,e6⟩:=Z.bu
  exact ⟨bm,o,e1,e2,e3,e4,I.bk _ _ e5,e6⟩
 refine PySem.W.kla_eval hdef ?_
 rw [hq]
 cases hf:codeAmong pos ps.toList with
 | none =>
  refine PySem.W.kla_makeFunction hcl I.ok.glob hg hcode C hP tr hf Z.gP hb fun c' ctv h' tk hx hge hlt hcr hPt=>?_
  have I1:Inv X pins σ (upd H c' (.own P)) { s with heap:=h',toks:=tk }:=I.grown hT hx hge hcr hP hPt
  have I2:=I1.kept (h':=h'.push (PySem.W.kla_obj "<lambda>" q params body scope cl ((X.mg "__name__").getD .none) c' ctv)) (t':=tk) fun b o e=>Qb _ e
  refine h _ c' ctv _ _ _ I2 (aG.new (I.hok.fresh hge)) (fun b o hbP e=>Qb _ (hx b o hbP e)) (Qk _ rfl) ?_
  obtain ⟨c2,oc,vs,tq,ec,hoc,r⟩:=hcr
  exact ⟨c2,oc,vs,tq,ec,Qb _ hoc,r⟩
 | some cv =>
  obtain ⟨c',o,vs,t,rfl,r2,r3,r4,r5⟩:=r pos cv hf
  refine PySem.W.kla_makeFunctionHit hcl I.ok.glob hg hcode C hP tr hf hb fun ctv h' tk kk hsz=>?_
  have I2:=I.kept (h':=h'.push { cls:=.type "function",data:=.func (PySem.W.kla_fn "<lambda>" q params body scope cl ((X.mg "__name__").getD .none) (.ref c') ctv) }) (t':=tk) fun b o e=>Qb _ (kk b o e)
  exact h _ c' ctv _ _ _ I2 (aG.refl H) (fun b o _ e=>Qb _ (kk b o e)) (Qk _ rfl) ⟨c',o,vs,t,rfl,Qb _ (kk _ _ r3),r4,r5⟩
end
theorem mF (num:Nat->Int):∀ k,∀ l,l < argBest (btK num) k->num (argBest (btK num) k) < num l
 | 0=>fun l hl=>by simp [argBest] at hl
 | k+1=>fun l hl=>by
  have h2:=(argBest_lt num k).2
  simp only [argBest] at hl ⊢
  by_cases hc:num (k+1) < num (argBest (btK num) k)
  ·rw [if_pos (show btK num (k+1) (argBest (btK num) k)=true from decide_eq_true hc)] at hl ⊢
   have:=h2 l (by omega)
   show num (k+1) < num l
   have e:num (argBest (fun i j=>decide (num i < num j)) k)=num (argBest (btK num) k):=rfl
   omega
  ·rw [if_neg (show ¬ btK num (k+1) (argBest (btK num) k)=true from fun z=>hc (of_decide_eq_true z))] at hl ⊢
   exact mF num k l hl
def zV (K:PySem.W.Frag) (H:Hp) (x:V) (ns:List Int):Prop:=∃ a,x=.ref a/\(SqL K H a (ns.map V.int)∨SqT K H a (ns.map V.int)∨∃ kvs:List (Key×V),H a=some (.dK kvs)/\kvs.map (·.1)=ns.map Sum.inl)
def zW (K:PySem.W.Frag) (H:Hp) (u:V) (n k:Int):Prop:=0<=n/\n < 1000/\∃ a xs,u=.ref a/\(SqT K H a xs∨SqL K H a xs)/\xs[n.toNat]?=some (.int k)
def aC7 (K:PySem.W.Frag) (P:Addr) (q:Str) (iv:Nat) (te:TE):TE:=fun σ H Q=>te σ H fun x H1=>∃ (ns:List Int) (kf:Int->Int) (u:V),zV K H1 x ns/\0 < ns.length/\H1 P=some (.tab q)/\σ[iv]?=some (some u)/\(∀ n∈ns,zW K H1 u n (kf n)) /\
 ∀ (j:Nat) (m:Int) (H2:Hp),aG H1 H2->ns[j]?=some m->(∀ n∈ns,kf m<=kf n)->(∀ (l:Nat) (n:Int),l < j->ns[l]?=some n->kf m < kf n)->Q (.int m) H2
section
variable {X:Cx} {pins:List (Addr×Obj)} {σ:St} {H:Hp} {s:Shared}
theorem yO {A:Around} {x:V} {u:Value} {ns:List Int} {Q:Value->Shared->Prop} {E:Value->Shared->Prop} (hh:A.handled=none) (I:Inv X pins σ H s) (hx:zV X.K H x ns) (r:bB x u)
  (h:∀ (It:Addr) fp (Pv:Nat->Value->Prop) St s2,Walks X.prog X.w A It fp [It] ns.length Pv St->(∀ i v,Pv i v->∃ n t,ns[i]?=some n/\v=.int n t)->St 0 s2.heap->(∀ b∈fp,b < s2.heap.objs.size)->s.heap.objs.size<=It ->
   (∀ b o,s.heap.get? b=some o->s2.heap.get? b=some o)->(∃ h2,s2={ s with heap:=h2 })->Q (.ref It) s2):wpAny (model X.prog X.w) A (pyIter u) Q E s:=by
 obtain ⟨a,rfl,hx⟩:=hx
 cases r
 rcases hx with hx | hx | ⟨kvs,hx,hk⟩
 ·obtain ⟨its,rv,p,hz⟩:=I.list hx
  have hl:=rv.length
  rw [Qd] at hl
  have ht:=p.isList
  have hlt:a < s.heap.objs.size:=by obtain ⟨o,e,_⟩:=ht; exact Qj e
  have hne:a≠s.heap.objs.size:=Qz hlt
  have W0:=Walks.list (prog:=X.prog) (w:=X.w) (A:=A) hh s.heap.objs.size a hne its.toArray
  rw [show its.toArray.size=ns.length by rw [Qq,hl]] at W0
  refine wpAny_pyIter_list ht (h s.heap.objs.size [s.heap.objs.size,a] _ _ { s with heap:=s.heap.push { cls:=.type "list_iterator",data:=.fields #[.ref a,.int 0 0] } } W0 (fun i v e=>?_) ⟨⟨_,Qk _ rfl,rfl,rfl⟩,ht.push _⟩ (fun b hb=>?_) (Qg _) (fun b o e=>Qb _ e) ⟨_,rfl⟩)
  ·have e':its[i]?=some v:=by simpa using e
   obtain ⟨hi,_⟩:=Qa.mp e'
   obtain ⟨w',ew,rw'⟩:=rv.get (i:=i) (x:=.int (ns[i]'(by omega))) (by rw [Qi,Qc (show i < ns.length by omega)]; rfl)
   rw [e'] at ew; cases ew
   obtain ⟨t,rfl⟩:=rw'
   exact ⟨_,t,Qc (show i < ns.length by omega),rfl⟩
  ·show b < (s.heap.push _).objs.size
   rw [Jn]
   simp only [Qm,Qp,or_false] at hb
   rcases hb with hb | hb
   ·rw [hb]; exact Zm _
   ·rw [hb]; exact Xh hlt
 ·obtain ⟨its,rv,p,hz⟩:=I.tuple hx
  have hl:=rv.length
  rw [Qd] at hl
  have ht:s.heap.IsTuple a its.toArray:=p
  have hlt:a < s.heap.objs.size:=by obtain ⟨o,e,_⟩:=ht; exact Qj e
  have hne:a≠s.heap.objs.size:=Qz hlt
  have W0:=Walks.tuple (prog:=X.prog) (w:=X.w) (A:=A) hh s.heap.objs.size a hne its.toArray
  rw [show its.toArray.size=ns.length by rw [Qq,hl]] at W0
  refine wpAny_pyIter_tuple ht (h s.heap.objs.size [s.heap.objs.size,a] _ _ { s with heap:=s.heap.push { cls:=.type "tuple_iterator",data:=.fields #[.ref a,.int 0 0] } } W0 (fun i v e=>?_) ⟨⟨_,Qk _ rfl,rfl,rfl⟩,ht.push _⟩ (fun b hb=>?_) (Qg _) (fun b o e=>Qb _ e) ⟨_,rfl⟩)
  ·have e':its[i]?=some v:=by simpa using e
   obtain ⟨hi,_⟩:=Qa.mp e'
   obtain ⟨w',ew,rw'⟩:=rv.get (i:=i) (x:=.int (ns[i]'(by omega))) (by rw [Qi,Qc (show i < ns.length by omega)]; rfl)
   rw [e'] at ew; cases ew
   obtain ⟨t,rfl⟩:=rw'
   exact ⟨_,t,Qc (show i < ns.length by omega),rfl⟩
  ·show b < (s.heap.push _).objs.size
   rw [Jn]
   simp only [Qm,Qp,or_false] at hb
   rcases hb with hb | hb
   ·rw [hb]; exact Zm _
   ·rw [hb]; exact Xh hlt
 ·obtain ⟨hz,hs,vs,kv,dd⟩:bG X.prog X.w H s.heap a (.dK kvs):=I.hok a _ hx
  obtain ⟨ep,da⟩:=dd.dictAt
  have hl:kvs.length=vs.length:=kv.length
  have hln:vs.length=ns.length:=by
   have:=congrArg Wj hk
   rw [Qd,Qd] at this
   omega
  have hlt:=da.lt_size
  have hne:a≠s.heap.objs.size:=Qz hlt
  have W0:=Walks.dictKeys (prog:=X.prog) (w:=X.w) (A:=A) (knd:=aW X.prog X.w) hh s.heap.objs.size a hne vs ep
  rw [hln] at W0
  refine wpAny_pyIter_dict hs da (h s.heap.objs.size [s.heap.objs.size,a] _ _ { s with heap:=s.heap.push { cls:=.type "dict_keyiterator",data:=.fields #[.ref a,.int 0 0,.int vs.length 0,.int ep 0] } } W0 (fun i v e=>?_) ⟨⟨_,Qk _ rfl,rfl,by rw [hln]; rfl⟩,da.push _⟩ (fun b hb=>?_) (Qg _) (fun b o e=>Qb _ e) ⟨_,rfl⟩)
  ·obtain ⟨k,x,hi,hk2⟩:=e
   have e1:(vs.map (·.1))[i]?=some k:=by rw [Qi,hi]; rfl
   rw [<- kv.keys,hk,Qi] at e1
   cases q:ns[i]? with
   | none=>rw [q] at e1; cases e1
   | some n =>
    rw [q] at e1
    have:k=Sum.inl n:=(Option.some.inj e1).symm
    subst this
    obtain ⟨t,rfl⟩:bB (.int n) v:=rF hk2
    exact ⟨n,t,rfl,rfl⟩
  ·show b < (s.heap.push _).objs.size
   rw [Jn]
   simp only [Qm,Qp,or_false] at hb
   rcases hb with hb | hb
   ·rw [hb]; exact Zm _
   ·rw [hb]; exact Xh hlt
theorem zX {u:V} {uv:Value} {n k:Int} (I:Inv X pins σ H s) (hk:zW X.K H u n k) (r:bB u uv):∃ t,iY s.heap uv n (.int k t):=by
 obtain ⟨h0,h1,a,xs,rfl,hx | hx,he⟩:=hk
 ·cases r
  obtain ⟨its,rv,p,hz⟩:=I.tuple hx
  obtain ⟨w',ew,t,rfl⟩:=rv.get he
  exact ⟨t,a,rfl,.inl ⟨its.toArray,p,h0,h1,by simpa using ew⟩⟩
 ·cases r
  obtain ⟨its,rv,p,hz⟩:=I.list hx
  obtain ⟨w',ew,t,rfl⟩:=rv.get he
  exact ⟨t,a,rfl,.inr ⟨its.toArray,p.isList,h0,h1,by simpa using ew⟩⟩
theorem iY.obj {h:Heap} {u:Value} {i:Int} {v:Value} (x:iY h u i v):∃ p o,u=.ref p/\h.get? p=some o/\∀ h':Heap,h'.get? p=some o->iY h' u i v:=by
 obtain ⟨p,rfl,⟨its,⟨o,ho,r⟩,q⟩ | ⟨its,⟨o,ho,r⟩,q⟩⟩:=x
 ·exact ⟨p,o,rfl,ho,fun h' e=>⟨p,rfl,.inl ⟨its,⟨o,e,r⟩,q⟩⟩⟩
 ·exact ⟨p,o,rfl,ho,fun h' e=>⟨p,rfl,.inr ⟨its,⟨o,e,r⟩,q⟩⟩⟩
theorem tS {e:Expr} {te:TE} {p kpos lpos p1 p2 p3 pos:Pos} {params:Arguments} {scope:Scope} {vn xn:Str} {c P:Addr} {q:Str} (iv:Nat) (hc:X.calm=true) (hr:Room 1 X.A) (hg:Gl X "min") (hm:X.mg "min" = none) (Z:Lm X.K X.mg X.base c P) (hcode:X.env.code=.ref c) (hq:X.env.qual ++ "<lambda>" = q)
  (he:PE X e te) (hN:X.N[iv]?=some vn) (hkv:X.env.kindOf vn=some .cell)
  (hdef:defaultsOf params X.env=([],[]):=by rfl) (hcl:eA X.env scope.names []=(match X.env.cells.lookup vn with | some c=>[(vn,c)] | none=>[]):=by rfl)
  (hfr:∀ y∈scope.names,y.2=.free->y.1=vn:=by decide +kernel)
  (hbind:∀ (cl:List (Str×Addr)) (pm cdv ctv:Value) (i:Int) (t:Tok),bindArgs (PySem.W.kla_fn "<lambda>" q params (.Subscript (.Name vn p1) (.Name xn p2) p3) scope cl pm cdv ctv) ⟨[.int i t],[]⟩=pure [(xn,.int i t)]:=by intro _ _ _ _ _ _; rfl)
  (hx:scope.names.lookup xn=some .local:=by rfl) (hv:scope.names.lookup vn=some .free:=by rfl) (hco:scope.isCoroutine=false:=by rfl) (hgen:scope.isGenerator=false:=by rfl) (hk:scope.kind=.function:=by rfl) (hcell:∀ x∈scope.names,x.2≠.cell:=by decide +kernel)
  (d1:(vn==("__debug__" : Str))=false:=by decide) (d2:(vn==("__classdict__" : Str))=false:=by decide) (d3:(xn==("__debug__" : Str))=false:=by decide)
  (hs1:starEach [e] X.env = [(false,eval e X.env)]:=by rfl) :
  PE X (.Call (.Name "min" p) [e] [⟨some "key",.Lambda params (.Subscript (.Name vn p1) (.Name xn p2) p3) scope lpos,kpos⟩] pos) (aC7 X.K P q iv te):=by
 intro pins s σ H Q I h
 refine wpAny_Call_Name_kw (kD (u:=.builtin "min") I hg hm (by decide +kernel) ?_)
 have hpa:PA X [e] (bN te eZ):=aA he aE hs1
 refine callWith_kw (thn (hpa pos pins s σ H (fun vs H1=>match vs with
   | [x] => ∃ (ns : List Int) (kf : Int -> Int) (u : V), zV X.K H1 x ns /\ 0 < ns.length /\ H1 P = some (.tab q) /\ σ[iv]? = some (some u) /\ (∀ n ∈ ns, zW X.K H1 u n (kf n)) /\
       ∀ (j:Nat) (m:Int) (H2:Hp),aG H1 H2->ns[j]?=some m->(∀ n∈ns,kf m<=kf n)->(∀ (l:Nat) (n:Int),l < j->ns[l]?=some n->kf m < kf n)->Q (.int m) H2
   | _=>False) I h) fun us s1 ⟨vs,H1,I1,r1,q1⟩=>?_) (by rw [hs1]; rfl) (by rw [hs1]; rfl)
 match vs,r1,q1 with
 | [x],r1,q1 =>
  obtain ⟨ns,kf,u,hit,hpos,hT,hu,hkeys,k⟩:=q1
  obtain ⟨xv,rfl,rx⟩:=fY r1
  -- the cell of the name
  obtain ⟨m1,hns1,hl1⟩:=id I1.loc
  obtain ⟨uv,ru,lk⟩:=hl1 iv vn u hN hu (.inr (.inl hkv))
  obtain ⟨cc,hcc,hIc⟩:∃ cc,X.env.cells.lookup vn=some cc/\s1.heap.IsCell cc (some uv):=by
   rcases lk with ⟨z,_⟩ | ⟨_,z⟩
   ·rw [hkv] at z; cases z
   ·exact z
  have hclo:closureFor scope X.env=pure [(vn,cc)]:=by
   rw [yL fun y hy z=>⟨cc,by rw [hfr y hy z]; exact hcc⟩,hcl,hcc]
  refine kws_cons (aBS I1 Z hcode hT hq hdef hclo fun f c' ctv pm s2 H2 I2 sm kk hf hcr=>kws_nil ?_)
  show wpAny (model X.prog X.w) X.A (call (.builtin "min") [xv] [(Str.ofString "key",.ref f)]) _ _ _
  have hit2:zV X.K H2 x ns:=by
   obtain ⟨a,rfl,z | z | ⟨kvs,z,y⟩⟩:=hit
   ·exact ⟨a,rfl,.inl (sm.seqL z)⟩
   ·exact ⟨a,rfl,.inr (.inl (sm.seqT z))⟩
   ·exact ⟨a,rfl,.inr (.inr ⟨kvs,sm _ _ z,y⟩)⟩
  have hkeys2:∀ n∈ns,zW X.K H2 u n (kf n):=fun n hn=>by
   obtain ⟨h0,h1,a,xs,rfl,z | z,y⟩:=hkeys n hn
   ·exact ⟨h0,h1,a,xs,rfl,.inl (sm.seqT z),y⟩
   ·exact ⟨h0,h1,a,xs,rfl,.inr (sm.seqL z),y⟩
  -- what stays through the loop
  obtain ⟨fo,efo,hf⟩:∃ fo:Obj,fo={ cls:=.type "function",data:=.func (PySem.W.kla_fn "<lambda>" q params (.Subscript (.Name vn p1) (.Name xn p2) p3) scope [(vn,cc)] pm (.ref c') ctv) }/\s2.heap.get? f=some fo:=⟨_,rfl,hf⟩
  obtain ⟨c2,oc,cvs,tq,ec,hoc,hdc,hcv⟩:=hcr
  cases ec
  obtain ⟨ocl,hocl,hdcl⟩:s2.heap.IsCell cc (some uv):=by
   obtain ⟨o,ho,hd⟩:=hIc
   have nP:cc≠P:=fun z=>by rw [z] at hcc; have:=I1.freeC _ _ hcc; rw [hT] at this; cases this
   exact ⟨o,kk _ _ nP ho,hd⟩
  obtain ⟨mc,⟨oL,esL,epL,hoL,hdL,rL⟩,hlim⟩:=I2.nolimit
  have n0:ns[0]?=some (ns[0]):=Qc hpos
  obtain ⟨t0,it0⟩:=zX I2 (hkeys2 _ (Qe n0)) ru
  obtain ⟨pu,ou,eu,hou,_⟩:=it0.obj
  refine uY (f:=f) (yO (A:=X.A.in1) (I2.ok.hd hc) I2 hit2 rx fun It fp Pv St s3 W hPv hst hfp hIt hk3 hx9=>?_)
  obtain ⟨h3,e3⟩:=hx9
  subst e3
  refine ⟨It,fp,[It],ns.length,Pv,St,fun i=>kf (ns.getD i 0),[(f,fo),(c',oc),(cc,ocl),(cStatics,oL),(pu,ou)],rfl,W,hst,hfp,hpos,?_,?_,?_,fun v h' tk hP kk'=>?_⟩
  ·intro i v s4 Q4 E4 hi hPi hL hQ4
   obtain ⟨n,t,hn,rfl⟩:=hPv i v hPi
   have eg:ns.getD i 0=n:=by rw [Jl,hn]; rfl
   obtain ⟨tk,itk⟩:=zX I2 (hkeys2 _ (Qe hn)) ru
   have it4:iY s4.heap uv n (.int (kf n) tk):=by
    obtain ⟨p',o',e',ho',hh⟩:=itk.obj
    rw [eu] at e'; cases e'
    rw [hou] at ho'; cases ho'
    exact hh _ (hL (pu,ou) (by simp))
   have rm:X.A.in1.depth < recursionLimit:=(Room.in1 hr).depth
   refine aBQ (cl:=[(vn,cc)]) (c:=cc) rm ⟨mc,⟨oL,esL,epL,hL (cStatics,oL) (by simp),hdL,rL⟩,hlim⟩ (by rw [<- efo]; exact hL (f,fo) (by simp)) ⟨c',oc,cvs,tq,rfl,hL (c',oc) (by simp),hdc,hcv⟩ (hbind _ _ _ _ _ _) hx hv hco hgen hk hcell (by simp [List.lookup]) ⟨ocl,hL (cc,ocl) (by simp),hdcl⟩ it4 (fun h5 tk5 k5=>?_) d1 d2 d3
   have:=hQ4 h5 tk5 tk k5
   dsimp only at this
   rw [eg] at this
   exact this
  ·intro pr hpr hz
   have hlt:∀ b o,s2.heap.get? b=some o->b≠It:=fun b o e=>Qz (Qn (Qj e) hIt)
   simp only [Qs] at hz
   simp only [Qm,Qp,or_false] at hpr
   rcases hpr with rfl | rfl | rfl | rfl | rfl
   ·exact hlt _ _ hf hz
   ·exact hlt _ _ hoc hz
   ·exact hlt _ _ hocl hz
   ·exact hlt _ _ hoL hz
   ·exact hlt _ _ hou hz
  ·intro pr hpr
   simp only [Qm,Qp,or_false] at hpr
   rcases hpr with rfl | rfl | rfl | rfl | rfl
   ·exact hk3 _ _ hf
   ·exact hk3 _ _ hoc
   ·exact hk3 _ _ hocl
   ·exact hk3 _ _ hoL
   ·exact hk3 _ _ hou
  ·obtain ⟨n,t,hn,rfl⟩:=hPv _ v hP
   have I3:Inv X pins σ H2 { s2 with heap:=h',toks:=tk }:=I2.kept fun b o e=>kk' b o (by simp; exact Qz (Qn (Qj e) hIt)) (hk3 b o e)
   have b1:=argBest_lt (fun i=>kf (ns.getD i 0)) (ns.length - 1)
   have b2:=mF (fun i=>kf (ns.getD i 0)) (ns.length - 1)
   have hat:∀ i y,ns[i]?=some y->ns.getD i 0=y:=fun i y e=>by rw [Jl,e]; rfl
   refine ⟨.int n,H2,I3,⟨t,rfl⟩,k _ n H2 sm hn (fun y hy=>?_) (fun l y hl hy=>?_)⟩
   ·obtain ⟨i,hi⟩:=Qy.mp hy
    have:=b1.2 i (by have:=(Qa.mp hi).1; omega)
    have e1:=hat _ _ hn
    have e2:=hat _ _ hi
    show kf n<=kf y
    rw [<- e1,<- e2]; exact this
   ·have:=b2 l hl
    have e1:=hat _ _ hn
    have e2:=hat _ _ hy
    rw [<- e1,<- e2]; exact this
end
def aBT (ts:List (Addr×Str)) (H:Hp):Prop:=(∀ b,H b=none∨(∃ o xs,H b=some (.frz o (.lst xs)))∨∃ q,H b=some (.tab q)/\(b,q)∈ts)/\∀ p∈ts,H p.1=some (.tab p.2)
theorem rH {h:Heap} {c P:Addr} (C:PySem.W.CodeHd h c P) (e:h.get? P=some (PySem.W.tabObj #[])):isCodeTable h P:=(C.tab e).isCodeTable
theorem aAP {P:Program} {w:World} {K:PySem.W.Frag} {mg mb:Str->Option Value} {CX:CXT} {k:Nat} {fa a:Addr} {fd:FuncData} {x:Str} {sp:Sp} {s₁:Shared} {vs:List Value} {ns:List Int} {ts:List (Addr×Str)}
  (KX:K.In s₁.heap) (hns:s₁.heap.Ns mainGlobals mg) (hb:s₁.heap.Ns builtinsNs mb) (hbb:∀ x:Str,x ≠ "__name__" -> mb x=bootBuiltins x) (hlim:s₁.heap.NoLimit) (hmod:∃ mm,s₁.heap.Ns sysModules mm) (hg:s₁.gens = #[])
  (hbm:∃ bm ob,mg "__builtins__" = some (.ref bm)/\bm≠builtinsNs/\s₁.heap.get? bm=some ob/\ob.cls=.type "module" /\ ob.dict=some builtinsNs/\ob.data=.plain)
  (hts:∀ p∈ts,s₁.heap.get? p.1=some (PySem.W.tabObj #[])/\K.lookup p.1=none/\∃ c,PySem.W.CodeHd s₁.heap c p.1) (hnd:(ts.map (·.1)).Nodup)
  (ha:s₁.heap.get? a=some { cls:=.type "list",data:=.seq vs.toArray }) (hi:IntsAre vs ns) (hl:ns.length<=sizeLine) (hr:Room k callerA)
  (F:∀ base:Heap,K.In base->base.Ns mainGlobals mg->(∀ p∈ts,base.BuiltinsAt mg p.1)->FnOk P w K mg base CX k fa fd [x] sp) (hbind:∀ (s:Shared) (u:Value),BindsTo s fd ⟨[u],[]⟩ [(x,u)])
  (hsp:∀ H:Hp,aBT ts H->SqL K H a (ns.map V.int)->sp [.ref a] H (fun v H'=>v=.bl true/\∀ p∈ts,H' p.1=some (.tab p.2)) fun _ _ _=>False)
  (hCX:∀ H e s',CX [] H s₁ (fun _ _ _=>False) e s'->False) :
  codeAny (model P w) callerA (.call (.ref fa) ⟨[.ref a],[]⟩) (fun r s'=>r=.ok (.ret (.bool true))/\OldK s₁.heap s'.heap/\s'.os=s₁.os/\AllBare s'.gens) s₁:=by
 have rv:=tO hi
 have lenV:=hi.length
 have na:∀ p∈ts,p.1≠a:=fun p hp z=>by
  have:=(hts p hp).1
  rw [z,ha] at this; cases this
 -- from an abstract heap in which nothing but the script and the tables may be tracked
 have core:∀ H:Hp,aBT ts H->SqL K H a (ns.map V.int)->HOk P w H s₁.heap->(∀ b,H b≠none->b=a∨∃ q,(b,q)∈ts)->(H a≠none->K.lookup a=none) ->
   codeAny (model P w) callerA (.call (.ref fa) ⟨[.ref a],[]⟩) (fun r s'=>r=.ok (.ret (.bool true))/\OldK s₁.heap s'.heap/\s'.os=s₁.os/\AllBare s'.gens) s₁:=by
  intro H hO hS hok hA hK
  have base_of:∀ {b:Addr} {o:Obj},s₁.heap.get? b=some o->H b=none->(sU s₁.heap H).get? b=some o:=fun e n=>aBb e n
  have noA:∀ {b:Addr} {o:Obj} {es:Array DictEntry} {ep:Nat},s₁.heap.get? b=some o->o.data=.dict es ep->H b=none:=fun {b o es ep} e d=>by
   cases q:H b with
   | none=>rfl
   | some u =>
    rcases hA b (by rw [q]; simp) with e' | ⟨q',e'⟩
    ·subst e'
     rw [ha] at e; cases e
     have d':Data.seq vs.toArray _=Data.dict es ep:=d
     cases d'
    ·have:=(hts _ e').1
     have e2:s₁.heap.get? b=some (PySem.W.tabObj #[]):=this
     rw [e] at e2; cases e2
     have d':Data.fields _=Data.dict es ep:=d
     cases d'
  have nsK:∀ {b:Addr} {m:Str->Option Value},s₁.heap.Ns b m->(sU s₁.heap H).Ns b m:=fun {b m} ⟨o,es,ep,e,d,r⟩=>⟨o,es,ep,base_of e (noA e d),d,r⟩
  have hKb:K.In (sU s₁.heap H):=fun b o e=>base_of (KX b o e) (by
   cases q:H b with
   | none=>rfl
   | some u =>
    rcases hA b (by rw [q]; simp) with e' | ⟨q',e'⟩
    ·subst e'
     rw [hK (by rw [q]; simp)] at e; cases e
    ·have:=(hts _ e').2.1
     have e2:K.lookup b=none:=this
     rw [e] at e2; cases e2)
  have hBu:∀ p∈ts,(sU s₁.heap H).BuiltinsAt mg p.1:=fun p hp=>by
   obtain ⟨bm,ob,b1,b2,b3,b4,b5,b6⟩:=hbm
   have hn:H bm=none:=by
    cases q:H bm with
    | none=>rfl
    | some u =>
     rcases hA bm (by rw [q]; simp) with e' | ⟨q',e'⟩
     ·subst e'
      rw [ha] at b3; cases b3
      have d':Data.seq vs.toArray _=Data.plain:=b6
      cases d'
     ·have e2:s₁.heap.get? bm=some (PySem.W.tabObj #[]):=(hts _ e').1
      rw [b3] at e2; cases e2
      have d':Data.fields _=Data.plain:=b6
      cases d'
   refine ⟨bm,ob,b1,b2,fun z=>?_,fun z=>?_,base_of b3 hn,b4,b5,b6⟩
   ·obtain ⟨o,es,ep,e,d,r⟩:=hns
    rw [<- z,b3] at e; cases e
    rw [b6] at d; cases d
   ·have e2:s₁.heap.get? p.1=some (PySem.W.tabObj #[]):=(hts _ hp).1
    rw [<- z,b3] at e2; cases e2
    have d':Data.fields _=Data.plain:=b6
    cases d'
  have hM:Mod K mg (sU s₁.heap H):=⟨hKb,nsK hns,⟨mb,nsK hb,hbb⟩,let ⟨mc,h1,h2⟩:=hlim; ⟨mc,nsK h1,h2⟩,let ⟨mm,h1⟩:=hmod; ⟨mm,nsK h1⟩⟩
  have e0:Env0 P w K mg (sU s₁.heap H) callerA [] s₁ H:=⟨rfl,hM,fun b o e=>aCI e,Ym (aAu _ _),trivial,fun b hb=>absurd (show b∈([]:List Addr) from hb) (by simp),hok,.of_eq hg⟩
  refine codeAny_mono ((F _ hKb (nsK hns) hBu).run callerA [] s₁ H ⟨[.ref a],[]⟩ [.ref a] [.ref a] _ _ hr e0 (hbind s₁ (.ref a)) (.cons rfl .nil) (hsp H hO hS)) fun r s' h=>?_
  cases r with
  | error e=>exact (hCX H e s' h).elim
  | ok fl =>
   cases fl with
   | next=>exact False.elim h
   | brk=>exact False.elim h
   | cont=>exact False.elim h
   | ret u =>
    obtain ⟨v,H',os,bare,un,hok',r',q,qt⟩:=h
    have q':v=.bl true:=q
    subst q'
    obtain rfl:u=Value.bool true:=r'
    have keep:∀ b o,(∀ q,(b,q)∉ts)->s₁.heap.get? b=some o->s'.heap.get? b=some o:=fun b o hb e=>by
     cases q:H b with
     | none=>exact un.keep b o e q (by intro z; exact absurd (show b∈([]:List Addr) from z) (by simp)) (by simp)
     | some u =>
      rcases hO.1 b with z | ⟨ob,xs,z⟩ | ⟨q',z,zm⟩
      ·rw [q] at z; cases z
      ·have z2:=un.frzs b ob _ z
       obtain ⟨e1,_⟩:=hok b _ z
       obtain ⟨e2,_⟩:=hok' b _ z2
       rw [e] at e1; cases e1
       exact e2
      ·exact absurd zm (hb q')
    have grown:∀ b o q,(b,q)∈ts->s₁.heap.get? b=some o->isCodeTable s₁.heap b/\o=PySem.W.tabObj #[]/\∃ ps,s'.heap.get? b=some (PySem.W.tabObj ps):=fun b o q hm e=>by
     obtain ⟨h1,h2,c,h3⟩:=hts _ hm
     have h1':s₁.heap.get? b=some (PySem.W.tabObj #[]):=h1
     rw [e] at h1'
     obtain ⟨ps,hps,_⟩:bG P w H' s'.heap b (.tab q):=hok' b _ (qt _ hm)
     exact ⟨rH h3 h1,Option.some.inj h1',ps,hps⟩
    refine ⟨rfl,⟨fun b o e=>?_,fun b o e=>?_⟩,os,bare⟩
    ·by_cases hb:∃ q,(b,q)∈ts
     ·obtain ⟨q,hm⟩:=hb
      obtain ⟨ht,rfl,ps,hP⟩:=grown b o q hm e
      exact .inr (.inl ⟨ht,rfl,#[],ps,rfl,by rw [Array.empty_append]; exact hP⟩)
     ·exact .inl (keep b o (fun q z=>hb ⟨q,z⟩) e)
    ·by_cases hb:∃ q,(b,q)∈ts
     ·obtain ⟨q,hm⟩:=hb
      obtain ⟨_,_,ps,hP⟩:=grown b o q hm e
      exact ⟨_,hP⟩
     ·exact ⟨o,keep b o (fun q z=>hb ⟨q,z⟩) e⟩
 -- the tables
 have look:∀ {b:Addr} {q:Str},ts.lookup b=some q->(b,q)∈ts:=fun {b q} e=>by
  clear hts hnd hsp core na F
  induction ts with
  | nil=>cases e
  | cons p r ih =>
   rw [Jp] at e
   cases hb:b==p.1 with
   | true=>rw [hb] at e; cases e; rw [eq_of_beq hb]; exact .head _
   | false=>rw [hb] at e; exact .tail _ (ih e)
 have look2:∀ {b:Addr} {q:Str},(b,q)∈ts->ts.lookup b=some q:=fun {b q} e=>by
  clear hts hsp core na look F
  induction ts with
  | nil=>cases e
  | cons p r ih =>
   rw [Jp]
   rw [Qw,Qx] at hnd
   rcases Qm.mp e with rfl | e
   ·simp
   ·have:(b==p.1)=false:=by
     rw [beq_eq_false_iff_ne]
     intro z
     exact hnd.1 (Jm.mpr ⟨(b,q),e,z⟩)
    rw [this]
    exact ih hnd.2 e
 have tabOk:∀ (H:Hp) (b:Addr) (q:Str),(b,q)∈ts->bG P w H s₁.heap b (.tab q):=fun H b q hm=>⟨#[],(hts _ hm).1,trivial,fun pos cv z=>by simp [codeAmong] at z⟩
 cases hk:K.lookup a with
 | some o =>
  have e:=KX a o hk
  rw [ha] at e
  cases e
  refine core (fun b=>(ts.lookup b).map HO.tab) ⟨fun b=>?_,fun p hp=>by show (ts.lookup p.1).map HO.tab=_; rw [look2 (q:=p.2) hp]; rfl⟩ (.inr ⟨_,vs.toArray,_,hk,rfl,rfl,rfl,by rw [Qq,lenV]; exact hl,by simpa using rv⟩) (fun b u z=>?_) (fun b z=>?_) fun z=>?_
  ·cases q:ts.lookup b with
   | none=>exact .inl (by show (ts.lookup b).map HO.tab=none; rw [q]; rfl)
   | some y=>exact .inr (.inr ⟨y,by show (ts.lookup b).map HO.tab=_; rw [q]; rfl,look q⟩)
  ·have z':(ts.lookup b).map HO.tab=some u:=z
   cases q:ts.lookup b with
   | none=>rw [q] at z'; cases z'
   | some y=>rw [q] at z'; cases z'; exact tabOk _ _ _ (look q)
  ·have z':(ts.lookup b).map HO.tab≠none:=z
   cases q:ts.lookup b with
   | none=>rw [q] at z'; exact absurd rfl z'
   | some y=>exact .inr ⟨y,look q⟩
  ·exfalso
   have z':(ts.lookup a).map HO.tab≠none:=z
   cases q:ts.lookup a with
   | none=>rw [q] at z'; exact absurd rfl z'
   | some y=>exact na _ (look q) rfl
 | none =>
  have noa:ts.lookup a=none:=by
   cases q:ts.lookup a with
   | none=>rfl
   | some y=>exact absurd rfl (na _ (look q))
  refine core (fun b=>if b=a then some (.frz { cls:=.type "list",data:=.seq vs.toArray } (.lst (ns.map V.int))) else (ts.lookup b).map HO.tab) ⟨fun b=>?_,fun p hp=>?_⟩ (.inl (.inr ⟨{ cls:=.type "list",data:=.seq vs.toArray },if_pos rfl⟩)) (fun b u z=>?_) (fun b z=>?_) fun _=>hk
  ·by_cases hb:b=a
   ·exact .inr (.inl ⟨_,_,if_pos hb⟩)
   ·cases q:ts.lookup b with
    | none=>exact .inl ((if_neg hb).trans (by rw [q]; rfl))
    | some y=>exact .inr (.inr ⟨y,(if_neg hb).trans (by rw [q]; rfl),look q⟩)
  ·exact (if_neg (na p hp)).trans (by rw [look2 (q:=p.2) hp]; rfl)
  ·by_cases hb:b=a
   ·have z':=(if_pos hb).symm.trans z
    cases z'
    subst hb
    exact ⟨ha,by rw [Qd]; exact hl,vs,_,rv,ha⟩
   ·have z':=(if_neg hb).symm.trans z
    cases q:ts.lookup b with
    | none=>rw [q] at z'; cases z'
    | some y=>rw [q] at z'; cases z'; exact tabOk _ _ _ (look q)
  ·by_cases hb:b=a
   ·exact .inl hb
   ·cases q:ts.lookup b with
    | none=>exact absurd ((if_neg hb).trans (by rw [q]; rfl)) z
    | some y=>exact .inr ⟨y,look q⟩
theorem aBU {l:PySem.W.OpenLaw} {n k:Nat} {q:Program} {loose:List Str} {XP:(Str->Option Value)->Heap->Prop} {YP:World->Heap->Prop} {d:DefRec} {K:Params->PySem.W.Frag} {CX:World->CXT} {sp:World->Sp} {x:Str} {ts:List (Addr×Str)}
  (hn:l.most=some n) (hn2:n<=sizeLine) (hdf:d.params.defaults = []) (hr:Room k callerA) (hq:importsNone q=true)
  (hY:∀ (w:World) (h:Heap),YP w h->(K w.params).In h)
  (hts:∀ (w:World) (h:Heap),YP w h->∀ p∈ts,h.get? p.1=some (PySem.W.tabObj #[])/\(K w.params).lookup p.1=none/\∃ c,PySem.W.CodeHd h c p.1) (hnd:(ts.map (·.1)).Nodup)
  (F:∀ (w:World) (mg:Str->Option Value) (fa:Addr) (h:Heap),(K w.params).In h->h.Ns mainGlobals mg->mg d.name=some (.ref fa) ->
   ∃ fd:FuncData,(∀ (s:Shared) (u:Value),BindsTo s fd ⟨[u],[]⟩ [(x,u)]) /\
    ∀ base:Heap,(K w.params).In base->base.Ns mainGlobals mg->(∀ p∈ts,base.BuiltinsAt mg p.1)->FnOk l.prog w (K w.params) mg base (CX w) k fa fd [x] (sp w))
  (hsp:∀ (w:World) (H:Hp) (a:Addr) (ns:List Int),ns.length<=n->aBT ts H->SqL (K w.params) H a (ns.map V.int)->sp w [.ref a] H (fun v H'=>v=.bl true/\∀ p∈ts,H' p.1=some (.tab p.2)) fun _ _ _=>False)
  (hCX:∀ (w:World) (H:Hp) (s:Shared) (e:Value) (s':Shared),CX w [] H s (fun _ _ _=>False) e s'->False) :
  PySem.W.WalkO q loose XP YP l.row.toRowW d [] (fun f vs=>PySem.call f vs):=by
 refine Att.attach_call hn hdf fun w s₀ s₁ mg mb fa o pm cd doc a vs ns G Y ho hd hcd hmg hobj hints hlen hg=>?_
 have KX:=hY w _ Y
 obtain ⟨fd,hb,hF⟩:=F w mg fa _ KX G.T.g hmg
 exact aAP KX G.T.g G.T.b G.T.builtins G.T.nolimit (let ⟨mm,h1,_⟩:=(G.T.seer hq).mods; ⟨mm,h1⟩) hg G.T.bmain (hts w _ Y) hnd hobj hints (Ja hlen hn2) hr hF hb (fun H hO hS=>hsp w H a ns hlen hO hS) fun H e s'=>hCX w H s₁ e s'
section
variable {P:Program} {w:World} {K:PySem.W.Frag} {mg:Str->Option Value} {base:Heap}
theorem Fun.okC {x qual:Str} {st:Stmt} {f c:Addr} {fd:FuncData} {N ps:List Str} {k:Nat} {sp:Sp} (F:Fun K x qual st f fd) (hc:fd.code=.ref c) (S:FnScope N ps (aH st)) (len:∀ vs H Q E,sp vs H Q E->vs.length=ps.length)
  (hbody:∀ (A:Around) (outer:List Env) (s:Shared) (H:Hp) (vs:List V) (Q:VK) (E:XK),Room k (A.deeper (envOfC qual (aH st) s.heap.objs.size f (.ref c)))->sp vs H Q E ->
   ∃ t,PSs (yI CX0 P w K mg base N qual (aH st) f (.ref c) A outer s H E).nox (eT st) t/\t { nx:=fun _ H'=>Q .non H',rt:=Q } (start N vs) H):FnOk P w K mg base CX0 (k+1) f fd ps sp:=by
 obtain ⟨oc,od,kV,doc,pm,an,cdv,ct,osl,rfl,lk,hcd⟩:=F.ex
 have e:cdv=.ref c:=hc
 subst e
 refine aDQ lk hcd S len fun A outer s H vs Q E hr hsp=>?_
 obtain ⟨t,h,q⟩:=hbody A outer s H vs Q E hr hsp
 exact ⟨t,h.nox,q⟩
end
abbrev eO (h:Heap) (z TI TO:Addr) (f0:Value) (f1:Bool):Prop :=
 h.get? z=some { cls:=.type "zip",dict:=none,data:=.fields #[f0,.bool f1,.bool false,.ref TI,.ref TO],slots:=#[] }
def F0 (f:Value):Prop:=f=.none∨∃ a t,f=.int a t
theorem xC {M:Model} {A:Around} {E:Value->Shared->Prop} {s:Shared} {a:Addr} {Q:Option Obj->Shared->Prop} (h:Q (s.heap.get? a) s):wpAny M A (loadIfAlive a) Q E s:=fun Γ p _=>by
 show Sem.wp M Γ (.loadIfAlive a .pure) _ _ p s
 rw [Sem.wp_loadIfAlive]
 exact (Sem.wp_pure ..).mpr h
section
variable {prog:Program} {w:World} {A:Around} {E:Value->Shared->Prop} {s:Shared} {z TI TO i1 i2 l1 l2:Addr} {n1 n2:Nat} {P1 P2:Nat->Value->Prop} {st1 st2:Nat->Heap->Prop}
theorem aBV {f0:Value} {f1:Bool} {Q:Bool->Shared->Prop} (hz:eO s.heap z TI TO f0 f1) (hf:F0 f0) (h1:Q true s) (h2:∀ h' b,eO h' z TI TO f0 b->Heap.SameBut z s.heap h'->Q false { s with heap:=h' }) :
  wpAny (model prog w) A (Builtin.SmallTypes.ownedTupleIsFree (.ref z)) Q E s:=by
 unfold Builtin.SmallTypes.ownedTupleIsFree
 rcases hf with rfl | ⟨a,t,rfl⟩
 ·exact wpAny_bind (wpAny_field hz rfl (x:=.none) rfl (wpAny_pure h1))
 ·refine wpAny_bind (wpAny_field hz rfl (x:=.int a t) rfl ?_)
  show wpAny (model prog w) A (loadIfAlive a.toNat >>= _) Q E s
  refine wpAny_bind (xC ?_)
  cases hq:s.heap.get? a.toNat with
  | none=>exact wpAny_pure h1
  | some o =>
   show wpAny (model prog w) A (field (.ref z) 1 >>= _) Q E s
   refine wpAny_bind (wpAny_field hz rfl (x:=.bool f1) rfl ?_)
   cases f1 with
   | true=>exact wpAny_pure (h2 s.heap true hz (Heap.SameBut.refl _ _))
   | false =>
    show wpAny (model prog w) A (setField (.ref z) 1 (.bool true) >>= _) Q E s
    refine wpAny_bind (wpAny_setField_rec hz (by simp) fun g hg b=>wpAny_pure (h2 g true hg b))
theorem aBW {k:Nat} {a b f0:Value} {f1:Bool} {Q:Value->Shared->Prop} (D:ZipApart z TI TO i1 i2 l1 l2) (S1:Sub prog w i1 l1 n1 P1 st1) (S2:Sub prog w i2 l2 n2 P2 st2)
  (hz:eO s.heap z TI TO f0 f1) (hf:F0 f0) (hTI:IsPair s.heap TI (.ref i1) (.ref i2)) (hTO:IsPair s.heap TO a b) (h1:st1 k s.heap) (h2:st2 k s.heap) (k1:k < n1) (k2:k < n2)
  (hQ:∀ h' x y f0' f1',P1 k x->P2 k y->F0 f0'->eO h' z TI TO f0' f1'->(∃ a b,IsPair h' TO a b)->st1 (k+1) h'->st2 (k+1) h'->IsPair h' s.heap.objs.size x y->h'.objs.size=s.heap.objs.size+1 ->
   (∀ c o,c≠z->c≠TO->c≠i1->c≠i2->s.heap.get? c=some o->h'.get? c=some o)->Q (.ref s.heap.objs.size) { s with heap:=h' }) :
  wpAny (model prog w) A (Builtin.«zip.__next__» ⟨[.ref z],[]⟩) (fun fin s'=>∃ v,fin=.done (.ret v)/\Q v s') E s:=by
 refine wpAny_bind (m:=field (.ref z) 2) (wpAny_field hz rfl (x:=.bool false) rfl ?_)
 refine wpAny_bind (m:=field (.ref z) 3) (wpAny_field hz rfl (x:=.ref TI) rfl ?_)
 refine wpAny_bind (wpAny_seqItems hTI rfl ?_)
 refine wpAny_bind (m:=Builtin.SmallTypes.ownedTupleIsFree (.ref z)) (aBV hz hf ?_ fun h0 fb hz0 b0=>?_)
 ·simp only [if_true]
  refine wpAny_bind (wpAny_rule ?_)
  refine wpAny_bind (wpAny_field hz rfl (x:=.ref TO) rfl ?_)
  refine wpAny_bind (wpAny_setField_rec hz (by simp) fun g1 hz1 b1=>?_)
  have hz1':eO g1 z TI TO .ellipsis f1:=hz1
  refine wpAny_bind ?_
  simp only [Yc,Yj,Xw,Zj]
  have s1:st1 k g1:=S1.keep _ _ _ h1 fun c hc o e=>b1.extBut c o (by rcases hc with r | r <;> rw [r]; exact D.i1z; exact D.l1z) e
  refine wpAny_bind (wpAny_bind (wpAny_onRaise ?_))
  refine wpAny_bind (m:=Builtin.SmallTypes.nextOf (.ref i1)) (S1.item _ k _ _ _ k1 s1 fun x g2 px t1 b2=>wpAny_pure ?_)
  have o2:IsPair g2 TO a b:=b2.extBut _ _ D.TOi1 (b1.extBut _ _ D.TOz hTO)
  refine wpAny_bind (wpAny_seqItems o2 rfl ?_)
  refine wpAny_bind (wpAny_updateSeq_pair o2 fun g3 o3 b3=>?_)
  have o3':IsPair g3 TO x b:=o3
  refine wpAny_bind (wpAny_letGo (wpAny_pure ?_))
  have s2:st2 k g3:=S2.keep _ _ _ h2 fun c hc o e=>by
   rcases hc with r | r
   ·rw [r] at e ⊢; exact b3.extBut _ _ D.TOi2.symm (b2.extBut _ _ D.i12.symm (b1.extBut _ _ D.i2z e))
   ·rw [r] at e ⊢; exact b3.extBut _ _ D.l2TO (b2.extBut _ _ D.l2i1 (b1.extBut _ _ D.l2z e))
  refine wpAny_bind (wpAny_bind (wpAny_onRaise ?_))
  refine wpAny_bind (m:=Builtin.SmallTypes.nextOf (.ref i2)) (S2.item _ k _ _ _ k2 s2 fun y g4 py t2 b4=>wpAny_pure ?_)
  have o4:IsPair g4 TO x b:=b4.extBut _ _ D.TOi2 o3'
  refine wpAny_bind (wpAny_seqItems o4 rfl ?_)
  refine wpAny_bind (wpAny_updateSeq_pair o4 fun g5 o5 b5=>?_)
  have o5':IsPair g5 TO x y:=o5
  refine wpAny_bind (wpAny_letGo (wpAny_pure (wpAny_pure ?_)))
  refine wpAny_bind (wpAny_seqItems o5' rfl ?_)
  refine wpAny_bind (wpAny_newTuple ?_)
  have sz:g5.objs.size=s.heap.objs.size:=by rw [b5.1,b4.1,b3.1,b2.1,b1.1]
  have z5:eO g5 z TI TO .ellipsis f1:=b5.extBut _ _ D.TOz.symm (b4.extBut _ _ D.i2z.symm (b3.extBut _ _ D.TOz.symm (b2.extBut _ _ D.i1z.symm hz1')))
  have kp5:∀ c o,c≠z->c≠TO->c≠i1->c≠i2->s.heap.get? c=some o->g5.get? c=some o:=fun c o c1 c2 c3 c4 e =>
   b5.extBut _ _ c2 (b4.extBut _ _ c4 (b3.extBut _ _ c2 (b2.extBut _ _ c3 (b1.extBut _ _ c1 e))))
  have t1':st1 (k+1) g5:=S1.keep _ _ _ t1 fun c hc o e=>by
   rcases hc with r | r
   ·rw [r] at e ⊢; exact b5.extBut _ _ D.TOi1.symm (b4.extBut _ _ D.i12 (b3.extBut _ _ D.TOi1.symm e))
   ·rw [r] at e ⊢; exact b5.extBut _ _ D.l1TO (b4.extBut _ _ D.l1i2 (b3.extBut _ _ D.l1TO e))
  have t2':st2 (k+1) g5:=S2.keep _ _ _ t2 fun c hc o e=>by
   rcases hc with r | r
   ·rw [r] at e ⊢; exact b5.extBut _ _ D.TOi2.symm e
   ·rw [r] at e ⊢; exact b5.extBut _ _ D.l2TO e
  have zlt:g5.objs.size≠z:=Xy (Qj z5)
  refine wpAny_bind (m:=Builtin.SmallTypes.ownedTupleHandOut (.ref z) (.ref g5.objs.size)) ?_
  unfold Builtin.SmallTypes.ownedTupleHandOut
  have z6:eO (g5.push { cls:=.type "tuple",data:=.seq #[x,y] }) z TI TO .ellipsis f1:=Qb _ z5
  refine wpAny_bind (wpAny_setField_rec z6 (by simp) fun g7 z7 b7=>?_)
  have z7':eO g7 z TI TO (rawInt g5.objs.size) f1:=z7
  refine wpAny_setField_rec z7' (by simp) fun g8 z8 b8=>?_
  have z8':eO g8 z TI TO (rawInt g5.objs.size) false:=z8
  have up:∀ c o,c≠z->g5.get? c=some o->g8.get? c=some o:=fun c o c1 e=>b8.extBut _ _ c1 (b7.extBut _ _ c1 (Qb _ e))
  have T8:IsPair g8 g5.objs.size x y:=b8.extBut _ _ zlt (b7.extBut _ _ zlt (Qk _ rfl))
  have sz8:g8.objs.size=s.heap.objs.size+1:=by rw [b8.1,b7.1,Jn,sz]
  rw [sz] at z8' T8
  refine wpAny_pure ⟨_,rfl,?_⟩
  show Q (.ref g5.objs.size) _
  rw [sz]
  refine hQ g8 x y _ _ px py (.inr ⟨_,_,rfl⟩) z8' ⟨_,_,up _ _ D.TOz o5'⟩ (S1.keep _ _ _ t1' fun c hc o e=>up c o (by rcases hc with r | r <;> rw [r]; exact D.i1z; exact D.l1z) e) (S2.keep _ _ _ t2' fun c hc o e=>up c o (by rcases hc with r | r <;> rw [r]; exact D.i2z; exact D.l2z) e) T8 sz8 fun c o c1 c2 c3 c4 e=>up c o c1 (kp5 c o c1 c2 c3 c4 e)
 ·simp only [Zq,if_false]
  have s1:st1 k h0:=S1.keep _ _ _ h1 fun c hc o e=>b0.extBut c o (by rcases hc with r | r <;> rw [r]; exact D.i1z; exact D.l1z) e
  rw [<- Array.forIn_toList]
  simp only [Xw,Zj]
  refine wpAny_bind (wpAny_bind (wpAny_bind (wpAny_holding ?_)))
  refine wpAny_bind (m:=Builtin.SmallTypes.nextOf (.ref i1)) (S1.item _ k _ _ _ k1 s1 fun x g2 px t1 b2=>wpAny_pure ?_)
  refine wpAny_pure ?_
  have s2:st2 k g2:=S2.keep _ _ _ h2 fun c hc o e=>by
   rcases hc with r | r
   ·rw [r] at e ⊢; exact b2.extBut _ _ D.i12.symm (b0.extBut _ _ D.i2z e)
   ·rw [r] at e ⊢; exact b2.extBut _ _ D.l2i1 (b0.extBut _ _ D.l2z e)
  refine wpAny_bind (wpAny_bind (wpAny_holding ?_))
  refine wpAny_bind (m:=Builtin.SmallTypes.nextOf (.ref i2)) (S2.item _ k _ _ _ k2 s2 fun y g4 py t2 b4=>wpAny_pure ?_)
  refine wpAny_pure (wpAny_pure ?_)
  refine wpAny_bind (wpAny_newTuple ?_ (by show 2<=sizeLine; rw [sizeLine_eq]; decide))
  have sz:g4.objs.size=s.heap.objs.size:=by rw [b4.1,b2.1,b0.1]
  have z4:eO g4 z TI TO f0 fb:=b4.extBut _ _ D.i2z.symm (b2.extBut _ _ D.i1z.symm hz0)
  have kp4:∀ c o,c≠z->c≠i1->c≠i2->s.heap.get? c=some o->g4.get? c=some o:=fun c o c1 c3 c4 e=>b4.extBut _ _ c4 (b2.extBut _ _ c3 (b0.extBut _ _ c1 e))
  have t1':st1 (k+1) g4:=S1.keep _ _ _ t1 fun c hc o e=>by
   rcases hc with r | r
   ·rw [r] at e ⊢; exact b4.extBut _ _ D.i12 e
   ·rw [r] at e ⊢; exact b4.extBut _ _ D.l1i2 e
  refine wpAny_pure ⟨_,rfl,?_⟩
  show Q (.ref g4.objs.size) _
  have T8:IsPair (g4.push { cls:=.type "tuple",data:=.seq #[x,y] }) g4.objs.size x y:=Qk _ rfl
  rw [sz] at T8 ⊢
  refine hQ _ x y _ _ px py hf (Qb _ z4) ⟨_,_,Qb _ (kp4 _ _ D.TOz D.TOi1 D.TOi2 hTO)⟩ (S1.keep _ _ _ t1' fun c hc o e=>Qb _ e) (S2.keep _ _ _ t2 fun c hc o e=>Qb _ e) T8 (by rw [Jn,sz]) fun c o c1 c2 c3 c4 e=>Qb _ (kp4 c o c1 c3 c4 e)
theorem aC8 {k:Nat} {a b f0:Value} {f1:Bool} {Q:Fin->Shared->Prop} (hh:A.handled=none) (D:ZipApart z TI TO i1 i2 l1 l2) (S1:Sub prog w i1 l1 n1 P1 st1) (S2:Sub prog w i2 l2 n2 P2 st2)
  (hz:eO s.heap z TI TO f0 f1) (hf:F0 f0) (hTI:IsPair s.heap TI (.ref i1) (.ref i2)) (hTO:IsPair s.heap TO a b) (h1:st1 k s.heap) (h2:st2 k s.heap) (hend:k=n1/\k<=n2∨k=n2/\k < n1)
  (hE:∀ h' e,(∀ c o,c≠z->c≠TO->c≠i1->c≠i2->s.heap.get? c=some o->h'.get? c=some o)->(∃ o,h'.get? e=some o/\o.cls=.type "StopIteration")->E (.ref e) { s with heap:=h' }) :
  wpAny (model prog w) A (Builtin.«zip.__next__» ⟨[.ref z],[]⟩) Q E s:=by
 refine wpAny_bind (m:=field (.ref z) 2) (wpAny_field hz rfl (x:=.bool false) rfl ?_)
 refine wpAny_bind (m:=field (.ref z) 3) (wpAny_field hz rfl (x:=.ref TI) rfl ?_)
 refine wpAny_bind (wpAny_seqItems hTI rfl ?_)
 refine wpAny_bind (m:=Builtin.SmallTypes.ownedTupleIsFree (.ref z)) (aBV hz hf ?_ fun h0 fb hz0 b0=>?_)
 ·simp only [if_true]
  refine wpAny_bind (wpAny_rule ?_)
  refine wpAny_bind (wpAny_field hz rfl (x:=.ref TO) rfl ?_)
  refine wpAny_bind (wpAny_setField_rec hz (by simp) fun g1 hz1 b1=>?_)
  have hz1':eO g1 z TI TO .ellipsis f1:=hz1
  refine wpAny_bind ?_
  simp only [Yc,Yj,Xw,Zj]
  have s1:st1 k g1:=S1.keep _ _ _ h1 fun c hc o e=>b1.extBut c o (by rcases hc with r | r <;> rw [r]; exact D.i1z; exact D.l1z) e
  refine wpAny_bind (wpAny_bind (wpAny_onRaise ?_))
  have fin:∀ (g:Heap) (e:Addr) (g0:Heap),(∃ o,g.get? e=some o/\o.cls=.type "StopIteration")->eO g z TI TO .ellipsis f1->(∀ c o,c≠z->c≠TO->c≠i1->c≠i2->s.heap.get? c=some o->g.get? c=some o) ->
    wpAny (model prog w) A (setField (.ref z) 0 .none) (fun _ s'=>E (.ref e) s') E { s with heap:=g }:=fun g e g0 ⟨oe,hoe,hce⟩ hzz kp=>by
   have hez:e≠z:=fun q=>by rw [q,hzz] at hoe; cases hoe; simp at hce
   exact wpAny_setField_rec hzz (by simp) fun g' _ b'=>hE g' e (fun c o c1 c2 c3 c4 q=>b'.extBut _ _ c1 (kp c o c1 c2 c3 c4 q)) ⟨oe,b'.extBut _ _ hez hoe,hce⟩
  rcases hend with ⟨e1,_⟩ | ⟨e2,k1⟩
  ·rw [e1] at s1
   refine wpAny_bind (m:=Builtin.SmallTypes.nextOf (.ref i1)) (S1.done _ _ _ _ hh s1 fun g2 e b2 he=>?_)
   exact fin g2 e g1 he (b2 _ _ D.i1z.symm hz1') fun c o c1 _ c3 _ q=>b2 _ _ c3 (b1.extBut _ _ c1 q)
  ·refine wpAny_bind (m:=Builtin.SmallTypes.nextOf (.ref i1)) (S1.item _ k _ _ _ k1 s1 fun x g2 px t1 b2=>wpAny_pure ?_)
   have o2:IsPair g2 TO a b:=b2.extBut _ _ D.TOi1 (b1.extBut _ _ D.TOz hTO)
   refine wpAny_bind (wpAny_seqItems o2 rfl ?_)
   refine wpAny_bind (wpAny_updateSeq_pair o2 fun g3 o3 b3=>?_)
   refine wpAny_bind (wpAny_letGo (wpAny_pure ?_))
   have s2:st2 n2 g3:=by
    rw [<- e2]
    exact S2.keep _ _ _ h2 fun c hc o e=>by
     rcases hc with r | r
     ·rw [r] at e ⊢; exact b3.extBut _ _ D.TOi2.symm (b2.extBut _ _ D.i12.symm (b1.extBut _ _ D.i2z e))
     ·rw [r] at e ⊢; exact b3.extBut _ _ D.l2TO (b2.extBut _ _ D.l2i1 (b1.extBut _ _ D.l2z e))
   refine wpAny_bind (wpAny_bind (wpAny_onRaise ?_))
   refine wpAny_bind (m:=Builtin.SmallTypes.nextOf (.ref i2)) (S2.done _ _ _ _ hh s2 fun g4 e b4 he=>?_)
   exact fin g4 e g3 he (b4 _ _ D.i2z.symm (b3.extBut _ _ D.TOz.symm (b2.extBut _ _ D.i1z.symm hz1'))) fun c o c1 c2 c3 c4 q=>b4 _ _ c4 (b3.extBut _ _ c2 (b2.extBut _ _ c3 (b1.extBut _ _ c1 q)))
 ·simp only [Zq,if_false]
  have s1:st1 k h0:=S1.keep _ _ _ h1 fun c hc o e=>b0.extBut c o (by rcases hc with r | r <;> rw [r]; exact D.i1z; exact D.l1z) e
  rw [<- Array.forIn_toList]
  simp only [Xw,Zj]
  refine wpAny_bind (wpAny_bind (wpAny_bind (wpAny_holding ?_)))
  rcases hend with ⟨e1,_⟩ | ⟨e2,k1⟩
  ·rw [e1] at s1
   refine wpAny_bind (m:=Builtin.SmallTypes.nextOf (.ref i1)) (S1.done _ _ _ _ hh s1 fun g2 e b2 he=>?_)
   exact hE g2 e (fun c o c1 _ c3 _ q=>b2 _ _ c3 (b0.extBut _ _ c1 q)) he
  ·refine wpAny_bind (m:=Builtin.SmallTypes.nextOf (.ref i1)) (S1.item _ k _ _ _ k1 s1 fun x g2 px t1 b2=>wpAny_pure ?_)
   refine wpAny_pure ?_
   have s2:st2 n2 g2:=by
    rw [<- e2]
    exact S2.keep _ _ _ h2 fun c hc o e=>by
     rcases hc with r | r
     ·rw [r] at e ⊢; exact b2.extBut _ _ D.i12.symm (b0.extBut _ _ D.i2z e)
     ·rw [r] at e ⊢; exact b2.extBut _ _ D.l2i1 (b0.extBut _ _ D.l2z e)
   refine wpAny_bind (wpAny_bind (wpAny_holding ?_))
   refine wpAny_bind (m:=Builtin.SmallTypes.nextOf (.ref i2)) (S2.done _ _ _ _ hh s2 fun g4 e b4 he=>?_)
   exact hE g4 e (fun c o c1 c2 c3 c4 q=>b4 _ _ c4 (b2.extBut _ _ c3 (b0.extBut _ _ c1 q))) he
structure ZipSt (h:Heap) (z TI TO i1 i2:Addr):Prop where
 hz:∃ f0 f1,F0 f0/\eO h z TI TO f0 f1
 ti:IsPair h TI (.ref i1) (.ref i2)
 to:∃ a b,IsPair h TO a b
theorem xD {e:Addr} {i:Nat} {old:Value} {Q:Value->Shared->Prop} (D:ZipApart z TI TO i1 i2 l1 l2) (S1:Sub prog w i1 l1 n1 P1 st1) (S2:Sub prog w i2 l2 n2 P2 st2) (he:IsEnum s.heap e z i old) (Z:ZipSt s.heap z TI TO i1 i2)
  (h1:st1 i s.heap) (h2:st2 i s.heap) (k1:i < n1) (k2:i < n2) (ne:e≠z/\e≠TI/\e≠TO/\e≠i1/\e≠i2/\e≠l1/\e≠l2)
  (hQ:∀ h' x y tk,P1 i x->P2 i y->IsEnumOut h' e z ((i:Int)+1) (.ref s.heap.objs.size) (s.heap.objs.size+1)->ZipSt h' z TI TO i1 i2->st1 (i+1) h'->st2 (i+1) h'->IsPair h' s.heap.objs.size x y ->
   h'.get? (s.heap.objs.size+1)=some { cls:=.type "tuple",data:=.seq #[.int i tk,.ref s.heap.objs.size] } ->
   (∀ c o,c≠e->c≠z->c≠TO->c≠i1->c≠i2->s.heap.get? c=some o->h'.get? c=some o)->Q (.ref (s.heap.objs.size+1)) { s with heap:=h',toks:=s.toks+1 }) :
  wpAny (model prog w) A (Builtin.«enumerate.__next__» ⟨[.ref e],[]⟩) (fun fin s'=>∃ v,fin=.done (.ret v)/\Q v s') E s:=by
 obtain ⟨⟨f0,f1,hf,hz⟩,hTI,⟨a,b,hTO⟩⟩:=Z
 obtain ⟨ne1,ne2,ne3,ne4,ne5,ne6,ne7⟩:=ne
 have hTz:s.TypeIs (.ref z) "zip" := ⟨_,hz,rfl⟩
 refine wpAny_bind (m:=field (.ref e) 2) (wpAny_field he rfl (x:=.ref z) rfl ?_)
 refine wpAny_bind (m:=Builtin.SmallTypes.nextOf (.ref z)) ?_
 unfold Builtin.SmallTypes.nextOf
 refine wpAny_bind (wpAny_callSpecial?_slot (name:=Str.ofString "__next__") hTz PySem.F.slot_zip_next (wpAny_call_entry PySem.F.slot_zip_next hTz PySem.F.entry_zip_next
  (aBW D S1 S2 hz hf hTI hTO h1 h2 k1 k2 fun g1 x y f0' f1' px py hf' hz' hTO' t1 t2 hp hsz kp=>?_) (PySem.F.args_zip_next_1 _)))
 refine wpAny_pure ?_
 have e1:IsEnum g1 e z i old:=kp _ _ ne1 ne3 ne4 ne5 he
 refine wpAny_bind (m:=field (.ref e) 3) (wpAny_field e1 rfl (x:=rawInt i) rfl ?_)
 refine wpAny_bind (m:=field (.ref e) 4) (wpAny_field e1 rfl (x:=.none) rfl ?_)
 refine wpAny_bind (m:=mkInt i) (wpAny_mkInt ?_)
 refine wpAny_bind (m:=setField (.ref e) 3 (rawInt ((i:Int)+1))) (wpAny_setField_rec e1 (by simp) fun g2 e2 b2=>?_)
 have e2':IsEnum g2 e z ((i:Int)+1) old:=e2
 refine wpAny_bind (m:=setField (.ref e) 4 .none) (wpAny_setField_rec e2' (by simp) fun g3 e3 b3=>?_)
 have e3':IsEnum g3 e z ((i:Int)+1) old:=e3
 refine wpAny_bind (m:=newTuple [.int i s.toks,.ref s.heap.objs.size]) (wpAny_newTuple ?_)
 have sz:g3.objs.size=s.heap.objs.size+1:=by rw [b3.1,b2.1,hsz]
 have e4:IsEnum (g3.push { cls:=.type "tuple",data:=.seq #[.int i s.toks,.ref s.heap.objs.size] }) e z ((i:Int)+1) old:=Qb _ e3'
 have T4:(g3.push { cls:=.type "tuple",data:=.seq #[.int i s.toks,.ref s.heap.objs.size] }).get? (s.heap.objs.size+1)=some { cls:=.type "tuple",data:=.seq #[.int i s.toks,.ref s.heap.objs.size] }:=by rw [<- sz]; exact Qk _ rfl
 have up4:∀ c o,c≠e->g1.get? c=some o->(g3.push { cls:=.type "tuple",data:=.seq #[.int i s.toks,.ref s.heap.objs.size] }).get? c=some o:=fun c o c1 q=>Qb _ (b3.extBut _ _ c1 (b2.extBut _ _ c1 q))
 have elt:s.heap.objs.size+1≠e:=Xy (Xh (Qj he))
 have elt0:s.heap.objs.size≠e:=Xy (Qj he)
 rw [sz]
 generalize g3.push { cls:=.type "tuple",data:=.seq #[.int i s.toks,.ref s.heap.objs.size] }=g4 at e4 T4 up4 ⊢
 refine wpAny_bind (m:=Builtin.SmallTypes.ownedTupleIsFree (.ref e)) ?_
 unfold Builtin.SmallTypes.ownedTupleIsFree
 refine wpAny_bind (wpAny_field e4 rfl (x:=.none) rfl (wpAny_pure ?_))
 simp only [if_true]
 refine wpAny_bind (wpAny_rule ?_)
 refine wpAny_bind (wpAny_field e4 rfl (x:=old) rfl ?_)
 refine wpAny_bind (wpAny_setField_rec e4 (by simp) fun g5 e5 b5=>?_)
 have e5':IsEnum g5 e z ((i:Int)+1) (.ref s.heap.objs.size):=e5
 refine wpAny_bind (m:=Builtin.SmallTypes.ownedTupleHandOut (.ref e) (.ref (s.heap.objs.size+1))) ?_
 unfold Builtin.SmallTypes.ownedTupleHandOut
 refine wpAny_bind (wpAny_setField_rec e5' (by simp) fun g6 e6 b6=>?_)
 have e6':IsEnumOut g6 e z ((i:Int)+1) (.ref s.heap.objs.size) (s.heap.objs.size+1):=e6
 refine wpAny_setField_rec e6' (by simp) fun g7 e7 b7=>?_
 have e7':IsEnumOut g7 e z ((i:Int)+1) (.ref s.heap.objs.size) (s.heap.objs.size+1):=e7
 have up:∀ c o,c≠e->g4.get? c=some o->g7.get? c=some o:=fun c o c1 q=>b7.extBut _ _ c1 (b6.extBut _ _ c1 (b5.extBut _ _ c1 q))
 have all:∀ c o,c≠e->g1.get? c=some o->g7.get? c=some o:=fun c o c1 q=>up c o c1 (up4 c o c1 q)
 obtain ⟨a',b',hTO'⟩:=hTO'
 refine wpAny_bind (wpAny_letGo (wpAny_pure ⟨_,rfl,hQ g7 x y s.toks px py e7' ⟨⟨_,_,hf',all _ _ ne1.symm hz'⟩,all _ _ ne2.symm (kp _ _ D.TIz D.TITO D.TIi1 D.TIi2 hTI),⟨_,_,all _ _ ne3.symm hTO'⟩⟩ (S1.keep _ _ _ t1 fun c hc o q=>all c o ?_ q) (S2.keep _ _ _ t2 fun c hc o q=>all c o ?_ q) (all _ _ elt0 hp) (up _ _ elt T4) fun c o c0 c1 c2 c3 c4 q=>all c o c0 (kp c o c1 c2 c3 c4 q)⟩))
 ·rcases hc with r | r <;> rw [r]
  ·exact ne4.symm
  ·exact ne6.symm
 ·rcases hc with r | r <;> rw [r]
  ·exact ne5.symm
  ·exact ne7.symm
theorem yP {e:Addr} {i:Nat} {old:Value} {Q:Fin->Shared->Prop} (hh:A.handled=none) (D:ZipApart z TI TO i1 i2 l1 l2) (S1:Sub prog w i1 l1 n1 P1 st1) (S2:Sub prog w i2 l2 n2 P2 st2) (he:IsEnum s.heap e z i old) (Z:ZipSt s.heap z TI TO i1 i2)
  (h1:st1 i s.heap) (h2:st2 i s.heap) (hend:i=n1/\i<=n2∨i=n2/\i < n1)
  (hE:∀ h' x,(∀ c o,c≠z->c≠TO->c≠i1->c≠i2->s.heap.get? c=some o->h'.get? c=some o)->(∃ o,h'.get? x=some o/\o.cls=.type "StopIteration")->E (.ref x) { s with heap:=h' }) :
  wpAny (model prog w) A (Builtin.«enumerate.__next__» ⟨[.ref e],[]⟩) Q E s:=by
 obtain ⟨⟨f0,f1,hf,hz⟩,hTI,⟨a,b,hTO⟩⟩:=Z
 have hTz:s.TypeIs (.ref z) "zip" := ⟨_,hz,rfl⟩
 refine wpAny_bind (m:=field (.ref e) 2) (wpAny_field he rfl (x:=.ref z) rfl ?_)
 refine wpAny_bind (m:=Builtin.SmallTypes.nextOf (.ref z)) ?_
 unfold Builtin.SmallTypes.nextOf
 exact wpAny_bind (wpAny_callSpecial?_slot (name:=Str.ofString "__next__") hTz PySem.F.slot_zip_next (wpAny_call_entry PySem.F.slot_zip_next hTz PySem.F.entry_zip_next
  (aC8 hh D S1 S2 hz hf hTI hTO h1 h2 hend fun h' x kp hx=>hE h' x kp hx) (PySem.F.args_zip_next_1 _)))
end
def aBX (K:PySem.W.Frag) (k1 k2:Sk) (a b:Addr):It :=
 ⟨fun i H => ∃ xs ys x y, SqK k1 K H a xs /\ SqK k2 K H b ys /\ xs[i]? = some x /\ ys[i]? = some y,
  fun i H v H'=>∃ p q,H p=none/\H q=none/\q≠p/\v=.ref q/\∀ xs ys,SqK k1 K H a xs->SqK k2 K H b ys->∃ x y,xs[i]?=some x/\ys[i]?=some y/\H'=upd (upd H p (.tup [x,y])) q (.tup [.int (i:Nat),.ref p]),
  fun i H=>∃ xs ys,SqK k1 K H a xs/\SqK k2 K H b ys/\min xs.length ys.length=i⟩
theorem uZ {P:Program} {w:World} {K:PySem.W.Frag} {es:List Expr} {x1} {pos:Pos} (k1 k2:Sk) (a b e z TI TO i1 i2:Addr) (D:∀ l1 l2:Addr,(∀ c∈[e,z,TI,TO,i1,i2],l1≠c)->(∀ c∈[e,z,TI,TO,i1,i2],l2≠c)->ZipApart z TI TO i1 i2 l1 l2)
  (ne:e≠z/\e≠TI/\e≠TO/\e≠i1/\e≠i2) :
  Turn P w K (.Tuple es x1 pos) (aBX K k1 k2 a b) [e,z,TI,TO,i1,i2] e (fun i h=>(∃ old,IsEnum h e z i old)/\ZipSt h z TI TO i1 i2/\ItK k1 h i1 a i/\ItK k2 h i2 b i) where
 mem:=by simp
 obj:=fun i h st c hc=>by
  obtain ⟨⟨old,he⟩,⟨⟨f0,f1,hf,hz⟩,hTI,⟨x,y,hTO⟩⟩,h1,h2⟩:=st
  simp only [Qm,Qp,or_false] at hc
  rcases hc with rfl | rfl | rfl | rfl | rfl | rfl
  ·exact ⟨_,he,fun v q=>by cases q⟩
  ·exact ⟨_,hz,fun v q=>by cases q⟩
  ·exact ⟨_,hTI,fun v q=>by cases q⟩
  ·exact ⟨_,hTO,fun v q=>by cases q⟩
  ·exact h1.obj
  ·exact h2.obj
 keep:=fun i h h' st k=>by
  obtain ⟨⟨old,he⟩,⟨⟨f0,f1,hf,hz⟩,hTI,⟨x,y,hTO⟩⟩,h1,h2⟩:=st
  exact ⟨⟨old,k e (by simp) _ he⟩,⟨⟨f0,f1,hf,k z (by simp) _ hz⟩,k TI (by simp) _ hTI,⟨x,y,k TO (by simp) _ hTO⟩⟩,h1.at fun o e=>k i1 (by simp) o e,h2.at fun o e=>k i2 (by simp) o e⟩
 item:=by
  intro X hP hw hK hc i pins s σ H E I hf st hg
  subst hP hw hK
  obtain ⟨⟨old,he⟩,Z,h1,h2⟩:=st
  obtain ⟨xs,ys,x,y,ha,hb,hx,hy⟩:=hg
  obtain ⟨its,rv,pa⟩:=I.seqK ha
  obtain ⟨jts,rw',pb⟩:=I.seqK hb
  obtain ⟨u,hu,ru⟩:=rv.get hx
  obtain ⟨v,hv,rv2⟩:=rw'.get hy
  have na:∀ c∈[e,z,TI,TO,i1,i2],a≠c:=fun c hc'=>I.seq_ne ha (hf c hc')
  have nb:∀ c∈[e,z,TI,TO,i1,i2],b≠c:=fun c hc'=>I.seq_ne hb (hf c hc')
  have DD:=D a b na nb
  have hT:s.TypeIs (.ref e) "enumerate" := ⟨_,he,rfl⟩
  have hi1:i < its.toArray.size:=by rw [Qq]; exact (Qa.mp hu).1
  have hi2:i < jts.toArray.size:=by rw [Qq]; exact (Qa.mp hv).1
  unfold pyNext
  refine wpAny_bind (wpAny_attempt (wpAny_callSpecial?_slot (name:=Str.ofString "__next__") hT PySem.F.slot_enumerate_next (wpAny_call_entry PySem.F.slot_enumerate_next hT PySem.F.entry_enumerate_next
   (xD DD (wV k1 X.prog X.w i1 a its.toArray (na i1 (by simp))) (wV k2 X.prog X.w i2 b jts.toArray (nb i2 (by simp))) he Z ⟨h1,pa⟩ ⟨h2,pb⟩ hi1 hi2
    ⟨ne.1,ne.2.1,ne.2.2.1,ne.2.2.2.1,ne.2.2.2.2,(na e (by simp)).symm,(nb e (by simp)).symm⟩ fun h' u' v' tk pu pv he' Z' s1 s2 hp1 hp2 kp=>wpAny_pure ?_) (PySem.F.args_enumerate_next_1 _))))
  have eu:u'=u:=by
   have q:its[i]?=some u':=by simpa using pu
   rw [hu] at q
   exact (Option.some.inj q).symm
  have ev:v'=v:=by
   have q:jts[i]?=some v':=by simpa using pv
   rw [hv] at q
   exact (Option.some.inj q).symm
  subst eu ev
  refine ⟨_,rfl,wpAny_letOwnedTupleGo_enum he' fun h2' he2 sb2=>?_⟩
  have T0:s.heap.objs.size≠e:=Xy (Qj he)
  have T1:s.heap.objs.size+1≠e:=Xy (Xh (Qj he))
  have hp1':IsPair h2' s.heap.objs.size u' v':=sb2.extBut _ _ T0 hp1
  have hp2':h2'.get? (s.heap.objs.size+1)=some { cls:=.type "tuple",data:=.seq #[.int i tk,.ref s.heap.objs.size] }:=sb2.extBut _ _ T1 hp2
  have hf0:=I.hok.fresh (Qg s.heap.objs.size)
  have hf1:=I.hok.fresh (Yu s.heap.objs.size)
  have fz:=I.fpOk (Qg s.heap.objs.size) hf0
  have fz1:=I.fpOk (Yu s.heap.objs.size) hf1
  have I2:Inv X pins σ H { s with heap:=h2',toks:=s.toks+1 }:=by
   refine I.turnedL (t':=s.toks+1) [e,z,TO,i1,i2] (fun c o hc' q=>?_) (fun c hc'=>hf c ?_)
   ·simp only [Qm,Qp,or_false,not_or] at hc'
    exact sb2.extBut _ _ hc'.1 (kp c o hc'.1 hc'.2.1 hc'.2.2.1 hc'.2.2.2.1 hc'.2.2.2.2 q)
   ·simp only [Qm,Qp,or_false] at hc' ⊢
    rcases hc' with r | r | r | r | r
    ·exact .inl r
    ·exact .inr (.inl r)
    ·exact .inr (.inr (.inr (.inl r)))
    ·exact .inr (.inr (.inr (.inr (.inl r))))
    ·exact .inr (.inr (.inr (.inr (.inr r))))
  have I3:Inv X pins σ (upd H s.heap.objs.size (.tup [x,y])) { s with heap:=h2',toks:=s.toks+1 }:=by
   refine I2.trackO (show bG X.prog X.w _ _ _ (.tup [x,y]) from ⟨by show 2<=sizeLine; rw [sizeLine_eq]; decide,[u',v'],0,.cons ru (.cons rv2 .nil),hp1'⟩) hf0 fz.2.1 I.sz fz.2.2.2.2.1 fz.2.2.2.2.2
  have nn:s.heap.objs.size+1≠s.heap.objs.size:=Nat.succ_ne_self _
  have I4:Inv X pins σ (upd (upd H s.heap.objs.size (.tup [x,y])) (s.heap.objs.size+1) (.tup [.int (i:Nat),.ref s.heap.objs.size])) { s with heap:=h2',toks:=s.toks+1 }:=by
   refine I3.trackO (show bG X.prog X.w _ _ _ (.tup [.int (i:Nat),.ref s.heap.objs.size]) from ⟨by show 2<=sizeLine; rw [sizeLine_eq]; decide,[.int i tk,.ref s.heap.objs.size],0,.cons ⟨tk,rfl⟩ (.cons rfl .nil),hp2'⟩) (by rw [aD nn]; exact hf1) fz1.2.1 (Ja I.sz (Yu _)) fz1.2.2.2.2.1 fz1.2.2.2.2.2
  obtain ⟨⟨g0,g1,hg,hz'⟩,hTI',⟨a',b',hTO'⟩⟩:=Z'
  refine ⟨.ref (s.heap.objs.size+1),_,I4,rfl,⟨s.heap.objs.size,s.heap.objs.size+1,hf0,hf1,nn,rfl,fun xs' ys' ha' hb'=>?_⟩,⟨⟨_,by simpa using he2⟩,⟨⟨g0,g1,hg,sb2.extBut _ _ ne.1.symm hz'⟩,sb2.extBut _ _ ne.2.1.symm hTI',⟨_,_,sb2.extBut _ _ ne.2.2.1.symm hTO'⟩⟩,s1.1.at fun o q=>sb2.extBut _ _ ne.2.2.2.1.symm q,s2.1.at fun o q=>sb2.extBut _ _ ne.2.2.2.2.symm q⟩,fun c hc'=>?_⟩
  ·rw [I.seqK_inj ha' ha,I.seqK_inj hb' hb]
   exact ⟨x,y,hx,hy,rfl⟩
  ·have cl:c < s.heap.objs.size:=by
    obtain ⟨o,q⟩:∃ o,s.heap.get? c=some o:=by
     obtain ⟨⟨f0,f1,hf',hz⟩,hTI,⟨x',y',hTO⟩⟩:=Z
     simp only [Qm,Qp,or_false] at hc'
     rcases hc' with rfl | rfl | rfl | rfl | rfl | rfl
     ·exact ⟨_,he⟩
     ·exact ⟨_,hz⟩
     ·exact ⟨_,hTI⟩
     ·exact ⟨_,hTO⟩
     ·obtain ⟨o,q,_⟩:=h1.obj; exact ⟨o,q⟩
     ·obtain ⟨o,q,_⟩:=h2.obj; exact ⟨o,q⟩
    exact Qj q
   rw [aD (Qz (Xh cl)),aD (Qz cl)]
   exact (hf c hc').1
 done:=by
  intro X hP hw hK hc i pins s σ H E I hf st hg
  subst hP hw hK
  obtain ⟨⟨old,he⟩,Z,h1,h2⟩:=st
  obtain ⟨xs,ys,ha,hb,hmin⟩:=hg
  obtain ⟨its,rv,pa⟩:=I.seqK ha
  obtain ⟨jts,rw',pb⟩:=I.seqK hb
  have la:=rv.length
  have lb:=rw'.length
  have na:∀ c∈[e,z,TI,TO,i1,i2],a≠c:=fun c hc'=>I.seq_ne ha (hf c hc')
  have nb:∀ c∈[e,z,TI,TO,i1,i2],b≠c:=fun c hc'=>I.seq_ne hb (hf c hc')
  have DD:=D a b na nb
  have hT:s.TypeIs (.ref e) "enumerate" := ⟨_,he,rfl⟩
  unfold pyNext
  refine wpAny_bind (wpAny_attempt (wpAny_callSpecial?_slot (name:=Str.ofString "__next__") hT PySem.F.slot_enumerate_next (wpAny_call_entry PySem.F.slot_enumerate_next hT PySem.F.entry_enumerate_next
   (yP (I.ok.hd hc) DD (wV k1 X.prog X.w i1 a its.toArray (na i1 (by simp))) (wV k2 X.prog X.w i2 b jts.toArray (nb i2 (by simp))) he Z ⟨h1,pa⟩ ⟨h2,pb⟩ (by rw [Qq,Qq]; omega) fun h' x kp hx=>?_) (PySem.F.args_enumerate_next_1 _))))
  obtain ⟨oe,hoe,hce⟩:=hx
  refine wpAny_bind (wpAny_isInstance (T := "StopIteration") (b:=true) ⟨oe,hoe,hce⟩ isSubtype_stop (wpAny_pure ⟨rfl,?_⟩))
  refine I.turnedL (t':=s.toks) [z,TO,i1,i2] (fun c o hc' q=>?_) (fun c hc'=>hf c ?_)
  ·simp only [Qm,Qp,or_false,not_or] at hc'
   exact kp c o hc'.1 hc'.2.1 hc'.2.2.1 hc'.2.2.2 q
  ·simp only [Qm,Qp,or_false] at hc' ⊢
   rcases hc' with r | r | r | r
   ·exact .inr (.inl r)
   ·exact .inr (.inr (.inr (.inl r)))
   ·exact .inr (.inr (.inr (.inr (.inl r))))
   ·exact .inr (.inr (.inr (.inr (.inr r))))
 self:=fun _ _ _ _ _ st h=>by
  obtain ⟨⟨old,he⟩,_⟩:=st
  exact wpAny_pyIter_enum he h
theorem sZ (z TI TO:Addr) :
  Meets (Builtin.«enumerate.__new__» ⟨[.type "enumerate",.ref z],[]⟩) (fun _ R s=>IsZip s.heap z TI TO .none /\
   R (.ok (.ret (.ref s.heap.objs.size))) { s with heap:=s.heap.push { cls:=.type "enumerate",data:=.fields #[.none,.bool false,.ref z,rawInt 0,.none,.none] } }) :=
 .of_wp fun prog w A R s h=>by
  obtain ⟨hp,g,d,tk,os⟩:=s
  obtain ⟨hl,h⟩:=h
  have hsub:=sub_enumerate
  have hZ:IsZip (Shared.heap ⟨hp,g,d,tk,os⟩) z TI TO .none:=hl
  wp_walk using AutoSeq1.wpAny_loadPart' hZ
  refine wpAny_stack_any fun st=>wpAny_pure ?_
  split
  ·rename_i c _ _ _ _ _
   cases (c==Value.type "enumerate")
   ·wp_walk using AutoSeq1.wpAny_loadPart' hZ,wpAny_pyIter_zip hZ
    exact ⟨_,rfl,h⟩
   ·wp_walk using AutoSeq1.wpAny_loadPart' hZ,wpAny_pyIter_zip hZ
    exact ⟨_,rfl,h⟩
  ·wp_walk using AutoSeq1.wpAny_loadPart' hZ,wpAny_pyIter_zip hZ
   exact ⟨_,rfl,h⟩
section
variable {X:Cx} {es:List Expr} {x1:Nat} {tpos:Pos}
def aBY (K:PySem.W.Frag) (k1 k2:Sk) (ta:TA):TI:=fun σ H R=>ta σ H fun vs H1=>∃ a b xs ys,vs = [.ref a,.ref b]/\SqK k1 K H1 a xs/\SqK k2 K H1 b ys/\R (aBX K k1 k2 a b) H1
theorem yQ (k1 k2:Sk) {a b:Expr} {ta:TA} {p pos p' pos':Pos} (hg:Gl X "enumerate") (hm:X.mg "enumerate" = none) (hg2:Gl X "zip") (hm2:X.mg "zip" = none) (ha:PA X [a,b] ta)
  (hs:starEach [a,b] X.env = [(false,eval a X.env),(false,eval b X.env)]:=by rfl) (hs2:starEach [b] X.env = [(false,eval b X.env)]:=by rfl)
  (hs3:starEach [Expr.Call (.Name "zip" p') [a,b] [] pos'] X.env = [(false,eval (.Call (.Name "zip" p') [a,b] [] pos') X.env)]:=by rfl) :
  PI X (.Tuple es x1 tpos) (.Call (.Name "enumerate" p) [.Call (.Name "zip" p') [a,b] [] pos'] [] pos) (aBY X.K k1 k2 ta):=by
 intro pins s σ H R I h
 refine Call_ (kD (u:=.type "enumerate") I hg hm (by decide +kernel) (PyProof.Rows.callWith_type1 ?_ hs3 rfl))
 rw [hs3]
 show wpAny _ _ (spliced ((false,eval (.Call (.Name "zip" p') [a,b] [] pos') X.env)::[])) _ _ s
 refine Calls.spliced_cons ?_
 refine Call_ (kD (u:=.type "zip") I hg2 hm2 (by decide +kernel) (PyProof.Rows.callWith_type1 (thn (ha pos' pins s σ H _ I h) fun us s1 hx9=>?_) (by rw [hs,hs2]) (by rw [hs2]; rfl)))
 obtain ⟨vs,H1,I1,r1,q1⟩:=hx9
 obtain ⟨l1,l2,xs,ys,rfl,hA,hB,q⟩:=q1
 obtain ⟨u1,u2,rfl,r1',r2'⟩:=pI r1
 cases r1'
 cases r2'
 obtain ⟨its,rv,pa⟩:=I1.seqK hA
 obtain ⟨jts,rw',pb⟩:=I1.seqK hB
 refine callType_new PySem.F.called_zip (by decide) (PySem.F.typeCall_zip_2 _ _) (PySem.F.newCall_zip_2 _ _) (fun obj=>PySem.F.args_object_init_3 obj _ _) PySem.F.entry_zip_new (wW k1 k2 l1 l2 its.toArray jts.toArray) ⟨pa,pb,?_⟩
 have n1:(zh1 k1 s1.heap l1).objs.size=s1.heap.objs.size+1:=Jn ..
 have n2:(zh2 k1 k2 s1.heap l1 l2).objs.size=s1.heap.objs.size+2:=by rw [Jn,n1]
 have n3:(zh3 k1 k2 s1.heap l1 l2).objs.size=s1.heap.objs.size+3:=by rw [Jn,n2]
 have n4:(zh4 k1 k2 s1.heap l1 l2).objs.size=s1.heap.objs.size+4:=by rw [Jn,n3]
 have n5:(zh5 k1 k2 s1.heap l1 l2).objs.size=s1.heap.objs.size+5:=by rw [Jn,n4]
 have g5:IsZip (zh5 k1 k2 s1.heap l1 l2) (zh4 k1 k2 s1.heap l1 l2).objs.size (zh2 k1 k2 s1.heap l1 l2).objs.size (zh3 k1 k2 s1.heap l1 l2).objs.size .none:=Qk _ rfl
 have g4:IsPair (zh5 k1 k2 s1.heap l1 l2) (zh3 k1 k2 s1.heap l1 l2).objs.size .none .none:=Qb _ (Qk _ rfl)
 have g3:IsPair (zh5 k1 k2 s1.heap l1 l2) (zh2 k1 k2 s1.heap l1 l2).objs.size (.ref s1.heap.objs.size) (.ref (zh1 k1 s1.heap l1).objs.size):=Qb _ (Qb _ (Qk _ rfl))
 have g2:ItK k2 (zh5 k1 k2 s1.heap l1 l2) (zh1 k1 s1.heap l1).objs.size l2 0:=(ItK.new k2 (zh1 k1 s1.heap l1) l2).at fun o e=>Qb _ (Qb _ (Qb _ e))
 have g1:ItK k1 (zh5 k1 k2 s1.heap l1 l2) s1.heap.objs.size l1 0:=(ItK.new k1 s1.heap l1).at fun o e=>Qb _ (Qb _ (Qb _ (Qb _ e)))
 have kp:∀ c o,s1.heap.get? c=some o->(zh5 k1 k2 s1.heap l1 l2).get? c=some o:=fun c o e=>Qb _ (Qb _ (Qb _ (Qb _ (Qb _ e))))
 refine ⟨⟨_,g5,rfl⟩,Calls.spliced_nil ?_⟩
 rw [n1,n2,n3,n4] at *
 generalize zh5 k1 k2 s1.heap l1 l2=hz5 at *
 refine callType_new PySem.F.called_enumerate (by decide) (PySem.F.typeCall_enumerate_1 _) (PySem.F.newCall_enumerate_1 _) (fun obj=>PySem.F.args_object_init_2 obj _) PySem.F.entry_enumerate_new (sZ (s1.heap.objs.size+4) (s1.heap.objs.size+2) (s1.heap.objs.size+3)) ⟨g5,?_⟩
 have ge:IsEnum (hz5.push { cls:=.type "enumerate",data:=.fields #[.none,.bool false,.ref (s1.heap.objs.size+4),rawInt 0,.none,.none] }) hz5.objs.size (s1.heap.objs.size+4) 0 .none:=Qk _ rfl
 have kp6:∀ c o,hz5.get? c=some o->(hz5.push { cls:=.type "enumerate",data:=.fields #[.none,.bool false,.ref (s1.heap.objs.size+4),rawInt 0,.none,.none] }).get? c=some o:=fun c o e=>Qb _ e
 rw [n5] at ge
 show (∃ _,_)/\_
 rw [n5]
 generalize hz5.push { cls:=.type "enumerate",data:=.fields #[.none,.bool false,.ref (s1.heap.objs.size+4),rawInt 0,.none,.none] }=h6 at ge kp6 ⊢
 refine ⟨⟨_,ge,rfl⟩,wpAny_pyIter_enum ge ?_⟩
 have I2:Inv X pins σ H1 { s1 with heap:=h6 }:=I1.kept (t':=s1.toks) fun c o e=>kp6 c o (kp c o e)
 have d:∀ i j:Nat,i≠j->s1.heap.objs.size+i≠s1.heap.objs.size+j:=fun i j h=>by omega
 refine ⟨s1.heap.objs.size+5,[s1.heap.objs.size+5,s1.heap.objs.size+4,s1.heap.objs.size+2,s1.heap.objs.size+3,s1.heap.objs.size,s1.heap.objs.size+1],_,_,H1,rfl,I2,uZ k1 k2 l1 l2 _ _ _ _ _ _ ?_ ⟨d 5 4 (by decide),d 5 2 (by decide),d 5 3 (by decide),d 5 0 (by decide),d 5 1 (by decide)⟩,⟨⟨_,ge⟩,⟨⟨_,_,.inl rfl,kp6 _ _ g5⟩,kp6 _ _ g3,⟨_,_,kp6 _ _ g4⟩⟩,g1.at fun o e=>kp6 _ _ e,g2.at fun o e=>kp6 _ _ e⟩,fun c hc=>?_,q⟩
 ·intro m1 m2 h1 h2
  exact ⟨d 2 4 (by decide),d 3 4 (by decide),d 0 4 (by decide),d 1 4 (by decide),d 2 3 (by decide),d 2 0 (by decide),d 2 1 (by decide),d 3 0 (by decide),d 3 1 (by decide),d 0 1 (by decide),
   h1 _ (by simp),h1 _ (by simp),h1 _ (by simp),h1 _ (by simp),h2 _ (by simp),h2 _ (by simp),h2 _ (by simp),h2 _ (by simp)⟩
 ·have hc':s1.heap.objs.size<=c:=by
   simp only [Qm,Qp,or_false] at hc
   rcases hc with r | r | r | r | r | r <;> rw [r]
   all_goals first | exact Qg _ | exact Xm _ _
  exact I1.fpOk hc' (I1.hok.fresh hc')
end
theorem xE {K:PySem.W.Frag} {k1 k2:Sk} {a b:Addr} {xs ys:List V} {g:TG} {tb:TS} {D:Ends} {σ:St} {H:Hp} (Pv:Nat->St->Hp->Prop) (heq:xs.length=ys.length) (h0:Pv 0 σ H) (hl:∀ i σ H,i<=xs.length->Pv i σ H->SqK k1 K H a xs/\SqK k2 K H b ys)
  (hs:∀ i x y p q σ H,xs[i]?=some x->ys[i]?=some y->Pv i σ H->H p=none->H q=none->q≠p->g (.ref q) σ (upd (upd H p (.tup [x,y])) q (.tup [.int (i:Nat),.ref p])) fun σ2 H2=>tb { D with nx:=Pv (i+1),ct:=Pv (i+1),bk:=D.nx } σ2 H2) (hd:∀ σ H,Pv xs.length σ H->D.nx σ H) :
  ∃ W:Nat->Nat->St->Hp->Prop,(∃ m,W 0 m σ H)/\∀ i m σ H,W i m σ H ->
   ((aBX K k1 k2 a b).stop i H/\D.nx σ H)∨((aBX K k1 k2 a b).go i H/\∃ N:St->Hp->Prop,(∀ σ' H',N σ' H'->∃ m',m' < m/\W (i+1) m' σ' H')/\∀ x H',(aBX K k1 k2 a b).yld i H x H'->g x σ H' fun σ2 H2=>tb { D with nx:=N,ct:=N,bk:=D.nx } σ2 H2):=by
 refine ⟨fun i m σ H=>m=xs.length - i/\i<=xs.length/\Pv i σ H,⟨xs.length,by simp,Jk _,h0⟩,?_⟩
 rintro i m σ H ⟨rfl,hi,p⟩
 obtain ⟨q1,q2⟩:=hl i σ H hi p
 by_cases hlt:i < xs.length
 ·refine .inr ⟨⟨xs,ys,xs[i],ys[i]'(by omega),q1,q2,Qc hlt,Qc (by omega)⟩,Pv (i+1),fun σ' H' p'=>⟨xs.length - (i+1),by omega,rfl,hlt,p'⟩,fun x H' y=>?_⟩
  obtain ⟨p1,q1',hp1,hq1,hne,rfl,hy⟩:=y
  obtain ⟨x,y,h1,h2,rfl⟩:=hy xs ys q1 q2
  exact hs i x y p1 q1' σ H h1 h2 p hp1 hq1 hne
 ·have e:i=xs.length:=by omega
  subst e
  exact .inl ⟨⟨xs,ys,q1,q2,by rw [<- heq,Ya]⟩,hd σ H p⟩
end L2
namespace L2
open PySem
section
variable {X:Cx} {K:PySem.W.Frag} {pos:Pos}
theorem kIn (hK:X.K=K):OpR X (compareOp .In) (rIn K false):=by subst hK; exact oJ
end
section
variable {α β γ δ ε ζ η θ ι κ:Type}
end
end L2
namespace L2
open PySem PySem.Spec PyProof.Rows
section
variable {X:Cx}
end
section
variable {K:PySem.W.Frag} {own:Nat} {fr:List Nat} {g:TG} {te:TE} {σ:St} {H:Hp} {Qf:Hp->List V->Prop}
end
structure Tb (L:Bool) (t:SetTable) (n m:Nat):Prop where
 mask:(t.mask=7/\n<=m)∨(t.mask=31/\n<=18)
 dums:t.dummies = #[]
 plain:t.plain=true
 led:t.led=L
 size:t.place.size=n
 rise:t.place.toList.Pairwise (· < ·)
def ent (p:Int×Tok):Int×Value:=(hashInt p.1,.int p.1 p.2)
def SG (L:Bool) (h:Heap) (a:Addr) (ks:List (Int×Tok)):Prop:=∃ o ep es t,h.get? a=some o/\o.ExactSet/\o.data=.set es ep t/\es.toList.Perm (ks.map ent)/\Tb L t es.size 4
theorem SG.keep {L:Bool} {h h':Heap} {a:Addr} {l:List (Int×Tok)} (x:SG L h a l) (k:∀ o,h.get? a=some o->h'.get? a=some o):SG L h' a l:=by
 obtain ⟨o,ep,es,t,e,r⟩:=x
 exact ⟨o,ep,es,t,k o e,r⟩
section
variable {prog:Program} {w:World} {A:Around} {E:Value->Shared->Prop} {s:Shared} {L:Bool} {a:Addr}
structure KsOf (ks:List (Int×Tok)) (ns:List Int):Prop where
 nd:(ks.map (·.1)).Nodup
 mem:∀ k,k∈ks.map (·.1)↔k∈ns
 len:ks.length<=ns.length
end
section
variable {prog:Program} {w:World} {A:Around} {E:Value->Shared->Prop} {s:Shared} {S:Addr} {o:Obj} {ep:Nat} {es:Array (Int×Value)} {t:SetTable}
end
section
variable {X:Cx}
end
open PySem.AutoSeq1 (wpAny_loadPart')
abbrev aDT (h:Heap) (T:Addr) (a b c:Value):Prop:=h.get? T=some { cls:=.type "tuple",data:=.seq #[a,b,c] }
structure Zip3Apart (z TI TO i1 i2 i3 l1 l2 l3:Addr):Prop where
 TIz:TI≠z
 TOz:TO≠z
 i1z:i1≠z
 i2z:i2≠z
 i3z:i3≠z
 TITO:TI≠TO
 TIi1:TI≠i1
 TIi2:TI≠i2
 TIi3:TI≠i3
 TOi1:TO≠i1
 TOi2:TO≠i2
 TOi3:TO≠i3
 i12:i1≠i2
 i13:i1≠i3
 i23:i2≠i3
 l1:∀ c∈[z,TO,i1,i2,i3],l1≠c
 l2:∀ c∈[z,TO,i1,i2,i3],l2≠c
 l3:∀ c∈[z,TO,i1,i2,i3],l3≠c
section
variable {prog:Program} {w:World} {A:Around} {E:Value->Shared->Prop} {s:Shared} {z TI TO i1 i2 i3 l1 l2 l3:Addr} {n n2 n3:Nat} {P1 P2 P3:Nat->Value->Prop} {st1 st2 st3:Nat->Heap->Prop}
end
section
variable (k1 k2 k3:Sk) (h:Heap) (a b d:Addr)
end
section
variable {X:Cx} {es:List Expr} {x1:Nat} {tpos:Pos}
end
section
variable {K:PySem.W.Frag} {own:Nat} {fr:List Nat} {g:TG} {te:TE} {σ:St} {H:Hp} {Qf:Hp->List V->Prop}
end
section
variable {X:Cx} {K:PySem.W.Frag}
end
theorem vA {prog:Program} {w:World} {A:Around} {R:Result->Shared->Prop} {s:Shared} {kx vx target iter:Expr} {ifs:List Expr} {scope:Scope} {pos:Pos} {it:Value} {D:Addr} {env:Env} (I:Nat->Shared->Prop)
  (turn:∀ n s,I n s->wpAny (model prog w) A (pyNext it) (fun r s₁=>match r with
   | none=>R (.ok .next) s₁
   | some v=>wpAny (model prog w) A (letOwnedTupleGo target it v) (fun _ s₁'=>wpAny (model prog w) A (assign target env v) (fun _ s₂ =>
     wpAny (model prog w) A (forIn ifs true fun c r=>if r=true then do let ok<-isTrue c env (eval c env); pure (ForInStep.yield ok) else pure (ForInStep.yield r)) (fun ok s₃ =>
      if ok=true then wpAny (model prog w) A (eval kx env) (fun kv s₄=>wpAny (model prog w) A (eval vx env) (fun vv s₅ =>
       wpAny (model prog w) A (dictSet D kv vv) (fun _ s₆=>∃ m,m < n/\I m s₆) (fun _ _=>False) s₅) (fun _ _=>False) s₄) (fun _ _=>False) s₃
      else ∃ m,m < n/\I m s₃) (fun _ _=>False) s₂) (fun _ _=>False) s₁') (fun _ _=>False) s₁) (fun _ _=>False) s)
  (n:Nat) (h:I n s) :
  codeAny (model prog w) A (.compLoop (.DictComp kx vx [⟨target,iter,ifs,0⟩] scope pos) 0 it (.ref D) env) R s:=by
 refine codeAny_loop rfl I (fun n s hI=>?_) n h
 show wpAny _ A ((compTurn (.DictComp kx vx [⟨target,iter,ifs,0⟩] scope pos) 0 it (.ref D) env).onRaise (fun x=>do noteFrame x env; theTreesLotGoes x)) _ _ s
 refine wpAny_noted ?_
 rw [compTurn_dict]
 refine wpAny_bind (wpAny_standAt (wpAny_bind (wpAny_mono (turn n s hI) (fun r s₁ h₁=>?_) fun _ _ h'=>h'.elim)))
 cases r with
 | none=>exact wpAny_pure h₁
 | some v =>
  refine wpAny_bind (wpAny_mono h₁ (fun _ s₁' h₁'=>?_) fun _ _ h'=>h'.elim)
  refine wpAny_bind (wpAny_mono h₁' (fun _ s₂ h₂=>wpAny_bind (wpAny_mono h₂ (fun ok s₃ h₃=>?_) fun _ _ h'=>h'.elim)) fun _ _ h'=>h'.elim)
  cases ok with
  | false=>exact wpAny_pure ⟨rfl,h₃⟩
  | true =>
   exact wpAny_bind (wpAny_bind (wpAny_mono h₃ (fun kv s₄ h₄=>wpAny_bind (wpAny_holding (wpAny_mono h₄ (fun vv s₅ h₅=>wpAny_bind (wpAny_standAt (wpAny_holding (wpAny_mono h₅ (fun _ s₆ h₆=>wpAny_pure ⟨rfl,h₆⟩) fun _ _ h'=>h'.elim)))) fun _ _ h'=>h'.elim))) fun _ _ h'=>h'.elim))
def aEv (own:Nat) (fr:List Nat) (wi:TI) (g:TG) (tt:TT) (tk tv:TE):TE:=fun σ H Q=>wi σ H fun J H1=>∃ W:Nat->Nat->List (Key×V)->St->Hp->Prop,(∃ m,W 0 m [] (blk own fr σ) H1)/\∀ i m ys σ' H,W i m ys σ' H ->
 (J.stop i H/\∀ p,H p=none->Q (.ref p) (upd H p (.dK ys))) ∨
 (J.go i H/\∃ N:List (Key×V)->St->Hp->Prop,(∀ ys' σ2 H2,N ys' σ2 H2->∃ m',m' < m/\W (i+1) m' ys' σ2 H2) /\
  ∀ x H',J.yld i H x H'->g x σ' H' fun σ2 H2=>tt σ2 H2 fun b H3=>if b=true then tk σ2 H3 fun x H4=>tv σ2 H4 fun y H5=>∃ k,x=kV k/\ys.length < sizeLine/\N (cB ys k y) σ2 H5 else N ys σ2 H3)
section
variable {X:Cx} {scope:Scope} {own frn:List Str} {fr:List Nat} {kx vx tg iter:Expr} {ifs:List Expr} {pos:Pos} {wi:TI} {g:TG} {tt:TT} {tk tv:TE}
theorem Inv.trackD {pins:List (Addr×Obj)} {σ:St} {H:Hp} {s:Shared} {D:Addr} {ys:List (Key×V)} {its:List (Key×Value)} (I:Inv X pins σ H s) (hD:s.heap.DictOf (aW X.prog X.w) D its) (hv:KV ys its) (hz:ys.length<=sizeLine) (hm:(D==sysModules)=false) (hn:H D=none) (hL:D≠X.env.locals)
  (h1:X.s₀.heap.objs.size<=D) (h2:∀ x c,X.env.cells.lookup x=some c->c≠D) (h3:∀ p∈X.pn++pins,p.1≠D):Inv X pins σ (upd H D (.dK ys)) s:=by
 have ne:∀ b u,H b=some u->b≠D:=fun b u e z=>by rw [z,hn] at e; cases e
 refine I.step (g':=s.gens) (d':=s.drawn) (t':=s.toks) (h':=s.heap) (ch:=[D]) (fun b hb=>?_) (fun b o _ _ _ e _=>e) (fun b o _ _ _ e _=>⟨o.slots,e⟩) (fun b o hc _ n=>?_) (fun b o _ e=>⟨o,e⟩)
  (fun b xs e=>by rw [aD (ne b _ e)]; exact e) (fun b o u e=>by rw [aD (ne b _ e)]; exact e) (fun b ps e=>⟨#[],by rw [aD (ne b _ e),e]; simp⟩) (fun _ h=>h) (fun b u e=>?_) I.bare
 ·have e:b=D:=by simpa using hb
  subst e
  exact ⟨.inr h1,hL,h2,h3⟩
 ·rw [aD (by simpa using hc)]; exact n
 ·by_cases hb:b=D
  ·subst hb
   rw [aB] at e; cases e
   exact ⟨hz,hm,its,hv,hD⟩
  ·rw [aD hb] at e
   exact (I.hok b u e).stay (fun c v _ q=>q) (fun c q=>by rw [aD (ne c _ q)]; exact q) fun c xs q=>by rw [aD (ne c _ q)]; exact q
theorem xF {pins:List (Addr×Obj)} {σ:St} {H2:Hp} {s2:Shared} {it:Addr} {fp:List Addr} {tn:Nat->Heap->Prop} {J:It} {RR:Value->Addr->Result->Shared->Prop} {E:Value->Shared->Prop} {Q:Hp->List (Key×V)->Prop}
  (S:CompOk X scope own fr frn) (hc:X.calm=true) (I2:Inv X pins σ H2 s2) (T:Turn X.prog X.w X.K tg J fp it tn) (st2:tn 0 s2.heap) (f2:∀ b∈fp,mL X pins H2 b)
  (hg:∀ C s0 H0 fp,PG (aU X scope (own++frn) C s0 H0 fp) tg g) (ht:∀ C s0 H0 fp,PF (aU X scope (own++frn) C s0 H0 fp) ifs tt) (hk:∀ C s0 H0 fp,PE (aU X scope (own++frn) C s0 H0 fp) kx tk) (he:∀ C s0 H0 fp,PE (aU X scope (own++frn) C s0 H0 fp) vx tv)
  (w:∃ W:Nat->Nat->List (Key×V)->St->Hp->Prop,(∃ m,W 0 m [] (blk own.length fr σ) H2)/\∀ i m ys σ' H,W i m ys σ' H ->
   (J.stop i H/\Q H ys) ∨
   (J.go i H/\∃ N:List (Key×V)->St->Hp->Prop,(∀ ys' σ2 H2,N ys' σ2 H2->∃ m',m' < m/\W (i+1) m' ys' σ2 H2) /\
    ∀ x H',J.yld i H x H'->g x σ' H' fun σ2 H2=>tt σ2 H2 fun b H3=>if b=true then tk σ2 H3 fun x H4=>tv σ2 H4 fun y H5=>∃ k,x=kV k/\ys.length < sizeLine/\N (cB ys k y) σ2 H5 else N ys σ2 H3))
  (hRR:∀ (C D:Addr) (s':Shared) (H':Hp) (ys:List (Key×V)) (its:List (Key×Value)) (m:Str->Option Value),s2.heap.objs.size<=C->s2.heap.objs.size<=D->D≠C->s'.heap.Ns C m->H' C=none->H' D=none->s'.heap.DictOf (aW X.prog X.w) D its->KV ys its->ys.length<=sizeLine ->
   Inv X pins σ H' s'->Q H' ys->RR (.ref D) C (.ok .next) s') :
  wpAny (model X.prog X.w) X.A newDict (fun acc s₃=>wpAny (model X.prog X.w) X.A (newFunctionEnv scope X.env.globals (eA X.env scope.names []) [] X.env.qual none .none (some X.env)) (fun cenv s₄ =>
   codeAny (model X.prog X.w) X.A (.compStart (.DictComp kx vx [⟨tg,iter,ifs,0⟩] scope pos) 0 (.ref it) acc { cenv with scope:=relabel scope X.env }) (RR acc cenv.locals) s₄) E s₃) E s2:=by
 obtain ⟨p1,p2,p3,p4,p5,p6,p7⟩:=S.parts
 obtain ⟨W,⟨m0,w0⟩,turn⟩:=w
 refine wpAny_newObj_type (wpAny_newFunctionEnv p2 (by intro y hy; simp at hy) (fun h₁ hns₁ hsb₁=>?_) p1)
 dsimp only at hns₁ hsb₁ ⊢
 generalize hH2:s2.heap.push { cls:=.type "dict",dict:=none,data:=.dict #[] }=HD at hns₁ hsb₁ ⊢
 have hCs:HD.objs.size=s2.heap.objs.size+1:=by rw [<- hH2,Jn]
 have hDC:s2.heap.objs.size≠HD.objs.size:=by omega
 have hCle:s2.heap.objs.size<=HD.objs.size:=by omega
 have below:∀ b,b < s2.heap.objs.size->b≠HD.objs.size/\b≠s2.heap.objs.size:=fun b hb=>⟨by omega,by omega⟩
 have old:∀ b o,s2.heap.get? b=some o->h₁.get? b=some o:=fun b o e=>hsb₁.extBut b o (below b (Qj e)).1 (Qb _ (hH2 ▸ Qb _ e))
 have hacc:h₁.get? s2.heap.objs.size=some { cls:=.type "dict",dict:=none,data:=.dict #[] }:=hsb₁.extBut _ _ hDC (Qb _ (hH2 ▸ Qk _ rfl))
 have hdict:h₁.DictOf (aW X.prog X.w) s2.heap.objs.size []:=Heap.DictOf.at (hH2 ▸ Heap.DictOf.new s2.heap:HD.DictOf (aW X.prog X.w) s2.heap.objs.size []) fun o e=>hsb₁.extBut _ _ hDC (Qb _ e)
 have flt:∀ b∈fp,b < s2.heap.objs.size:=fun b hb=>by
  obtain ⟨o,e,_⟩:=T.obj _ _ st2 b hb
  exact Qj e
 generalize hDg:s2.heap.objs.size=D at *
 generalize hCg:HD.objs.size=C at *
 have st3:tn 0 h₁:=T.keep _ _ _ st2 fun b _ o e=>old b o e
 -- facts of the block
 have clsub:∀ x c,(eA X.env scope.names []).lookup x=some c->X.env.cells.lookup x=some c:=fun x c e=>by
  rcases jA _ _ _ _ (gS e) with q | q
  ·cases q
  ·exact q
 have cD:∀ x c,(eA X.env scope.names []).lookup x=some c->c≠D:=fun x c e z=>by
  obtain ⟨v,q⟩:=I2.cell x c (clsub x c e)
  exact Je _ (Qn q.lt (by rw [hDg,z]; exact Qg _))
 have loop:∀ s₃:Shared,s₃={ s2 with heap:=h₁,toks:=s2.toks+([]:List (Str×Value)).length } ->
   codeAny (model X.prog X.w) X.A (.compLoop (.DictComp kx vx [⟨tg,iter,ifs,0⟩] scope pos) 0 (.ref it) (.ref D) (compEnvC scope (eA X.env scope.names []) C X.env)) (RR (.ref D) C) s₃:=by
  rintro s₃ rfl
  have I3:Inv (aU X scope (own++frn) C s2 H2 fp) [(D,_)] (blk own.length fr σ) H2 { s2 with heap:=h₁,toks:=s2.toks+([]:List (Str×Value)).length } :=
   wQ (m:=fun _=>none) I2 S f2 (by rw [hDg]; exact flt) (by rw [hDg]; exact hCle) (hns₁:h₁.Ns C _) old (by rw [hDg]; exact Qg _) hDC hacc (fun v z=>by cases z)
  have stat:∀ {H':Hp} {pl:List (Addr×Obj)},(∀ p∈pl,p.1=D)->(∀ b∈fp,H' b=none)->∀ b∈fp,mL (aU X scope (own++frn) C s2 H2 fp) pl H' b:=fun {H' pl} hpl hn b hb=>by
   refine ⟨hn b hb,(below b (flt b hb)).1,fun z=>?_,.inl hb,fun x c e=>(f2 b hb).2.2.2.2.1 x c (clsub x c e),fun p hp=>?_⟩
   ·have z':b∈frs X.stack:=z
    rcases Qm.mp (I2.stkSub b z') with e | e
    ·exact (f2 b hb).2.1 e
    ·exact (f2 b hb).2.2.1 e
   ·have hp':p∈pl:=by simpa [aU] using hp
    rw [hpl p hp']
    exact Ne.symm (below b (flt b hb)).2
  refine vA (env:=compEnvC scope (eA X.env scope.names []) C X.env) (fun n s'=>∃ i σ' H' ys its o,Inv (aU X scope (own++frn) C s2 H2 fp) [(D,o)] σ' H' s'/\s'.heap.DictOf (aW X.prog X.w) D its/\KV ys its/\ys.length<=sizeLine/\tn i s'.heap/\(∀ b∈fp,H' b=none)/\W i n ys σ' H') ?_ m0
   ⟨0,_,H2,[],[],_,I3,hdict,.nil,Jk _,st3,fun b hb=>(f2 b hb).1,w0⟩
  rintro n s5 ⟨i,σ5,H5,ys,its,o,I5,pl5,v5,z5,st5,fr5,w5⟩
  have one:∀ {o:Obj},∀ p∈[(D,o)],p.1=D:=fun p hp=>by
   have e:=Qs.mp hp
   rw [e]
  rcases turn i n ys σ5 H5 w5 with ⟨stop,qn⟩ | ⟨go,N,hN,step⟩
  ·refine wpAny_mono (T.done (aU X scope (own++frn) C s2 H2 fp) rfl rfl rfl hc i _ s5 σ5 H5 (fun _ _=>False) I5 (stat one fr5) st5 stop) (fun r s6 hx9=>?_) fun _ _ z=>z
   obtain ⟨hr,I6⟩:=hx9
   subst hr
   obtain ⟨m6,hn6,_⟩:=I6.loc
   have p6:=I6.pin (D,o) (by simp [aU])
   have p5':=I5.pin (D,o) (by simp [aU])
   have pl6:s6.heap.DictOf (aW X.prog X.w) D its:=pl5.at fun o' e=>p6.1.trans (p5'.1.symm.trans e)
   have IX:Inv X pins σ H5 s6:=I2.call' (ch:=fp) I6.os I6.base I6.hok I6.bare fun b hb=>⟨(f2 b hb).2.2.2.1,(f2 b hb).2.1,(f2 b hb).2.2.2.2.1,(f2 b hb).2.2.2.2.2⟩
   exact hRR C D s6 H5 ys its m6 hCle (Qg _) hDC hn6 I6.free p6.2.1 pl6 v5 z5 IX qn
  ·refine wpAny_mono (T.item (aU X scope (own++frn) C s2 H2 fp) rfl rfl rfl hc i _ s5 σ5 H5 (fun _ _=>False) I5 (stat one fr5) st5 go) (fun r s6 hx9=>?_) fun _ _ z=>z
   obtain ⟨u,hr,h6⟩:=hx9
   subst hr
   refine wpAny_mono h6 (fun _ s7 hx9=>?_) fun _ _ z=>z
   obtain ⟨x,H7,I7,r7,y7,st7,fr7⟩:=hx9
   have I7':=I7.pinned (stat one fr7) (T.obj _ _ st7)
   refine wpAny_mono (hg C s2 H2 fp _ s7 σ5 H7 x u _ I7' r7 (step x H7 y7)) (fun _ s8 hx9=>?_) fun _ _ z=>z
   obtain ⟨σ8,H8,I8,q8⟩:=hx9
   refine wpAny_mono (ht C s2 H2 fp _ s8 σ8 H8 _ I8 q8) (fun b s9 hx9=>?_) fun _ _ z=>z
   obtain ⟨H9,I9,q9⟩:=hx9
   -- what stands of the iterator and of the gathered list behind the tests,behind the item
   have keepT:∀ {H':Hp} {s':Shared} {σ':St},Inv (aU X scope (own++frn) C s2 H2 fp) ([(D,o)]++oH fp s7.heap) σ' H' s'->tn (i+1) s'.heap/\(∀ b∈fp,H' b=none)/\s'.heap.DictOf (aW X.prog X.w) D its/\H' D=none:=fun {H' s' σ'} I'=>by
    refine ⟨T.keep _ _ _ st7 fun b hb o e=>(I'.pin (b,o) (Jh _ (Jh _ (gC hb e)))).1,fun b hb=>?_,?_,?_⟩
    ·obtain ⟨o,e,d⟩:=T.obj _ _ st7 b hb
     exact (I'.pin (b,o) (Jh _ (Jh _ (gC hb e)))).2.1
    ·have p':=I'.pin (D,o) (by simp [aU])
     have p5':=I5.pin (D,o) (by simp [aU])
     exact pl5.at fun o' e=>p'.1.trans (p5'.1.symm.trans e)
    ·exact (I'.pin (D,o) (by simp [aU])).2.1
   cases b with
   | false =>
    rw [if_neg Qu] at q9
    rw [if_neg Qu]
    obtain ⟨m',hm,w'⟩:=hN ys σ8 H9 q9
    obtain ⟨t9,fr9,pl9,_⟩:=keepT I9
    exact ⟨m',hm,i+1,σ8,H9,ys,its,o,I9.unpinned,pl9,v5,z5,t9,fr9,w'⟩
   | true =>
    rw [if_pos rfl] at q9
    rw [if_pos rfl]
    refine wpAny_mono (hk C s2 H2 fp _ s9 σ8 H9 _ I9 q9) (fun kv s9' hx9=>?_) fun _ _ z=>z
    obtain ⟨xv,H9',I9',r9,q9'⟩:=hx9
    refine wpAny_mono (he C s2 H2 fp _ s9' σ8 H9' _ I9' q9') (fun y s10 hx9=>?_) fun _ _ z=>z
    obtain ⟨yv,H10,I10,r10,k10,ek,lt10,q10⟩:=hx9
    subst ek
    obtain ⟨t10,fr10,pl10,hD10⟩:=keepT I10
    have hl:=v5.length
    refine wpAny_dictSet_pairs (knd:=aW X.prog X.w) (mD r9) pl10 (fun h11 pl11 sb11=>?_) (by rw [<- hl]; exact Js lt10)
    obtain ⟨m',hm,w'⟩:=hN _ σ8 H10 q10
    have I10':Inv (aU X scope (own++frn) C s2 H2 fp) [] σ8 H10 s10:=I10.pins_of fun p hp=>by cases hp
    have I11:Inv (aU X scope (own++frn) C s2 H2 fp) [] σ8 H10 { s10 with heap:=h11,toks:=s10.toks+1 } :=
     I10'.turned (t':=s10.toks+1) (it:=D) (fun b o hb e=>(sb11.2 b hb).trans e) hD10 hDC (.inr (by show s2.heap.objs.size<=D; rw [hDg]; exact Qg _)) cD (fun p hp=>by simp [aU] at hp)
    obtain ⟨o11,es11,ep11,ho11,hc11,hd11,_⟩:=id pl11
    have DfsX:D∉frs X.stack:=fun z=>by
     rcases Qm.mp (I2.stkSub D z) with e | e
     ·exact Je _ (Qn I2.lt (by rw [hDg,e]; exact Qg _))
     ·exact I2.nofs (by rw [hDg]; exact Qg _) e
    refine ⟨m',hm,i+1,σ8,H10,cB ys k10 yv,stored its k10 y,o11,I11.pins_of fun p hp=>?_,pl11,v5.put k10 r10,Ja (cU _ _ _) lt10,T.keep _ _ _ t10 fun b hb o e=>(sb11.2 b (below b (flt b hb)).2).trans e,fr10,w'⟩
    have e:=Qs.mp hp
    subst e
    exact ⟨ho11,hD10,hDC,DfsX,fun v z=>by rw [hd11] at z; cases z⟩
 exact codeAny_compStart_dict (loop _ rfl) (T.self X.A 0 _ _ _ st3 (loop _ rfl))
theorem xG (S:CompOk X scope own fr frn) (hc:X.calm=true) (hi:PI X tg iter wi) (hg:∀ C s0 H0 fp,PG (aU X scope (own++frn) C s0 H0 fp) tg g) (ht:∀ C s0 H0 fp,PF (aU X scope (own++frn) C s0 H0 fp) ifs tt)
  (hk:∀ C s0 H0 fp,PE (aU X scope (own++frn) C s0 H0 fp) kx tk) (he:∀ C s0 H0 fp,PE (aU X scope (own++frn) C s0 H0 fp) vx tv) (hs:∀ x,foldedSetIterable iter X.env x=pure x:=by intro _; rfl) :
  PE X (.DictComp kx vx [⟨tg,iter,ifs,0⟩] scope pos) (aEv own.length fr wi g tt tk tv):=by
 intro pins s σ H Q I h
 obtain ⟨p1,p2,p3,p4,p5,p6,p7⟩:=S.parts
 rw [arm_eval_DictComp]
 refine wpAny_comprehension_free (use:=none) rfl hs (S.clo I) p1 p3 (thn (hi pins s σ H _ I h) fun v s1 h1=>thn h1 fun itv s2 h2=>?_)
 obtain ⟨it,fp,tn,J,H2,e,I2,T,st2,f2,hw⟩:=h2
 subst e
 refine xF (RR:=fun acc C=>compPost (model X.prog X.w) X.A X.xe none (EP X pins σ Q) acc C) (Q:=fun H ys=>∀ p,H p=none->Q (.ref p) (upd H p (.dK ys))) S hc I2 T st2 f2 hg ht hk he hw ?_
 intro C D s' H' ys its m hC hD hDC hns hHC hHD pl v z IX q
 have cne:∀ a,s2.heap.objs.size<=a->∀ x c,X.env.cells.lookup x=some c->c≠a:=fun a ha x c e z=>by
  obtain ⟨v,w⟩:=I2.cell x c e
  exact Je _ (Qn w.lt (by rw [z]; exact ha))
 have pne:∀ a,s2.heap.objs.size<=a->∀ p∈X.pn++pins,p.1≠a:=fun a ha p hp z=>Je _ (Qn (Qj (I2.pin p hp).1) (by rw [z]; exact ha))
 have lne:∀ a,s2.heap.objs.size<=a->a≠X.env.locals:=fun a ha z=>Je _ (Qn I2.lt (by rw [<- z]; exact ha))
 refine ⟨m,hns,fun h' hs'=>⟨.ref D,upd H' D (.dK ys),?_,rfl,q D hHD⟩⟩
 have IT:Inv X pins σ (upd H' D (.dK ys)) s':=IX.trackD pl v z (beq_eq_false_iff_ne.mpr fun e=>Je _ (Qn I2.big (by rw [<- e]; exact hD))) hHD (lne D hD) (Ja I2.sz hD) (cne D hD) (pne D hD)
 exact IT.turned (t':=s'.toks) (it:=C) (fun b o hb e=>(hs'.2 b hb).trans e) (by rw [aD (Ne.symm hDC)]; exact hHC) (lne C hC) (.inr (Ja I2.sz hC)) (cne C hC) (pne C hC)
end
def tUp (t:TE):TE:=fun σ H Q=>∃ P:V->Hp->Prop,t σ H P/\∀ x H1,P x H1->Q x H1
def aEw (H0:Hp) (t:TE):TE:=fun σ H Q=>t σ H fun x H'=>∃ a o kvs,H' a=some (.frz o (.dK kvs))/\NF H0 a/\Q x (upd H' a (.dK kvs))
def aEx (own:Nat) (fr:List Nat) (td:TE) (g:TG) (tt:TT) (te:TE):TE:=fun σ H Q=>td σ H fun x H1=>∃ a kvs,x=.ref a/\H1 a=some (.dK kvs)/\∀ o:Obj,∃ W:Nat->Nat->List V->St->Hp->Prop,(∃ m,W 0 m [] (blk own fr σ) (upd H1 a (.frz o (.dK kvs))))/\∀ i m ys σ' H,W i m ys σ' H ->
 ((Itd a o kvs).stop i H/\∀ p,H p=none->Q (.ref p) (upd (upd H p (.lst ys)) a (.dK kvs))) ∨
 ((Itd a o kvs).go i H/\∃ N:List V->St->Hp->Prop,(∀ ys' σ2 H2,N ys' σ2 H2->∃ m',m' < m/\W (i+1) m' ys' σ2 H2) /\
  ∀ x H',(Itd a o kvs).yld i H x H'->g x σ' H' fun σ2 H2=>tt σ2 H2 fun b H3=>if b=true then te σ2 H3 fun y H4=>ys.length < sizeLine/\N (ys++[y]) σ2 H4 else N ys σ2 H3)
section
variable {X:Cx} {scope:Scope} {own frn:List Str} {fr:List Nat} {e elt tg d:Expr} {ifs:List Expr} {pos:Pos} {t td:TE} {g:TG} {tt:TT} {te:TE}
theorem aBZ (h:PE X e t):PE X e (tUp t):=by
 intro pins s σ H Q I q
 obtain ⟨P,h1,h2⟩:=q
 refine thn (h pins s σ H P I h1) fun v s1 hx=>?_
 obtain ⟨x,H1,I1,r1,q1⟩:=hx
 exact ⟨x,H1,I1,r1,h2 _ _ q1⟩
theorem vB (h:PE X e t):PE X e (aEw X.H₀ t):=by
 intro pins s σ H Q I q
 refine thn (h pins s σ H _ I q) fun v s1 hx=>?_
 obtain ⟨x,H1,I1,r1,a,o,kvs,ea,nf,k⟩:=hx
 exact ⟨x,_,I1.thaw ea nf,r1,k⟩
theorem kL (S:CompOk X scope own fr frn) (hc:X.calm=true) (hi:PE X d td) (hg:∀ C s0 H0 fp,PG (aU X scope (own++frn) C s0 H0 fp) tg g) (ht:∀ C s0 H0 fp,PF (aU X scope (own++frn) C s0 H0 fp) ifs tt)
  (he:∀ C s0 H0 fp,PE (aU X scope (own++frn) C s0 H0 fp) elt te) (hs:∀ x,foldedSetIterable d X.env x=pure x:=by intro _; rfl) :
  PE X (.ListComp elt [⟨tg,d,ifs,0⟩] scope pos) (aEx own.length fr td g tt te):=by
 intro pins s σ H Q I h
 refine vB (cZ S hc (lF (aBZ hi)) hg ht he hs) pins s σ H Q I ⟨_,h,fun x H1 q=>?_⟩
 obtain ⟨a,kvs,ex,hx,k⟩:=q
 refine ⟨a,kvs,ex,hx,fun o nf=>?_⟩
 obtain ⟨W,w0,wk⟩:=k o
 refine ⟨W,w0,fun i m ys σ' H' w=>?_⟩
 rcases wk i m ys σ' H' w with ⟨st,q⟩ | z
 ·refine .inl ⟨st,fun p hp=>⟨a,o,kvs,?_,nf,q p hp⟩⟩
  rw [aD (fun z=>by rw [<- z,st.1] at hp; cases hp)]
  exact st.1
 ·exact .inr z
end
theorem iD {a:Addr} {o:Obj} {kvs:List (Key×V)} {own:Nat} {fr:List Nat} {g:TG} {tt:TT} {te:TE} {σ:St} {H:Hp} {Q:Hp->List V->Prop} (SH:St->Prop) (Pv:Nat->List V->Hp->Prop) (hn:kvs.length<=sizeLine) (hσ:SH (blk own fr σ)) (h0:Pv 0 [] H) (hlen:∀ i ys H,Pv i ys H->ys.length<=i) (hl:∀ i ys H,Pv i ys H->H a=some (.frz o (.dK kvs)))
  (hs:∀ i ys σ p H,kvs[i]?=some p->SH σ->Pv i ys H->ys.length < sizeLine->g (kV p.1) σ H fun σ2 H2=>tt σ2 H2 fun b H3=>if b=true then te σ2 H3 fun y H4=>ys.length < sizeLine/\SH σ2/\Pv (i+1) (ys++[y]) H4 else SH σ2/\Pv (i+1) ys H3)
  (hd:∀ ys H,Pv kvs.length ys H->Q H ys) :
  ∃ W:Nat->Nat->List V->St->Hp->Prop,(∃ m,W 0 m [] (blk own fr σ) H)/\∀ i m ys σ' H,W i m ys σ' H ->
   ((Itd a o kvs).stop i H/\Q H ys) ∨
   ((Itd a o kvs).go i H/\∃ N:List V->St->Hp->Prop,(∀ ys' σ2 H2,N ys' σ2 H2->∃ m',m' < m/\W (i+1) m' ys' σ2 H2) /\
    ∀ x H',(Itd a o kvs).yld i H x H'->g x σ' H' fun σ2 H2=>tt σ2 H2 fun b H3=>if b=true then te σ2 H3 fun y H4=>ys.length < sizeLine/\N (ys++[y]) σ2 H4 else N ys σ2 H3):=by
 refine jT kvs.length hn SH Pv hσ h0 hlen (fun ys H p=>⟨hl _ _ _ p,rfl⟩) (fun i ys H hi p=>⟨hl _ _ _ p,hi⟩) (fun i ys σ x H H' hi sh p y hz=>?_) hd
 obtain ⟨rfl,v,hv,rfl⟩:=y
 exact hs i ys σ v _ hv sh p hz
theorem aAQ {K:PySem.W.Frag} {a:Addr} {xs:List V} {own:Nat} {fr:List Nat} {g:TG} {tt:TT} {tk tv:TE} {σ:St} {H:Hp} {Q:Hp->List (Key×V)->Prop} (SH:St->Prop) (Pv:Nat->List (Key×V)->Hp->Prop) (hn:xs.length<=sizeLine) (hσ:SH (blk own fr σ)) (h0:Pv 0 [] H) (hlen:∀ i ys H,Pv i ys H->ys.length<=i) (hl:∀ i ys H,Pv i ys H->SqT K H a xs)
  (hs:∀ i ys σ x H,xs[i]?=some x->SH σ->Pv i ys H->ys.length < sizeLine->g x σ H fun σ2 H2=>tt σ2 H2 fun b H3=>if b=true then tk σ2 H3 fun x H4=>tv σ2 H4 fun y H5=>∃ k,x=kV k/\ys.length < sizeLine/\SH σ2/\Pv (i+1) (cB ys k y) H5 else SH σ2/\Pv (i+1) ys H3)
  (hd:∀ ys H,Pv xs.length ys H->Q H ys) :
  ∃ W:Nat->Nat->List (Key×V)->St->Hp->Prop,(∃ m,W 0 m [] (blk own fr σ) H)/\∀ i m ys σ' H,W i m ys σ' H ->
   ((Itt K a).stop i H/\Q H ys) ∨
   ((Itt K a).go i H/\∃ N:List (Key×V)->St->Hp->Prop,(∀ ys' σ2 H2,N ys' σ2 H2->∃ m',m' < m/\W (i+1) m' ys' σ2 H2) /\
    ∀ x H',(Itt K a).yld i H x H'->g x σ' H' fun σ2 H2=>tt σ2 H2 fun b H3=>if b=true then tk σ2 H3 fun x H4=>tv σ2 H4 fun y H5=>∃ k,x=kV k/\ys.length < sizeLine/\N (cB ys k y) σ2 H5 else N ys σ2 H3):=by
 refine ⟨fun i m ys σ' H=>m=xs.length - i/\i<=xs.length/\SH σ'/\Pv i ys H,⟨xs.length,by simp,Jk _,hσ,h0⟩,?_⟩
 rintro i m ys σ' H ⟨rfl,hi,sh,p⟩
 by_cases hlt:i < xs.length
 ·refine .inr ⟨⟨xs,xs[i],hl _ _ _ p,Qc hlt⟩,fun ys' σ2 H2=>SH σ2/\Pv (i+1) ys' H2,fun ys' σ2 H2 q=>⟨xs.length - (i+1),by omega,rfl,hlt,q.1,q.2⟩,fun x H' y=>?_⟩
  obtain ⟨e,y⟩:=y
  subst e
  exact hs i ys σ' x _ (y xs (hl _ _ _ p)) sh p (by have:=hlen i ys _ p; omega)
 ·have e:i=xs.length:=by omega
  subst e
  exact .inl ⟨⟨xs,hl _ _ _ p,Qg _⟩,hd ys H p⟩
section
variable {X:Cx}
end
section
variable {P:Program} {w:World} {A:Around} {E:Value->Shared->Prop} {s:Shared} {it d:Addr} {i ep:Nat} {es:Array DictEntry} {ob:Obj}
end
section
variable {X:Cx} {pins:List (Addr×Obj)} {σ:St} {H:Hp} {s:Shared} {a:Addr}
end
theorem KT.length {H:Hp} {kvs:List (List Key×V)} {xs:List (List Key×Addr×Value)} (r:KT H kvs xs):kvs.length=xs.length:=by
 induction r with
 | nil=>rfl
 | cons _ _ ih=>rw [Jf,Jf,ih]
theorem KT.at {H:Hp} {kvs:List (List Key×V)} {xs:List (List Key×Addr×Value)} (r:KT H kvs xs):∀ {i:Nat} {p:List Key×V} {x:List Key×Addr×Value},kvs[i]?=some p->xs[i]?=some x->p.1=x.1/\H x.2.1=some (.tup (p.1.map kV)):=by
 induction r with
 | nil=>intro i p x h; simp at h
 | cons h1 _ ih =>
  intro i p x hp hx
  cases i with
  | zero =>
   simp only [Zr,Option.some.injEq] at hp hx
   subst hp hx
   exact ⟨h1.1,h1.2.1⟩
  | succ j =>
   simp only [Zs] at hp hx
   exact ih hp hx
section
variable {X:Cx} {tg:Expr}
end
section
variable {X:Cx} {pos:Pos} {ek ev:Expr} {tk tv:TE}
end
abbrev KE:=List Key×Addr×V
def Kp (ys:List KE) (H:Hp):Prop:=∀ e∈ys,H e.2.1=some (.tup (e.1.map kV))
def KY (ys:List KE) (its:List (List Key×Addr×Value)):Prop:=Paired (fun (p:KE) (q:List Key×Addr×Value)=>p.1=q.1/\p.2.1=q.2.1/\bB p.2.2 q.2.2) ys its
def DH (P:Program) (w:World) (h:Heap) (D:Addr) (its:List (List Key×Addr×Value)):Prop:=∃ o es ep,h.get? D=some o/\o.ExactDict/\o.data=.dict es ep/\es.toList=its.map (entryOfKey (tupleKind (aW P w)))/\(its.map (·.1)).Nodup
theorem Kp.wr {ys:List KE} {H:Hp} {D:Addr} {o:HO} (h:Kp ys H) (n:H D=none):Kp ys (upd H D o):=fun e he=>by
 rw [aD (fun z=>by have q:=h e he; rw [z,n] at q; cases q)]
 exact h e he
theorem KY.length {ys:List KE} {its:List (List Key×Addr×Value)} (r:KY ys its):ys.length=its.length:=by
 induction r with
 | nil=>rfl
 | cons _ _ ih=>rw [Jf,Jf,ih]
theorem KY.snoc {ys:List KE} {its:List (List Key×Addr×Value)} {k:List Key} {b:Addr} {y:V} {v:Value} (r:KY ys its) (h:bB y v):KY (ys++[(k,b,y)]) (its++[(k,b,v)]):=by
 induction r with
 | nil=>exact .cons ⟨rfl,rfl,h⟩ .nil
 | cons h1 _ ih=>exact .cons h1 ih
theorem KY.keys {ys:List KE} {its:List (List Key×Addr×Value)} (r:KY ys its):ys.map (·.1)=its.map (·.1):=by
 induction r with
 | nil=>rfl
 | cons h1 _ ih=>rw [Qw,Qw,ih,h1.1]
theorem DH.at {P:Program} {w:World} {h h':Heap} {D:Addr} {its:List (List Key×Addr×Value)} (d:DH P w h D its) (k:∀ o,h.get? D=some o->h'.get? D=some o):DH P w h' D its:=let ⟨o,es,ep,h1,r⟩:=d; ⟨o,es,ep,k _ h1,r⟩
theorem DH.of {P:Program} {w:World} {h:Heap} {D:Addr} {its:List (List Key×Addr×Value)} (d:h.DictOfH (tupleKind (aW P w)) D its):DH P w h D its:=let ⟨o,es,ep,h1,h2,h3,h4,_,h5⟩:=d; ⟨o,es,ep,h1,h2,h3,h4,h5⟩
section
variable {X:Cx} {scope:Scope} {own frn:List Str} {fr:List Nat} {kx vx tg iter:Expr} {ifs:List Expr} {pos:Pos} {wi:TI} {g:TG} {tt:TT} {tk tv:TE}
end
section
variable {X:Cx} {scope:Scope} {own frn:List Str} {fr:List Nat} {e elt kx vx tg d:Expr} {ifs:List Expr} {pos:Pos} {t td:TE} {g:TG} {tt:TT} {te tk tv:TE}
end
section
variable {P:Program} {w:World} {A:Around} {E:Value->Shared->Prop} {s:Shared} {it d v:Addr} {i ep:Nat} {es:Array DictEntry} {ob:Obj}
end
theorem KT.vals {H:Hp} {kvs:List (List Key×V)} {xs:List (List Key×Addr×Value)} (r:KT H kvs xs):∀ {i:Nat} {p:List Key×V} {x:List Key×Addr×Value},kvs[i]?=some p->xs[i]?=some x->bB p.2 x.2.2:=by
 induction r with
 | nil=>intro i p x h; simp at h
 | cons h1 _ ih =>
  intro i p x hp hx
  cases i with
  | zero =>
   simp only [Zr,Option.some.injEq] at hp hx
   subst hp hx
   exact h1.2.2
  | succ j =>
   simp only [Zs] at hp hx
   exact ih hp hx
section
variable {X:Cx} {o:Expr} {to:TE} {p apos cpos pos:Pos}
end
structure KsU (ks:List (Int×Tok)) (ns:List Int):Prop where
 nd:(ks.map (·.1)).Nodup
 mem:∀ k,k∈ks.map (·.1)↔k∈ns
theorem zY:∀ {l m:List Int},l.Nodup->(∀ x∈l,x∈m)->l.length<=m.length
 | [],m,_,_=>Jk _
 | x::l,m,h,k=>by
  obtain ⟨h1,h2⟩:=Qx.mp h
  have hx:=k x (Qr ..)
  have hl:=zY (l:=l) (m:=m.erase x) h2 fun y hy=>(Wi (a:=y) (b:=x) (fun e=>h1 (by rw [<- e]; exact hy))).mpr (k y (Qo _ hy))
  have he:=Zo hx
  have hp:0 < m.length:=Zy hx
  rw [Jf]
  omega
theorem KsU.few {ks:List (Int×Tok)} {ns U:List Int} (h:KsU ks ns) (hU:U.length<=11) (k:∀ n∈ns,n∈U):ks.length<=11:=by
 have:=zY h.nd fun x hx=>k x ((h.mem x).mp hx)
 rw [Qd] at this
 omega
theorem KsU.old {ks:List (Int×Tok)} {ns:List Int} {k:Int} (h:KsU ks ns) (q:∃ p∈ks,p.1=k):KsU ks (ns++[k]):=⟨h.nd,fun x=>by
 rw [h.mem,Jo,Qs]
 refine ⟨.inl,fun z=>?_⟩
 rcases z with z | z
 ·exact z
 ·obtain ⟨p,hp,e⟩:=q
  rw [z,<- e]
  exact (h.mem _).mp (Jm.mpr ⟨p,hp,rfl⟩)⟩
theorem KsU.new {ks:List (Int×Tok)} {ns:List Int} {k:Int} {t:Tok} (h:KsU ks ns) (q:∀ p∈ks,p.1≠k):KsU ((k,t)::ks) (ns++[k]):=⟨by
 rw [Qw]
 refine Qx.mpr ⟨fun m=>?_,h.nd⟩
 obtain ⟨p,hp,e⟩:=Jm.mp m
 exact q p hp e,fun x=>by
 rw [Qw,Qm,h.mem,Jo,Qs]
 exact Or.comm⟩
section
variable {prog:Program} {w:World} {A:Around} {E:Value->Shared->Prop} {s:Shared} {L:Bool} {a:Addr}
end
section
variable {X:Cx} {scope:Scope} {own frn:List Str} {fr:List Nat} {elt tg iter:Expr} {ifs:List Expr} {pos:Pos} {wi:TI} {g:TG} {tt:TT} {te:TE}
end
section
variable {X:Cx} {scope:Scope} {own frn:List Str} {fr:List Nat} {elt tg d:Expr} {ifs:List Expr} {pos:Pos} {td:TE} {g:TG} {tt:TT} {te:TE}
end
section
variable {X:Cx} {K:PySem.W.Frag}
end
section
variable {X:Cx}
end
section
variable {X:Cx} {K:PySem.W.Frag}
end
section
variable {X:Cx}
end
structure ZSt (k1 k2:Sk) (z TI TO i1 i2 l1 l2:Addr) (i:Nat) (h:Heap):Prop where
 zp:∃ f0 f1,F0 f0/\eO h z TI TO f0 f1
 ti:IsPair h TI (.ref i1) (.ref i2)
 to:∃ x y,IsPair h TO x y
 a1:ItK k1 h i1 l1 i
 a2:ItK k2 h i2 l2 i
theorem ZSt.keep {k1 k2:Sk} {z TI TO i1 i2 l1 l2:Addr} {i:Nat} {h h':Heap} (st:ZSt k1 k2 z TI TO i1 i2 l1 l2 i h) (k:∀ c∈[z,TI,TO,i1,i2],∀ o,h.get? c=some o->h'.get? c=some o):ZSt k1 k2 z TI TO i1 i2 l1 l2 i h':=by
 obtain ⟨⟨f0,f1,hf,hz⟩,hTI,⟨x,y,hTO⟩,h1,h2⟩:=st
 exact ⟨⟨f0,f1,hf,k z (by simp) _ hz⟩,k TI (by simp) _ hTI,⟨x,y,k TO (by simp) _ hTO⟩,h1.at fun o e=>k i1 (by simp) o e,h2.at fun o e=>k i2 (by simp) o e⟩
theorem ZSt.lt {k1 k2:Sk} {z TI TO i1 i2 l1 l2:Addr} {i:Nat} {h:Heap} (st:ZSt k1 k2 z TI TO i1 i2 l1 l2 i h):∀ c∈[z,TI,TO,i1,i2],c < h.objs.size:=by
 intro c hc
 obtain ⟨⟨f0,f1,hf,hz⟩,hTI,⟨x,y,hTO⟩,h1,h2⟩:=st
 simp only [Qm,Qp,or_false] at hc
 rcases hc with rfl | rfl | rfl | rfl | rfl
 ·exact Qj hz
 ·exact Qj hTI
 ·exact Qj hTO
 ·obtain ⟨o,e,_⟩:=h1.obj; exact Qj e
 ·obtain ⟨o,e,_⟩:=h2.obj; exact Qj e
def Prs (H:Hp) (xs ys zs:List V):Prop:=∀ (j:Nat) (z:V),zs[j]?=some z->∃ q x y,z=.ref q/\xs[j]?=some x/\ys[j]?=some y/\H q=some (.tup [x,y])
def aEy (S:Addr) (H H':Hp):Prop:=∀ b o,b≠S->H b=some o->H' b=some o
theorem aEy.sq {k:Sk} {K:PySem.W.Frag} {S l:Addr} {H H':Hp} {xs:List V} (e:aEy S H H') (n:l≠S) (h:SqK k K H l xs):SqK k K H' l xs:=by
 cases k
 ·rcases h with (h | ⟨o,h⟩) | h
  ·exact .inl (.inl (e _ _ n h))
  ·exact .inl (.inr ⟨o,e _ _ n h⟩)
  ·exact .inr h
 ·rcases h with (h | ⟨o,h⟩) | h
  ·exact .inl (.inl (e _ _ n h))
  ·exact .inl (.inr ⟨o,e _ _ n h⟩)
  ·exact .inr h
theorem Prs.keep {S:Addr} {H H':Hp} {xs ys zs ws:List V} (h:Prs H xs ys zs) (hS:H S=some (.lst ws)) (e:aEy S H H'):Prs H' xs ys zs:=fun j z hz=>by
 obtain ⟨q,x,y,h1,h2,h3,h4⟩:=h j z hz
 exact ⟨q,x,y,h1,h2,h3,e _ _ (fun c=>by rw [c,hS] at h4; cases h4) h4⟩
section
variable {X:Cx} {pins:List (Addr×Obj)} {σ:St}
end
section
variable {X:Cx}
end
def aC9 (ys:List KE) (k:List Key):Bool:=ys.any fun e=>decide (e.1=k)
def aDa (ys:List KE) (k:List Key) (b:Addr) (y:V):List KE:=if aC9 ys k=true then ys.map (fun e=>if e.1=k then (e.1,e.2.1,y) else e) else ys++[(k,b,y)]
theorem aB0 {ys:List KE} {k:List Key}:aC9 ys k=true↔k∈ys.map (·.1):=by
 unfold aC9
 rw [Xn,Jm]
 exact ⟨fun ⟨e,h1,h2⟩=>⟨e,h1,of_decide_eq_true h2⟩,fun ⟨e,h1,h2⟩=>⟨e,h1,decide_eq_true h2⟩⟩
theorem Kp.put {ys:List KE} {H:Hp} {k:List Key} {b:Addr} {y:V} (h:Kp ys H) (hb:H b=some (.tup (k.map kV))):Kp (aDa ys k b y) H:=by
 unfold aDa
 split
 ·intro e he
  obtain ⟨e0,h0,rfl⟩:=Jm.mp he
  have:=h e0 h0
  split
  ·exact this
  ·exact this
 ·intro e he
  rcases Jo.mp he with he | he
  ·exact h e he
  ·rw [Qs.mp he]; exact hb
theorem KY.has {ys:List KE} {its:List (List Key×Addr×Value)} {k:List Key} (r:KY ys its):aC9 ys k=(atKey its k).isSome:=by
 rw [Xi,aB0,r.keys]
 unfold atKey
 rw [Zz,List.find?_isSome,Jm]
 exact ⟨fun ⟨e,h1,h2⟩=>⟨e,h1,decide_eq_true h2⟩,fun ⟨e,h1,h2⟩=>⟨e,h1,of_decide_eq_true h2⟩⟩
theorem KY.mapE {ys:List KE} {its:List (List Key×Addr×Value)} {k:List Key} {y:V} {v:Value} (r:KY ys its) (h:bB y v):KY (ys.map (fun e=>if e.1=k then (e.1,e.2.1,y) else e)) (its.map (putAt k v)):=by
 induction r with
 | nil=>exact .nil
 | @cons p q ps qs h1 _ ih =>
  refine .cons ?_ ih
  by_cases hk:p.1=k
  ·have e1:(if p.1=k then (p.1,p.2.1,y) else p)=(p.1,p.2.1,y):=if_pos hk
   have e2:putAt k v q=(q.1,q.2.1,v):=if_pos (h1.1 ▸ hk)
   show (if p.1=k then (p.1,p.2.1,y) else p).1=(putAt k v q).1/\(if p.1=k then (p.1,p.2.1,y) else p).2.1=(putAt k v q).2.1/\bB (if p.1=k then (p.1,p.2.1,y) else p).2.2 (putAt k v q).2.2
   rw [e1,e2]
   exact ⟨h1.1,h1.2.1,h⟩
  ·have e1:(if p.1=k then (p.1,p.2.1,y) else p)=p:=if_neg hk
   have e2:putAt k v q=q:=if_neg (fun z=>hk (h1.1.trans z))
   show (if p.1=k then (p.1,p.2.1,y) else p).1=(putAt k v q).1/\(if p.1=k then (p.1,p.2.1,y) else p).2.1=(putAt k v q).2.1/\bB (if p.1=k then (p.1,p.2.1,y) else p).2.2 (putAt k v q).2.2
   rw [e1,e2]
   exact h1
theorem KY.stored {ys:List KE} {its:List (List Key×Addr×Value)} {k:List Key} {b:Addr} {y:V} {v:Value} (r:KY ys its) (h:bB y v):KY (aDa ys k b y) (storedH its k b v):=by
 unfold aDa storedH
 rw [r.has]
 split
 ·exact r.mapE h
 ·exact r.snoc h
section
variable {X:Cx} {scope:Scope} {own frn:List Str} {fr:List Nat} {kx vx tg iter:Expr} {ifs:List Expr} {pos:Pos} {wi:TI} {g:TG} {tt:TT} {tk tv:TE}
end
section
variable {K:PySem.W.Frag} {own:Nat} {fr:List Nat} {g g2:TG} {te:TE} {wi2:TI} {σ:St} {H:Hp} {Q:Hp->List V->Prop}
end
section
variable {X:Cx} {scope:Scope} {own frn:List Str} {fr:List Nat} {elt tg iter tg2 iter2:Expr} {pos:Pos} {wi wi2:TI} {g g2:TG} {te:TE}
end
theorem vC:typeLookup (.type "list") "keys" = pure none:=by rw [typeLookup_type,builtinLookup_eq_fast]; kernel_rfl
theorem kM:entryFor table "dict.update.loop" = some Builtin.«dict.update.loop»:=entryFor_of_fast (by kernel_rfl)
theorem fP:plainId "dict.update.loop" = true:=by decide +kernel
theorem getAttr?_miss_list {prog:Program} {w:World} {A:Around} {E:Value->Shared->Prop} {s:Shared} {a:Addr} {xs:Array Value} {k:Nat} {name:Str} {Q:Option Value->Shared->Prop}
  (hx:s.heap.get? a=some { cls:=.type "list",dict:=none,data:=.seq xs k,slots:=#[] }) (hmiss:typeLookup (.type "list") name=pure none) (hname:(["__module__", "__name__", "__qualname__", "__doc__", "__annotations__"]:List Str).contains name=false) (hA:A.handled=none)
  (h:∀ h' tk,(∀ b o,s.heap.get? b=some o->h'.get? b=some o)->Q none { s with heap:=h',toks:=tk }) (hsz:name.length+100<=sizeLine:=by size_fits) :
  wpAny (model prog w) A (getAttr? (.ref a) name) Q E s:=by
 obtain ⟨hp,g,d,tk,os⟩:=s
 have hT:∀ tk',(⟨hp,g,d,tk',os⟩:Shared).TypeIs (.ref a) "list" := fun _=>⟨_,hx,rfl⟩
 have f1:=sub_AttributeError
 have f3:=F.slot_list_getattribute.lookup
 have f4:=F.slot_list_getattribute.bind (.ref a)
 have f5:=am_list_getattr_none
 unfold getAttr? getAttrBy? getAttrBy
 repeat (any_goals (first | assumption | exact hT _ | ((with_reducible show wpAny _ _ (call (Value.builtin "list.__getattribute__") _ _) _ _ _); refine call_meets F.slot_list_getattribute (hT _) am_entry_list_getattribute (F.args_list_getattribute_2 _ _) (meets_getattribute_miss_list a xs k #[] name _ hmiss hname hsz) ⟨hx,hA,fun h' tk' e hx'=>?_⟩) | wp_step))
 obtain ⟨t',u',he⟩:=hx'.there
 show wpAny _ _ (getattributeRaised _ _ _ _ _ _ _) _ _ _
 unfold getattributeRaised
 repeat (any_goals (first | assumption | wp_step))
 exact h _ _ hx'.keeps
section
variable {X:Cx} {pins:List (Addr×Obj)} {σ:St}
end
section
variable {prog:Program} {w:World} {A:Around} {R:Result->Shared->Prop} {s:Shared} {kx vx tg iter tg2 iter2:Expr} {scope:Scope} {pos:Pos} {it:Value} {D:Addr} {env:Env}
end
section
variable {X:Cx} {scope:Scope} {own frn:List Str} {fr:List Nat} {kx vx tg iter tg2 iter2:Expr} {pos:Pos} {wi wi2:TI} {g g2:TG} {tk tv:TE}
end
section
variable {K:PySem.W.Frag} {own:Nat} {fr:List Nat} {g:TG} {wi2:TI} {g2:TG} {tk tv:TE} {σ:St} {H:Hp} {Q:Hp->List (Key×V)->Prop}
end
section
variable {prog:Program} {w:World} {A:Around} {E:Value->Shared->Prop} {s:Shared} {z TI TO i1 i2 i3 l1 l2 l3:Addr} {n n2 n3:Nat} {P1 P2 P3:Nat->Value->Prop} {st1 st2 st3:Nat->Heap->Prop}
end
structure ZSt3 (k1 k2 k3:Sk) (z TI TO i1 i2 i3 l1 l2 l3:Addr) (i:Nat) (h:Heap):Prop where
 zp:∃ f0 f1,F0 f0/\eO h z TI TO f0 f1
 ti:aDT h TI (.ref i1) (.ref i2) (.ref i3)
 to:∃ x y v,aDT h TO x y v
 a1:ItK k1 h i1 l1 i
 a2:ItK k2 h i2 l2 i
 a3:ItK k3 h i3 l3 i
theorem ZSt3.keep {k1 k2 k3:Sk} {z TI TO i1 i2 i3 l1 l2 l3:Addr} {i:Nat} {h h':Heap} (st:ZSt3 k1 k2 k3 z TI TO i1 i2 i3 l1 l2 l3 i h) (k:∀ c∈[z,TI,TO,i1,i2,i3],∀ o,h.get? c=some o->h'.get? c=some o):ZSt3 k1 k2 k3 z TI TO i1 i2 i3 l1 l2 l3 i h':=by
 obtain ⟨⟨f0,f1,hf,hz⟩,hTI,⟨x,y,v,hTO⟩,h1,h2,h3⟩:=st
 exact ⟨⟨f0,f1,hf,k z (by simp) _ hz⟩,k TI (by simp) _ hTI,⟨x,y,v,k TO (by simp) _ hTO⟩,h1.at fun o e=>k i1 (by simp) o e,h2.at fun o e=>k i2 (by simp) o e,h3.at fun o e=>k i3 (by simp) o e⟩
theorem ZSt3.lt {k1 k2 k3:Sk} {z TI TO i1 i2 i3 l1 l2 l3:Addr} {i:Nat} {h:Heap} (st:ZSt3 k1 k2 k3 z TI TO i1 i2 i3 l1 l2 l3 i h):∀ c∈[z,TI,TO,i1,i2,i3],c < h.objs.size:=by
 intro c hc
 obtain ⟨⟨f0,f1,hf,hz⟩,hTI,⟨x,y,v,hTO⟩,h1,h2,h3⟩:=st
 simp only [Qm,Qp,or_false] at hc
 rcases hc with rfl | rfl | rfl | rfl | rfl | rfl
 ·exact Qj hz
 ·exact Qj hTI
 ·exact Qj hTO
 ·obtain ⟨o,e,_⟩:=h1.obj; exact Qj e
 ·obtain ⟨o,e,_⟩:=h2.obj; exact Qj e
 ·obtain ⟨o,e,_⟩:=h3.obj; exact Qj e
section
variable {X:Cx} {pins:List (Addr×Obj)} {σ:St}
end
section
variable {prog:Program} {w:World} {A:Around} {E:Value->Shared->Prop} {s:Shared}
end
section
variable {X:Cx} {pins:List (Addr×Obj)} {σ:St} {H:Hp} {s:Shared}
theorem Inv.again {t':Nat} {h':Heap} {m:Str->Option Value} (I:Inv X pins σ H s) (hn:s.heap.Ns X.env.locals m) (hn':h'.Ns X.env.locals m) (k:∀ b u,b≠X.env.locals->s.heap.get? b=some u->h'.get? b=some u):Inv X pins σ H { s with heap:=h',toks:=t' }:=by
 obtain ⟨m0,hn0,hl⟩:=id I.loc
 have cne:=I.cne
 have em:∀ x,m0 x=m x:=fun x=>by
  obtain ⟨o1,es1,ep1,a1,b1,_,d1⟩:=hn0
  obtain ⟨o2,es2,ep2,a2,b2,_,d2⟩:=hn
  rw [a1] at a2; cases a2
  rw [b1] at b2; cases b2
  rw [<- d1,<- d2]
 have tr:HOk X.prog X.w H h':=fun b ob e=>by
  refine (I.hok b ob e).stay (fun c w' hc q=>k c w' ?_ q) (fun _ q=>q) fun _ _ q=>q
  rintro rfl
  rcases hc with rfl | hc
  ·rw [I.free] at e; cases e
  ·rw [I.free] at hc; cases hc
 refine ⟨I.ok,I.os,I.bare,⟨fun b o e n hb hx=>?_,fun b o e n hb hx=>?_,I.base.free,fun b o e hx=>?_,I.base.tups,I.base.frzs,I.base.tbls⟩,⟨_,hn',fun j y v' e1 e2 e3=>?_⟩,fun y c e=>?_,I.free,I.freeC,fun p hp=>?_,tr,I.len⟩
 ·exact k b _ (Qz (Qn (Qj e) I.ok.above)) (I.base.keep b o e n hb hx)
 ·obtain ⟨sl,e1⟩:=I.base.slot b o e n hb hx
  exact ⟨sl,k b _ (Qz (Qn (Qj e) I.ok.above)) e1⟩
 ·obtain ⟨o',e1⟩:=I.base.there b o e hx
  exact ⟨o',k b _ (Qz (Qn (Qj e) I.ok.above)) e1⟩
 ·obtain ⟨u',r',q⟩:=hl j y v' e1 e2 e3
  refine ⟨u',r',?_⟩
  rcases q with ⟨kk,e⟩ | ⟨kk,c,e,o,z1,z2⟩
  ·exact .inl ⟨kk,by rw [<- em]; exact e⟩
  ·exact .inr ⟨kk,c,e,o,k c _ (cne y c e) z1,z2⟩
 ·obtain ⟨w',o,z1,z2⟩:=I.cell y c e
  exact ⟨w',o,k c _ (cne y c e) z1,z2⟩
 ·obtain ⟨e,n,ne,nf,d⟩:=I.pin p hp
  exact ⟨k _ _ ne e,n,ne,nf,d⟩
theorem bG.there {P:Program} {w:World} {H:Hp} {h:Heap} {a:Addr} {o:HO} (x:bG P w H h a o):∃ u,h.get? a=some u:=by
 cases o with
 | lst xs=>obtain ⟨_,_,_,_,e⟩:=x; exact ⟨_,e⟩
 | tup xs=>obtain ⟨_,_,_,_,e⟩:=x; exact ⟨_,e⟩
 | dK kvs=>obtain ⟨_,_,_,_,o,_,_,e,_⟩:=x; exact ⟨_,e⟩
 | dT kvs=>obtain ⟨_,_,_,_,o,_,_,e,_⟩:=x; exact ⟨_,e⟩
 | set S n=>obtain ⟨o,_,_,_,e,_⟩:=x; exact ⟨_,e⟩
 | ins C dx fs=>obtain ⟨_,_,_,e,_⟩:=x; exact ⟨_,e⟩
 | own y=>obtain ⟨_,e⟩:=x; exact ⟨_,e⟩
 | xd fs=>obtain ⟨_,⟨_,_,_,e,_⟩,_⟩:=x; exact ⟨_,e⟩
 | rng lo hi=>obtain ⟨_,_,_,e⟩:=x; exact ⟨_,e⟩
 | frz ob u=>obtain ⟨e,_⟩:=x; exact ⟨_,e⟩
 | tbl ps=>exact ⟨_,(show h.get? a=some _ from x)⟩
 | tab q=>obtain ⟨_,e,_⟩:=x; exact ⟨_,e⟩
 | met f y=>exact ⟨_,(show h.get? a=some _ from x)⟩
 | ext φ=>obtain ⟨p,⟨o,e⟩,st⟩:=x; exact ⟨_,e⟩
end
section
variable {X:Cx}
end
end L2
namespace L2
open PySem PySem.Spec PyProof.Rows PyProof.V
def yR:List (TE×TE)->St->Hp->(List (V×V)->Hp->Prop)->Prop
 | [],_,H,Q=>Q [] H
 | (tk,tv)::r,σ,H,Q=>tk σ H fun x H1=>tv σ H1 fun y H2=>yR r σ H2 fun ps H3=>Q ((x,y)::ps) H3
abbrev VV:List (V×V)->List (Value×Value)->Prop:=Paired fun p q=>bB p.1 q.1/\bB p.2 q.2
def PPs (X:Cx) (pos:Pos) (keys:List (Option Expr)) (values:List Expr) (trs:List (TE×TE)):Prop :=
 ∀ (pins:List (Addr×Obj)) (s:Shared) (σ:St) (H:Hp) (Q:List (V×V)->Hp->Prop),Inv X pins σ H s->yR trs σ H Q ->
  wpAny (model X.prog X.w) X.A (evalPairs (pairTrees keys values X.env pos)) (fun vs s'=>∃ ps H',Inv X pins σ H' s'/\VV ps vs/\Q ps H') X.xe s
theorem zZ {X:Cx} {pos:Pos}:PPs X pos [] [] []:=fun pins s σ H Q I h=>pairTrees_nil_walk ⟨[],H,I,.nil,h⟩
theorem kN {X:Cx} {pos:Pos} {k v:Expr} {ks:List (Option Expr)} {vs:List Expr} {tk tv:TE} {trs:List (TE×TE)} (hk:PE X k tk) (hv:PE X v tv) (hr:PPs X pos ks vs trs) :
  PPs X pos (some k::ks) (v::vs) ((tk,tv)::trs):=fun pins s σ H Q I h =>
 pairTrees_cons_walk (thn (hk pins s σ H _ I h) fun u s1 ⟨x,H1,I1,rx,q1⟩=>thn (hv pins s1 σ H1 _ I1 q1) fun w2 s2 ⟨y,H2,I2,ry,q2⟩ =>
  thn (hr pins s2 σ H2 _ I2 q2) fun ws s3 ⟨ps,H3,I3,rel,q3⟩=>⟨(x,y)::ps,H3,I3,.cons ⟨rx,ry⟩ rel,q3⟩)
def iJ (kvs more:List (Key×V)):List (Key×V):=more.foldl (fun acc kv=>cB acc kv.1 kv.2) kvs
theorem KV.merge:∀ {more:List (Key×V)} {rs:List (Key×Value)} {kvs:List (Key×V)} {vs:List (Key×Value)},KV more rs->KV kvs vs->KV (iJ kvs more) (merged vs rs):=by
 intro more rs kvs vs r
 unfold KV at r
 induction r generalizing kvs vs with
 | nil=>intro q; exact q
 | @cons p q ps qs h t ih =>
  intro r0
  have e:KV (cB kvs p.1 p.2) (stored vs q.1 q.2):=by
   have:=r0.put p.1 h.2
   rw [<- h.1]; exact this
  exact ih e
theorem mG:∀ (more kvs:List (Key×V)),(iJ kvs more).length<=kvs.length+more.length
 | [],kvs=>by show kvs.length<=kvs.length+0; omega
 | p::r,kvs=>by
  have h1:=mG r (cB kvs p.1 p.2)
  have h2:=cU kvs p.1 p.2
  show (iJ (cB kvs p.1 p.2) r).length<=_
  rw [Jf]; omega
theorem rJ {P:Program} {w:World}:∀ {kvs:List (Key×V)} {ws:List (Value×Value)},VV (kvs.map fun kv=>(kV kv.1,kv.2)) ws->∃ rs,Carries (aW P w) ws rs/\KV kvs rs
 | [],_,r=>by rw [Xz] at r; cases r; exact ⟨[],True.intro,.nil⟩
 | p::kvs,_,r=>by
  rw [Qw] at r
  cases r with
  | @cons a b as bs h t =>
   obtain ⟨rs,c,q⟩:=rJ (P:=P) (w:=w) t
   obtain ⟨b1,b2⟩:=b
   exact ⟨(p.1,b2)::rs,⟨mD h.1,rfl,c⟩,.cons ⟨rfl,h.2⟩ q⟩
def aDU (trs:List (TE×TE)):TE:=fun σ H Q=>∀ p,H p=none->yR trs σ (upd H p (.dK [])) fun ps H2=>H2 p=some (.dK [])/\∃ kvs:List (Key×V),ps=kvs.map (fun kv=>(kV kv.1,kv.2))/\kvs.length<=15/\Q (.ref p) (upd H2 p (.dK (iJ [] kvs)))
theorem aAa {X:Cx} {pos:Pos} {keys:List (Option Expr)} {values:List Expr} {trs:List (TE×TE)} (h:PPs X pos keys values trs) (hall:keys.all (·.isSome)=true) (hl:keys.length=values.length) (h0:keys≠[])
  (h15:keys.length<=15):PE X (.Dict keys values pos) (aDU trs):=by
 intro pins s σ H Q I q
 have hn:=I.hok.fresh (Qg s.heap.objs.size)
 have I1:=I.laid (a:=s.heap.objs.size) (o:=.dK []) (h':=s.heap.push { cls:=.type "dict",data:=.dict #[] }) (t':=s.toks) (fun _ _ q=>Qb _ q) (Qg _) (nK s.heap I.big)
 refine wpAny_Dict_walk (knd:=aW X.prog X.w) hall hl h0 h15 (thn (h pins _ σ _ _ I1 (q _ hn)) fun ws s2 hx9=>?_)
 obtain ⟨ps,H2,I2,rel,e,kvs,ep,lk,q2⟩:=hx9
 subst ep
 obtain ⟨rs,c,rk⟩:=rJ (P:=X.prog) (w:=X.w) rel
 obtain ⟨z,hd,vs0,r0,dd⟩:=wZ I2.hok e
 cases r0
 refine ⟨rs,c,dd,fun h' dd' hs=>⟨.ref s.heap.objs.size,_,?_,rfl,q2⟩⟩
 have hz:(iJ [] kvs).length<=sizeLine:=by
  have h1:=mG kvs []
  rw [Wc] at h1
  rw [sizeLine_eq]; omega
 have he:∃ q,h'.get? s.heap.objs.size=some q:=let ⟨q,_,_,hq,_⟩:=dd'; ⟨q,hq⟩
 exact jU I2 (by rw [e]; exact True.intro) hs he (mU hz hd (rk.merge .nil) dd')
structure M1 (X:Cx) (o:Expr) (m:Str) (apos:Pos) (e:Expr) (cpos:Pos):Prop where
 base:attributeBase o m X.env (eval o X.env)=eval o X.env
 few:((backTo cpos (starEach [e] X.env)).all (fun x=>!x.1) && (backToKw cpos (keywordEach [] X.env)).all (fun x=>x.1.isSome)
  && decide (([e]:List Expr).length+([]:List Keyword).length+(if ([]:List Keyword).isEmpty then 0 else 1) < 30))=true
 line:(apos.endLine==cpos.line)=true
 trees:backTo cpos (starEach [e] X.env) = [(false,eval e X.env)]
structure M2 (X:Cx) (o:Expr) (m:Str) (apos:Pos) (e f:Expr) (cpos:Pos):Prop where
 base:attributeBase o m X.env (eval o X.env)=eval o X.env
 few:((backTo cpos (starEach [e,f] X.env)).all (fun x=>!x.1) && (backToKw cpos (keywordEach [] X.env)).all (fun x=>x.1.isSome)
  && decide (([e,f]:List Expr).length+([]:List Keyword).length+(if ([]:List Keyword).isEmpty then 0 else 1) < 30))=true
 line:(apos.endLine==cpos.line)=true
 trees:backTo cpos (starEach [e,f] X.env) = [(false,eval e X.env),(false,eval f X.env)]
def IsD (H:Hp) (a:Addr):Prop:=(∃ kvs,Rd H a (.dK kvs))∨∃ kvs,Rd H a (.dT kvs)
theorem aEz {X:Cx} {pins:List (Addr×Obj)} {σ:St} {H:Hp} {s:Shared} {a:Addr} (I:Inv X pins σ H s) (d:IsD H a) :
  s.TypeIs (.ref a) "dict" /\ (∀ b,Value.ref a=.ref b->∃ ob,s.heap.get? b=some ob/\ob.dict=none)/\(a==sysModules)=false:=by
 rcases d with ⟨kvs,e⟩ | ⟨kvs,e⟩
 ·obtain ⟨_,hd,vs,_,dd⟩:=iI I.hok e
  refine ⟨dd.typeIs,fun b q=>?_,hd⟩
  cases q
  obtain ⟨ob,_,_,h1,h2,_⟩:=dd
  exact ⟨ob,h1,h2.2.1⟩
 ·obtain ⟨_,hd,xs,_,dd⟩:=tR I.hok e
  refine ⟨dd.typeIs,fun b q=>?_,hd⟩
  cases q
  obtain ⟨ob,_,_,h1,h2,_⟩:=dd
  exact ⟨ob,h1,h2.2.1⟩
section
variable {X:Cx} {pins:List (Addr×Obj)} {σ:St} {H:Hp} {s:Shared} {a:Addr} {y d:V} {u r:Value} {o:Option V} {A:Around} {E:Value->Shared->Prop}
end
def aEA (td ty:TE):TE:=fun σ H Q=>td σ H fun x H1=>∃ a,x=.ref a/\IsD H1 a/\ty σ H1 fun y H2=>∃ kvs k v,H2 a=some (.dK kvs)/\y=kV k/\bJ kvs k=some v/\Q v (upd H2 a (.dK (nJ kvs k)))
section
variable {X:Cx} {o e f:Expr} {apos cpos:Pos} {td ty tx:TE}
theorem rK (ho:PE X o td) (he:PE X e ty) (m:M1 X o "pop" apos e cpos):PE X (.Call (.Attribute o "pop" apos) [e] [] cpos) (aEA td ty):=by
 intro pins s σ H Q I h
 refine wpAny_Call_method m.base m.few m.line PySem.F.plainAttrs_dict PySem.F.slot_dict_pop PySem.F.type_dict_pop (thn (ho pins s σ H _ I h) fun u s1 hx9=>?_)
 obtain ⟨x,H1,I1,rx,a,ex,d,q1⟩:=hx9
 subst ex
 obtain rfl:u=Value.ref a:=rx
 obtain ⟨t1,t2,_⟩:=aEz I1 d
 refine ⟨t1,t2,?_⟩
 rw [m.trees]
 refine Calls.callWith_builtin rfl (Calls.evalArgs_plain (Calls.spliced_cons (thn (he pins s1 σ H1 _ I1 q1) fun iv s2 ⟨y,H2,I2,ry,kvs,k,v,ea,ey,l,q2⟩=>Calls.spliced_nil ?_)))
 subst ey
 exact aE9 I2 ea ry l (.inl rfl) fun w' s3 I3 rw'=>⟨v,_,I3,rw',q2⟩
end
section
variable {X:Cx} {pins:List (Addr×Obj)} {σ:St} {H:Hp} {s:Shared} {a:Addr} {kvs:List (Key×V)} {A:Around} {E:Value->Shared->Prop}
theorem aB1 {Q:Value->Shared->Prop} (I:Inv X pins σ H s) (e:Rd H a (.dK kvs)) (h:∀ p s',H p=none->Inv X pins σ (upd H p (.dK kvs)) s'->Q (.ref p) s'):wpAny (model X.prog X.w) A (call (.type "dict") [.ref a]) Q E s:=by
 obtain ⟨z,hd,vs,rel,dd⟩:=iI I.hok e
 refine kt_call_dict hd dd (by rw [<- rel.length]; exact z) fun h' dd' hs=>?_
 refine h _ _ (I.hok.fresh (Qg _)) (I.laid (a:=s.heap.objs.size) (o:=.dK kvs) (t':=s.toks) (fun b q hq=>?_) (Qg _) (mU z (beq_eq_false_iff_ne.mpr (Ne.symm (Qz I.big))) rel dd'))
 exact (hs.2 b (Qz (Qj hq))).trans (Qb _ hq)
end
section
variable {X:Cx}
theorem lG:dJ X (.builtin "len") (fun xs H Q=>∃ a kvs,xs = [V.ref a]/\H a=some (.dK kvs)/\Q (.int kvs.length) H):=by
 intro pins s σ H xs us Q I r h
 obtain ⟨a,kvs,rfl,ha,q⟩:=h
 obtain ⟨u,rfl,ru⟩:=fY r
 cases ru
 exact aFa I (.inl ha) fun t s' I'=>⟨.int kvs.length,H,I',⟨t,rfl⟩,q⟩
end
end L2
namespace L2
open PySem PySem.Spec PyProof.Rows PySem.W
def VwO (p d:Addr):HO:=.ext fun h=>h.IsValuesView p d
theorem aFf {P:Program} {w:World} {H:Hp} {h:Heap} {p d:Addr} (v:h.IsValuesView p d):bG P w H h p (VwO p d) :=
 ⟨v,let ⟨o,ho,_⟩:=v; ⟨o,ho⟩,fun h1 h2 ⟨o,ho,r⟩ k=>⟨o,k o ho,r⟩⟩
section
variable {X:Cx}
theorem lH:MtR X "dict.values" (fun x vs H Q=>∃ (a:Addr) (kvs:List (Key×V)),x=.ref a/\vs = []/\Rd H a (.dK kvs)/\∀ p,H p=none->Q (.ref p) (upd H p (VwO p a))):=by
 intro pins s σ H x vs v us Q I rx rv h
 obtain ⟨a,kvs,rfl,rfl,e,q⟩:=h
 cases rx
 cases rv
 obtain ⟨z,hd,xs,rel,dd⟩:=iI I.hok e
 refine call_meetsIn PySem.F.slot_dict_values dd.typeIs PySem.F.entry_dict_values (PySem.F.args_dict_values_1 _) (meets_dict_values (aW X.prog X.w) a hd) ⟨⟨_,dd⟩,?_⟩
 have hf:=I.hok.fresh (Qg s.heap.objs.size)
 have I2:Inv X pins σ (upd H s.heap.objs.size (VwO s.heap.objs.size a)) { s with heap:=s.heap.push { cls:=.type "dict_values",data:=.fields #[.ref a] } } :=
  I.laid (t':=s.toks) (fun b o e=>Qb _ e) (Qg _) (aFf ⟨_,Qk _ rfl,rfl,rfl⟩)
 exact ⟨.ref s.heap.objs.size,_,I2,rfl,q _ hf⟩
theorem yS {kvs:List (Key×V)} {vs:List (Key×Value)} (r:KV kvs vs) {i:Nat} {q:Key×Value} (h:vs[i]?=some q):∃ p,kvs[i]?=some p/\p.1=q.1/\bB p.2 q.2:=by
 unfold KV at r
 induction r generalizing i with
 | nil=>simp at h
 | cons h1 _ ih =>
  cases i with
  | zero=>simp only [Zr,Option.some.injEq] at h ⊢; subst h; exact ⟨_,rfl,h1⟩
  | succ j=>simp only [Zs] at h ⊢; exact ih h
theorem rM {kvs:List (Key×V)} {vs:List (Key×Value)} (r:KV kvs vs) {acc:Array Value} (h:ItemsOf (fun i v=>∃ k,vs[i]?=some (k,v)) acc vs.length):aY (kvs.map (·.2)) acc.toList:=by
 refine uT (by rw [Qd,show acc.toList.length=vs.length from (Array.length_toList).trans h.1]; exact r.length) fun j x u hx hu=>?_
 obtain ⟨k,hk⟩:=h.2 j u (by rw [<- Array.getElem?_toList]; exact hu)
 obtain ⟨p,hp,_,rp⟩:=yS r hk
 rw [Qi,hp] at hx
 cases hx
 exact rp
theorem rN {P:Program} {w:World} {kvs:List (Key×V)} {vs:List (Key×Value)} (r:KV kvs vs) {acc:Array Value} (h:ItemsOf (fun i v=>∃ k x,vs[i]?=some (k,x)/\(aW P w).is k v=true) acc vs.length):aY (kvs.map fun kv=>kV kv.1) acc.toList:=by
 refine uT (by rw [Qd,show acc.toList.length=vs.length from (Array.length_toList).trans h.1]; exact r.length) fun j x u hx hu=>?_
 obtain ⟨k,y,hk,hi⟩:=h.2 j u (by rw [<- Array.getElem?_toList]; exact hu)
 obtain ⟨p,hp,ek,_⟩:=yS r hk
 rw [Qi,hp] at hx
 cases hx
 show bB (kV p.1) u
 rw [ek]
 exact rF hi
theorem hX (hc:X.calm=true):dJ X (.type "list") (fun xs H Q=>∃ (a:Addr) (kvs:List (Key×V)),xs = [.ref a]/\Rd H a (.dK kvs)/\∀ p,H p=none->Q (.ref p) (upd H p (.lst (kvs.map fun kv=>kV kv.1)))):=by
 intro pins s σ H xs us Q I r h
 obtain ⟨a,kvs,rfl,e,q⟩:=h
 obtain ⟨u,rfl,ru⟩:=fY r
 cases ru
 obtain ⟨z,hd,vs,rel,dd⟩:=iI I.hok e
 obtain ⟨ep,da⟩:=dd.dictAt
 refine kdl_call (kdl_dict (prog:=X.prog) (w:=X.w) (knd:=aW X.prog X.w) (kvs:=vs) (ep:=ep) hd) (I.ok.hd hc) da (by rw [<- rel.length]; exact z) fun h' tk acc c' kp hl hi=>?_
 exact ⟨.ref s.heap.objs.size,_,I.laid (t':=tk) kp (Qg _) (show bG X.prog X.w _ h' _ (.lst _) from ⟨by rw [Qd]; exact z,acc.toList,c',rN rel hi,hl⟩),rfl,q _ (I.hok.fresh (Qg _))⟩
theorem rO (hc:X.calm=true):dJ X (.type "list") (fun xs H Q=>∃ (v a:Addr) (kvs:List (Key×V)),xs = [.ref v]/\H v=some (VwO v a)/\Rd H a (.dK kvs)/\∀ p,H p=none->Q (.ref p) (upd H p (.lst (kvs.map (·.2))))):=by
 intro pins s σ H xs us Q I r h
 obtain ⟨v,a,kvs,rfl,ev,e,q⟩:=h
 obtain ⟨u,rfl,ru⟩:=fY r
 cases ru
 obtain ⟨z,hd,vs,rel,dd⟩:=iI I.hok e
 obtain ⟨ep,da⟩:=dd.dictAt
 have hv:s.heap.IsValuesView v a:=(show bG X.prog X.w H s.heap v (VwO v a) from I.hok v _ ev).1
 refine kdl_call (kdl_values (prog:=X.prog) (w:=X.w) (knd:=aW X.prog X.w) (kvs:=vs) (ep:=ep)) (I.ok.hd hc) ⟨hv,da⟩ (by rw [<- rel.length]; exact z) fun h' tk acc c' kp hl hi=>?_
 exact ⟨.ref s.heap.objs.size,_,I.laid (t':=tk) kp (Qg _) (show bG X.prog X.w _ h' _ (.lst _) from ⟨by rw [Qd]; exact z,acc.toList,c',rM rel hi,hl⟩),rfl,q _ (I.hok.fresh (Qg _))⟩
theorem iK (hc:X.calm=true):dJ X (.builtin "sorted") (fun xs H Q=>∃ (a:Addr) (kvs:List (Key×V)) (ns:List Int),xs = [.ref a]/\Rd H a (.dK kvs)/\(kvs.map fun kv=>kV kv.1)=ns.map V.int/\ns.length < 64 /\
  ∀ (p:Addr) (ms:List Int),H p=none->ms.Perm ns->ms.Pairwise (·<=·)->Q (.ref p) (upd H p (.lst (ms.map V.int)))):=by
 intro pins s σ H xs us Q I r h
 obtain ⟨a,kvs,ns,rfl,e,ek,h64,q⟩:=h
 obtain ⟨u,rfl,ru⟩:=fY r
 cases ru
 obtain ⟨z,hd,vs,rel,dd⟩:=iI I.hok e
 obtain ⟨ep,da⟩:=dd.dictAt
 refine aAE h64 (fun Q' hQ'=>?_) fun h1 h' tk out ns' k1 k2 pl hi hp ho=>?_
 ·refine kdu_collect (kdl_dict (prog:=X.prog) (w:=X.w) (knd:=aW X.prog X.w) (kvs:=vs) (ep:=ep) hd) (I.ok.hd hc) da (by rw [<- rel.length]; exact z) fun h' tk acc kp hi=>?_
  have hv:=rN rel hi
  rw [ek] at hv
  exact hQ' h' tk _ kp (by simpa using mR hv)
 ·have I1:Inv X pins σ H { s with heap:=h1,toks:=tk }:=I.kept k1
  have hf:=I1.hok.fresh (Qg _)
  have hl:=hp.length_eq
  obtain ⟨n,e'⟩:=pl
  have I2:Inv X pins σ (upd H h1.objs.size (.lst (ns'.map V.int))) { s with heap:=h',toks:=tk } :=
   I1.laid (t':=tk) k2 (Qg _) (show bG X.prog X.w _ _ _ (.lst _) from ⟨by rw [Qd,hl,sizeLine_eq]; omega,out.toList,n,tO hi,by simpa using e'⟩)
  exact ⟨.ref h1.objs.size,_,I2,rfl,q _ ns' hf hp ho⟩
theorem vD:dJ X (.type "dict") (fun xs H Q=>∃ (a:Addr) (kvs:List (Key×V)),xs = [.ref a]/\Rd H a (.dK kvs)/\∀ p,H p=none->Q (.ref p) (upd H p (.dK kvs))):=by
 intro pins s σ H xs us Q I r h
 obtain ⟨a,kvs,rfl,e,q⟩:=h
 obtain ⟨u,rfl,ru⟩:=fY r
 cases ru
 exact aB1 I e fun p s' hp I'=>⟨.ref p,_,I',rfl,q p hp⟩
theorem tT:MtR X "dict.clear" (fun x vs H Q=>∃ (a:Addr) (kvs:List (Key×V)),x=.ref a/\vs = []/\H a=some (.dK kvs)/\Q .non (upd H a (.dK []))):=by
 intro pins s σ H x vs v us Q I rx rv h
 obtain ⟨a,kvs,rfl,rfl,e,q⟩:=h
 cases rx
 cases rv
 exact aC3 I e fun s' I'=>⟨.non,_,I',rfl,q⟩
end
section
variable {prog:Program} {w:World}
theorem kO {v d : Addr} {kvs : List (Key × Value)} {ep : Nat} (hn : kvs.length <= sizeLine) : MeetsIn prog w (Builtin.«tuple.__new__» ⟨[.type "tuple", .ref v], []⟩) (fun A R s => A.handled = none /\ s.heap.IsValuesView v d /\ s.heap.DictAt (aW prog w) d kvs ep /\ ∀ (h' : Heap) tk (acc : Array Value), (∀ b o', s.heap.get? b = some o' -> h'.get? b = some o') -> ItemsOf (fun i v => ∃ k, kvs[i]? = some (k, v)) acc kvs.length ->
        R (.ok (.ret (.ref h'.objs.size))) { s with heap:=h'.push { cls:=.type "tuple",data:=.seq acc.toList.toArray },toks:=tk }) :=
  .of_wp fun A R s h=>by
   obtain ⟨hp,g,dd,tk,os⟩:=s; obtain ⟨hh,hv,da,h⟩:=h
   have hsub:=sub_tuple_self
   have hinit:=init_tuple_lookup
   have hmh:=madeHere_tuple
   have hT:Shared.TypeIs ⟨hp,g,dd,tk,os⟩ (.ref v) "dict_values" := hv.typeIs
   obtain ⟨ov,hov,hcv,hdv⟩:=id hv
   wp_walk using wpAny_loadPart' hov,wpAny_typeOf hT,kdu_collect (A:=A.in1) (s:=⟨hp,g,dd,tk,os⟩) (kdl_values (prog:=prog) (w:=w) (knd:=aW prog w) (kvs:=kvs) (ep:=ep)) hh ⟨hv,da⟩ hn
   intro h' tk' acc hk hi
   show wpAny _ _ (Builtin.Tuple.tupleExact acc.toList.toArray >>= fun v=>ret v) _ _ _
   unfold Builtin.Tuple.tupleExact
   have hl:=hi.1
   refine wpAny_bind (wpAny_newObj_type ?_ (by show acc.toList.toArray.size<=sizeLine; rw [Array.toArray_toList,hl]; exact hn))
   exact wpAny_pure ⟨_,rfl,h h' tk' acc hk hi⟩
end
section
variable {X:Cx}
theorem kB (hc:X.calm=true):dJ X (.type "tuple") (fun xs H Q=>∃ (v a:Addr) (kvs:List (Key×V)),xs = [.ref v]/\H v=some (VwO v a)/\Rd H a (.dK kvs)/\∀ p,H p=none->Q (.ref p) (upd H p (.tup (kvs.map (·.2))))):=by
 intro pins s σ H xs us Q I r h
 obtain ⟨v,a,kvs,rfl,ev,e,q⟩:=h
 obtain ⟨u,rfl,ru⟩:=fY r
 cases ru
 obtain ⟨z,hd,vs,rel,dd⟩:=iI I.hok e
 obtain ⟨ep,da⟩:=dd.dictAt
 have hv:s.heap.IsValuesView v a:=(show bG X.prog X.w H s.heap v (VwO v a) from I.hok v _ ev).1
 refine callType_newIn PySem.F.called_tuple (by decide) (PySem.F.typeCall_tuple_1 _) (PySem.F.newCall_tuple_1 _) (fun obj=>PySem.F.args_object_init_2 obj _) PySem.F.entry_tuple_new
  (kO (v:=v) (d:=a) (kvs:=vs) (ep:=ep) (by rw [<- rel.length]; exact z)) ⟨I.ok.hd hc,hv,da,fun h' tk acc kp hi=>⟨⟨_,Qk _ rfl,rfl⟩,?_⟩⟩
 have I1:Inv X pins σ H { s with heap:=h',toks:=tk }:=I.kept kp
 have hf:=I1.hok.fresh (Qg _)
 have I2:Inv X pins σ (upd H h'.objs.size (.tup (kvs.map (·.2)))) { s with heap:=h'.push { cls:=.type "tuple",data:=.seq acc.toList.toArray },toks:=tk } :=
  I1.laid (t':=tk) (fun b o e=>Qb _ e) (Qg _) (show bG X.prog X.w _ _ _ (.tup _) from ⟨by rw [Qd]; exact z,acc.toList,0,rM rel hi,Qk _ rfl⟩)
 exact ⟨.ref h'.objs.size,_,I2,rfl,q _ hf⟩
end
end L2
namespace L2
open PySem PySem.Spec PyProof.Rows
def Itv (a:Addr) (o:Obj) (kvs:List (Key×V)):It :=
 ⟨fun i H=>H a=some (.frz o (.dK kvs))/\i < kvs.length,fun i H x H'=>H'=H/\∃ p,kvs[i]?=some p/\x=p.2,fun i H=>H a=some (.frz o (.dK kvs))/\i=kvs.length⟩
theorem aAR {P:Program} {w:World} {K:PySem.W.Frag} {tg:Expr} (a it:Addr) (o:Obj) (es:Array DictEntry) (ep:Nat) (hd:o.data=.dict es ep) (kvs:List (Key×V)) :
  Turn P w K tg (Itv a o kvs) [it] it (fun i h=>h.IsValIter it a i kvs.length ep) where
 mem:=by simp
 obj:=fun i h st b hb=>by
  have e:b=it:=by simpa using hb
  subst e
  obtain ⟨o,e,c,d⟩:=st
  exact ⟨o,e,fun v z=>by rw [d] at z; cases z⟩
 keep:=fun i h h' st k=>st.at fun o e=>k it (by simp) o e
 item:=by
  intro X hP hw hK hc i pins s σ H E I hf st hg
  subst hP hw hK
  obtain ⟨hA,hi⟩:=hg
  obtain ⟨ho,hz,hs,vs,kv,dd⟩:s.heap.get? a=some o/\bG X.prog X.w H s.heap a (.dK kvs):=I.hok a _ hA
  have da:=iC ho hd dd
  have hl:kvs.length=vs.length:=kv.length
  obtain ⟨f0,f1,f2,f3,f4,f5⟩:=hf it (by simp)
  obtain ⟨⟨k,x⟩,hx⟩:∃ p,vs[i]?=some p:=⟨vs[i]'(by omega),by simp⟩
  rw [hl] at st
  refine wpAny_pyNext_values_item st da hx fun h' st' sb=>?_
  have I1:Inv X pins σ H { s with heap:=h' }:=I.turned (t':=s.toks) (fun b o hb e=>(sb.2 b hb).trans e) f0 f1 f3 f4 f5
  obtain ⟨o',e',c',d'⟩:=id st'
  obtain ⟨p,hp,_,rp⟩:=yS kv hx
  rw [<- hl] at st'
  exact ⟨x,rfl,wK (s:={ s with heap:=h' }) e' c' d' (by decide) ⟨p.2,H,I1,rp,⟨rfl,_,hp,rfl⟩,st',fun b hb=>(hf b hb).1⟩⟩
 done:=by
  intro X hP hw hK hc i pins s σ H E I hf st hg
  subst hP hw hK
  obtain ⟨hA,hi⟩:=hg
  obtain ⟨ho,hz,hs,vs,kv,dd⟩:s.heap.get? a=some o/\bG X.prog X.w H s.heap a (.dK kvs):=I.hok a _ hA
  have da:=iC ho hd dd
  have hl:kvs.length=vs.length:=kv.length
  obtain ⟨f0,f1,f2,f3,f4,f5⟩:=hf it (by simp)
  rw [hl] at st
  exact wpAny_pyNext_values_end (I.ok.hd hc) st da (by simp; omega) fun h' eb=>⟨rfl,I.turned (t':=s.toks) (fun b o hb e=>eb b o hb e) f0 f1 f3 f4 f5⟩
 self:=fun _ _ _ _ _ st h=>wpAny_pyIter_valiter st h
section
variable {X:Cx} {tg:Expr}
def aFg (H0:Hp) (td:TE):TI:=fun σ H R=>td σ H fun x H1=>∃ v a kvs,x=.ref v/\H1 v=some (VwO v a)/\H1 a=some (.dK kvs)/\∀ o,NF H0 a->R (Itv a o kvs) (upd H1 a (.frz o (.dK kvs)))
theorem aDb {d:Expr} {td:TE} (hl:PE X d td):PI X tg d (aFg X.H₀ td):=by
 intro pins s σ H R I h
 refine thn (hl pins s σ H _ I h) fun v s1 hx9=>?_
 obtain ⟨x,H1,I1,r1,q1⟩:=hx9
 obtain ⟨vw,a,kvs,e,hv,hq,q⟩:=q1
 subst e
 cases r1
 have hvw:s1.heap.IsValuesView vw a:=(show bG X.prog X.w H1 s1.heap vw (VwO vw a) from I1.hok vw _ hv).1
 obtain ⟨hz,hs,vs,kv,dd⟩:bG X.prog X.w H1 s1.heap a (.dK kvs):=I1.hok a _ hq
 obtain ⟨o,es,ep,ho,oe,hd,r⟩:=id dd
 have da:=iC ho hd dd
 refine wpAny_pyIter_values hvw da ?_
 have I2:=(I1.freeze hq ho).kept (h':=s1.heap.push { cls:=.type "dict_valueiterator",data:=.fields #[.ref a,.int 0 0,.int vs.length 0,.int ep 0] }) (t':=s1.toks) fun b o e=>Qb _ e
 have nA:a≠s1.heap.objs.size:=Qz (Qj ho)
 refine ⟨s1.heap.objs.size,[s1.heap.objs.size],_,_,_,rfl,I2,aAR a _ o es ep hd kvs,?_,fun b hb=>?_,q o (I1.nf hq)⟩
 ·refine ⟨_,Qk _ rfl,rfl,?_⟩
  rw [kv.length]; rfl
 ·have e:b=s1.heap.objs.size:=by simpa using hb
  subst e
  exact I1.fpOk (Qg _) (by rw [aD (Ne.symm nA)]; exact I1.hok.fresh (Qg _))
end
def aEB (own:Nat) (fr:List Nat) (td:TE) (g:TG) (tt:TT) (te:TE):TE:=fun σ H Q=>td σ H fun x H1=>∃ v a kvs,x=.ref v/\H1 v=some (VwO v a)/\H1 a=some (.dK kvs)/\∀ o:Obj,∃ W:Nat->Nat->List V->St->Hp->Prop,(∃ m,W 0 m [] (blk own fr σ) (upd H1 a (.frz o (.dK kvs))))/\∀ i m ys σ' H,W i m ys σ' H ->
 ((Itv a o kvs).stop i H/\∀ p,H p=none->Q (.ref p) (upd (upd H p (.lst ys)) a (.dK kvs))) ∨
 ((Itv a o kvs).go i H/\∃ N:List V->St->Hp->Prop,(∀ ys' σ2 H2,N ys' σ2 H2->∃ m',m' < m/\W (i+1) m' ys' σ2 H2) /\
  ∀ x H',(Itv a o kvs).yld i H x H'->g x σ' H' fun σ2 H2=>tt σ2 H2 fun b H3=>if b=true then te σ2 H3 fun y H4=>ys.length < sizeLine/\N (ys++[y]) σ2 H4 else N ys σ2 H3)
section
variable {X:Cx} {scope:Scope} {own frn:List Str} {fr:List Nat} {e elt tg d:Expr} {ifs:List Expr} {pos:Pos} {t td:TE} {g:TG} {tt:TT} {te:TE}
theorem aB2 (S:CompOk X scope own fr frn) (hc:X.calm=true) (hi:PE X d td) (hg:∀ C s0 H0 fp,PG (aU X scope (own++frn) C s0 H0 fp) tg g) (ht:∀ C s0 H0 fp,PF (aU X scope (own++frn) C s0 H0 fp) ifs tt)
  (he:∀ C s0 H0 fp,PE (aU X scope (own++frn) C s0 H0 fp) elt te) (hs:∀ x,foldedSetIterable d X.env x=pure x:=by intro _; rfl) :
  PE X (.ListComp elt [⟨tg,d,ifs,0⟩] scope pos) (aEB own.length fr td g tt te):=by
 intro pins s σ H Q I h
 refine vB (cZ S hc (aDb (aBZ hi)) hg ht he hs) pins s σ H Q I ⟨_,h,fun x H1 q=>?_⟩
 obtain ⟨v,a,kvs,ex,hv,hx,k⟩:=q
 refine ⟨v,a,kvs,ex,hv,hx,fun o nf=>?_⟩
 obtain ⟨W,w0,wk⟩:=k o
 refine ⟨W,w0,fun i m ys σ' H' w=>?_⟩
 rcases wk i m ys σ' H' w with ⟨st,q⟩ | z
 ·refine .inl ⟨st,fun p hp=>⟨a,o,kvs,?_,nf,q p hp⟩⟩
  rw [aD (fun z=>by rw [<- z,st.1] at hp; cases hp)]
  exact st.1
 ·exact .inr z
end
theorem aAS {a:Addr} {o:Obj} {kvs:List (Key×V)} {own:Nat} {fr:List Nat} {g:TG} {tt:TT} {te:TE} {σ:St} {H:Hp} {Q:Hp->List V->Prop} (SH:St->Prop) (Pv:Nat->List V->Hp->Prop) (hn:kvs.length<=sizeLine) (hσ:SH (blk own fr σ)) (h0:Pv 0 [] H) (hlen:∀ i ys H,Pv i ys H->ys.length<=i) (hl:∀ i ys H,Pv i ys H->H a=some (.frz o (.dK kvs)))
  (hs:∀ i ys σ p H,kvs[i]?=some p->SH σ->Pv i ys H->ys.length < sizeLine->g p.2 σ H fun σ2 H2=>tt σ2 H2 fun b H3=>if b=true then te σ2 H3 fun y H4=>ys.length < sizeLine/\SH σ2/\Pv (i+1) (ys++[y]) H4 else SH σ2/\Pv (i+1) ys H3)
  (hd:∀ ys H,Pv kvs.length ys H->Q H ys) :
  ∃ W:Nat->Nat->List V->St->Hp->Prop,(∃ m,W 0 m [] (blk own fr σ) H)/\∀ i m ys σ' H,W i m ys σ' H ->
   ((Itv a o kvs).stop i H/\Q H ys) ∨
   ((Itv a o kvs).go i H/\∃ N:List V->St->Hp->Prop,(∀ ys' σ2 H2,N ys' σ2 H2->∃ m',m' < m/\W (i+1) m' ys' σ2 H2) /\
    ∀ x H',(Itv a o kvs).yld i H x H'->g x σ' H' fun σ2 H2=>tt σ2 H2 fun b H3=>if b=true then te σ2 H3 fun y H4=>ys.length < sizeLine/\N (ys++[y]) σ2 H4 else N ys σ2 H3):=by
 refine jT kvs.length hn SH Pv hσ h0 hlen (fun ys H p=>⟨hl _ _ _ p,rfl⟩) (fun i ys H hi p=>⟨hl _ _ _ p,hi⟩) (fun i ys σ x H H' hi sh p y hz=>?_) hd
 obtain ⟨rfl,v,hv,rfl⟩:=y
 exact hs i ys σ v _ hv sh p hz
def aDc (own:Nat) (fr:List Nat) (td:TE) (g:TG) (tt:TT) (tk tv:TE):TE:=fun σ H Q=>td σ H fun x H1=>∃ a kvs,x=.ref a/\H1 a=some (.dK kvs)/\∀ o:Obj,∃ W:Nat->Nat->List (Key×V)->St->Hp->Prop,(∃ m,W 0 m [] (blk own fr σ) (upd H1 a (.frz o (.dK kvs))))/\∀ i m ys σ' H,W i m ys σ' H ->
 ((Itd a o kvs).stop i H/\∀ p,H p=none->Q (.ref p) (upd (upd H p (.dK ys)) a (.dK kvs))) ∨
 ((Itd a o kvs).go i H/\∃ N:List (Key×V)->St->Hp->Prop,(∀ ys' σ2 H2,N ys' σ2 H2->∃ m',m' < m/\W (i+1) m' ys' σ2 H2) /\
  ∀ x H',(Itd a o kvs).yld i H x H'->g x σ' H' fun σ2 H2=>tt σ2 H2 fun b H3=>if b=true then tk σ2 H3 fun x H4=>tv σ2 H4 fun y H5=>∃ k,x=kV k/\ys.length < sizeLine/\N (cB ys k y) σ2 H5 else N ys σ2 H3)
section
variable {X:Cx} {scope:Scope} {own frn:List Str} {fr:List Nat} {kx vx tg d:Expr} {ifs:List Expr} {pos:Pos} {td:TE} {g:TG} {tt:TT} {tk tv:TE}
theorem aAT (S:CompOk X scope own fr frn) (hc:X.calm=true) (hi:PE X d td) (hg:∀ C s0 H0 fp,PG (aU X scope (own++frn) C s0 H0 fp) tg g) (ht:∀ C s0 H0 fp,PF (aU X scope (own++frn) C s0 H0 fp) ifs tt)
  (hk:∀ C s0 H0 fp,PE (aU X scope (own++frn) C s0 H0 fp) kx tk) (he:∀ C s0 H0 fp,PE (aU X scope (own++frn) C s0 H0 fp) vx tv) (hs:∀ x,foldedSetIterable d X.env x=pure x:=by intro _; rfl) :
  PE X (.DictComp kx vx [⟨tg,d,ifs,0⟩] scope pos) (aDc own.length fr td g tt tk tv):=by
 intro pins s σ H Q I h
 refine vB (xG S hc (lF (aBZ hi)) hg ht hk he hs) pins s σ H Q I ⟨_,h,fun x H1 q=>?_⟩
 obtain ⟨a,kvs,ex,hx,k⟩:=q
 refine ⟨a,kvs,ex,hx,fun o nf=>?_⟩
 obtain ⟨W,w0,wk⟩:=k o
 refine ⟨W,w0,fun i m ys σ' H' w=>?_⟩
 rcases wk i m ys σ' H' w with ⟨st,q⟩ | z
 ·refine .inl ⟨st,fun p hp=>⟨a,o,kvs,?_,nf,q p hp⟩⟩
  rw [aD (fun z=>by rw [<- z,st.1] at hp; cases hp)]
  exact st.1
 ·exact .inr z
end
theorem aB3 {a:Addr} {o:Obj} {kvs:List (Key×V)} {own:Nat} {fr:List Nat} {g:TG} {tt:TT} {tk tv:TE} {σ:St} {H:Hp} {Q:Hp->List (Key×V)->Prop} (SH:St->Prop) (Pv:Nat->List (Key×V)->Hp->Prop) (hn:kvs.length<=sizeLine) (hσ:SH (blk own fr σ)) (h0:Pv 0 [] H) (hlen:∀ i ys H,Pv i ys H->ys.length<=i) (hl:∀ i ys H,Pv i ys H->H a=some (.frz o (.dK kvs)))
  (hs:∀ i ys σ kv H,kvs[i]?=some kv->SH σ->Pv i ys H->ys.length < sizeLine->g (kV kv.1) σ H fun σ2 H2=>tt σ2 H2 fun b H3=>if b=true then tk σ2 H3 fun x H4=>tv σ2 H4 fun y H5=>∃ k,x=kV k/\ys.length < sizeLine/\SH σ2/\Pv (i+1) (cB ys k y) H5 else SH σ2/\Pv (i+1) ys H3)
  (hd:∀ ys H,Pv kvs.length ys H->Q H ys) :
  ∃ W:Nat->Nat->List (Key×V)->St->Hp->Prop,(∃ m,W 0 m [] (blk own fr σ) H)/\∀ i m ys σ' H,W i m ys σ' H ->
   ((Itd a o kvs).stop i H/\Q H ys) ∨
   ((Itd a o kvs).go i H/\∃ N:List (Key×V)->St->Hp->Prop,(∀ ys' σ2 H2,N ys' σ2 H2->∃ m',m' < m/\W (i+1) m' ys' σ2 H2) /\
    ∀ x H',(Itd a o kvs).yld i H x H'->g x σ' H' fun σ2 H2=>tt σ2 H2 fun b H3=>if b=true then tk σ2 H3 fun x H4=>tv σ2 H4 fun y H5=>∃ k,x=kV k/\ys.length < sizeLine/\N (cB ys k y) σ2 H5 else N ys σ2 H3):=by
 refine ⟨fun i m ys σ' H=>m=kvs.length - i/\i<=kvs.length/\SH σ'/\Pv i ys H,⟨kvs.length,by simp,Jk _,hσ,h0⟩,?_⟩
 rintro i m ys σ' H ⟨rfl,hi,sh,p⟩
 by_cases hlt:i < kvs.length
 ·refine .inr ⟨⟨hl _ _ _ p,hlt⟩,fun ys' σ2 H2=>SH σ2/\Pv (i+1) ys' H2,fun ys' σ2 H2 q=>⟨kvs.length - (i+1),by omega,rfl,hlt,q.1,q.2⟩,fun x H' y=>?_⟩
  obtain ⟨rfl,v,hv,rfl⟩:=y
  exact hs i ys σ' v _ hv sh p (by have:=hlen i ys _ p; omega)
 ·have e:i=kvs.length:=by omega
  subst e
  exact .inl ⟨⟨hl _ _ _ p,rfl⟩,hd ys H p⟩
structure SameK (K:PySem.W.Frag) (H:Hp) (k1 k2:List (Key×V)):Prop where
 len:k1.length=k2.length
 int:∀ kv∈k1,∃ i:Int,kv.1=.inl i
 int2:∀ kv∈k2,∃ i:Int,kv.1=.inl i
 val:∀ kv∈k1,∃ u d,bJ k2 kv.1=some u/\Den K H d kv.2/\Den K H d u/\cR d=true/\SeqAt.shaped d=true
theorem aAU {X:Cx} {pins:List (Addr×Obj)} {σ:St} {H:Hp} {s:Shared} {A:Around} (I:Inv X pins σ H s) {k2:List (Key×V)} {v2:List (Key×Value)} (r2:KV k2 v2) (hu:A.in1.units+64 < cLine):∀ {k1:List (Key×V)} {v1:List (Key×Value)},KV k1 v1 ->
  (∀ kv∈k1,∃ u d,bJ k2 kv.1=some u/\Den X.K H d kv.2/\Den X.K H d u/\cR d=true/\SeqAt.shaped d=true)->PySem.W.KeqHits A.in1 s v2 v1 true:=by
 intro k1 v1 r1
 unfold KV at r1
 induction r1 with
 | nil=>intro _; exact .nil
 | @cons p q ps qs h t ih =>
  intro hh
  obtain ⟨h1,h2⟩:=h
  obtain ⟨u,d,e,d1,d2,nd,sh⟩:=hh p (Qr ..)
  obtain ⟨y,hy,ry⟩:=iZ.some_of (v:=u) (o:=valueAt v2 p.1) (by rw [<- e]; exact r2.val p.1)
  obtain ⟨as,ra⟩:=Den.reads I d _ _ nd d1 h2
  obtain ⟨bs,rb⟩:=Den.reads I d _ _ nd d2 ry
  have x:=PySem.W.keq_at (A:=A) ra rb sh sh hu
  rw [PySem.SeqAt.eqv_refl d (SeqAt.canLay_of_shaped sh)] at x
  obtain ⟨k,v⟩:=q
  have hk:p.1=k:=h1
  rw [hk] at hy
  exact .hit (e:=true) (b:=true) hy x (ih fun kv hkv=>hh kv (Qo _ hkv))
section
variable {X:Cx}
theorem yT (hu:X.A.units+100 < cLine):OpR X (compareOp .NotEq) (fun x y H Q=>∃ (a b:Addr) (k1 k2:List (Key×V)),x=.ref a/\y=.ref b/\Rd H a (.dK k1)/\Rd H b (.dK k2)/\SameK X.K H k1 k2/\Q (.bl false) H):=by
 intro pins s σ H x y v u Q I rx ry h
 obtain ⟨a,b,k1,k2,rfl,rfl,e1,e2,S,q⟩:=h
 cases rx
 cases ry
 obtain ⟨z1,hd1,v1,r1,d1⟩:=iI I.hok e1
 obtain ⟨z2,hd2,v2,r2,d2⟩:=iI I.hok e2
 have hl:v1.length=v2.length:=by rw [<- r1.length,<- r2.length,S.len]
 refine PySem.W.keq_ne (knd:=aW X.prog X.w) hd1 hd2 d1 d2 (by omega) (fun _=>aAU I r2 (by show X.A.units+1+64 < cLine; omega) r1 S.val) ?_
 rw [hl,beq_self_eq_true]
 exact ⟨.bl false,H,I,rfl,q⟩
end
section
variable {X:Cx} {pins:List (Addr×Obj)} {σ:St}
theorem oQ (hc:X.calm=true) (A:Around) (hA:A.handled=none) (hun:A.units+1 < cLine) {D it l:Addr} {res:Value} {R:Result->Shared->Prop} {zs:List V} {es:List (Key×V)} {H0:Hp} (hel:es.length=zs.length) (hD0:H0 D=none) (nit:it≠D) (nl:l≠it) (nlD:l≠D)
  (hes:∀ (i:Nat) e,es[i]?=some e->∃ q,zs[i]?=some (.ref q)/\H0 q=some (.tup [kV e.1,e.2])) (its:List Value) (hv:aY zs its) :
  ∀ (k i:Nat) (s:Shared) (kvs:List (Key×V)) (ti:Tok),zs.length - i=k->i<=zs.length->Inv X pins σ (upd H0 D (.dK kvs)) s->mL X pins (upd H0 D (.dK kvs)) it->(s.heap.IsListIter it l i/\s.heap.IsList l its.toArray)->kvs.length+(zs.length - i)<=sizeLine ->
  (∀ s',Inv X pins σ (upd H0 D (.dK (iJ kvs (es.drop i)))) s'->R (.ok (.ret res)) s') ->
  codeAny (model X.prog X.w) A (.builtin "dict.update.loop" ⟨[.ref D,.ref it,.int i ti,res],[]⟩) R s:=by
 have W:=(Walks.list (prog:=X.prog) (w:=X.w) (A:=A.in1) hA it l nl its.toArray).toS
 have hlen:=hv.length
 intro k
 induction k with
 | zero =>
  intro i s kvs ti hk hi I hf st hz hR
  have hin:i=its.toArray.size:=by rw [Qq]; omega
  refine codeAny_builtin kM ?_
  rw [Around.under_plainId fP _]
  show wpAny _ A.in1 (pyNext (.ref it) >>= _) _ _ s
  subst hin
  refine wpAny_bind (W.done s _ _ st fun s' hm=>?_)
  have I':Inv X pins σ (upd H0 D (.dK kvs)) s':=by
   rw [Moved.eq_with hm]
   exact I.turnedL (t':=s'.toks) [it] (fun b o hb e=>hm.heap b o hb e) (fun b hb=>by rw [Qs.mp hb]; exact hf)
  show wpAny _ A.in1 (Builtin.Dict.addKeywords D [] >>= fun _=>ret res) _ _ s'
  refine wpAny_bind (wpAny_pure (wpAny_pure (hR s' ?_)))
  have e:es.drop its.toArray.size = []:=List.drop_eq_nil_of_le (by rw [hel]; omega)
  rw [e]
  exact I'
 | succ k ih =>
  intro i s kvs ti hk hi I hf st hz hR
  have hlt:i < its.toArray.size:=by rw [Qq]; omega
  refine codeAny_builtin kM ?_
  rw [Around.under_plainId fP _]
  show wpAny _ A.in1 (pyNext (.ref it) >>= _) _ _ s
  refine wpAny_bind (W.item i s _ _ hlt st fun v s' hP st' hm=>?_)
  have I':Inv X pins σ (upd H0 D (.dK kvs)) s':=by
   rw [Moved.eq_with hm]
   exact I.turnedL (t':=s'.toks) [it] (fun b o hb e=>hm.heap b o hb e) (fun b hb=>by rw [Qs.mp hb]; exact hf)
  have hie:i < es.length:=by rw [hel,hlen]; simpa using hlt
  have he:es[i]?=some es[i]:=Qc hie
  have hdr:=Zk hie
  generalize es[i]=e at he hdr
  obtain ⟨q,hzi,hq⟩:=hes i e he
  obtain ⟨u,hu,ru⟩:=hv.get hzi
  have ev:v=u:=by
   have hP':its[i]?=some v:=by simpa using hP
   rw [hu] at hP'
   exact (Option.some.inj hP').symm
  subst ev
  cases (show v=Value.ref q from ru)
  have nq:q≠D:=fun z=>by rw [z,hD0] at hq; cases hq
  obtain ⟨_,ts,nn,rts,hget⟩:=I'.hok q _ (by rw [aD nq]; exact hq)
  obtain ⟨u1,u2,rfl,r1,r2⟩:=pI rts
  have hT:s'.TypeIs (.ref q) "tuple" := ⟨_,hget,rfl⟩
  refine wpAny_bind (wpAny_holding ?_)
  refine wpAny_bind (wpAny_tryCatch ?_)
  unfold Builtin.Dict.pairItems
  refine wpAny_bind (wpAny_typeOf hT ?_)
  rw [if_pos (by decide)]
  have hload:s'.heap.get? q=some { cls:=.type "tuple",dict:=none,data:=.seq #[u1,u2] nn,slots:=#[] }:=hget
  have pairIt:∀ {Q:Option (Array Value)->Shared->Prop} {E:Value->Shared->Prop},Q (some #[u1,u2]) s'->wpAny (model X.prog X.w) A.in1 (seqItems? (.ref q)) Q E s':=fun hQ=>by
   obtain ⟨hp,g,d,tk,os⟩:=s'
   repeat (any_goals (first | assumption | wp_step))
  refine wpAny_bind (pairIt (wpAny_pure ?_))
  show wpAny _ A.in1 (holding [u1,u2] (dictSet D u1 u2)) _ _ s'
  refine wpAny_holding ?_
  obtain ⟨z,hd,xs,rel,dd⟩:=wZ I'.hok (a:=D) (kvs:=kvs) aB
  have hz':xs.length<=sizeLine:=by rw [<- rel.length]; exact z
  have hl2:(cB kvs e.1 e.2).length<=kvs.length+1:=cU kvs e.1 e.2
  refine wpAny_dictSet_pairs (knd:=aW X.prog X.w) (mD r1) dd (fun h' dd' hs=>?_) hz'
  refine wpAny_pure ⟨plainId_quiet fP _,?_⟩
  have he9:∃ q,h'.get? D=some q:=let ⟨q,_,_,hq,_⟩:=dd'; ⟨q,hq⟩
  have I9:Inv X pins σ (upd (upd H0 D (.dK kvs)) D (.dK (cB kvs e.1 e.2))) { s' with heap:=h',toks:=s'.toks+1 }:=by
   exact jU I' (by rw [aB]; exact True.intro) hs he9 (mU (by omega) hd (rel.put e.1 r2) dd')
  have eupd:upd (upd H0 D (.dK kvs)) D (.dK (cB kvs e.1 e.2))=upd H0 D (.dK (cB kvs e.1 e.2)):=by
   funext c
   by_cases hcD:c=D
   ·subst hcD; rw [aB,aB]
   ·rw [aD hcD,aD hcD,aD hcD]
  rw [eupd] at I9
  refine ih (i+1) _ (cB kvs e.1 e.2) _ (by omega) (by omega) I9 ⟨by rw [aD nit]; have:=hf.1; rw [aD nit] at this; exact this,hf.2⟩ (W.frame _ s' h' _ st' (Xm _ _) fun b hb9 o q9=>(hs.2 b ?_).trans q9) (by omega) fun s9 I=>hR s9 ?_
  ·rcases Qm.mp hb9 with z | z
   ·rw [z]; exact nit
   ·have z':b=l:=by simpa using z
    rw [z']; exact nlD
  ·rw [hdr]
   exact I
theorem jE {K:PySem.W.Frag} (hK:X.K=K) (hc:X.calm=true) (hun:X.A.units+3 < cLine):dJ X (.type "dict") (fun xs H Q=>∃ (l:Addr) (zs:List V) (es:List (Key×V)),xs = [.ref l]/\H l=some (.lst zs)/\es.length=zs.length/\(∀ (i:Nat) e,es[i]?=some e->∃ q,zs[i]?=some (.ref q)/\H q=some (.tup [kV e.1,e.2]))/\∀ p,H p=none->Q (.ref p) (upd H p (.dK (iJ [] es)))):=by
 subst hK
 intro pins s σ H xs us Q I r h
 obtain ⟨l,zs,es,rfl,hl,hel,hes,q⟩:=h
 obtain ⟨u,rfl,rx⟩:=fY r
 cases rx
 refine callType_codes (Q₁:=fun obj s₁=>obj=.ref s.heap.objs.size/\s₁={ s with heap:=s.heap.push { cls:=.type "dict",data:=.dict #[] } }) F.kt_called_dict (F.kt_typeCall_dict_1 _) F.entry_dict_init (kt_code_dict_new _ ⟨rfl,rfl⟩) ?_
 rintro obj s₁ ⟨rfl,rfl⟩
 have hfr:=I.fresh
 have hbig:=I.big
 have I1:Inv X pins σ (upd H s.heap.objs.size (.dK [])) { s with heap:=s.heap.push { cls:=.type "dict",data:=.dict #[] } }:=I.laid (t':=s.toks) (fun _ _ e=>Qb _ e) (Qg _) (nK s.heap hbig)
 have hDt:({ s with heap:=s.heap.push { cls:=.type "dict",data:=.dict #[] } }:Shared).TypeIs (.ref s.heap.objs.size) "dict" := ⟨_,Qk _ rfl,rfl⟩
 refine ⟨hDt,F.args_dict_init_2 _ _,?_⟩
 unfold Builtin.«dict.__init__»
 refine wpAny_bind ?_
 unfold Builtin.Dict.selfAndRest
 refine wpAny_bind (wpAny_notOrdered_dict hDt ?_)
 show wpAny _ _ (pure (s.heap.objs.size,[Value.ref l])) _ _ _
 refine wpAny_pure ?_
 show wpAny _ _ (Builtin.Dict.updateFrom "dict.__init__" s.heap.objs.size (.ref l) [] .none) _ _ _
 unfold Builtin.Dict.updateFrom
 have nlD:l≠s.heap.objs.size:=fun z=>by rw [z,hfr] at hl; cases hl
 obtain ⟨z1,its,n,rv,hlen,el⟩:=I1.lstM (l:=l) (xs:=zs) (by rw [aD nlD]; exact hl)
 refine wpAny_bind (wpAny_typeOf (T := "list") ⟨_,el,rfl⟩ ?_)
 rw [if_pos (by decide)]
 refine wpAny_bind (getAttr?_miss_list el vC (by decide) (I.ok.hd hc) (fun h2 tk2 k2=>?_))
 rw [if_pos (show (none:Option Value).isNone=true from rfl)]
 refine wpAny_bind (wpAny_rule ?_)
 have I2:Inv X pins σ (upd H s.heap.objs.size (.dK [])) { s with heap:=h2,toks:=tk2 }:=I1.kept (t':=tk2) k2
 have el2:=k2 _ _ el
 have hil:h2.IsList l its.toArray:=⟨_,el2,rfl,_,rfl⟩
 have hDlt:s.heap.objs.size < h2.objs.size:=Qj (k2 _ _ (Qk _ rfl))
 have hllt:l < h2.objs.size:=Qj el2
 refine wpAny_bind (wpAny_pyIter_list hil ?_)
 refine wpAny_pure ⟨plainId_quiet fP _,?_⟩
 have I3:Inv X pins σ (upd H s.heap.objs.size (.dK [])) { s with heap:=h2.push { cls:=.type "list_iterator",data:=.fields #[.ref l,.int 0 0] },toks:=tk2 }:=I2.kept (t':=tk2) fun b o e=>Qb _ e
 have hf:mL X pins (upd H s.heap.objs.size (.dK [])) h2.objs.size:=I2.fpOk (Qg _) I2.fresh
 exact oQ hc X.A.in1 (I.ok.hd hc) (show X.A.units+1+1 < cLine by omega) hel hfr (Xy hDlt) (Qz hllt) nlD hes its rv (zs.length - 0) 0 _ [] 0 rfl (Jk _) I3 hf ⟨⟨_,Qk _ rfl,rfl,rfl⟩,hil.push _⟩ (by simp only [Wc]; omega) fun s' I'=>⟨rfl,.ref s.heap.objs.size,_,I',rfl,q _ hfr⟩
end
structure Fn (K:PySem.W.Frag) (mg:Str->Option Value) (x:Str) (st:Stmt) (ps:List Str) (f:Addr) (fd:FuncData):Prop where
 fn:Fun K x x st f fd
 mgx:mg x=some (.ref f)
 kp:PySem.W.keepIn K (.ref f)=true
 bd:kH K fd ps []
theorem aZ {X:Cx} {x:Str} {st:Stmt} {ps:List Str} {f:Addr} {fd:FuncData} {k:Nat} {sp:Sp} {p pos:Pos} {e:Expr} {es:List Expr} {t:TA} (G:Fn X.K X.mg x st ps f fd) (ok:FnOk X.prog X.w X.K X.mg X.base CX0 k f fd ps sp) (hr:Room k X.A) (hg:Gl X x) (ha:PA X (e::es) t)
  (hdb:(x==("__debug__" : Str))=false:=by decide) (he:starEach (e::es) X.env=(false,eval e X.env)::starEach es X.env:=by rfl) (hpl:(backTo pos (starEach es X.env)).any (·.1)=false:=by rfl) :
  PE X (.Call (.Name x p) (e::es) [] pos) (iG sp [] E0 t):=aCT ok hr hg G.mgx G.kp G.bd .nil dP ha hdb he hpl
structure Bl (mg:Str->Option Value):Prop where
 isinstance:mg "isinstance" = none
 int:mg "int" = none
 bool:mg "bool" = none
 tuple:mg "tuple" = none
 list:mg "list" = none
 len:mg "len" = none
 all:mg "all" = none
 zip:mg "zip" = none
 range:mg "range" = none
 sorted:mg "sorted" = none
 set:mg "set" = none
 sum:mg "sum" = none
 repr:mg "repr" = none
 enumerate:mg "enumerate" = none
 min:mg "min" = none
 any:mg "any" = none
 dict:mg "dict" = none
 hands:∃ t,mg "MOST_HANDS" = some (.int 6 t)
 works:∃ t,mg "MOST_WORKS" = some (.int 12 t)
theorem gU:bootBuiltins "isinstance" = some (.builtin "isinstance"):=by decide +kernel
theorem aB4:bootBuiltins "int" = some (.type "int"):=by decide +kernel
theorem vE:bootBuiltins "bool" = some (.type "bool"):=by decide +kernel
theorem dY:bootBuiltins "tuple" = some (.type "tuple"):=by decide +kernel
theorem oR:bootBuiltins "list" = some (.type "list"):=by decide +kernel
theorem cG:bootBuiltins "len" = some (.builtin "len"):=by decide +kernel
theorem tU:bootBuiltins "all" = some (.builtin "all"):=by decide +kernel
theorem rP:bootBuiltins "sorted" = some (.builtin "sorted"):=by decide +kernel
theorem aFh:bootBuiltins "set" = some (.type "set"):=by decide +kernel
end L2
namespace Ab
open PySem L2
def top (i:Nat):Stmt:=PySem.Challenge.pw_ablehands_k40_dealings_kept.main.body.getD i (.Pass ⟨0,0,0,0⟩)
abbrev kP:Stmt:=top 10
abbrev cT:Stmt:=top 29
def eJ (s:Stmt):List Stmt:=match s with
 | .ClassDef _ _ _ b _ _ _ _ _ _ _=>b
 | _=>[]
abbrev tV:Stmt:=(eJ cT).getD 0 (.Pass ⟨0,0,0,0⟩)
abbrev pN:Stmt:=(eJ cT).getD 1 (.Pass ⟨0,0,0,0⟩)
abbrev jV:Stmt:=(eJ cT).getD 2 (.Pass ⟨0,0,0,0⟩)
abbrev jW:Stmt:=(eJ cT).getD 3 (.Pass ⟨0,0,0,0⟩)
abbrev aAV:Stmt:=(eJ cT).getD 4 (.Pass ⟨0,0,0,0⟩)
abbrev tW:Stmt:=(eJ cT).getD 5 (.Pass ⟨0,0,0,0⟩)
abbrev tX:Stmt:=(eJ cT).getD 6 (.Pass ⟨0,0,0,0⟩)
abbrev mGo:Stmt:=(eJ cT).getD 7 (.Pass ⟨0,0,0,0⟩)
abbrev jX:Stmt:=(eJ cT).getD 8 (.Pass ⟨0,0,0,0⟩)
abbrev rQ:Stmt:=(eJ cT).getD 9 (.Pass ⟨0,0,0,0⟩)
abbrev mV:Stmt:=(eJ cT).getD 10 (.Pass ⟨0,0,0,0⟩)
abbrev lI:Stmt:=(eJ cT).getD 11 (.Pass ⟨0,0,0,0⟩)
abbrev oS:Stmt:=(eJ cT).getD 12 (.Pass ⟨0,0,0,0⟩)
abbrev oT:Stmt:=top 11
abbrev oU:Stmt:=top 12
abbrev rR:Stmt:=top 13
abbrev vF:Stmt:=top 14
abbrev yU:Stmt:=top 15
abbrev yV:Stmt:=top 16
abbrev iL:Stmt:=top 18
abbrev yW:Stmt:=top 19
abbrev iM:Stmt:=top 21
abbrev jF:Stmt:=top 22
abbrev oV:Stmt:=top 23
abbrev jG:Stmt:=top 24
abbrev aDd:Stmt:=top 26
abbrev nN:Stmt:=top 28
abbrev vG:Stmt:=top 31
abbrev mW:Stmt:=top 32
abbrev xH:Stmt:=top 33
abbrev xI:Stmt:=top 34
abbrev vH:Stmt:=top 35
abbrev vI:Stmt:=top 36
abbrev sDo:Stmt:=top 37
abbrev gW:Stmt:=top 38
abbrev nO:Stmt:=top 39
abbrev kQ:Stmt:=top 40
abbrev lJ:Stmt:=top 41
abbrev aDe:Stmt:=top 42
abbrev vJ:Stmt:=top 43
abbrev lK:Stmt:=top 44
abbrev tY:Stmt:=top 45
abbrev iT:Stmt:=top 46
abbrev nQ:Stmt:=top 47
abbrev aB5:Stmt:=top 48
def gN:PyData->Bool
 | .int _=>true
 | _=>false
def eQ:PyData->Bool
 | .int i=>decide (1<=i) && decide (i<=6)
 | _=>false
def dU (hands:Int):Int->List PyData->Bool
 | _,[]=>true
 | last,.int i::r=>decide (last < i) && decide (i < hands) && dU hands i r
 | _,_::_=>false
def cK (hands:Int):PyData->Bool
 | .tuple ds=>!ds.isEmpty && dU hands (-1) ds
 | _=>false
def aEC:PyData->PyData->Bool
 | .int h,.tuple ws=>decide (1<=h) && decide (h<=6) && decide (ws.length<=12) && ws.all (cK h)
 | _,_=>false
def fQ:PyData->Bool
 | .tuple [dh,dw]=>aEC dh dw
 | _=>false
section
variable {P:Program} {w:World} {K:PySem.W.Frag} {mg:Str->Option Value} {base:Heap}
def lL (K:PySem.W.Frag):Sp:=fun vs H Q _=>∃ x d,vs = [x]/\Den K H d x/\Q (.bl (gN d)) H
theorem aDf:FnScope ["thing"] ["thing"] (aH kP):=⟨rfl,rfl,rfl,by decide +kernel,rfl,by decide +kernel,by decide +kernel⟩
theorem nR {f:Addr} {fd:FuncData} (G:Fn K mg "is_whole" kP ["thing"] f fd) (B:Bl mg):FnOk P w K mg base CX0 1 f fd ["thing"] (lL K):=by
 refine G.fn.ok aDf (fun vs H Q E h=>?_) (fun cdv A outer s H vs Q E hr h=>?_)
 ·obtain ⟨x,d,rfl,_⟩:=h
  rfl
 ·obtain ⟨x,d,rfl,hd,k⟩:=h
  refine ⟨_,aF (aK (iF (aJ nF rfl B.isinstance gU (aA (pv 0) (aA (cP (v:=.ty "int") rfl B.int aB4 rfl) aE)))
   (kF (xZ (aJ iX rfl B.isinstance gU (aA (pv 0) (aA (cP (v:=.ty "bool") rfl B.bool vE rfl) aE))))))),?_⟩
  refine ⟨_,rfl,x,kC d,rfl,hd.kd,_,rfl,?_⟩
  refine fF (fun c=>?_) (fun c=>?_)
  ·refine ⟨_,rfl,x,kC d,rfl,hd.kd,_,rfl,?_⟩
   have e:(!decide (kC d=Kd.bl))=gN d:=by
    cases d <;> first | rfl | (exfalso; simp [kC] at c)
   rw [e]
   exact k
  ·have e:false=gN d:=by
    cases d <;> first | rfl | (exfalso; simp [kC] at c)
   rw [e]
   exact k
def pY (K:PySem.W.Frag):Sp:=fun vs H Q _=>∃ x d,vs = [x]/\Den K H d x/\Q (.bl (eQ d)) H
theorem aDg:FnScope ["thing"] ["thing"] (aH oT):=⟨rfl,rfl,rfl,by decide +kernel,rfl,by decide +kernel,by decide +kernel⟩
theorem xJ {f fW:Addr} {fd fdW:FuncData} (G:Fn K mg "are_hands" oT ["thing"] f fd) (B:Bl mg) (W:Fn K mg "is_whole" kP ["thing"] fW fdW):FnOk P w K mg base CX0 2 f fd ["thing"] (pY K):=by
 have GW:FnOk P w K mg base CX0 1 fW fdW ["thing"] (lL K):=nR W B
 obtain ⟨t6,h6⟩:=B.hands
 refine G.fn.ok aDg (fun vs H Q E h=>?_) (fun cdv A outer s H vs Q E hr h=>?_)
 ·obtain ⟨x,d,rfl,_⟩:=h
  rfl
 ·obtain ⟨x,d,rfl,hd,k⟩:=h
  refine ⟨_,aF (aK (iF (aZ W GW hr rfl (aA (pv 0) aE))
   (kF (aBl zQ zQ aI (pv 0) (pV (v:=.int 6) rfl h6 ⟨t6,rfl⟩))))),?_⟩
  refine ⟨_,rfl,x,d,rfl,hd,_,rfl,?_⟩
  refine fF (fun c=>?_) (fun c=>?_)
  ·obtain ⟨i,rfl⟩:∃ i,d=.int i:=by cases d <;> first | exact ⟨_,rfl⟩ | (exfalso; simp [gN] at c)
   obtain rfl:=eI.mp hd
   refine ⟨_,rfl,_,_,rfl,rfl,_,rfl,?_⟩
   refine fF (fun c1=>?_) (fun c1=>?_)
   ·refine ⟨_,_,rfl,rfl,?_⟩
    have e:decide (i<=6)=eQ (.int i):=by
     show _=(decide (1<=i) && decide (i<=6))
     rw [c1,Zc]
    show Q (.bl (decide (i<=6))) H
    rw [e]; exact k
   ·have e:false=eQ (.int i):=by
     show _=(decide (1<=i) && decide (i<=6))
     have c2:decide (1<=i)=false:=by simpa using c1
     rw [c2,Bool.false_and]
    rw [e]; exact k
  ·have e:false=eQ d:=by cases d <;> first | rfl | (exfalso; simp [gN] at c)
   rw [e]; exact k
theorem gZ (h l i:Int) (r:List PyData):dU h l (.int i::r)=(decide (l < i) && decide (i < h) && dU h i r):=by rw [dU]
theorem rS (h l:Int) (d:PyData) (r:List PyData) (n:gN d=false):dU h l (d::r)=false:=by
 cases d <;> first | rfl | (simp [gN] at n)
def pZ (K:PySem.W.Frag):Sp:=fun vs H Q _=>∃ n x d,vs = [.int n,x]/\Den K H d x/\Q (.bl (cK n d)) H
theorem qA:FnScope ["hands", "thing", "last", "hand"] ["hands", "thing"] (aH oU):=⟨rfl,rfl,rfl,by decide +kernel,rfl,by decide +kernel,by decide +kernel⟩
theorem xK {f fW:Addr} {fd fdW:FuncData} (G:Fn K mg "is_work" oU ["hands", "thing"] f fd) (B:Bl mg) (W:Fn K mg "is_whole" kP ["thing"] fW fdW):FnOk P w K mg base CX0 2 f fd ["hands", "thing"] (pZ K):=by
 have GW:FnOk P w K mg base CX0 1 fW fdW ["thing"] (lL K):=nR W B
 refine G.fn.ok qA (fun vs H Q E h=>?_) (fun cdv A outer s H vs Q E hr h=>?_)
 ·obtain ⟨n,x,d,rfl,_⟩:=h
  rfl
 ·obtain ⟨n,x,d,rfl,hd,k⟩:=h
  refine ⟨_,aC (bA (PW.pt (dF (bY (bP (aJ cA rfl B.isinstance gU (aA (pv 1) (aA (cP (v:=.ty "tuple") rfl B.tuple dY rfl) aE)))))
    (cW (aL dX (aJ aO rfl B.len cG (aA (pv 1) aE)) aI (aR _))))) (aF (aK cO)) aN)
   (aC (aM (i:=2) qA.nd rfl (Or.inl rfl) (aBj yC aI))
   (aC (gD PassesOwn.never rfl (mM (pv 1)) (aT (i:=3) qA.nd rfl (Or.inl rfl))
    (aC (bA (PW.pt (dF (bY (bP (aZ W GW hr rfl (aA (pv 3) aE)))) (dF (aL zQ (pv 3) (pv 2) (aR _)) (cW (aL qP (pv 3) (pv 0) (aR _)))))) (aF (aK cO)) aN)
    (aF (aM (i:=2) qA.nd rfl (Or.inl rfl) (pv 3)))))
   (aF (aK cO)))),?_⟩
  refine ⟨_,rfl,x,kC d,rfl,hd.kd,_,rfl,?_⟩
  refine fF (fun c=>?_) (fun c=>?_)
  ·-- not a tuple
   refine iQ ?_
   have e:false=cK n d:=by
    cases d <;> first | rfl | (exfalso; simp [kC] at c)
   rw [e]; exact k
  ·obtain ⟨ds,rfl⟩:∃ ds,d=.tuple ds:=by cases d <;> first | exact ⟨_,rfl⟩ | (exfalso; simp [kC] at c)
   obtain ⟨a,xs,rfl,ha,hds⟩:=cN.mp hd
   have hl:=cJ hds
   refine ⟨_,rfl,a,xs,rfl,.inr ha,rfl,_,rfl,?_⟩
   refine fF (fun c2=>?_) (fun c2=>?_)
   ·have e:false=cK n (.tuple ds):=by
     have e1:ds = []:=by
      have:(xs.length:Int)=0:=by simpa using c2
      exact Xp.mp (by omega)
     rw [e1]; rfl
    rw [e]; exact k
   ·have hne:ds≠[]:=by
     intro z
     apply c2
     rw [z] at hl
     simp [hl]
    have e0:cK n (.tuple ds)=dU n (-1) ds:=by
     show (!ds.isEmpty && dU n (-1) ds)=_
     cases ds with
     | nil=>exact absurd rfl hne
     | cons _ _=>rfl
    rw [e0] at k
    refine ⟨_,rfl,?_⟩
    refine ⟨_,rfl,a,rfl,⟨xs,ha⟩,zM (K:=K) (a:=a) (xs:=xs) (fun i σ H2=>∃ (last:Int) (v:Option V),σ = [some (.int n),some (.ref a),some (.int last),v]/\H2=H/\dU n (-1) ds=dU n last (ds.drop i))
     ⟨-1,none,rfl,rfl,rfl⟩ (fun i σ H2 _ ⟨_,_,_,e,_⟩=>by rw [e]; exact ha) ?_ ?_⟩
    ·rintro i y σ H2 hi ⟨last,v,rfl,rfl,hr2⟩
     obtain ⟨dy,hdy,hden⟩:=jC hds hi
     have hdrop:ds.drop i=dy::ds.drop (i+1):=by
      obtain ⟨hlt,e⟩:=Qa.mp hdy
      rw [Zk hlt,e]
     rw [hdrop] at hr2
     refine ⟨_,rfl,y,dy,rfl,hden,_,rfl,?_⟩
     refine fF (fun c3=>?_) (fun c3=>?_)
     ·refine iQ ?_
      have e:false=dU n (-1) ds:=by rw [hr2,rS]; simpa using c3
      rw [e]; exact k
     ·obtain ⟨j,rfl⟩:∃ j,dy=.int j:=by cases dy <;> first | exact ⟨_,rfl⟩ | (exfalso; simp [gN] at c3)
      obtain rfl:=eI.mp hden
      rw [gZ] at hr2
      refine ⟨_,rfl,_,rfl,_,_,rfl,rfl,_,rfl,?_⟩
      refine fF (fun c4=>?_) (fun c4=>?_)
      ·refine iQ ?_
       have c4':j<=last:=of_decide_eq_true c4
       have e:false=dU n (-1) ds:=by rw [hr2,decide_eq_false (by omega:¬ last < j)]; rfl
       rw [e]; exact k
      ·have c4':¬ j<=last:=fun z=>c4 (decide_eq_true z)
       refine ⟨_,rfl,_,rfl,_,_,rfl,rfl,_,rfl,?_⟩
       refine fF (fun c5=>?_) (fun c5=>?_)
       ·have c5':n<=j:=of_decide_eq_true c5
        have e:false=dU n (-1) ds:=by rw [hr2,decide_eq_false (by omega:¬ j < n),Bool.and_false]; rfl
        rw [e]; exact k
       ·have c5':¬ n<=j:=fun z=>c5 (decide_eq_true z)
        refine ⟨_,rfl,j,some (.int j),rfl,rfl,?_⟩
        rw [hr2,decide_eq_true (by omega:last < j),decide_eq_true (by omega:j < n)]
        rfl
    ·rintro σ H2 ⟨last,v,rfl,rfl,hr2⟩
     have e:true=dU n (-1) ds:=by
      rw [hr2,hl,List.drop_length]
      rfl
     show Q (.bl true) _
     rw [e]; exact k
theorem aDh {σ:St} {H:Hp} {A B:Hp->Prop} (h:A H):wS σ H fun b H3=>if b=true then A H3 else B H3:=by
 show if true=true then A H else B H
 exact iQ h
theorem cC {i:Nat} {x:V} {σ:St} {H:Hp} {A B:St->Hp->Prop} (h:A (σ.set i (some x)) H):aV i x σ H fun σ2 H2=>wS σ2 H2 fun b H3=>if b=true then A σ2 H3 else B σ2 H3:=by
 show if true=true then A (σ.set i (some x)) H else B (σ.set i (some x)) H
 exact iQ h
def aAb (K:PySem.W.Frag):Sp:=fun vs H Q _=>∃ x d,vs = [x]/\Den K H d x/\∀ H',aG H H'->Q (.bl (fQ d)) H'
theorem vK:FnScope ["thing", "hands", "works"] ["thing"] (aH rR):=⟨rfl,rfl,rfl,by decide +kernel,rfl,by decide +kernel,by decide +kernel⟩
theorem aB6 {f fW fH fK:Addr} {fd fdW fdH fdK:FuncData} (G:Fn K mg "is_book" rR ["thing"] f fd) (B:Bl mg) (W:Fn K mg "is_whole" kP ["thing"] fW fdW) (GH:Fn K mg "are_hands" oT ["thing"] fH fdH) (GK:Fn K mg "is_work" oU ["hands", "thing"] fK fdK):FnOk P w K mg base CX0 3 f fd ["thing"] (aAb K):=by
 have OH:FnOk P w K mg base CX0 2 fH fdH ["thing"] (pY K):=xJ GH B W
 have OK:FnOk P w K mg base CX0 2 fK fdK ["hands", "thing"] (pZ K):=xK GK B W
 obtain ⟨t12,h12⟩:=B.works
 refine G.fn.ok vK (fun vs H Q E h=>?_) (fun cdv A outer s H vs Q E hr h=>?_)
 ·obtain ⟨x,d,rfl,_⟩:=h
  rfl
 ·obtain ⟨x,d,rfl,hd,k⟩:=h
  refine ⟨_,aC (bA (PW.pt (dF (bY (bP (aJ cA rfl B.isinstance gU (aA (pv 0) (aA (cP (v:=.ty "tuple") rfl B.tuple dY rfl) aE)))))
    (cW (aL kA (aJ aO rfl B.len cG (aA (pv 0) aE)) aI (aR _))))) (aF (aK cO)) aN)
   (aC (oG (pv 0) (mK rfl (cF (aT (i:=1) vK.nd rfl (Or.inr rfl)) (cF (aT (i:=2) vK.nd rfl (Or.inl rfl)) jS))))
   (aC (bA (bY (bP (aZ GH OH hr rfl (aA (pv 1) aE)))) (aF (aK cO)) aN)
   (aC (bA (PW.pt (dF (bY (bP (aJ cA rfl B.isinstance gU (aA (pv 2) (aA (cP (v:=.ty "tuple") rfl B.tuple dY rfl) aE)))))
    (cW (aL lY (aJ aO rfl B.len cG (aA (pv 2) aE)) (pV (v:=.int 12) rfl h12 ⟨t12,rfl⟩) (aR _))))) (aF (aK cO)) aN)
   (aF (aK (aJ (jB rfl) rfl B.all tU (aA
    (cZ (own:=["work"]) (fr:=[1]) (frn:=["hands"]) (bD (aH rR) ["thing", "hands", "works"] rfl rfl (by decide +kernel)) rfl (mM (pv 2))
     (fun _ _ _ _=>aT (i:=0) (show (["work", "hands"]:List Str).Nodup by decide +kernel) rfl (Or.inl rfl)) (fun _ _ _ _=>dQ) (fun _ _ _ _=>aZ GK OK hr rfl (aA (pv 1) (aA (pv 0) aE)))) aE))))))),?_⟩
  refine ⟨_,rfl,x,kC d,rfl,hd.kd,_,rfl,?_⟩
  refine fF (fun c=>?_) (fun c=>?_)
  ·refine iQ ?_
   have e:false=fQ d:=by
    cases d <;> first | rfl | (exfalso; simp [kC] at c)
   rw [e]; exact k H (aG.refl H)
  ·obtain ⟨ds,rfl⟩:∃ ds,d=.tuple ds:=by cases d <;> first | exact ⟨_,rfl⟩ | (exfalso; simp [kC] at c)
   obtain ⟨a,xs,rfl,ha,hds⟩:=cN.mp hd
   have hl:=cJ hds
   refine ⟨_,rfl,a,xs,rfl,.inr ha,rfl,_,rfl,?_⟩
   refine fF (fun c2=>?_) (fun c2=>?_)
   ·have e:false=fQ (.tuple ds):=by
     match ds,hl,c2 with
     | [],_,_=>rfl
     | [_],_,_=>rfl
     | [_,_],hl,c2=>exfalso; rw [hl] at c2; simp at c2
     | _::_::_::_,_,_=>rfl
    rw [e]; exact k H (aG.refl H)
   ·obtain ⟨dh,dw,rfl⟩:∃ dh dw,ds = [dh,dw]:=by
     match ds,hl,c2 with
     | [],hl,c2=>exfalso; rw [hl] at c2; simp at c2
     | [_],hl,c2=>exfalso; rw [hl] at c2; simp at c2
     | [p,q],_,_=>exact ⟨p,q,rfl⟩
     | p::q::r::t,hl,c2=>exfalso; apply c2; rw [hl]; simp; omega
    obtain ⟨xh,r1,rfl,hh,h2⟩:=bQ.mp hds
    obtain ⟨xw,r2,rfl,hw,h3⟩:=bQ.mp h2
    obtain rfl:=eD.mp h3
    -- hands,works=thing
    refine ⟨_,rfl,a,_,rfl,ha,rfl,_,_,rfl,_,_,rfl,rfl,?_⟩
    -- are_hands(hands)
    refine ⟨_,rfl,xh,dh,rfl,hh,_,rfl,?_⟩
    refine fF (fun c3=>?_) (fun c3=>?_)
    ·have e:false=fQ (.tuple [dh,dw]):=by
      have c3':eQ dh=false:=by simpa using c3
      cases dh with
      | int n =>
       cases dw with
       | tuple ws =>
        have c4:(decide (1<=n) && decide (n<=6))=false:=c3'
        show _=(decide (1<=n) && decide (n<=6) && decide (ws.length<=12) && ws.all (cK n))
        rw [c4]; rfl
       | _=>rfl
      | _=>rfl
     rw [e]; exact k H (aG.refl H)
    ·obtain ⟨n,rfl,hn⟩:∃ n,dh=.int n/\(decide (1<=n) && decide (n<=6))=true:=by
      cases dh <;> first | exact ⟨_,rfl,by simpa [eQ] using c3⟩ | (exfalso; simp [eQ] at c3)
     obtain rfl:=eI.mp hh
     refine ⟨_,rfl,xw,kC dw,rfl,hw.kd,_,rfl,?_⟩
     refine fF (fun c5=>?_) (fun c5=>?_)
     ·refine iQ ?_
      have e:false=fQ (.tuple [.int n,dw]):=by
       cases dw <;> first | rfl | (exfalso; simp [kC] at c5)
      rw [e]; exact k H (aG.refl H)
     ·obtain ⟨ws,rfl⟩:∃ ws,dw=.tuple ws:=by cases dw <;> first | exact ⟨_,rfl⟩ | (exfalso; simp [kC] at c5)
      obtain ⟨b,ys,rfl,hb,hws⟩:=cN.mp hw
      have hlw:=cJ hws
      have eB:fQ (.tuple [.int n,.tuple ws])=(decide (ws.length<=12) && ws.all (cK n)):=by
       show (decide (1<=n) && decide (n<=6) && decide (ws.length<=12) && ws.all (cK n))=_
       rw [hn,Zc]
      rw [eB] at k
      refine ⟨_,rfl,b,ys,rfl,.inr hb,_,_,rfl,rfl,_,rfl,?_⟩
      refine fF (fun c6=>?_) (fun c6=>?_)
      ·have c6':(12:Int) < ys.length:=of_decide_eq_true c6
       have e:false=(decide (ws.length<=12) && ws.all (cK n)):=by rw [decide_eq_false (by omega:¬ ws.length<=12)]; rfl
       rw [e]; exact k H (aG.refl H)
      ·have c6':¬ (12:Int) < ys.length:=fun z=>c6 (decide_eq_true z)
       have e1:decide (ws.length<=12)=true:=decide_eq_true (by omega)
       rw [e1,Zc] at k
       refine ⟨_,rfl,b,rfl,⟨ys,hb⟩,aBC (K:=K) (a:=b) (xs:=ys) (fun σ=>∃ v,σ = [v,some (.int n)]) (fun i zs H2=>H2=H/\zs=((ws.take i).map (cK n)).map V.bl) ?_ ⟨none,rfl⟩ ⟨rfl,rfl⟩ ?_ ?_ ?_ ?_⟩
       ·rw [sizeLine_eq]; omega
       ·rintro i zs H2 ⟨_,rfl⟩
        rw [Qd,Qd,Jq]; omega
       ·rintro i zs H2 ⟨rfl,_⟩
        exact hb
       ·rintro i zs σ x H2 hx ⟨v,rfl⟩ ⟨rfl,rfl⟩ hz
        obtain ⟨dx,hdx,hden⟩:=jC hws hx
        refine cC ?_
        refine ⟨_,rfl,_,rfl,n,x,dx,rfl,hden,hz,⟨some x,rfl⟩,rfl,?_⟩
        rw [Xd,hdx]
        simp
       ·rintro zs H2 ⟨rfl,rfl⟩ p hp
        refine ⟨p,_,rfl,SqL.of aB,?_⟩
        have e2:((ws.take ys.length).map (cK n)).all id=ws.all (cK n):=by
         rw [hlw,Ju,Wr]
         rfl
        rw [e2]
        exact k _ (aG.new hp)
end
def fU (l:List Int):PyData:=.tuple (l.map .int)
def iU (n:Int) (ws:List (List Int)):PyData:=.tuple [.int n,.tuple (ws.map fU)]
def rT (hs:List Int):PyData:=.tuple (hs.map .int)
def fV:PyData->List Int->Bool
 | .int i,l=>l.any (·==i)
 | _,_=>false
def nS (ws:List (List Int)):PyData->Bool
 | .tuple hs=>decide (hs.length=ws.length) && (hs.zip ws).all fun p=>fV p.1 p.2
 | _=>false
theorem lM (l:List Int):(l.map V.int).all lZ=true:=by
 rw [Wr]
 exact Xb.mpr fun _ _=>rfl
theorem vL (i:Int) (l:List Int):inV (.int i) (l.map V.int)=l.any (·==i):=by
 unfold inV
 rw [We]
 rfl
theorem jH {K:PySem.W.Frag} {H:Hp} {n:Int} {ws:List (List Int)} {x:V} (h:Den K H (iU n ws) x):∃ a b ys,x=.ref a/\SqT K H a [.int n,.ref b]/\SqT K H b ys/\bK K H (ws.map fU) ys:=by
 obtain ⟨a,xs,rfl,ha,hds⟩:=cN.mp h
 obtain ⟨xh,r1,rfl,hh,h2⟩:=bQ.mp hds
 obtain ⟨xw,r2,rfl,hw,h3⟩:=bQ.mp h2
 obtain rfl:=eD.mp h3
 obtain rfl:=eI.mp hh
 obtain ⟨b,ys,rfl,hb,hys⟩:=cN.mp hw
 exact ⟨a,b,ys,rfl,ha,hb,hys⟩
theorem aS {n:Int} {ws:List (List Int)} (h:fQ (iU n ws)=true):1<=n/\n<=6/\ws.length<=12/\∀ l∈ws,cK n (fU l)=true:=by
 have h':(decide (1<=n) && decide (n<=6) && decide ((ws.map fU).length<=12) && (ws.map fU).all (cK n))=true:=h
 simp only [Ji,decide_eq_true_eq,Qd,Xb] at h'
 exact ⟨h'.1.1.1,h'.1.1.2,h'.1.2,fun l hl=>h'.2 _ (Jm.mpr ⟨l,hl,rfl⟩)⟩
theorem aDi {X:Cx} {pos:Pos} {es:List Expr} {k:Nat} {t:TGs} {n:Nat} {K:PySem.W.Frag} (hK:X.K=K) (hc:X.calm=true) (h:PGs X es t)
  (hn:(assignEach es X.env).length=n:=by rfl) (hst:(assignEach es X.env).findIdx? (·.1)=none:=by rfl):PG X (.Tuple es k pos) (aE0 K n t):=by
 subst hK
 exact mK hc h hn hst
section
variable {X:Cx} {K:PySem.W.Frag}
theorem iN (hK:X.K=K):OpR X (compareOp .In) (rIn K false):=by subst hK; exact oJ
theorem vM (hK:X.K=K):IxR X (aEm K):=by subst hK; exact bU
theorem tD (hK:X.K=K):dJ X (.builtin "len") (fun xs H Q=>∃ p ys,xs = [.ref p]/\(SqL K H p ys∨SqT K H p ys)/\Q (.int ys.length) H):=by subst hK; exact aO
theorem rV (hK:X.K=K):dJ X (.type "tuple") (fun xs H Q=>∃ p ys,xs = [.ref p]/\((SqL K H p ys/\∀ l,H l=none->Q (.ref l) (upd H l (.tup ys)))∨(SqT K H p ys/\Q (.ref p) H))):=by subst hK; exact gK
theorem yX (hK:X.K=K):MtR X "tuple.count" (fun x vs H Q=>∃ (a:Addr) (ns:List Int) (n:Int),x=.ref a/\vs = [.int n]/\SqT K H a (ns.map V.int)/\Q (.int (ns.count n:Nat)) H):=by subst hK; exact aAD
end
section
variable {P:Program} {w:World} {K:PySem.W.Frag} {mg:Str->Option Value} {base:Heap}
structure Pr (K:PySem.W.Frag) (mg:Str->Option Value) (fW fH fK fB fNB fD fND fL:Addr) (dW dH dK dB dNB dD dND dL:FuncData):Prop where
 W:Fn K mg "is_whole" kP ["thing"] fW dW
 H:Fn K mg "are_hands" oT ["thing"] fH dH
 Kw:Fn K mg "is_work" oU ["hands", "thing"] fK dK
 B:Fn K mg "is_book" rR ["thing"] fB dB
 NB:Fn K mg "need_book" yU ["book"] fNB dNB
 D:Fn K mg "is_deal" vF ["book", "thing"] fD dD
 ND:Fn K mg "need_deal" yV ["book", "deal"] fND dND
 C:∃ f d,Fn K mg "counted" iL ["hands", "deal"] f d
 L:Fn K mg "loads" yW ["book", "deal"] fL dL
variable {fW fH fK fB fNB fD fND fL:Addr} {dW dH dK dB dNB dD dND dL:FuncData}
def aAc (K:PySem.W.Frag):Sp:=fun vs H Q _=>∃ x d,vs = [x]/\Den K H d x/\fQ d=true/\∀ H',aG H H'->Q .non H'
theorem aDj:FnScope ["book"] ["book"] (aH yU):=⟨rfl,rfl,rfl,by decide +kernel,rfl,by decide +kernel,by decide +kernel⟩
theorem aB7 (B:Bl mg) (R:Pr K mg fW fH fK fB fNB fD fND fL dW dH dK dB dNB dD dND dL):FnOk P w K mg base CX0 4 fNB dNB ["book"] (aAc K):=by
 have OB:FnOk P w K mg base CX0 3 fB dB ["thing"] (aAb K):=aB6 R.B B R.W R.H R.Kw
 refine R.NB.fn.ok aDj (fun vs H Q E h=>?_) (fun cdv A outer s H vs Q E hr h=>?_)
 ·obtain ⟨x,d,rfl,_⟩:=h
  rfl
 ·obtain ⟨x,d,rfl,hd,hb,k⟩:=h
  refine ⟨_,aF (bA (bY (bP (aZ R.B OB hr rfl (aA (pv 0) aE)))) eV aN),?_⟩
  refine ⟨_,rfl,x,d,rfl,hd,fun H' hs=>⟨_,rfl,?_⟩⟩
  rw [hb]
  refine mS ?_
  exact k H' hs
def aAd (K:PySem.W.Frag):Sp:=fun vs H Q _=>∃ x y n ws d,vs = [x,y]/\Den K H (iU n ws) x/\fQ (iU n ws)=true/\Den K H d y/\∀ H',aG H H'->Q (.bl (nS ws d)) H'
theorem aAe:FnScope ["book", "thing", "works"] ["book", "thing"] (aH vF):=⟨rfl,rfl,rfl,by decide +kernel,rfl,by decide +kernel,by decide +kernel⟩
theorem aB8 (B:Bl mg) (R:Pr K mg fW fH fK fB fNB fD fND fL dW dH dK dB dNB dD dND dL):FnOk P w K mg base CX0 5 fD dD ["book", "thing"] (aAd K):=by
 have ON:FnOk P w K mg base CX0 4 fNB dNB ["book"] (aAc K):=aB7 B R
 have OW:FnOk P w K mg base CX0 1 fW dW ["thing"] (lL K):=nR R.W B
 refine R.D.fn.ok aAe (fun vs H Q E h=>?_) (fun cdv A outer s H vs Q E hr h=>?_)
 ·obtain ⟨x,y,n,ws,d,rfl,_⟩:=h
  rfl
 ·obtain ⟨x,y,n,ws,d,rfl,hx,hb,hd,k⟩:=h
  have hr1:Room 1 _:=hr.mono (by decide)
  refine ⟨_,aC (cX (aZ R.NB ON hr rfl (aA (pv 0) aE)))
   (aC (aM (i:=2) aAe.nd rfl (Or.inl rfl) (bE bU (pv 0) aI (fun _ _=>rfl)))
   (aC (bA (PW.pt (dF (bY (bP (aJ cA rfl B.isinstance gU (aA (pv 1) (aA (cP (v:=.ty "tuple") rfl B.tuple dY rfl) aE)))))
    (cW (aL kA (aJ aO rfl B.len cG (aA (pv 1) aE)) (aJ aO rfl B.len cG (aA (pv 2) aE)) (aR _))))) (aF (aK cO)) aN)
   (aF (aK (aJ (jB rfl) rfl B.all tU (aA
    (cZ (own:=["hand", "able"]) (fr:=[]) (frn:=[]) (bD (aH vF) ["book", "thing", "works"] rfl rfl (by decide +kernel)) rfl (aEs .t .t rfl B.zip (aA (pv 1) (aA (pv 2) aE)))
     (fun _ _ _ _=>aDi (K:=K) (n:=2) rfl rfl (cF (aT (i:=0) (show (["hand", "able"]:List Str).Nodup by decide +kernel) rfl (Or.inl rfl)) (cF (aT (i:=1) (show (["hand", "able"]:List Str).Nodup by decide +kernel) rfl (Or.inl rfl)) jS)))
     (fun _ _ _ _=>dQ) (fun _ _ _ _=>iF (aZ R.W OW hr1 rfl (aA (pv 0) aE)) (kF (eR (iN (K:=K) rfl) (pv 0) (pv 1) (by with_unfolding_all rfl))))) aE)))))),?_⟩
  refine ⟨_,rfl,x,iU n ws,rfl,hx,hb,fun H1 s1=>?_⟩
  have hx1:=s1.den _ _ hx
  have hd1:=s1.den _ _ hd
  obtain ⟨a,b,ys,rfl,ha,hb2,hys⟩:=jH hx1
  have hlw:=cJ hys
  rw [Qd] at hlw
  refine ⟨_,rfl,a,_,1,.ref b,rfl,rfl,ha,rfl,?_⟩
  refine ⟨_,rfl,y,kC d,rfl,hd1.kd,_,rfl,?_⟩
  refine fF (fun c=>?_) (fun c=>?_)
  ·refine iQ ?_
   have e:false=nS ws d:=by
    cases d <;> first | rfl | (exfalso; simp [kC] at c)
   rw [e]; exact k H1 s1
  ·obtain ⟨hs,rfl⟩:∃ hs,d=.tuple hs:=by cases d <;> first | exact ⟨_,rfl⟩ | (exfalso; simp [kC] at c)
   obtain ⟨a2,xs,rfl,ha2,hxs⟩:=cN.mp hd1
   have hlx:=cJ hxs
   refine ⟨_,rfl,a2,xs,rfl,.inr ha2,_,rfl,b,ys,rfl,.inr hb2,rfl,_,rfl,?_⟩
   refine fF (fun c2=>?_) (fun c2=>?_)
   ·have e:false=nS ws (.tuple hs):=by
     show _=(decide (hs.length=ws.length) && (hs.zip ws).all fun p=>fV p.1 p.2)
     rw [decide_eq_false]
     ·rfl
     ·intro z
      have:(V.int (xs.length:Int)=V.int (ys.length:Int)):=by rw [hlx,hlw,z]
      simp [this] at c2
    rw [e]; exact k H1 s1
   ·have heq:xs.length=ys.length:=by
     have:V.int (xs.length:Int)=V.int (ys.length:Int):=by simpa using c2
     injection this with this
     omega
    have e0:nS ws (.tuple hs)=(hs.zip ws).all fun p=>fV p.1 p.2:=by
     show (decide (hs.length=ws.length) && _)=_
     rw [decide_eq_true (by omega:hs.length=ws.length),Zc]
    rw [e0] at k
    obtain ⟨_,_,h12,_⟩:=aS hb
    refine ⟨_,rfl,_,rfl,a2,b,xs,ys,rfl,ha2,hb2,aBD (K:=K) (k1:=.t) (k2:=.t) (a:=a2) (b:=b) (xs:=xs) (ys:=ys) (fun σ=>∃ u v,σ = [u,v]) (fun i zs H2=>aG H1 H2/\zs=(((hs.zip ws).take i).map fun p=>fV p.1 p.2).map V.bl) ?_ heq ⟨none,none,rfl⟩ ⟨aG.refl H1,rfl⟩ ?_ ?_ ?_ ?_⟩
    ·rw [sizeLine_eq]; omega
    ·rintro i zs H2 ⟨_,rfl⟩
     rw [Qd,Qd,Jq]; omega
    ·rintro i zs H2 ⟨s2,_⟩
     exact ⟨s2.seqT ha2,s2.seqT hb2⟩
    ·rintro i zs σ u v p H2 hu hv ⟨u0,v0,rfl⟩ ⟨s2,rfl⟩ hp hz
     obtain ⟨du,hdu,denu⟩:=jC hxs hu
     obtain ⟨dv,hdv,denv⟩:=jC hys hv
     rw [Qi] at hdv
     obtain ⟨l,hl,rfl⟩:∃ l,ws[i]?=some l/\fU l=dv:=by
      cases q:ws[i]? with
      | none=>rw [q] at hdv; cases hdv
      | some l=>rw [q] at hdv; exact ⟨l,rfl,Option.some.inj hdv⟩
     have s3:aG H1 (upd H2 p (.tup [u,v])):=s2.trans (aG.new hp)
     have hzip:(hs.zip ws)[i]?=some (du,l):=by rw [Jb]; exact ⟨hdu,hl⟩
     have enext:(((hs.zip ws).take (i+1)).map fun p=>fV p.1 p.2).map V.bl=(((hs.zip ws).take i).map fun p=>fV p.1 p.2).map V.bl++[V.bl (fV du l)]:=by
      rw [Xd,hzip]; simp
     refine ⟨p,_,rfl,SqT.of aB,rfl,_,_,rfl,_,_,rfl,rfl,?_⟩
     refine aDh ?_
     refine ⟨_,rfl,u,du,rfl,s3.den _ _ denu,_,rfl,?_⟩
     refine fF (fun c3=>?_) (fun c3=>?_)
     ·obtain ⟨j,rfl⟩:∃ j,du=.int j:=by cases du <;> first | exact ⟨_,rfl⟩ | (exfalso; simp [gN] at c3)
      obtain rfl:=eI.mp denu
      obtain ⟨av,rfl,hav⟩:=bR.mp denv
      refine ⟨_,rfl,_,rfl,av,_,rfl,.inr (s3.seqT hav),rfl,lM l,hz,⟨_,_,rfl⟩,s3,?_⟩
      rw [enext]
      show _++[V.bl (inV (.int j) (l.map V.int))]=_
      rw [vL]
      rfl
     ·have e:fV du l=false:=by cases du <;> first | rfl | (exfalso; simp [gN] at c3)
      refine ⟨hz,⟨_,_,rfl⟩,s3,?_⟩
      rw [enext,e]
    ·rintro zs H2 ⟨s2,rfl⟩ p hp
     refine ⟨p,_,rfl,SqL.of aB,?_⟩
     have e2:(((hs.zip ws).take xs.length).map fun p=>fV p.1 p.2).all id=(hs.zip ws).all fun p=>fV p.1 p.2:=by
      rw [Xt (by rw [Xr]; omega),Wr]
      rfl
     rw [e2]
     exact k _ (s1.trans (s2.trans (aG.new hp)))
end
def bF (n:Int) (hs:List Int):List Int:=(aAF n.toNat).map fun h=>((hs.count h:Nat):Int)
theorem rW {n i:Nat} (h:i < n):(aAF n)[i]?=some (i:Int):=by
 unfold aAF
 rw [Qi,List.getElem?_range h]
 rfl
theorem eE (n:Nat):(aAF n).length=n:=by unfold aAF; rw [Qd,List.length_range]
theorem aED {X:Cx} {K:PySem.W.Frag} {o e:Expr} {es:List Expr} {to:TE} {t:TA} {name:Str} {apos cpos:Pos} {T id:String} {r:V->List V->Hp->VK->Prop} (hK:X.K=K) (pa:PlainAttrs T) (slot:Slot T name id) (hty:typeOf (.builtin id)=pure (.type "method_descriptor")) (hm:MtR X id r) (ho:PE X o to) (ha:PA X (e::es) t)
  (hbase:attributeBase o name X.env (eval o X.env)=eval o X.env:=by rfl)
  (hfew:((backTo cpos (starEach (e::es) X.env)).all (fun x=>!x.1) && (backToKw cpos (keywordEach [] X.env)).all (fun x=>x.1.isSome)
   && decide ((e::es).length+([]:List Keyword).length+(if ([]:List Keyword).isEmpty then 0 else 1) < 30))=true:=by rfl)
  (hline:(apos.endLine==cpos.line)=true:=by rfl) (hs:starEach (e::es) X.env=(false,eval e X.env)::starEach es X.env:=by rfl) (hplain:(backTo cpos (starEach es X.env)).any (·.1)=false:=by rfl) :
  PE X (.Call (.Attribute o name apos) (e::es) [] cpos) (tBM K T r to t):=by
 subst hK
 exact pL pa slot hty hm ho ha hbase hfew hline hs hplain
section
variable {P:Program} {w:World} {K:PySem.W.Frag} {mg:Str->Option Value} {base:Heap}
variable {fW fH fK fB fNB fD fND fL:Addr} {dW dH dK dB dNB dD dND dL:FuncData}
def oW (K:PySem.W.Frag) (H:Hp) (x y:V) (n:Int) (ws:List (List Int)) (hs:List Int):Prop:=Den K H (iU n ws) x/\fQ (iU n ws)=true/\Den K H (rT hs) y/\nS ws (rT hs)=true
theorem oW.same {H H':Hp} {x y:V} {n:Int} {ws:List (List Int)} {hs:List Int} (g:oW K H x y n ws hs) (e:aG H H'):oW K H' x y n ws hs:=⟨e.den _ _ g.1,g.2.1,e.den _ _ g.2.2.1,g.2.2.2⟩
theorem oW.len {H:Hp} {x y:V} {n:Int} {ws:List (List Int)} {hs:List Int} (g:oW K H x y n ws hs):hs.length<=12/\1<=n/\n<=6:=by
 obtain ⟨h1,h2,h3,_⟩:=aS g.2.1
 have h:(decide ((hs.map PyData.int).length=ws.length) && ((hs.map PyData.int).zip ws).all fun p=>fV p.1 p.2)=true:=g.2.2.2
 simp only [Ji,decide_eq_true_eq,Qd] at h
 omega
def aAf (K:PySem.W.Frag):Sp:=fun vs H Q _=>∃ x y n ws hs,vs = [x,y]/\oW K H x y n ws hs/\∀ H',aG H H'->Q .non H'
theorem aDk:FnScope ["book", "deal"] ["book", "deal"] (aH yV):=⟨rfl,rfl,rfl,by decide +kernel,rfl,by decide +kernel,by decide +kernel⟩
theorem aB9 (B:Bl mg) (R:Pr K mg fW fH fK fB fNB fD fND fL dW dH dK dB dNB dD dND dL):FnOk P w K mg base CX0 6 fND dND ["book", "deal"] (aAf K):=by
 have OD:FnOk P w K mg base CX0 5 fD dD ["book", "thing"] (aAd K):=aB8 B R
 refine R.ND.fn.ok aDk (fun vs H Q E h=>?_) (fun cdv A outer s H vs Q E hr h=>?_)
 ·obtain ⟨x,y,n,ws,hs,rfl,_⟩:=h
  rfl
 ·obtain ⟨x,y,n,ws,hs,rfl,⟨g1,g2,g3,g4⟩,k⟩:=h
  refine ⟨_,aF (bA (bY (bP (aZ R.D OD hr rfl (aA (pv 0) (aA (pv 1) aE))))) eV aN),?_⟩
  refine ⟨_,rfl,_,rfl,x,y,n,ws,rT hs,rfl,g1,g2,g3,fun H' hs=>⟨_,rfl,?_⟩⟩
  rw [g4]
  refine mS ?_
  exact k H' hs
def jI (K:PySem.W.Frag):Sp:=fun vs H Q _=>∃ (n:Int) (b:Addr) (hs:List Int),vs = [.int n,.ref b]/\SqT K H b (hs.map V.int)/\0<=n/\n<=6/\∀ p H',aG H H'->H' p=some (.tup ((bF n hs).map V.int))->Q (.ref p) H'
theorem aAW:FnScope ["hands", "deal"] ["hands", "deal"] (aH iL):=⟨rfl,rfl,rfl,by decide +kernel,rfl,by decide +kernel,by decide +kernel⟩
theorem mX {f:Addr} {fd:FuncData} (G:Fn K mg "counted" iL ["hands", "deal"] f fd) (B:Bl mg):FnOk P w K mg base CX0 1 f fd ["hands", "deal"] (jI K):=by
 refine G.fn.ok aAW (fun vs H Q E h=>?_) (fun cdv A outer s H vs Q E hr h=>?_)
 ·obtain ⟨n,b,hs,rfl,_⟩:=h
  rfl
 ·obtain ⟨n,c,hs,rfl,hc,hn1,hn6,k⟩:=h
  refine ⟨_,aF (aK (bV gK rfl B.tuple dY (aA
    (cZ (own:=["hand"]) (fr:=[1]) (frn:=["deal"]) (bD (aH iL) ["hands", "deal"] rfl rfl (by decide +kernel)) rfl (eW rfl B.range (aA (pv 0) aE))
     (fun _ _ _ _=>aT (i:=0) (show (["hand", "deal"]:List Str).Nodup by decide +kernel) rfl (Or.inl rfl)) (fun _ _ _ _=>dQ)
     (fun _ _ _ _=>aED (K:=K) rfl PySem.F.plainAttrs_tuple PySem.F.slot_tuple_count PySem.F.type_tuple_count (yX (K:=K) rfl) (pv 1) (aA (pv 0) aE))) aE))),?_⟩
  refine ⟨_,rfl,n,rfl,by omega,by omega,mT (lo:=0) (n:=n.toNat) (fun σ=>∃ v,σ = [v,some (.ref c)]) (fun i zs H2=>H2=H/\zs=(((aAF n.toNat).take i).map fun h=>((hs.count h:Nat):Int)).map V.int) ?_ ⟨none,rfl⟩ ⟨rfl,rfl⟩ ?_ ?_ ?_⟩
  ·rw [sizeLine_eq]; omega
  ·rintro i zs H2 ⟨_,rfl⟩
   rw [Qd,Qd,Jq]; omega
  ·rintro i zs σ H2 hi ⟨v,rfl⟩ ⟨rfl,rfl⟩ hz
   refine cC ?_
   refine ⟨_,rfl,.inr (.inl ⟨rfl,_,hc⟩),_,rfl,c,hs,_,rfl,rfl,hc,hz,⟨_,rfl⟩,rfl,?_⟩
   rw [Xd,rW hi]
   simp
  ·rintro zs H2 ⟨rfl,rfl⟩ p hp
   refine ⟨p,_,rfl,.inl ⟨SqL.of aB,fun l hl=>?_⟩⟩
   refine k l _ ((aG.new hp).trans (aG.new hl)) ?_
   rw [aB,Xt (by rw [eE]; exact Qg _)]
   rfl
def aAg (K:PySem.W.Frag):Sp:=fun vs H Q _=>∃ x y n ws hs,vs = [x,y]/\oW K H x y n ws hs/\∀ p H',aG H H'->H' p=some (.tup ((bF n hs).map V.int))->Q (.ref p) H'
theorem aDl:FnScope ["book", "deal"] ["book", "deal"] (aH yW):=⟨rfl,rfl,rfl,by decide +kernel,rfl,by decide +kernel,by decide +kernel⟩
theorem aCa (B:Bl mg) (R:Pr K mg fW fH fK fB fNB fD fND fL dW dH dK dB dNB dD dND dL):FnOk P w K mg base CX0 7 fL dL ["book", "deal"] (aAg K):=by
 have ON:FnOk P w K mg base CX0 6 fND dND ["book", "deal"] (aAf K):=aB9 B R
 obtain ⟨fC,dC,GC⟩:=R.C
 have OC:FnOk P w K mg base CX0 1 fC dC ["hands", "deal"] (jI K):=mX GC B
 refine R.L.fn.ok aDl (fun vs H Q E h=>?_) (fun cdv A outer s H vs Q E hr h=>?_)
 ·obtain ⟨x,y,n,ws,hs,rfl,_⟩:=h
  rfl
 ·obtain ⟨x,y,n,ws,hs,rfl,g,k⟩:=h
  have r1:Room 1 _:=hr.mono (by decide)
  refine ⟨_,aC (cX (aZ R.ND ON hr rfl (aA (pv 0) (aA (pv 1) aE))))
   (aF (aK (aZ GC OC r1 rfl (aA (bE bU (pv 0) aI (fun _ _=>rfl)) (aA (pv 1) aE))))),?_⟩
  refine ⟨_,rfl,_,rfl,x,y,n,ws,hs,rfl,g,fun H1 s1=>?_⟩
  have g1:=g.same s1
  obtain ⟨hl,hn1,hn6⟩:=g.len
  obtain ⟨a,b,ys,rfl,ha,hb2,hys⟩:=jH g1.1
  obtain ⟨c,rfl,hc⟩:=bR.mp g1.2.2.1
  refine ⟨_,rfl,a,_,0,.int n,rfl,rfl,ha,rfl,_,rfl,n,c,hs,rfl,hc,by omega,hn6,fun p H2 s2 hp=>?_⟩
  exact k p H2 (s1.trans s2) hp
theorem tE (n:Int) (hs:List Int):(bF n hs).length=n.toNat:=by unfold bF; rw [Qd,eE]
end
end Ab
namespace L2
open PySem PySem.Spec PyProof.Rows
section
variable {X:Cx}
def aDV (i j:Int):Prop:=i.natAbs < 2^4000/\j.natAbs < 2^4000
theorem aAh {i:Int} (h:i.natAbs < 2^4000):Builtin.Int.intBits i<=2^20:=by
 unfold Builtin.Int.intBits
 split
 ·exact Jk _
 ·rename_i hz
  have hz':i≠0:=by simpa using hz
  have h3:i.natAbs.log2 < 4000:=(Nat.log2_lt (by omega)).mpr h
  have:(2:Nat)^20=1048576:=by decide
  omega
theorem aDV.ok {i j:Int} (h:aDV i j):IntMulOk i j:=IntMulOk.of_bits (aAh h.1) (aAh h.2)
def aFi (i j:Int):Prop:=0 < j/\j.natAbs < 2^4000
theorem aCb:OpR X (binaryOp .FloorDiv) (rI aFi fun i j=>.int (i / j)):=opI fun i j _ _ _ _ _ hc q=>by
 have h1:(0:Int) < j:=hc.1
 refine floordiv_int (by omega) (by rw [Int.fdiv_eq_ediv_of_nonneg i (by omega)]; exact q) (.inl (PyProof.noPylong_of_log2 ?_))
 have h3:j.natAbs.log2 < 4000:=(Nat.log2_lt (by omega)).mpr hc.2
 omega
end
end L2
namespace Ab
open PySem L2
def But (t:Addr) (H H':Hp):Prop:=∀ b o,b≠t->H b=some o->H' b=some o
theorem But.refl (t:Addr) (H:Hp):But t H H:=fun _ _ _ h=>h
theorem But.trans {t:Addr} {H H1 H2:Hp} (a:But t H H1) (b:But t H1 H2):But t H H2:=fun c o n h=>b c o n (a c o n h)
theorem But.of {t:Addr} {H H':Hp} (a:aG H H'):But t H H':=fun c o _ h=>a c o h
theorem But.at {t:Addr} {H:Hp} {u:HO}:But t H (upd H t u):=fun c o n h=>by rw [aD n]; exact h
theorem But.free {t:Addr} {H H':Hp} (e:But t H H') {l:Addr} (h:H' l=none) (n:l≠t):H l=none:=by
 cases q:H l with
 | none=>rfl
 | some o=>rw [e l o n q] at h; cases h
theorem But.rdL {t a:Addr} {H H':Hp} {xs:List V} (e:But t H H') (n:a≠t) (h:Rd H a (.lst xs)):Rd H' a (.lst xs):=by
 rcases h with h | ⟨o,h⟩
 ·exact .inl (e a _ n h)
 ·exact .inr ⟨o,e a _ n h⟩
section
variable {K:PySem.W.Frag} {t:Addr} {H H':Hp} {ys:List V}
theorem But.seqT {a:Addr} {xs:List V} (e:But t H H') (ht:H t=some (.lst ys)) (h:SqT K H a xs):SqT K H' a xs:=by
 rcases h with (h | ⟨o,h⟩) | h
 ·exact .inl (.inl (e a _ (fun z=>by rw [z,ht] at h; cases h) h))
 ·exact .inl (.inr ⟨o,e a _ (fun z=>by rw [z,ht] at h; cases h) h⟩)
 ·exact .inr h
theorem But.seqL {a:Addr} {xs:List V} (e:But t H H') (n:a≠t) (h:SqL K H a xs):SqL K H' a xs:=by
 rcases h with h | h
 ·exact .inl (e.rdL n h)
 ·exact .inr h
mutual
def oX:PyData->Bool
 | .dict _=>false
 | .list _=>false
 | .tuple ds=>nT ds
 | _=>true
def nT:List PyData->Bool
 | []=>true
 | d::ds=>oX d && nT ds
end
mutual
theorem But.den (e:But t H H') (ht:H t=some (.lst ys)):∀ (d:PyData) (v:V),oX d=true->Den K H d v->Den K H' d v
 | .none,v,_,h=>by unfold Den at h ⊢; exact h
 | .bool b,v,_,h=>by unfold Den at h ⊢; exact h
 | .int i,v,_,h=>by unfold Den at h ⊢; exact h
 | .str x,v,_,h=>by unfold Den at h ⊢; exact h
 | .list ds,v,n,h=>by unfold oX at n; cases n
 | .tuple ds,v,n,h=>by unfold oX at n; unfold Den at h ⊢; obtain ⟨a,xs,h1,h2,h3⟩:=h; exact ⟨a,xs,h1,e.seqT ht h2,But.denAll e ht ds xs n h3⟩
 | .dict kvs,v,n,h=>by unfold oX at n; cases n
theorem But.denAll (e:But t H H') (ht:H t=some (.lst ys)):∀ (ds:List PyData) (xs:List V),nT ds=true->bK K H ds xs->bK K H' ds xs
 | [],xs,_,h=>by unfold bK at h ⊢; exact h
 | d::ds,xs,n,h=>by
  unfold nT at n; rw [Ji] at n
  unfold bK at h ⊢; obtain ⟨x,r,h1,h2,h3⟩:=h; exact ⟨x,r,h1,But.den e ht d x n.1 h2,But.denAll e ht ds r n.2 h3⟩
end
end
def Jar (K:PySem.W.Frag) (H:Hp) (t a:Addr) (ns:List Int) (N:Nat):Prop:=(∃ p q:Int,0<=p/\p<=N/\H t=some (.lst [.ref a,.int p,.int q]))/\SqL K H a (ns.map V.int)
section
variable {K:PySem.W.Frag} {H H':Hp} {t a:Addr} {ns:List Int} {N M:Nat}
theorem Jar.same (h:Jar K H t a ns N) (e:aG H H'):Jar K H' t a ns N:=by
 obtain ⟨⟨p,q,h1,h0,h2⟩,h3⟩:=h
 exact ⟨⟨p,q,h1,h0,e t _ h2⟩,e.seqL h3⟩
theorem Jar.more (h:Jar K H t a ns N) (e:N<=M):Jar K H t a ns M:=by
 obtain ⟨⟨p,q,h1,h0,h2⟩,h3⟩:=h
 exact ⟨⟨p,q,h1,by omega,h2⟩,h3⟩
theorem Jar.den (h:Jar K H t a ns N) (e:But t H H') {d:PyData} {v:V} (n:oX d=true) (hd:Den K H d v):Den K H' d v:=by
 obtain ⟨⟨p,q,h1,h0,h2⟩,h3⟩:=h
 exact e.den h2 d v n hd
theorem Jar.denAll (h:Jar K H t a ns N) (e:But t H H') {d:List PyData} {v:List V} (n:nT d=true) (hd:bK K H d v):bK K H' d v:=by
 obtain ⟨⟨p,q,h1,h0,h2⟩,h3⟩:=h
 exact e.denAll h2 d v n hd
theorem Jar.seqT (h:Jar K H t a ns N) (e:But t H H') {b:Addr} {xs:List V} (hd:SqT K H b xs):SqT K H' b xs:=by
 obtain ⟨⟨p,q,h1,h0,h2⟩,h3⟩:=h
 exact e.seqT h2 hd
theorem Jar.ne (h:Jar K H t a ns N) {b:Addr} (hb:H b=none):b≠t:=by
 obtain ⟨⟨p,q,h1,h0,h2⟩,h3⟩:=h
 intro z
 rw [z,h2] at hb
 cases hb
end
theorem yY {ns:List Int} {xs:List V} {a:Addr} {r:List V} (h:ns.map V.int=.ref a::r):False:=by
 cases ns with
 | nil=>cases h
 | cons _ _=>rw [Qw] at h; cases h
theorem iO {K:PySem.W.Frag} {H:Hp} {t a:Addr} {ns:List Int} {p q:Int} {u:HO} (h2:H t=some (.lst [.ref a,.int p,.int q])) (h:SqL K H a (ns.map V.int)):SqL K (upd H t u) a (ns.map V.int):=by
 rcases h with (h | ⟨o,h⟩) | h
 ·have n:a≠t:=fun z=>by
   rw [z,h2] at h
   injection h with h
   injection h with h
   exact yY (xs:=[]) h.symm
  exact .inl (.inl (by rw [aD n]; exact h))
 ·have n:a≠t:=fun z=>by
   rw [z,h2] at h
   cases h
  exact .inl (.inr ⟨o,by rw [aD n]; exact h⟩)
 ·exact .inr h
section
variable {P:Program} {w:World} {K:PySem.W.Frag} {mg:Str->Option Value} {base:Heap}
theorem eF (ns:List Int):cR (.list (ns.map .int))=true:=by
 unfold cR
 induction ns with
 | nil=>unfold List.map hV; rfl
 | cons n r ih=>rw [Qw]; unfold hV; rw [ih]; unfold cR; rfl
theorem jY {α:Type} (f:α->PyData) (h:∀ x,(f x).canLay0=true):∀ l:List α,PyData.canLayAll0 (l.map f)=true
 | []=>by unfold List.map PyData.canLayAll0; rfl
 | x::r=>by rw [Qw]; unfold PyData.canLayAll0; rw [h x,jY f h r]; rfl
theorem lN {α:Type} {k:Nat} (f:α->PyData) (h:∀ x,(f x).depth<=k):∀ l:List α,PyData.depthAll (l.map f)<=k
 | []=>by unfold List.map PyData.depthAll; exact Jk _
 | x::r=>by rw [Qw]; unfold PyData.depthAll; exact Nat.max_le.mpr ⟨h x,lN f h r⟩
theorem rX (i:Int):(PyData.int i).canLay0=true:=by unfold PyData.canLay0; rfl
theorem tZ (i:Int):(PyData.int i).depth<=0:=by unfold PyData.depth; exact Qg _
theorem vN (ns:List Int):(PyData.list (ns.map .int)).canLay0=true:=by unfold PyData.canLay0; exact jY _ rX ns
theorem vO (ns:List Int):(PyData.tuple (ns.map .int)).canLay0=true:=by unfold PyData.canLay0; exact jY _ rX ns
theorem xL (ns:List Int):(PyData.list (ns.map .int)).depth<=1:=by unfold PyData.depth; exact Zn (lN _ tZ ns)
theorem xM (ns:List Int):(PyData.tuple (ns.map .int)).depth<=1:=by unfold PyData.depth; exact Zn (lN _ tZ ns)
theorem oY {d:PyData} (h1:d.canLay0=true) (h2:d.depth<=64):SeqAt.shaped d=true:=by
 unfold SeqAt.shaped
 rw [h1,decide_eq_true h2]
 rfl
theorem cV (ns:List Int):SeqAt.shaped (.list (ns.map .int))=true:=oY (vN ns) (Ja (xL ns) (by decide))
theorem eK (ns:List Int):SeqAt.shaped (.tuple (ns.map .int))=true:=oY (vO ns) (Ja (xM ns) (by decide))
theorem fX (ns:List Int):cR (.tuple (ns.map .int))=true:=by
 have h:=eF ns
 unfold cR at h ⊢
 exact h
theorem _root_.L2.Room.u64 {k:Nat} {A:Around} (r:Room k A):A.units+64 < cLine:=by have:=r.un; omega
def aAi:Sp:=fun vs H Q _=>∃ c a:Int,vs = [.int c,.int a]/\0<=a/\a<=1000000/\∀ r,Q (.int r) H
theorem qB:FnScope ["cell", "at", "one", "two", "three"] ["cell", "at"] (aH vG):=⟨rfl,rfl,rfl,by decide +kernel,rfl,by decide +kernel,by decide +kernel⟩
theorem aCc {f:Addr} {fd:FuncData} (G:Fn K mg "_law_e_whirl" vG ["cell", "at"] f fd):FnOk P w K mg base CX0 1 f fd ["cell", "at"] aAi:=by
 refine G.fn.ok qB (fun vs H Q E h=>?_) (fun cdv A outer s H vs Q E hr h=>?_)
 ·obtain ⟨c,a,rfl,_⟩:=h
  rfl
 ·obtain ⟨c,a,rfl,a0,a1,k⟩:=h
  refine ⟨_,(aC (bA (aL qP (pv 0) (bC aEf aI aI) (aR _))
   (aF (aK (pv 0)))
   aN)
  (aC (aM (i:=2) qB.nd rfl (Or.inl rfl) (bC mO (bC cY (bC cY (bC fJ (bC mO (pv 0) aI) aI) (bC fJ (pv 1) aI)) aI) aI))
  (aC (aM (i:=3) qB.nd rfl (Or.inl rfl) (bC mO (bC cY (bC cY (bC cY (bC fJ (pv 2) (pv 2)) (bC fJ (bC fJ aI (pv 1)) (pv 1))) (bC fJ aI (pv 2))) aI) aI))
  (aC (aM (i:=4) qB.nd rfl (Or.inl rfl) (bC mO (bC cY (bC cY (bC cY (bC fJ (pv 3) (pv 3)) (bC fJ aI (pv 3))) (pv 2)) (bC fJ aI (pv 1))) aI))
  (aF (aK (bC cY (bC fJ (pv 3) aI) (pv 4)))))))),?_⟩
  refine ⟨_,rfl,_,_,rfl,rfl,⟨by decide,by decide,by decide⟩,_,_,rfl,rfl,_,rfl,?_⟩
  refine fF (fun c1=>?_) (fun c1=>?_)
  ·exact ⟨_,rfl,k _⟩
  ·refine ⟨_,rfl,_,_,rfl,rfl,(show (0:Int) < _ by decide),_,_,rfl,rfl,.inr ⟨by decide,by decide⟩,_,rfl,_,_,rfl,rfl,.inr ⟨by decide,by decide⟩,_,_,rfl,rfl,_,_,rfl,rfl,_,_,rfl,rfl,(show (0:Int) < _ by decide),?_⟩
   generalize hf:((c % 2147483423*40013+a*15073+83) % 2147483399:Int)=f1
   have b1:0<=f1/\f1 < 2147483399:=by rw [<- hf]; exact ⟨Zt _ (by decide),Zu _ (by decide)⟩
   refine ⟨_,rfl,_,rfl,_,_,rfl,rfl,.inl ⟨by omega,by omega⟩,_,rfl,_,_,rfl,rfl,.inl ⟨by decide,by decide⟩,_,rfl,_,_,rfl,rfl,.inr ⟨by omega,by omega⟩,_,_,rfl,rfl,_,rfl,_,_,rfl,rfl,.inl ⟨by decide,by decide⟩,_,_,rfl,rfl,_,_,rfl,rfl,_,_,rfl,rfl,(show (0:Int) < _ by decide),?_⟩
   generalize hg:((f1*f1+521*a*a+11*f1+7) % 2147483353:Int)=f2
   have b2:0<=f2/\f2 < 2147483353:=by rw [<- hg]; exact ⟨Zt _ (by decide),Zu _ (by decide)⟩
   refine ⟨_,rfl,_,rfl,_,_,rfl,rfl,.inl ⟨by omega,by omega⟩,_,rfl,_,_,rfl,rfl,.inl ⟨by decide,by decide⟩,_,_,rfl,rfl,_,rfl,_,_,rfl,rfl,_,rfl,_,_,rfl,rfl,.inl ⟨by decide,by decide⟩,_,_,rfl,rfl,_,_,rfl,rfl,(show (0:Int) < _ by decide),?_⟩
   exact ⟨_,rfl,_,_,rfl,rfl,.inr ⟨by decide,by decide⟩,_,rfl,_,_,rfl,rfl,k _⟩
def gO (K:PySem.W.Frag):Sp:=fun vs H Q _=>∃ (t a:Addr) (ns:List Int) (N:Nat) (m:Int),vs = [.ref t,.int m]/\Jar K H t a ns N/\N<=900000/\0 < m/\m.natAbs < 2^4000/\∀ r H',0<=r->r < m->But t H H'->Jar K H' t a ns (N+1)->Q (.int r) H'
theorem lO:FnScope ["jar", "many", "at", "cell", "found"] ["jar", "many"] (aH mW):=⟨rfl,rfl,rfl,by decide +kernel,rfl,by decide +kernel,by decide +kernel⟩
theorem aCd {f fS:Addr} {fd fdS:FuncData} (G:Fn K mg "_law_e_scoop" mW ["jar", "many"] f fd) (B:Bl mg) (GWh:Fn K mg "_law_e_whirl" vG ["cell", "at"] fS fdS):FnOk P w K mg base CX0 2 f fd ["jar", "many"] (gO K):=by
 have OWh:FnOk P w K mg base CX0 1 fS fdS ["cell", "at"] aAi:=aCc GWh
 refine G.fn.ok lO (fun vs H Q E h=>?_) (fun cdv A outer s H vs Q E hr h=>?_)
 ·obtain ⟨t,a,ns,N,m,rfl,_⟩:=h
  rfl
 ·obtain ⟨t,a,ns,N,m,rfl,⟨⟨p,q,hp,hpN,ht⟩,hns⟩,hN,hm1,hm2,k⟩:=h
  have r1:Room 1 _:=hr
  refine ⟨_,(aC (bA (aL wL (bE bX (pv 0) aI (fun _ _=>rfl)) (pv 1) (aR _))
   (aC (aM (i:=2) lO.nd rfl (Or.inl rfl) (bE bX (pv 0) aI (fun _ _=>rfl)))
  (aC (aM (i:=3) lO.nd rfl (Or.inl rfl) (bC cY (bC fJ aI (pv 2)) aI))
  (aC (bA (aL wL (pv 2) (aJ aO rfl B.len cG (aA (bE bX (pv 0) aI (fun _ _=>rfl)) aE)) (aR _))
   (aF (aM (i:=3) lO.nd rfl (Or.inl rfl) (bE bX (bE bX (pv 0) aI (fun _ _=>rfl)) (pv 2) (fun _ _=>rfl))))
   (aF (bA (aL lY (aJ aO rfl B.len cG (aA (bE bX (pv 0) aI (fun _ _=>rfl)) aE)) aI (aR _))
   (aF (aM (i:=3) lO.nd rfl (Or.inl rfl) (bC cY (bC mO (bE bX (bE bX (pv 0) aI (fun _ _=>rfl)) (bC mO (bC cY (bC fJ aI (pv 2)) aI) (aJ aO rfl B.len cG (aA (bE bX (pv 0) aI (fun _ _=>rfl)) aE))) (fun _ _=>rfl)) aI) (bC fJ (pv 2) aI))))
   aN)))
  (aC (oG (bC cY (pv 2) aI) (uL (pv 0) aI nE))
  (aF (oG (aZ GWh OWh r1 rfl (aA (pv 3) (aA (pv 2) aE))) (uL (pv 0) aI nE)))))))
   aN)
  (aC (aM (i:=4) lO.nd rfl (Or.inl rfl) (bC mO (bE bX (pv 0) aI (fun _ _=>rfl)) (pv 1)))
  (aC (oG (bC aCb (bE bX (pv 0) aI (fun _ _=>rfl)) (pv 1)) (uL (pv 0) aI nE))
  (aF (aK (pv 4)))))),?_⟩
  have last:∀ (p1 r:Int) (H':Hp),0<=p1->p1<=N+1->But t H H'->H' t=some (.lst [.ref a,.int p1,.int r])->SqL K H' a (ns.map V.int)->Q (.int (r % m)) (upd H' t (.lst [.ref a,.int p1,.int (r / m)])):=fun p1 r H' h0 h1 b' h2 h3 =>
   k _ _ (Zt _ (by omega)) (Zu _ hm1) (b'.trans But.at) ⟨⟨p1,r / m,h0,by omega,aB⟩,iO h2 h3⟩
  refine ⟨_,rfl,t,_,2,.int q,rfl,rfl,SqL.of ht,rfl,_,rfl,_,_,rfl,rfl,_,rfl,?_⟩
  refine fF (fun c1=>?_) (fun c1=>?_)
  ·refine ⟨_,rfl,t,_,1,.int p,rfl,rfl,SqL.of ht,rfl,?_⟩
   refine ⟨_,rfl,_,_,rfl,rfl,.inl ⟨by decide,by decide⟩,_,_,rfl,rfl,?_⟩
   refine ⟨_,rfl,_,rfl,t,_,0,.ref a,rfl,rfl,SqL.of ht,rfl,a,_,rfl,.inl hns,_,_,rfl,rfl,_,rfl,?_⟩
   refine fF (fun c2=>?_) (fun c2=>?_)
   ·have c2':p < ((ns.map V.int).length:Int):=of_decide_eq_true c2
    rw [Qd] at c2'
    have hlt:p.toNat < ns.length:=by omega
    have hat:atI (ns.map V.int) p=some (.int (ns[p.toNat])):=by
     have h1:(ns.map V.int)[p.toNat]?=some (.int (ns[p.toNat])):=by rw [Qi,Qc hlt]; rfl
     have h2:=eS h1
     rwa [Wm hp] at h2
    refine ⟨_,rfl,t,_,0,.ref a,rfl,rfl,SqL.of ht,rfl,_,rfl,a,_,_,_,rfl,rfl,hns,hat,?_⟩
    refine ⟨_,rfl,_,_,rfl,rfl,_,rfl,t,_,_,1,rfl,rfl,ht,rfl,?_⟩
    refine ⟨_,rfl,_,rfl,_,_,rfl,hp,by omega,fun r=>⟨_,rfl,t,_,_,2,rfl,rfl,aB,rfl,?_⟩⟩
    refine ⟨_,rfl,t,_,2,.int r,rfl,rfl,SqL.of aB,rfl,_,rfl,_,_,rfl,rfl,hm1,?_⟩
    refine ⟨_,rfl,t,_,2,.int r,rfl,rfl,SqL.of aB,rfl,_,rfl,_,_,rfl,rfl,⟨hm1,hm2⟩,_,rfl,t,_,_,2,rfl,rfl,aB,rfl,?_⟩
    exact ⟨_,rfl,last (p+1) r _ (by omega) (by omega) (But.at.trans But.at) aB (iO (p:=p+1) (q:=q) aB (iO ht hns))⟩
   ·refine ⟨_,rfl,t,_,0,.ref a,rfl,rfl,SqL.of ht,rfl,a,_,rfl,.inl hns,_,_,rfl,rfl,_,rfl,?_⟩
    refine fF (fun c3=>?_) (fun c3=>?_)
    ·have hpos:0 < ns.length:=by
      have:=of_decide_eq_true c3
      rw [Qd] at this
      omega
     have hlt:((7*p+3) % (ns.length:Int)).toNat < ns.length:=by
      have:=Zt (7*p+3) (show (ns.length:Int)≠0 by omega)
      have:=Zu (7*p+3) (show (0:Int) < ns.length by omega)
      omega
     have hat:atI (ns.map V.int) ((7*p+3) % ((ns.map V.int).length:Int))=some (.int (ns[((7*p+3) % (ns.length:Int)).toNat])):=by
      have h1:(ns.map V.int)[((7*p+3) % (ns.length:Int)).toNat]?=some (.int (ns[((7*p+3) % (ns.length:Int)).toNat])):=by rw [Qi,Qc hlt]; rfl
      have h2:=eS h1
      rw [Qd]
      rwa [Wm (Zt _ (by omega))] at h2
     refine ⟨_,rfl,t,_,0,.ref a,rfl,rfl,SqL.of ht,rfl,_,rfl,_,_,rfl,rfl,.inl ⟨by decide,by decide⟩,_,_,rfl,rfl,_,rfl,t,_,0,.ref a,rfl,rfl,SqL.of ht,rfl,a,_,rfl,.inl hns,_,_,rfl,rfl,(show (0:Int) < ((ns.map V.int).length:Int) by rw [Qd]; omega),a,_,_,_,rfl,rfl,hns,hat,_,_,rfl,rfl,(show (0:Int) < _ by decide),_,rfl,_,_,rfl,rfl,.inr ⟨by decide,by decide⟩,_,_,rfl,rfl,?_⟩
     refine ⟨_,rfl,_,_,rfl,rfl,_,rfl,t,_,_,1,rfl,rfl,ht,rfl,?_⟩
     refine ⟨_,rfl,_,rfl,_,_,rfl,hp,by omega,fun r=>⟨_,rfl,t,_,_,2,rfl,rfl,aB,rfl,?_⟩⟩
     refine ⟨_,rfl,t,_,2,.int r,rfl,rfl,SqL.of aB,rfl,_,rfl,_,_,rfl,rfl,hm1,?_⟩
     refine ⟨_,rfl,t,_,2,.int r,rfl,rfl,SqL.of aB,rfl,_,rfl,_,_,rfl,rfl,⟨hm1,hm2⟩,_,rfl,t,_,_,2,rfl,rfl,aB,rfl,?_⟩
     exact ⟨_,rfl,last (p+1) r _ (by omega) (by omega) (But.at.trans But.at) aB (iO (p:=p+1) (q:=q) aB (iO ht hns))⟩
    ·show _
     refine ⟨_,rfl,_,_,rfl,rfl,_,rfl,t,_,_,1,rfl,rfl,ht,rfl,?_⟩
     refine ⟨_,rfl,_,rfl,_,_,rfl,hp,by omega,fun r=>⟨_,rfl,t,_,_,2,rfl,rfl,aB,rfl,?_⟩⟩
     refine ⟨_,rfl,t,_,2,.int r,rfl,rfl,SqL.of aB,rfl,_,rfl,_,_,rfl,rfl,hm1,?_⟩
     refine ⟨_,rfl,t,_,2,.int r,rfl,rfl,SqL.of aB,rfl,_,rfl,_,_,rfl,rfl,⟨hm1,hm2⟩,_,rfl,t,_,_,2,rfl,rfl,aB,rfl,?_⟩
     exact ⟨_,rfl,last (p+1) r _ (by omega) (by omega) (But.at.trans But.at) aB (iO (p:=p+1) (q:=q) aB (iO ht hns))⟩
  ·show _
   refine ⟨_,rfl,t,_,2,.int q,rfl,rfl,SqL.of ht,rfl,_,rfl,_,_,rfl,rfl,hm1,?_⟩
   refine ⟨_,rfl,t,_,2,.int q,rfl,rfl,SqL.of ht,rfl,_,rfl,_,_,rfl,rfl,⟨hm1,hm2⟩,_,rfl,t,_,_,2,rfl,rfl,ht,rfl,?_⟩
   exact ⟨_,rfl,last p q _ hp (by omega) (But.refl _ _) ht hns⟩
theorem xN (n:Int):∀ (l:List Int) (last:Int),(∀ x∈l,last < x)->l.Pairwise (· < ·)->(∀ x∈l,x < n)->dU n last (l.map .int)=true
 | [],_,_,_,_=>rfl
 | x::r,last,h1,h2,h3=>by
  rw [Qw,gZ]
  have h2':=Yo.mp h2
  rw [decide_eq_true (h1 x (Qr ..)),decide_eq_true (h3 x (Qr ..)),xN n r x h2'.1 h2'.2 (fun y hy=>h3 y (Qo _ hy))]
  rfl
theorem lP {n:Int} {l:List Int} (h0:l≠[]) (h1:∀ x∈l,0<=x/\x < n) (h2:l.Pairwise (· < ·)):cK n (fU l)=true:=by
 have e:cK n (fU l)=(!(l.map PyData.int).isEmpty && dU n (-1) (l.map .int)):=rfl
 rw [e,xN n l (-1) (fun x hx=>by have:=(h1 x hx).1; omega) h2 (fun x hx=>(h1 x hx).2)]
 cases l with
 | nil=>exact absurd rfl h0
 | cons _ _=>rfl
theorem pO (n:Int):∀ (l:List Int) (last:Int),dU n last (l.map .int)=true->l.Pairwise (· < ·)/\∀ x∈l,last < x/\x < n
 | [],_,_=>⟨.nil,fun _ h=>by cases h⟩
 | x::r,last,h=>by
  rw [Qw,gZ,Ji,Ji] at h
  obtain ⟨⟨h1,h2⟩,h3⟩:=h
  have h1:=of_decide_eq_true h1
  have h2:=of_decide_eq_true h2
  obtain ⟨i1,i2⟩:=pO n r x h3
  refine ⟨Yo.mpr ⟨fun y hy=>(i2 y hy).1,i1⟩,fun y hy=>?_⟩
  rcases Qm.mp hy with rfl | hy
  ·exact ⟨h1,h2⟩
  ·exact ⟨by have:=(i2 y hy).1; omega,(i2 y hy).2⟩
theorem aX {n:Int} {l:List Int} (h:cK n (fU l)=true):l≠[]/\(∀ x∈l,0<=x/\x < n)/\l.Pairwise (· < ·):=by
 have e:(!(l.map PyData.int).isEmpty && dU n (-1) (l.map .int))=true:=h
 rw [Ji] at e
 obtain ⟨h1,h2⟩:=pO n l (-1) e.2
 refine ⟨fun z=>by rw [z] at e; simp at e,fun x hx=>⟨by have:=(h2 x hx).1; omega,(h2 x hx).2⟩,h1⟩
theorem rY {n:Int}:∀ (l:List Int) (lo:Int),lo<=n->(∀ x∈l,lo<=x/\x < n)->l.Pairwise (· < ·)->(l.length:Int)<=n - lo
 | [],lo,h,_,_=>by simp; omega
 | x::r,lo,h,h1,h2=>by
  have h2':=Yo.mp h2
  have hx:=h1 x (Qr ..)
  have:=rY r (x+1) (by omega) (fun y hy=>⟨by have:=h2'.1 y hy; omega,(h1 y (Qo _ hy)).2⟩) h2'.2
  rw [Jf]
  omega
theorem gH {n:Int} {l:List Int} (hn:0<=n) (h1:∀ x∈l,0<=x/\x < n) (h2:l.Pairwise (· < ·)):(l.length:Int)<=n:=by
 have:=rY l 0 hn h1 h2
 omega
theorem sz1 (x:V) : [x].length<=sizeLine:=by rw [sizeLine_eq]; simp
theorem sz2 (x y:V) : [x,y].length<=sizeLine:=by rw [sizeLine_eq]; simp
theorem fZ {n:Nat} (h:n<=1000):n<=sizeLine:=by rw [sizeLine_eq]; omega
theorem gQ {n:Int} {ws:List (List Int)} (h1:1<=n) (h2:n<=6) (h3:ws.length<=12) (h4:∀ l∈ws,cK n (fU l)=true):fQ (iU n ws)=true:=by
 show (decide (1<=n) && decide (n<=6) && decide ((ws.map fU).length<=12) && (ws.map fU).all (cK n))=true
 rw [decide_eq_true h1,decide_eq_true h2,Qd,decide_eq_true h3,Zc,Zc,Zc,Xb]
 intro d hd
 obtain ⟨l,hl,rfl⟩:=Jm.mp hd
 exact h4 l hl
def yZ (K:PySem.W.Frag):Sp:=fun vs H Q _=>∃ (t a:Addr) (ns:List Int) (N:Nat) (n:Int),vs = [.ref t,.int n]/\Jar K H t a ns N/\N<=800000/\1<=n/\n<=6/\∀ l p H',cK n (fU l)=true->But t H H'->Jar K H' t a ns (N+8)->SqT K H' p (l.map V.int)->Q (.ref p) H'
theorem vP:FnScope ["jar", "hands", "often", "some"] ["jar", "hands"] (aH xH):=⟨rfl,rfl,rfl,by decide +kernel,rfl,by decide +kernel,by decide +kernel⟩
set_option maxHeartbeats 1000000 in
theorem aDm {f fS:Addr} {fd fdS:FuncData} (G:Fn K mg "_law_e_able" xH ["jar", "hands"] f fd) (B:Bl mg) (GSc:Fn K mg "_law_e_scoop" mW ["jar", "many"] fS fdS) (OSc:FnOk P w K mg base CX0 2 fS fdS ["jar", "many"] (gO K)):FnOk P w K mg base CX0 3 f fd ["jar", "hands"] (yZ K):=by
 refine G.fn.ok vP (fun vs H Q E h=>?_) (fun cdv A outer s H vs Q E hr h=>?_)
 ·obtain ⟨t,a,ns,N,n,rfl,_⟩:=h
  rfl
 ·obtain ⟨t,a,ns,N,n,rfl,hJ,hN,hn1,hn6,k⟩:=h
  have r2:Room 2 _:=hr
  refine ⟨_,(aC (aM (i:=2) vP.nd rfl (Or.inr rfl) (bC cY aI (aZ GSc OSc r2 rfl (aA (pv 0) (aA aI aE)))))
  (aC (aM (i:=3) vP.nd rfl (Or.inl rfl) (bV gK rfl B.tuple dY (aA (cZ (own:=["hand"]) (fr:=[0,2]) (frn:=["jar", "often"]) (bD (aH xH) ["jar", "hands", "often", "some"] rfl rfl (by decide +kernel)) rfl (eW rfl B.range (aA (pv 1) aE))
    (fun _ _ _ _=>(aT (i:=0) (show (["hand", "jar", "often"]:List Str).Nodup by decide +kernel) rfl (Or.inl rfl))) (fun _ _ _ _=>qV (aL dX (aZ GSc OSc r2 rfl (aA (pv 1) (aA (pv 2) aE))) aI (aR _)))
    (fun _ _ _ _=>(pv 0))) aE)))
  (aC (bA (aL (aBx hr.u64) (pv 3) (eN aE) (aR _))
   (aF (aM (i:=3) vP.nd rfl (Or.inl rfl) (eN (aA (aZ GSc OSc r2 rfl (aA (pv 0) (aA (pv 1) aE))) aE))))
   aN)
  (aF (aK (pv 3)))))),?_⟩
  refine ⟨_,rfl,t,a,ns,N,3,rfl,hJ,by omega,by decide,by decide,fun r H1 h10 h11 b1 J1=>⟨_,_,rfl,rfl,?_⟩⟩
  refine ⟨_,rfl,n,rfl,by omega,by omega,mT (lo:=0) (n:=n.toNat) (fun σ=>∃ v,σ = [v,some (.ref t),some (.int (2+r))]) (fun i zs H2=>∃ l:List Int,zs=l.map V.int/\l.Pairwise (· < ·)/\(∀ x∈l,0<=x/\x < i)/\But t H H2/\Jar K H2 t a ns (N+1+i)) (fZ (by omega)) ⟨none,rfl⟩ ⟨[],rfl,.nil,fun _ h=>(Qp h).elim,b1,J1⟩ ?_ ?_ ?_⟩
  ·rintro i zs H2 ⟨l,rfl,hp,hb,_⟩
   rw [Qd]
   have:=gH (n:=(i:Int)) (by omega) hb hp
   omega
  ·rintro i zs σ H2 hi ⟨v,rfl⟩ ⟨l,rfl,hp,hb,b2,J2⟩ hz
   refine ⟨_,rfl,_,rfl,t,a,ns,N+1+i,2+r,rfl,J2,by omega,by omega,by omega,fun r3 H3 h30 h31 b3 J3=>⟨rfl,_,rfl,?_⟩⟩
   refine fF (fun c1=>?_) (fun c1=>?_)
   ·refine ⟨_,rfl,hz,⟨_,rfl⟩,l++[0+(i:Int)],by rw [Jd]; rfl,Yd.mpr ⟨hp,by simp,fun x hx y hy=>?_⟩,fun x hx=>?_,b2.trans b3,J3⟩
    ·rw [Qs.mp hy]
     have:=hb x hx
     omega
    ·rcases Jo.mp hx with hx | hx
     ·have:=hb x hx
      omega
     ·rw [Qs.mp hx]
      omega
   ·exact ⟨⟨_,rfl⟩,l,rfl,hp,fun x hx=>by have:=hb x hx; omega,b2.trans b3,J3⟩
  ·rintro zs H2 ⟨l,rfl,hp,hb,b2,J2⟩ z hz
   refine ⟨z,_,rfl,.inl ⟨SqL.of aB,fun q hq=>?_⟩⟩
   have s3:=(aG.new (o:=.lst (l.map V.int)) hz).trans (aG.new (o:=.tup (l.map V.int)) hq)
   have e3:upd (upd H2 z (.lst (l.map V.int))) q (.tup (l.map V.int)) q=some (.tup (l.map V.int)):=aB
   generalize upd (upd H2 z (.lst (l.map V.int))) q (.tup (l.map V.int))=H3 at s3 e3 ⊢
   refine ⟨_,rfl,fZ (Jk _),fun z2 hz2=>?_⟩
   have s4:=aG.new (o:=.tup []) hz2
   refine ⟨.tuple (l.map .int),.tuple (([]:List Int).map .int),bR.mpr ⟨q,rfl,s4.seqT (SqT.of e3)⟩,bR.mpr ⟨z2,rfl,SqT.of aB⟩,fX _,fX _,eK _,eK _,_,rfl,?_⟩
   have J4:=(J2.same s3).same s4
   have b4:=b2.trans (But.of (s3.trans s4))
   have e4:=s4 _ _ e3
   generalize upd H3 z2 (.tup [])=H4 at s4 J4 b4 e4 ⊢
   refine fF (fun c1=>?_) (fun c1=>?_)
   ·refine ⟨_,rfl,_,rfl,t,a,ns,_,n,rfl,J4,by omega,by omega,by omega,fun r5 H5 h50 h51 b5 J5=>⟨sz1 _,fun p hp5=>?_⟩⟩
    refine ⟨_,rfl,k [r5] p _ (lP (by simp) (fun x hx=>?_) (by simp)) (b4.trans (b5.trans (But.of (aG.new hp5)))) ((J5.same (aG.new hp5)).more (by omega)) (SqT.of aB)⟩
    rw [Qs.mp hx]
    exact ⟨h50,h51⟩
   ·refine ⟨_,rfl,k l q _ (lP (fun z=>?_) (fun x hx=>by have:=hb x hx; omega) hp) b4 (J4.more (by omega)) (SqT.of e4)⟩
    rw [z] at c1
    exact c1 (by decide +kernel)
end
end Ab
namespace Ab
def gI (ws:List (List Int)) (hs:List Int) (g:Int) (w:Nat) (t:Int):Prop:=hs[w]?=some g/\∃ l,ws[w]?=some l/\t∈l/\t≠g
def RL (ws:List (List Int)) (hs:List Int):Nat->Int->Int->Prop
 | 0,h,x=>h=x
 | k+1,h,x=>h=x∨∃ w o,gI ws hs h w o/\RL ws hs k o x
def bM (ws:List (List Int)) (hs:List Int):Int->List (Nat×Int×Int)->Int->Prop
 | h,[],x=>h=x
 | h,s::r,x=>s.2.1=h/\gI ws hs h s.1 s.2.2/\bM ws hs s.2.2 r x
section
variable {ws:List (List Int)} {hs:List Int}
theorem RL.refl:∀ (k:Nat) (h:Int),RL ws hs k h h
 | 0,_=>rfl
 | _+1,_=>.inl rfl
theorem RL.succ:∀ {k:Nat} {h x:Int},RL ws hs k h x->RL ws hs (k+1) h x
 | 0,_,_,e=>.inl e
 | k+1,_,_,.inl e=>.inl e
 | k+1,_,_,.inr ⟨w,o,e,r⟩=>.inr ⟨w,o,e,RL.succ r⟩
theorem RL.mono {k m:Nat} {h x:Int} (r:RL ws hs k h x) (le:k<=m):RL ws hs m h x:=by
 induction le with
 | refl=>exact r
 | step _ ih=>exact ih.succ
theorem RL.snoc:∀ {k:Nat} {h g t:Int} {w:Nat},RL ws hs k h g->gI ws hs g w t->RL ws hs (k+1) h t
 | 0,_,_,_,w,e,d=>by subst e; exact .inr ⟨w,_,d,rfl⟩
 | k+1,_,_,_,w,.inl e,d=>by subst e; exact .inr ⟨w,_,d,RL.refl _ _⟩
 | k+1,_,_,_,_,.inr ⟨w',o,e,r⟩,d=>.inr ⟨w',o,e,RL.snoc r d⟩
theorem RL.closed {S:Int->Prop} (hc:∀ g w t,S g->gI ws hs g w t->S t):∀ {k:Nat} {h x:Int},S h->RL ws hs k h x->S x
 | 0,_,_,s,e=>e ▸ s
 | _+1,_,_,s,.inl e=>e ▸ s
 | _+1,_,_,s,.inr ⟨w,o,e,r⟩=>RL.closed hc (hc _ w o s e) r
theorem bM.snoc:∀ {h g:Int} {r:List (Nat×Int×Int)} {w:Nat} {t:Int},bM ws hs h r g->gI ws hs g w t->bM ws hs h (r++[(w,g,t)]) t
 | _,_,[],_,_,e,d=>by cases e; exact ⟨rfl,d,rfl⟩
 | _,_,_::_,_,_,⟨e1,e2,e3⟩,d=>⟨e1,e2,bM.snoc e3 d⟩
def pP (ws:List (List Int)) (hs:List Int) (n:Nat) (h v:Int):Prop:=(∃ x,RL ws hs n h x/\v=((hs.count x:Nat):Int))/\∀ k x,RL ws hs k h x->v<=((hs.count x:Nat):Int)
theorem pP.le {n:Nat} {h v:Int} (m:pP ws hs n h v):v<=((hs.count h:Nat):Int):=m.2 0 h rfl
theorem pP.edge {n:Nat} {h o v u:Int} {w:Nat} (m:pP ws hs n h v) (m2:pP ws hs n o u) (e:gI ws hs h w o):v<=u:=by
 obtain ⟨x,r,rfl⟩:=m2.1
 exact m.2 (n+1) x (show RL ws hs (n+1) h x from .inr ⟨w,o,e,r⟩)
def kR (n:Int) (ws:List (List Int)) (hs lv:List Int):Prop:=lv.length=n.toNat/\∀ (h:Nat) (v:Int),lv[h]?=some v->pP ws hs n.toNat h v/\((hs.count (h:Int):Nat):Int) - v < 2
def aDW (n:Int) (ws:List (List Int)) (hs:List Int) (ss:List (Nat×Int×Int)):Prop :=
 ∃ h x,ss≠[]/\bM ws hs h ss x/\(h::ss.map (·.2.2)).Nodup/\0<=h/\h < n/\RL ws hs n.toNat h x/\2<=((hs.count h:Nat):Int) - ((hs.count x:Nat):Int)
end
theorem jJ:∀ (n:Nat) (l:List Int),l.Nodup->(∀ x∈l,0<=x/\x < (n:Int))->l.length<=n
 | 0,[],_,_=>Qg _
 | 0,x::_,_,h=>by have:=h x (.head _); omega
 | n+1,l,hn,h=>by
  by_cases hm:(n:Int)∈l
  ·have h1:=jJ n (l.erase (n:Int)) (hn.erase _) fun x hx=>by
    have h2:=(hn.mem_erase_iff).mp hx
    have h3:=h x h2.2
    have:=h2.1
    omega
   rw [Zo hm] at h1
   omega
  ·have h1:=jJ n l hn fun x hx=>by
    have h3:=h x hx
    have:x≠(n:Int):=fun z=>hm (z ▸ hx)
    omega
   omega
end Ab
namespace L2
open PySem
theorem aG.wr {H H':Hp} {a:Addr} {u:HO} (e:aG H H') (h:H a=none):aG H (upd H' a u):=fun b o q=>by
 rw [aD (fun z=>by rw [z,h] at q; cases q)]
 exact e b o q
end L2
namespace Ab
open PySem L2
theorem rZ {h:Int} {l:List Int}:fV (.int h) l=true↔h∈l:=by
 show (l.any (·==h))=true↔_
 rw [Xn]
 constructor
 ·rintro ⟨x,hx,e⟩
  have:x=h:=by simpa using e
  exact this ▸ hx
 ·exact fun hx=>⟨h,hx,by simp⟩
theorem cE {ws:List (List Int)} {hs:List Int} (h:nS ws (rT hs)=true):hs.length=ws.length/\∀ (j:Nat) (h:Int) (l:List Int),hs[j]?=some h->ws[j]?=some l->h∈l:=by
 have h':(decide ((hs.map PyData.int).length=ws.length) && ((hs.map PyData.int).zip ws).all fun p=>fV p.1 p.2)=true:=h
 rw [Qd,Ji,Xb] at h'
 refine ⟨of_decide_eq_true h'.1,fun j h l hj hl=>?_⟩
 refine rZ.mp (h'.2 (.int h,l) (Qe (i:=j) ?_))
 rw [Jb]
 exact ⟨by rw [Qi,hj]; rfl,hl⟩
theorem vQ {ws:List (List Int)} {hs:List Int} (h1:hs.length=ws.length) (h2:∀ (j:Nat) (h:Int) (l:List Int),hs[j]?=some h->ws[j]?=some l->h∈l):nS ws (rT hs)=true:=by
 show (decide ((hs.map PyData.int).length=ws.length) && ((hs.map PyData.int).zip ws).all fun p=>fV p.1 p.2)=true
 rw [Qd,decide_eq_true h1,Zc,Xb]
 rintro ⟨d,l⟩ hm
 obtain ⟨j,hj⟩:=Qy.mp hm
 rw [Jb] at hj
 obtain ⟨hj1,hj2⟩:=hj
 have hj1:(hs.map PyData.int)[j]?=some d:=hj1
 have hj2:ws[j]?=some l:=hj2
 rw [Qi] at hj1
 cases q:hs[j]? with
 | none=>rw [q] at hj1; cases hj1
 | some h =>
  rw [q] at hj1
  obtain rfl:PyData.int h=d:=Option.some.inj hj1
  exact rZ.mpr (h2 j h l q hj2)
theorem oW.hand {H:Hp} {x y:V} {n:Int} {ws:List (List Int)} {hs:List Int} (g:oW K H x y n ws hs) {i:Nat} {h:Int} (e:hs[i]?=some h):0<=h/\h < n:=by
 obtain ⟨_,_,_,hw⟩:=aS g.2.1
 obtain ⟨hl,hd⟩:=cE g.2.2.2
 have hi:i < ws.length:=by rw [<- hl]; exact (Qa.mp e).1
 have hm:=hd i h ws[i] e (Qc hi)
 exact (aX (hw _ (Yx hi))).2.1 h hm
theorem vR {xs:List Int} {i:Nat} {v:V} (h:(xs.map V.int)[i]?=some v):∃ a,xs[i]?=some a/\v=.int a:=by
 rw [Qi] at h
 cases q:xs[i]? with
 | none=>rw [q] at h; cases h
 | some a=>rw [q] at h; exact ⟨a,rfl,(Option.some.inj h).symm⟩
theorem gJ {n:Int} {hs:List Int} {j:Nat} (h:j < n.toNat):(bF n hs)[j]?=some ((hs.count (j:Int):Nat):Int):=by
 unfold bF
 rw [Qi,rW h]
 rfl
theorem aCe {n:Nat} {k:Int} (h0:0<=k) (h1:k < n):ixN n k=some k.toNat:=by
 unfold ixN
 rw [if_pos h0,if_pos (by omega)]
def pS (E:Nat->Int->Prop) (r:List (Key×V)):Prop:=(∀ k v,bJ r k=some v->∃ (w:Nat) (t:Int),k=.inl t/\v=.int (w:Nat)/\E w t)/\∀ w t,E w t->(bJ r (.inl t)).isSome=true
theorem pS.nil {E:Nat->Int->Prop} (h:∀ w t,¬ E w t):pS E []:=⟨fun k v e=>(by rw [aBL] at e; cases e),fun w t e=>(h w t e).elim⟩
theorem pS.put {E:Nat->Int->Prop} {r:List (Key×V)} (h:pS E r) (w:Nat) (t:Int):pS (fun w' t'=>E w' t'∨(w'=w/\t'=t)) (cB r (.inl t) (.int (w:Nat))):=by
 refine ⟨fun k v e=>?_,fun w' t' e=>?_⟩
 ·rw [rD] at e
  by_cases hk:k=Sum.inl t
  ·rw [if_pos hk] at e
   exact ⟨w,t,hk,(Option.some.inj e).symm,.inr ⟨rfl,rfl⟩⟩
  ·rw [if_neg hk] at e
   obtain ⟨w',t',h1,h2,h3⟩:=h.1 k v e
   exact ⟨w',t',h1,h2,.inl h3⟩
 ·rw [rD]
  by_cases hk:(Sum.inl t':Key)=Sum.inl t
  ·rw [if_pos hk]; rfl
  ·rw [if_neg hk]
   rcases e with e | ⟨_,e⟩
   ·exact h.2 w' t' e
   ·exact absurd (by rw [e]) hk
theorem pS.congr {E E':Nat->Int->Prop} {r:List (Key×V)} (h:pS E r) (e:∀ w t,E w t↔E' w t):pS E' r:=⟨fun k v q=>let ⟨w,t,a,b,c⟩:=h.1 k v q; ⟨w,t,a,b,(e w t).mp c⟩,fun w t q=>h.2 w t ((e w t).mpr q)⟩
structure Rows (H:Hp) (rp:Addr) (qs:List Addr) (rs:List (List (Key×V))):Prop where
 lst:H rp=some (.lst (qs.map V.ref))
 len:qs.length=rs.length
 nd:qs.Nodup
 row:∀ (g:Nat) q r,qs[g]?=some q->rs[g]?=some r->H q=some (.dK r)
theorem Rows.same {H H':Hp} {rp:Addr} {qs:List Addr} {rs:List (List (Key×V))} (h:Rows H rp qs rs) (s:aG H H'):Rows H' rp qs rs:=⟨s _ _ h.lst,h.len,h.nd,fun g q r a b=>s _ _ (h.row g q r a b)⟩
theorem Rows.put {H:Hp} {rp:Addr} {qs:List Addr} {rs:List (List (Key×V))} (h:Rows H rp qs rs) {g:Nat} {q:Addr} {r r':List (Key×V)} (hq:qs[g]?=some q) (hr:rs[g]?=some r):Rows (upd H q (.dK r')) rp qs (rs.set g r'):=by
 have hg:=h.row g q r hq hr
 have nq:rp≠q:=fun z=>by have:=h.lst; rw [z,hg] at this; cases this
 refine ⟨by rw [aD nq]; exact h.lst,by rw [Zp]; exact h.len,h.nd,fun g2 q2 r2 h1 h2=>?_⟩
 rw [Xc] at h2
 by_cases e:g=g2
 ·subst e
  rw [if_pos rfl] at h2
  rw [hq] at h1
  cases h1
  by_cases hl:g < rs.length
  ·rw [if_pos hl] at h2; cases h2; exact aB
  ·rw [if_neg hl] at h2; cases h2
 ·rw [if_neg e] at h2
  have n2:q2≠q:=fun z=>by
   subst z
   have hlt:g < qs.length:=(Qa.mp hq).1
   exact e ((List.getElem?_inj hlt h.nd).mp (hq.trans h1.symm))
  rw [aD n2]
  exact h.row g2 q2 r2 h1 h2
theorem Rows.other {H:Hp} {rp a:Addr} {u:HO} {qs:List Addr} {rs:List (List (Key×V))} (h:Rows H rp qs rs) (hn:H a=none):Rows (upd H a u) rp qs rs:=h.same (aG.new hn)
def xO (E:Int->Nat->Int->Prop) (rs:List (List (Key×V))) (m:Nat):Prop:=∀ (g:Nat) r,rs[g]?=some r->pS (E g) r/\r.length<=m
section
variable {P:Program} {w:World} {K:PySem.W.Frag} {mg:Str->Option Value} {base:Heap}
def lQ (K:PySem.W.Frag):Sp:=fun vs H Q _=>∃ x y n ws hs,vs = [x,y]/\oW K H x y n ws hs/\∀ rp H' qs rs,aG H H'->H rp=none->(∀ q∈qs,H q=none)->Rows H' rp qs rs->rs.length=n.toNat->xO (gI ws hs) rs 100->Q (.ref rp) H'
theorem iE:FnScope ["book", "deal", "rows", "work", "giver", "able", "taker"] ["book", "deal"] (aH iM):=⟨rfl,rfl,rfl,by decide +kernel,rfl,by decide +kernel,by decide +kernel⟩
theorem mY {f:Addr} {fd:FuncData} (G:Fn K mg "handing" iM ["book", "deal"] f fd) (B:Bl mg):FnOk P w K mg base CX0 1 f fd ["book", "deal"] (lQ K):=by
 refine G.fn.ok iE (fun vs H Q E h=>?_) (fun cdv A outer s H vs Q E hr h=>?_)
 ·obtain ⟨x,y,n,ws,hs,rfl,_⟩:=h
  rfl
 ·obtain ⟨x,y,n,ws,hs,rfl,g,k⟩:=h
  refine ⟨_,(aC (qX (i:=2) (own:=["hand"]) (fr:=[]) (frn:=[]) (bD (aH iM) ["book", "deal", "rows", "work", "giver", "able", "taker"] rfl rfl (by decide +kernel)) rfl iE.nd rfl rfl rfl (eW rfl B.range (aA (bE bU (pv 0) aI (fun _ _=>rfl)) aE))
    (fun _ _ _ _=>(aT (i:=0) (show (["hand"]:List Str).Nodup by decide +kernel) rfl (Or.inl rfl))) (fun _ _ _ _=>dQ)
    (fun _ _ _ _=>jD))
   (aC (gD PassesOwn.never rfl (yQ .t .t rfl B.enumerate rfl B.zip (aA (pv 1) (aA (bE bU (pv 0) aI (fun _ _=>rfl)) aE))) (mK rfl (cF (aT (i:=3) iE.nd rfl (Or.inl rfl)) (cF (mK rfl (cF (aT (i:=4) iE.nd rfl (Or.inl rfl)) (cF (aT (i:=5) iE.nd rfl (Or.inl rfl)) jS))) jS)))
    (aF (gD PassesOwn.never rfl (mM (pv 5)) (aT (i:=6) iE.nd rfl (Or.inl rfl))
     (aF (bA (aL kA (pv 6) (pv 4) (aR _))
      (aF (gM (eC hr) (bE bX (pv 2) (pv 4) (fun _ _=>rfl)) (pv 6) (pv 3) rfl))
      aN)))))
   (aF (aK (pv 2))))),?_⟩
  obtain ⟨hl12,hn1,hn6⟩:=g.len
  obtain ⟨a,b,ys,rfl,ha,hb2,hys⟩:=jH g.1
  obtain ⟨c0,rfl,hc0⟩:=bR.mp g.2.2.1
  obtain ⟨hdl,hdg⟩:=cE g.2.2.2
  obtain ⟨_,_,hw12,hws⟩:=aS g.2.1
  have hlw:=cJ hys
  rw [Qd] at hlw
  refine ⟨_,rfl,a,_,0,.int n,rfl,rfl,ha,rfl,n,rfl,by omega,by omega,mT (lo:=0) (n:=n.toNat) (fun σ=>∃ v,σ = [v]) (fun i zs H2=>∃ qs:List Addr,zs=qs.map V.ref/\qs.length=i/\aG H H2/\qs.Nodup/\∀ q∈qs,H q=none/\H2 q=some (.dK [])) ?_ ⟨none,rfl⟩ ⟨[],rfl,rfl,aG.refl H,Zl,fun _ h=>(Qp h).elim⟩ ?_ ?_ ?_⟩
  ·rw [sizeLine_eq]; omega
  ·rintro i zs H2 ⟨qs,rfl,hq,_⟩
   rw [Qd]; omega
  ·rintro i zs σ H2 hi ⟨v,rfl⟩ ⟨qs,rfl,hq,s2,nd,hqs⟩ hz
   refine cC ?_
   intro p hp
   refine ⟨hz,⟨_,rfl⟩,qs++[p],by rw [Jd]; rfl,by rw [Qh,hq]; rfl,s2.trans (aG.new hp),?_,fun q hq'=>?_⟩
   ·rw [Jr]
    refine ⟨nd,by simp,fun x hx y hy e=>?_⟩
    rw [Qs.mp hy] at e
    have:=(hqs x hx).2
    rw [e,hp] at this; cases this
   ·rcases Jo.mp hq' with h | h
    ·exact ⟨(hqs q h).1,(aG.new hp) _ _ (hqs q h).2⟩
    ·rw [Qs.mp h]
     exact ⟨s2.free hp,aB⟩
  ·rintro zs H2 ⟨qs,rfl,hq,s2,nd,hqs⟩ rp hrp
   have s3:=s2.trans (aG.new (o:=.lst (qs.map V.ref)) hrp)
   have hrp0:H rp=none:=s2.free hrp
   have R3:Rows (upd H2 rp (.lst (qs.map V.ref))) rp qs (List.replicate n.toNat []):=⟨aB,by rw [Jj]; exact hq,nd,fun g q r h1 h2=>by
    have er:r = []:=by
     rw [Xo] at h2
     split at h2
     ·exact (Option.some.inj h2).symm
     ·cases h2
    rw [er]
    exact (aG.new hrp) _ _ (hqs q (Qe h1)).2⟩
   generalize upd H2 rp (.lst (qs.map V.ref))=H3 at s3 R3 ⊢
   have h6:∀ l∈ws,l.length<=6:=fun l hl=>by
    obtain ⟨_,w2,w3⟩:=aX (hws l hl)
    have:=gH (by omega) w2 w3
    omega
   refine ⟨_,rfl,_,rfl,a,_,1,.ref b,rfl,rfl,s3.seqT ha,rfl,c0,b,_,_,rfl,s3.seqT hc0,s3.seqT hb2,xE (K:=K) (k1:=.t) (k2:=.t) (a:=c0) (b:=b) (xs:=hs.map V.int) (ys:=ys)
    (fun i σ H4=>(∃ v3 v4 v5 v6,σ = [some (.ref a),some (.ref c0),some (.ref rp),v3,v4,v5,v6])/\aG H H4/\∃ rs,Rows H4 rp qs rs/\rs.length=n.toNat/\xO (fun g w t=>w < i/\gI ws hs g w t) rs (6*i))
    (by rw [Qd]; omega) ⟨⟨_,_,_,_,rfl⟩,s3,_,R3,Jj,fun g r hr=>?_⟩ (fun _ σ H4 _ ⟨_,s4,_⟩=>⟨s4.seqT hc0,s4.seqT hb2⟩) ?_ ?_⟩
   ·have er:r = []:=by
     rw [Xo] at hr
     split at hr
     ·exact (Option.some.inj hr).symm
     ·cases hr
    rw [er]
    exact ⟨pS.nil fun w t h=>by omega,Jk _⟩
   ·rintro i u v p q σ H4 hu hv ⟨⟨v3,v4,v5,v6,rfl⟩,s4,rs,R4,hl4,E4⟩ hp hq hne
    obtain ⟨h,hh,rfl⟩:=vR hu
    obtain ⟨dv,hdv,denv⟩:=jC hys hv
    rw [Qi] at hdv
    obtain ⟨l,hl,rfl⟩:∃ l,ws[i]?=some l/\fU l=dv:=by
     cases q:ws[i]? with
     | none=>rw [q] at hdv; cases hdv
     | some l=>rw [q] at hdv; exact ⟨l,rfl,Option.some.inj hdv⟩
    obtain ⟨aw,rfl,haw⟩:=bR.mp denv
    obtain ⟨hh0,hh1⟩:=g.hand hh
    have hl6:=h6 l (Qe hl)
    have hi12:i < 12:=by
     have:=(Qa.mp hh).1
     omega
    have sp:=aG.new (o:=.tup [.int h,.ref aw]) hp
    have hq1:upd H4 p (.tup [.int h,.ref aw]) q=none:=by rw [aD hne]; exact hq
    have sq:=aG.new (o:=.tup [.int (i:Nat),.ref p]) hq1
    have ep:upd (upd H4 p (.tup [.int h,.ref aw])) q (.tup [.int (i:Nat),.ref p]) p=some (.tup [.int h,.ref aw]):=sq _ _ aB
    have eq:upd (upd H4 p (.tup [.int h,.ref aw])) q (.tup [.int (i:Nat),.ref p]) q=some (.tup [.int (i:Nat),.ref p]):=aB
    have s5:=s4.trans (sp.trans sq)
    have R5:=R4.same (sp.trans sq)
    generalize upd (upd H4 p (.tup [.int h,.ref aw])) q (.tup [.int (i:Nat),.ref p])=H5 at ep eq s5 R5 ⊢
    refine ⟨q,_,rfl,SqT.of eq,rfl,_,_,rfl,_,_,rfl,p,_,rfl,SqT.of ep,rfl,_,_,rfl,_,_,rfl,rfl,rfl,?_⟩
    have hgl:h.toNat < qs.length:=by rw [R5.len,hl4]; omega
    obtain ⟨qh,hqh⟩:∃ qh,qs[h.toNat]?=some qh:=⟨_,Qc hgl⟩
    have hcast:((h.toNat:Nat):Int)=h:=by omega
    refine ⟨_,rfl,aw,rfl,⟨_,s5.seqT haw⟩,zM (K:=K) (a:=aw) (xs:=l.map V.int) (fun j σ H6=>(∃ v6,σ = [some (.ref a),some (.ref c0),some (.ref rp),some (.int (i:Nat)),some (.int h),some (.ref aw),v6])/\aG H H6/\∃ rs,Rows H6 rp qs rs/\rs.length=n.toNat/\xO (fun g w t=>(w < i/\gI ws hs g w t)∨(w=i/\g=h/\t∈l.take j/\t≠h)) rs (6*i+j))
     ⟨⟨_,rfl⟩,s5,rs,R5,hl4,fun g r hr=>⟨(E4 g r hr).1.congr fun w t=>⟨.inl,fun z=>z.elim id fun z=>by rw [List.take_zero] at z; exact (Qp z.2.2.1).elim⟩,(E4 g r hr).2⟩⟩ (fun _ σ H6 _ ⟨_,s6,_⟩=>s6.seqT haw) ?_ ?_⟩
    ·rintro j tv σ H6 htv ⟨⟨v6,rfl⟩,s6,rs,R6,hl6',E6⟩
     obtain ⟨t,ht,rfl⟩:=vR htv
     have hj:j < l.length:=(Qa.mp ht).1
     have etake:l.take (j+1)=l.take j++[t]:=by rw [Xd,ht]; rfl
     refine ⟨_,rfl,_,rfl,rfl,_,rfl,?_⟩
     refine fF (fun c=>?_) (fun c=>?_)
     ·have hth:t≠h:=fun z=>by rw [z] at c; simp at c
      obtain ⟨r,hr⟩:∃ r,rs[h.toNat]?=some r:=⟨_,Qc (by rw [hl6']; omega)⟩
      have hat:atI (qs.map V.ref) h=some (.ref qh):=by
       have:=eS (xs:=qs.map V.ref) (j:=h.toNat) (v:=.ref qh) (by rw [Qi,hqh]; rfl)
       rwa [hcast] at this
      have hrow:=R6.row _ _ _ hqh hr
      have hrl:=(E6 _ _ hr).2
      have hqH:H qh=none:=(hqs qh (Qe hqh)).1
      refine ⟨_,rfl,_,rfl,_,rfl,rp,_,h,_,rfl,rfl,SqL.of R6.lst,hat,_,rfl,qh,_,rfl,lX.k (k:=.inl t) hrow (by rw [sizeLine_eq]; omega),?_⟩
      refine ⟨⟨_,rfl⟩,s6.wr hqH,rs.set h.toNat (cB r (.inl t) (.int (i:Nat))),R6.put hqh hr,by rw [Zp]; exact hl6',fun g2 r2 hr2=>?_⟩
      rw [Xc] at hr2
      by_cases eg:h.toNat=g2
      ·rw [if_pos eg,if_pos (by rw [hl6']; omega)] at hr2
       cases hr2
       have eg':((g2:Nat):Int)=h:=by omega
       refine ⟨((E6 _ _ hr).1.put i t).congr fun w t'=>?_,Ja (cU _ _ _) (by omega)⟩
       rw [hcast,eg',etake]
       constructor
       ·rintro ((z | ⟨z1,z2,z3,z4⟩) | ⟨z1,z2⟩)
        ·exact .inl z
        ·exact .inr ⟨z1,z2,Xe _ z3,z4⟩
        ·exact .inr ⟨z1,rfl,by rw [z2]; simp,by rw [z2]; exact hth⟩
       ·rintro (z | ⟨z1,z2,z3,z4⟩)
        ·exact .inl (.inl z)
        ·rcases Jo.mp z3 with z3 | z3
         ·exact .inl (.inr ⟨z1,z2,z3,z4⟩)
         ·exact .inr ⟨z1,Qs.mp z3⟩
      ·rw [if_neg eg] at hr2
       refine ⟨(E6 _ _ hr2).1.congr fun w t'=>?_,Ja (E6 _ _ hr2).2 (by omega)⟩
       have ng:¬ ((g2:Nat):Int)=h:=by omega
       constructor
       ·rintro (z | ⟨_,z2,_⟩)
        ·exact .inl z
        ·exact absurd z2 ng
       ·rintro (z | ⟨_,z2,_⟩)
        ·exact .inl z
        ·exact absurd z2 ng
     ·have hth:t=h:=by simpa using c
      refine ⟨⟨_,rfl⟩,s6,rs,R6,hl6',fun g2 r2 hr2=>⟨(E6 _ _ hr2).1.congr fun w t'=>?_,Ja (E6 _ _ hr2).2 (by omega)⟩⟩
      rw [etake]
      constructor
      ·rintro (z | ⟨z1,z2,z3,z4⟩)
       ·exact .inl z
       ·exact .inr ⟨z1,z2,Xe _ z3,z4⟩
      ·rintro (z | ⟨z1,z2,z3,z4⟩)
       ·exact .inl z
       ·rcases Jo.mp z3 with z3 | z3
        ·exact .inr ⟨z1,z2,z3,z4⟩
        ·exact absurd ((Qs.mp z3).trans hth) z4
    ·rintro σ H6 ⟨⟨v6,rfl⟩,s6,rs,R6,hl6',E6⟩
     refine ⟨⟨_,_,_,_,rfl⟩,s6,rs,R6,hl6',fun g2 r2 hr2=>⟨(E6 _ _ hr2).1.congr fun w t'=>?_,Ja (E6 _ _ hr2).2 (by rw [Qd]; omega)⟩⟩
     rw [Qd,Ju]
     constructor
     ·rintro (⟨z1,z2⟩ | ⟨z1,z2,z3,z4⟩)
      ·exact ⟨by omega,z2⟩
      ·subst z1
       exact ⟨by omega,by rw [hh,z2],l,hl,z3,by rw [z2]; exact z4⟩
     ·rintro ⟨z1,z2⟩
      by_cases hw:w < i
      ·exact .inl ⟨hw,z2⟩
      ·have ew:w=i:=by omega
       subst ew
       obtain ⟨z3,l',z4,z5,z6⟩:=z2
       rw [hh] at z3
       rw [hl] at z4
       cases z4
       have ez:h=g2:=Option.some.inj z3
       exact .inr ⟨rfl,ez.symm,z5,by rw [ez]; exact z6⟩
   ·rintro σ H4 ⟨⟨v3,v4,v5,v6,rfl⟩,s4,rs,R4,hl4,E4⟩
    refine ⟨_,rfl,k rp H4 qs rs s4 hrp0 (fun q hq=>(hqs q hq).1) R4 hl4 fun g r hr=>⟨(E4 g r hr).1.congr fun w t=>⟨fun z=>z.2,fun z=>⟨?_,z⟩⟩,Ja (E4 g r hr).2 (by rw [Qd]; omega)⟩⟩
    rw [Qd]
    exact (Qa.mp z.1).1
def aAj (K:PySem.W.Frag) (H:Hp) (x:V) (y:Addr) (n:Int) (ws:List (List Int)) (hs:List Int):Prop:=Den K H (iU n ws) x/\fQ (iU n ws)=true/\SqL K H y (hs.map V.int)/\nS ws (rT hs)=true
theorem aAj.len {H:Hp} {x:V} {y:Addr} {n:Int} {ws:List (List Int)} {hs:List Int} (g:aAj K H x y n ws hs):hs.length<=12/\1<=n/\n<=6:=by
 obtain ⟨h1,h2,h3,_⟩:=aS g.2.1
 have:=(cE g.2.2.2).1
 omega
theorem aAj.hand {H:Hp} {x:V} {y:Addr} {n:Int} {ws:List (List Int)} {hs:List Int} (g:aAj K H x y n ws hs) {i:Nat} {h:Int} (e:hs[i]?=some h):0<=h/\h < n:=by
 obtain ⟨_,_,_,hws⟩:=aS g.2.1
 obtain ⟨hl,hm⟩:=cE g.2.2.2
 have hi:i < ws.length:=by rw [<- hl]; exact (Qa.mp e).1
 have hw:=Qc hi
 exact (aX (hws _ (Qe hw))).2.1 h (hm i h _ e hw)
end
def Tp (H H':Hp):Prop:=∀ p xs,H p=some (.tup xs)->H' p=some (.tup xs)
theorem Tp.of {H H':Hp} (s:aG H H'):Tp H H':=fun _ _ h=>s _ _ h
theorem Tp.trans {H H1 H2:Hp} (a:Tp H H1) (b:Tp H1 H2):Tp H H2:=fun p xs h=>b p xs (a p xs h)
theorem Tp.upd {H:Hp} {a:Addr} {u:HO} (h:∀ xs,H a≠some (.tup xs)):Tp H (upd H a u):=fun p xs e=>by
 have ne:p≠a:=fun z=>h xs (by rw [<- z]; exact e)
 rw [aD ne]; exact e
theorem qC {fs:List (Key×V)} {os:List Int} (h:fs.map (·.1)=os.map Sum.inl) (t:Int):(bJ fs (.inl t)).isSome=decide (t∈os):=by
 rw [<- eP]
 have:(fs.any fun kv=>decide (kv.1=Sum.inl t))=((fs.map (·.1)).any fun k=>decide (k=Sum.inl t)):=by rw [We]; rfl
 rw [this,h,We,Xi]
 simp
structure Tree (ws:List (List Int)) (hs:List Int) (n first:Int) (H:Hp) (fs:List (Key×V)) (os:List Int):Prop where
 keys:fs.map (·.1)=os.map Sum.inl
 nd:os.Nodup
 rng:∀ o∈os,0<=o/\o < n
 head:os[0]?=some first
 v0:bJ fs (.inl first)=some .non
 par:∀ (j:Nat) (t:Int),0 < j->os[j]?=some t->∃ (p:Addr) (w:Nat) (g:Int) (i:Nat),bJ fs (.inl t)=some (.ref p)/\H p=some (.tup [.int (w:Nat),.int g,.int t])/\gI ws hs g w t/\i < j/\os[i]?=some g
section
variable {ws:List (List Int)} {hs:List Int} {n first:Int} {H H':Hp} {fs:List (Key×V)} {os:List Int}
theorem Tree.tp (T:Tree ws hs n first H fs os) (e:Tp H H'):Tree ws hs n first H' fs os :=
 ⟨T.keys,T.nd,T.rng,T.head,T.v0,fun j t h0 h1=>let ⟨p,w,g,i,a,b,c⟩:=T.par j t h0 h1; ⟨p,w,g,i,a,e _ _ b,c⟩⟩
theorem Tree.len (T:Tree ws hs n first H fs os):os.length<=n.toNat:=jJ _ _ T.nd fun x hx=>by have:=T.rng x hx; omega
theorem Tree.flen (T:Tree ws hs n first H fs os):fs.length=os.length:=by
 have:=congrArg Wj T.keys
 rwa [Qd,Qd] at this
theorem Tree.one (h0:0<=first) (h1:first < n):Tree ws hs n first H [(.inl first,.non)] [first] :=
 ⟨rfl,by simp,fun o ho=>by rw [Qs.mp ho]; exact ⟨h0,h1⟩,rfl,bO rfl,fun j t h2 h3=>by
  cases j with
  | zero=>omega
  | succ j=>simp at h3⟩
theorem Tree.grow (T:Tree ws hs n first H fs os) {p:Addr} {w:Nat} {g t:Int} {i:Nat} (hp:H p=some (.tup [.int (w:Nat),.int g,.int t])) (e:gI ws hs g w t) (hi:os[i]?=some g) (ht:t∉os) (r0:0<=t) (r1:t < n) :
  Tree ws hs n first H (fs++[(.inl t,.ref p)]) (os++[t]):=by
 have hv:bJ fs (.inl t)=none:=by
  have:=qC T.keys t
  rw [decide_eq_false ht] at this
  cases q:bJ fs (.inl t) with
  | none=>rfl
  | some v=>rw [q] at this; cases this
 have hlt:i < os.length:=(Qa.mp hi).1
 have val:∀ j:Key,bJ (fs++[(.inl t,.ref p)]) j=if j=.inl t then some (.ref p) else bJ fs j:=fun j=>oO _ _ _ _ hv
 have hf:first∈os:=Qe T.head
 refine ⟨by rw [Jd,Jd,T.keys]; rfl,?_,fun o ho=>?_,?_,?_,fun j t' h0 h1=>?_⟩
 ·rw [Jr]
  exact ⟨T.nd,by simp,fun x hx y hy z=>ht (by rw [<- Qs.mp hy,<- z]; exact hx)⟩
 ·rcases Jo.mp ho with h | h
  ·exact T.rng o h
  ·rw [Qs.mp h]; exact ⟨r0,r1⟩
 ·rw [Ql (by omega)]; exact T.head
 ·rw [val,if_neg (fun z=>ht (by have:first=t:=(by simpa using z); rw [<- this]; exact hf))]
  exact T.v0
 ·by_cases hj:j < os.length
  ·rw [Ql hj] at h1
   obtain ⟨p',w',g',i',a,b,c,d,e'⟩:=T.par j t' h0 h1
   have ne:(Sum.inl t':Key)≠Sum.inl t:=fun z=>ht (by have:t'=t:=(by simpa using z); rw [<- this]; exact Qe h1)
   exact ⟨p',w',g',i',by rw [val,if_neg ne]; exact a,b,c,d,by rw [Ql (by omega)]; exact e'⟩
  ·have ej:j=os.length:=by
    have:=(Qa.mp h1).1
    rw [Qh] at this
    simp at this
    omega
   subst ej
   rw [Qt (Qg _),Jz] at h1
   have et:t'=t:=by simpa using h1.symm
   subst et
   exact ⟨p,w,g,i,by rw [val,if_pos rfl],hp,e,hlt,by rw [Ql hlt]; exact hi⟩
theorem Tree.rl (T:Tree ws hs n first H fs os):∀ (j:Nat) (t:Int),os[j]?=some t->RL ws hs j first t:=by
 intro j
 induction j using Nat.strongRecOn with
 | ind j ih =>
  intro t ht
  by_cases h0:j=0
  ·subst h0
   rw [T.head] at ht
   exact Option.some.inj ht
  ·obtain ⟨p,w,g,i,_,_,e,hi,hg⟩:=T.par j t (by omega) ht
   exact ((ih i hi g hg).snoc e).mono (by omega)
end
section
variable {P:Program} {w:World} {K:PySem.W.Frag} {mg:Str->Option Value} {base:Heap}
def vS (ws:List (List Int)) (hs os:List Int):Prop:=∀ g∈os,∀ w t,gI ws hs g w t->t∈os
def lR (K:PySem.W.Frag):Sp:=fun vs H Q _=>∃ rp first qs rs n ws hs,vs = [.ref rp,.int first]/\Rows H rp qs rs/\rs.length=n.toNat/\xO (gI ws hs) rs 100/\(∀ g w t,gI ws hs g w t->0<=t/\t < n)/\n<=7/\0<=first/\first < n /\
 ∀ fd H' fs os,aG H H'->H fd=none->H' fd=some (.dK fs)->Tree ws hs n first H' fs os->vS ws hs os->Q (.ref fd) H'
theorem jK:FnScope ["rows", "first", "found", "waiting", "giver", "taker"] ["rows", "first"] (aH jF):=⟨rfl,rfl,rfl,by decide +kernel,rfl,by decide +kernel,by decide +kernel⟩
theorem mZ {f:Addr} {fd:FuncData} (G:Fn K mg "reached" jF ["rows", "first"] f fd) (B:Bl mg):FnOk P w K mg base CX0 1 f fd ["rows", "first"] (lR K):=by
 refine G.fn.ok jK (fun vs H Q E h=>?_) (fun cdv A outer s H vs Q E hr h=>?_)
 ·obtain ⟨rp,first,qs,rs,n,ws,hs,rfl,_⟩:=h
  rfl
 ·obtain ⟨rp,first,qs,rs,n,ws,hs,rfl,R,hlr,ER,hedge,hn6,hf0,hf1,k⟩:=h
  refine ⟨_,(aC (aM (i:=2) jK.nd rfl (Or.inl rfl) (aBP (pv 1) aBc))
   (aC (aM (i:=3) jK.nd rfl (Or.inl rfl) (eU (aA (pv 1) aE)))
   (aC (qN PassesOwn.never (aBm (pv 3) (fun _=>rfl))
    (aC (aM (i:=4) jK.nd rfl (Or.inl rfl) (pL PySem.F.plainAttrs_list PySem.F.slot_list_pop PySem.F.type_list_pop wO (pv 3) (aA aI aE)))
    (aF (pX (gD PassesOwn.never rfl (lF (bE bX (pv 0) (pv 4) (fun _ _=>rfl))) (aT (i:=5) jK.nd rfl (Or.inl rfl))
     (aF (bA (oF (oP (eC hr) (pv 5) (pv 2)) (by with_unfolding_all rfl))
      (aC (gM (eC hr) (pv 2) (pv 5) (eN (aA (aQ (eC hr) (bE bX (pv 0) (pv 4) (fun _ _=>rfl)) (pv 5) (fun _ _=>rfl)) (aA (pv 4) (aA (pv 5) aE)))) rfl)
      (aF (cX (pL PySem.F.plainAttrs_list PySem.F.slot_list_append PySem.F.type_list_append lD (pv 3) (aA (pv 5) aE)))))
      aN)))))))
   (aF (aK (pv 2)))))),?_⟩
  intro fd0 hfd0
  refine ⟨_,rfl,.inl first,rfl,aB,?_⟩
  rw [iR]
  have s1:=aG.new (o:=.dK [(.inl first,.non)]) hfd0
  have e1:upd H fd0 (.dK [(.inl first,.non)]) fd0=some (.dK [(.inl first,.non)]):=aB
  generalize upd H fd0 (.dK [(.inl first,.non)])=H1 at s1 e1 ⊢
  refine ⟨_,rfl,sz1 _,fun wt hwt=>?_⟩
  have hwt0:H wt=none:=s1.free hwt
  have nfw:fd0≠wt:=fun z=>by rw [z,hwt] at e1; cases e1
  have s2:=s1.trans (aG.new (o:=.lst [.int first]) hwt)
  have e2:=(aG.new (o:=.lst [.int first]) hwt) _ _ e1
  have w2:upd H1 wt (.lst [.int first]) wt=some (.lst [.int first]):=aB
  generalize upd H1 wt (.lst [.int first])=H2 at s2 e2 w2 ⊢
  -- the while
  refine ⟨fun m σ H3=>∃ (v4 v5:Option V) (mm:Nat) (fs:List (Key×V)) (os:List Int),σ = [some (.ref rp),some (.int first),some (.ref fd0),some (.ref wt),v4,v5]/\m=n.toNat - mm/\aG H H3/\H3 fd0=some (.dK fs)/\H3 wt=some (.lst ((os.drop mm).map V.int))/\Tree ws hs n first H3 fs os/\mm<=os.length /\
    ∀ (i:Nat) (g:Int),i < mm->os[i]?=some g->∀ w t,gI ws hs g w t->t∈os,
   ⟨n.toNat - 0,none,none,0,_,[first],rfl,rfl,s2,e2,w2,Tree.one hf0 hf1,Jk _,fun i g hi=>absurd hi (Yl _)⟩,?_⟩
  rintro m σ H3 ⟨v4,v5,mm,fs,os,rfl,rfl,s3,e3,w3,T3,hmm,pr3⟩
  refine ⟨_,rfl,!((os.drop mm).map V.int).isEmpty,.inl ⟨_,SqL.of w3,rfl⟩,?_⟩
  by_cases hend:mm < os.length
  ·-- a turn
   have hne:(os.drop mm)≠[]:=by
    intro z
    have:=congrArg Wj z
    rw [List.length_drop] at this
    simp at this
    omega
   have hb:(!((os.drop mm).map V.int).isEmpty)=true:=by
    cases q:os.drop mm with
    | nil=>exact absurd q hne
    | cons _ _=>rfl
   rw [hb]
   refine iQ ?_
   have hdrop:os.drop mm=os[mm]::os.drop (mm+1):=Zk hend
   have hgm:os[mm]?=some (os[mm]):=Qc hend
   generalize os[mm]=g at hdrop hgm
   obtain ⟨hg0,hg1⟩:=T3.rng g (Qe hgm)
   have holen:=T3.len
   refine ⟨fun σ' H'=>∃ m',m' < n.toNat - mm/\∃ (v4 v5:Option V) (mm:Nat) (fs:List (Key×V)) (os:List Int),σ' = [some (.ref rp),some (.int first),some (.ref fd0),some (.ref wt),v4,v5]/\m'=n.toNat - mm/\aG H H'/\H' fd0=some (.dK fs)/\H' wt=some (.lst ((os.drop mm).map V.int))/\Tree ws hs n first H' fs os/\mm<=os.length /\
    ∀ (i:Nat) (g:Int),i < mm->os[i]?=some g->∀ w t,gI ws hs g w t->t∈os,fun σ' H' z=>z,?_⟩
   refine ⟨_,rfl,.inl ⟨rfl,_,SqL.of w3⟩,?_⟩
   have hx0:((os.drop mm).map V.int)[0]?=some (.int g):=by rw [hdrop]; rfl
   have hxl:0 < ((os.drop mm).map V.int).length:=(Qa.mp hx0).1
   refine ⟨wt,_,0,0,.int g,rfl,rfl,w3,by decide,by decide,nM (i:=0) (by decide) hxl,hx0,?_⟩
   have her:((os.drop mm).map V.int).eraseIdx 0=(os.drop (mm+1)).map V.int:=by rw [hdrop]; rfl
   rw [her]
   have s4:=s3.wr (u:=.lst ((os.drop (mm+1)).map V.int)) hwt0
   have e4:upd H3 wt (.lst ((os.drop (mm+1)).map V.int)) fd0=some (.dK fs):=by rw [aD nfw]; exact e3
   have w4:upd H3 wt (.lst ((os.drop (mm+1)).map V.int)) wt=some (.lst ((os.drop (mm+1)).map V.int)):=aB
   have T4:=T3.tp (Tp.upd (a:=wt) (u:=.lst ((os.drop (mm+1)).map V.int)) fun xs z=>by rw [w3] at z; cases z)
   generalize upd H3 wt (.lst ((os.drop (mm+1)).map V.int))=H4 at s4 e4 w4 T4 ⊢
   -- the row
   have R4:=R.same s4
   have hgl:g.toNat < qs.length:=by rw [R.len,hlr]; omega
   have hcast:((g.toNat:Nat):Int)=g:=by omega
   obtain ⟨qg,hqg⟩:∃ q,qs[g.toNat]?=some q:=⟨_,Qc hgl⟩
   obtain ⟨r,hr⟩:∃ r,rs[g.toNat]?=some r:=⟨_,Qc (by rw [hlr]; omega)⟩
   have hat:atI (qs.map V.ref) g=some (.ref qg):=by
    have:=eS (xs:=qs.map V.ref) (j:=g.toNat) (v:=.ref qg) (by rw [Qi,hqg]; rfl)
    rwa [hcast] at this
   have hrow:=R.row _ _ _ hqg hr
   have hrow4:=s4 _ _ hrow
   obtain ⟨hRE,hRl⟩:=ER _ _ hr
   rw [hcast] at hRE
   have nqf:qg≠fd0:=fun z=>by rw [z,hfd0] at hrow; cases hrow
   have nqw:qg≠wt:=fun z=>by rw [z,hwt0] at hrow; cases hrow
   have nqr:rp≠qg:=fun z=>by have:=R.lst; rw [z,hrow] at this; cases this
   refine ⟨_,rfl,_,rfl,rp,_,g,_,rfl,rfl,SqL.of R4.lst,hat,qg,r,rfl,hrow4,fun o nf=>?_⟩
   have z5:upd H4 qg (.frz o (.dK r)) qg=some (.frz o (.dK r)):=aB
   have b5:But qg H (upd H4 qg (.frz o (.dK r))):=fun b u nb hb=>by rw [aD nb]; exact s4 _ _ hb
   have e5:upd H4 qg (.frz o (.dK r)) fd0=some (.dK fs):=by rw [aD (Ne.symm nqf)]; exact e4
   have w5:upd H4 qg (.frz o (.dK r)) wt=some (.lst ((os.drop (mm+1)).map V.int)):=by rw [aD (Ne.symm nqw)]; exact w4
   have T5:=T4.tp (Tp.upd (a:=qg) (u:=.frz o (.dK r)) fun xs z=>by rw [hrow4] at z; cases z)
   generalize upd H4 qg (.frz o (.dK r))=H5 at z5 b5 e5 w5 T5 ⊢
   refine rG (a:=qg) (o:=o) (kvs:=r) (fun j σ H6=>∃ (v5:Option V) (fs:List (Key×V)) (os:List Int),σ = [some (.ref rp),some (.int first),some (.ref fd0),some (.ref wt),some (.int g),v5]/\H6 qg=some (.frz o (.dK r))/\But qg H H6/\H6 fd0=some (.dK fs)/\H6 wt=some (.lst ((os.drop (mm+1)).map V.int))/\Tree ws hs n first H6 fs os/\mm+1<=os.length/\os[mm]?=some g /\
     (∀ (i:Nat) (g:Int),i < mm->os[i]?=some g->∀ w t,gI ws hs g w t->t∈os)/\∀ (i:Nat) k v t,i < j->r[i]?=some (k,v)->k=.inl t->t∈os)
    ⟨v5,fs,os,rfl,z5,b5,e5,w5,T5,hend,hgm,pr3,fun i k v t hi=>absurd hi (Yl _)⟩ (fun j σ H6 _ ⟨_,_,_,_,h,_⟩=>h) ?_ ?_
   ·rintro j ⟨key,val⟩ σ H6 hj ⟨v5,fs,os,rfl,z6,b6,e6,w6,T6,hl6,hg6,pr6,dn6⟩
    -- the key is a hand,its value a work
    obtain ⟨val',hval⟩:∃ v,bJ r key=some v:=by
     have:(bJ r key).isSome=true:=by
      rw [<- eP,Xn]
      exact ⟨_,Qe hj,by simp⟩
     cases q:bJ r key with
     | none=>rw [q] at this; cases this
     | some v=>exact ⟨v,rfl⟩
    obtain ⟨wk,t,rfl,rfl,hE⟩:=hRE.1 _ _ hval
    obtain ⟨ht0,ht1⟩:=hedge _ _ _ hE
    dsimp only [kV]
    have dn:∀ (os':List Int),t∈os'->(∀ x∈os,x∈os')->∀ (i:Nat) k v t',i < j+1->r[i]?=some (k,v)->k=.inl t'->t'∈os':=fun os' h1 h2 i k v t' hi hk he=>by
     by_cases hij:i < j
     ·exact h2 _ (dn6 i k v t' hij hk he)
     ·have:i=j:=by omega
      subst this
      rw [hj] at hk
      cases hk
      have:t=t':=by simpa using he
      rw [<- this]; exact h1
    refine ⟨_,rfl,_,rfl,fd0,_,rfl,gG.k (k:=.inl t) e6,_,rfl,?_⟩
    rw [qC T6.keys]
    by_cases htm:t∈os
    ·rw [decide_eq_true htm]
     refine mS ?_
     exact ⟨_,fs,os,rfl,z6,b6,e6,w6,T6,hl6,hg6,pr6,dn os htm fun _ h=>h⟩
    ·rw [decide_eq_false htm]
     refine iQ ?_
     have hR6:H6 rp=some (.lst (qs.map V.ref)):=b6 _ _ nqr R.lst
     refine ⟨_,rfl,_,rfl,rp,_,g,_,rfl,rfl,SqL.of hR6,hat,_,rfl,qg,.int (wk:Nat),rfl,.inl ⟨r,.inl t,.inr ⟨o,z6⟩,rfl,hval.symm⟩,_,rfl,_,rfl,fZ (show 3<=1000 by decide),fun p hp=>?_⟩
     have sp:=aG.new (o:=.tup [.int (wk:Nat),.int g,.int t]) hp
     have ep:upd H6 p (.tup [.int (wk:Nat),.int g,.int t]) p=_:=aB
     have b7:But qg H (upd H6 p (.tup [.int (wk:Nat),.int g,.int t])):=b6.trans (But.of sp)
     have z7:=sp _ _ z6
     have e7:=sp _ _ e6
     have w7:=sp _ _ w6
     have T7:=T6.tp (Tp.of sp)
     generalize upd H6 p (.tup [.int (wk:Nat),.int g,.int t])=H7 at sp ep b7 z7 e7 w7 T7 ⊢
     have hv:bJ fs (.inl t)=none:=by
      have:=qC T7.keys t
      rw [decide_eq_false htm] at this
      cases q:bJ fs (.inl t) with
      | none=>rfl
      | some v=>rw [q] at this; cases this
     have T7l:=T7.len
     have T7f:=T7.flen
     have T8:=T7.grow ep hE hg6 htm ht0 ht1
     have hput:cB fs (.inl t) (.ref p)=fs++[(.inl t,.ref p)]:=gT _ hv
     refine ⟨_,rfl,_,rfl,fd0,_,rfl,lX.k (k:=.inl t) e7 (by rw [sizeLine_eq]; omega),?_⟩
     rw [hput]
     have b8:But qg H (upd H7 fd0 (.dK (fs++[(.inl t,.ref p)]))):=fun b u nb hb=>by
      rw [aD (fun z=>by rw [z,hfd0] at hb; cases hb)]
      exact b7 b u nb hb
     have z8:upd H7 fd0 (.dK (fs++[(.inl t,.ref p)])) qg=some (.frz o (.dK r)):=by rw [aD nqf]; exact z7
     have e8:upd H7 fd0 (.dK (fs++[(.inl t,.ref p)])) fd0=_:=aB
     have w8:upd H7 fd0 (.dK (fs++[(.inl t,.ref p)])) wt=some (.lst ((os.drop (mm+1)).map V.int)):=by rw [aD (Ne.symm nfw)]; exact w7
     have T8':=T8.tp (Tp.upd (a:=fd0) (u:=.dK (fs++[(.inl t,.ref p)])) fun xs z=>by rw [e7] at z; cases z)
     generalize upd H7 fd0 (.dK (fs++[(.inl t,.ref p)]))=H8 at b8 z8 e8 w8 T8' ⊢
     refine ⟨_,rfl,.inl ⟨rfl,_,SqL.of w8⟩,_,rfl,wt,_,.int t,rfl,rfl,w8,by rw [Qd,List.length_drop,sizeLine_eq]; omega,?_⟩
     have hdr:(os.drop (mm+1)).map V.int++[V.int t]=((os++[t]).drop (mm+1)).map V.int:=by
      rw [List.drop_append_of_le_length hl6,Jd]; rfl
     rw [hdr]
     refine ⟨_,_,os++[t],rfl,by rw [aD nqw]; exact z8,fun b u nb hb=>?_,by rw [aD nfw]; exact e8,aB,T8'.tp (Tp.upd fun xs z=>by rw [w8] at z; cases z),by rw [Qh]; omega,by rw [Ql (by omega)]; exact hg6,fun i g' hi hg' w t' e'=>?_,dn _ (by simp) fun x hx=>Xe _ hx⟩
     ·rw [aD (fun z=>by rw [z,hwt0] at hb; cases hb)]
      exact b8 b u nb hb
     ·rw [Ql (by omega)] at hg'
      exact Xe _ (pr6 i g' hi hg' w t' e')
   ·rintro σ H6 ⟨v5,fs,os,rfl,z6,b6,e6,w6,T6,hl6,hg6,pr6,dn6⟩
    refine ⟨qg,o,r,z6,nf,?_⟩
    have hole:=T6.len
    have s7:aG H (upd H6 qg (.dK r)):=fun b u hb=>by
     by_cases hbq:b=qg
     ·rw [hbq] at hb ⊢
      rw [aB,<- hrow]; exact hb
     ·rw [aD hbq]; exact b6 b u hbq hb
    refine ⟨n.toNat - (mm+1),by omega,_,_,mm+1,fs,os,rfl,rfl,s7,by rw [aD (Ne.symm nqf)]; exact e6,by rw [aD (Ne.symm nqw)]; exact w6,T6.tp (Tp.upd fun xs z=>by rw [z6] at z; cases z),hl6,fun i g' hi hg' w t e=>?_⟩
    by_cases him:i < mm
    ·exact pr6 i g' him hg' w t e
    ·have:i=mm:=by omega
     subst this
     rw [hg6] at hg'
     cases hg'
     have hs:=hRE.2 w t e
     rw [<- eP,Xn] at hs
     obtain ⟨⟨k,v⟩,hk,he⟩:=hs
     obtain ⟨j,hj⟩:=Qy.mp hk
     exact dn6 j k v t (Qa.mp hj).1 hj (by simpa using he)
  ·have hlen:mm=os.length:=by omega
   have hb:(!((os.drop mm).map V.int).isEmpty)=false:=by rw [hlen,List.drop_length]; rfl
   rw [hb]
   refine mS ?_
   refine ⟨_,rfl,k fd0 H3 fs os s3 hfd0 e3 T3 fun g hg w t e=>?_⟩
   obtain ⟨i,hi⟩:=Qy.mp hg
   exact pr3 i g (by have:=(Qa.mp hi).1; omega) hi w t e
structure StepsAt (H:Hp) (ps:List Addr) (ss:List (Nat×Int×Int)):Prop where
 len:ps.length=ss.length
 at_:∀ (i:Nat) p s,ps[i]?=some p->ss[i]?=some s->H p=some (.tup [.int (s.1:Nat),.int s.2.1,.int s.2.2])
theorem StepsAt.nil {H:Hp}:StepsAt H [] []:=⟨rfl,fun i p s h=>by simp at h⟩
theorem StepsAt.cons {H:Hp} {ps:List Addr} {ss:List (Nat×Int×Int)} (h:StepsAt H ps ss) {p:Addr} {w:Nat} {g t:Int} (hp:H p=some (.tup [.int (w:Nat),.int g,.int t])):StepsAt H (p::ps) ((w,g,t)::ss):=by
 refine ⟨by rw [Jf,Jf,h.len],fun i p' s h1 h2=>?_⟩
 cases i with
 | zero =>
  have e1:p=p':=by simpa using h1
  have e2:(w,g,t)=s:=by simpa using h2
  subst e1 e2
  exact hp
 | succ i=>exact h.at_ i p' s (by simpa using h1) (by simpa using h2)
theorem StepsAt.tp {H H':Hp} {ps:List Addr} {ss:List (Nat×Int×Int)} (h:StepsAt H ps ss) (e:Tp H H'):StepsAt H' ps ss:=⟨h.len,fun i p s a b=>e _ _ (h.at_ i p s a b)⟩
def qD (K:PySem.W.Frag):Sp:=fun vs H Q _=>∃ fdp last fs os first n ws hs jl,vs = [.ref fdp,.int last]/\H fdp=some (.dK fs)/\Tree ws hs n first H fs os/\n<=7/\os[jl]?=some last /\
 ∀ p H' ps ss,aG H H'->H p=none->H' p=some (.lst (ps.map V.ref))->StepsAt H' ps ss->bM ws hs first ss last->(first::ss.map (·.2.2)).Nodup->(∀ s∈ss,s.2.2∈os)->(0 < jl->ss≠[])->Q (.ref p) H'
theorem qE:FnScope ["found", "last", "some", "step"] ["found", "last"] (aH oV):=⟨rfl,rfl,rfl,by decide +kernel,rfl,by decide +kernel,by decide +kernel⟩
theorem sA {f:Addr} {fd:FuncData} (G:Fn K mg "way_to" oV ["found", "last"] f fd) (B:Bl mg):FnOk P w K mg base CX0 1 f fd ["found", "last"] (qD K):=by
 refine G.fn.ok qE (fun vs H Q E h=>?_) (fun cdv A outer s H vs Q E hr h=>?_)
 ·obtain ⟨fdp,last,fs,os,first,n,ws,hs,jl,rfl,_⟩:=h
  rfl
 ·obtain ⟨fdp,last,fs,os,first,n,ws,hs,jl,rfl,hfd,T,hn6,hjl,k⟩:=h
  refine ⟨_,(aC (aM (i:=2) qE.nd rfl (Or.inl rfl) (eU aE))
   (aC (aM (i:=3) qE.nd rfl (Or.inl rfl) (aQ (eC hr) (pv 0) (pv 1) (fun _ _=>rfl)))
   (aC (qN PassesOwn.never (oF (aCK (pv 3)))
    (aC (cX (pL PySem.F.plainAttrs_list PySem.F.slot_list_append PySem.F.type_list_append lD (pv 2) (aA (pv 3) aE)))
    (aF (aM (i:=3) qE.nd rfl (Or.inl rfl) (aQ (eC hr) (pv 0) (bE bU (pv 3) aI (fun _ _=>rfl)) (fun _ _=>rfl))))))
   (aF (aK (aC1 (pv 2) (aBj yC aI))))))),?_⟩
  have Tl:=T.len
  have hnsz:n.toNat < sizeLine:=by rw [sizeLine_eq]; omega
  refine ⟨fZ (show 0<=1000 by decide),fun sm hsm=>?_⟩
  have s1:=aG.new (o:=.lst []) hsm
  have e1:upd H sm (.lst []) sm=some (.lst []):=aB
  generalize upd H sm (.lst [])=H1 at s1 e1 ⊢
  -- what stands at a found hand
  have vals:∀ (j:Nat) (t:Int),os[j]?=some t->∃ v,bJ fs (.inl t)=some v/\((j=0/\v=.non)∨∃ p w g i,0 < j/\v=.ref p/\H p=some (.tup [.int (w:Nat),.int g,.int t])/\gI ws hs g w t/\i < j/\os[i]?=some g):=fun j t ht=>by
   by_cases hj:j=0
   ·subst hj
    rw [T.head] at ht
    cases ht
    exact ⟨_,T.v0,.inl ⟨rfl,rfl⟩⟩
   ·obtain ⟨p,w,g,i,a,b,c,d,e⟩:=T.par j t (by omega) ht
    exact ⟨_,a,.inr ⟨p,w,g,i,by omega,rfl,b,c,d,e⟩⟩
  obtain ⟨v0,hv0,_⟩:=vals jl last hjl
  refine ⟨_,rfl,_,rfl,fdp,v0,rfl,.inl ⟨fs,.inl last,.inl (s1 _ _ hfd),rfl,hv0.symm⟩,?_⟩
  refine ⟨fun m σ H2=>∃ (j:Nat) (t:Int) (v:V) (rps:List Addr) (ss:List (Nat×Int×Int)),m=j/\σ = [some (.ref fdp),some (.int last),some (.ref sm),some v]/\os[j]?=some t/\bJ fs (.inl t)=some v/\aG H H2/\H2 sm=some (.lst (rps.map V.ref))/\StepsAt H2 rps.reverse ss/\bM ws hs t ss last/\(t::ss.map (·.2.2)).Nodup /\
    (∀ x∈ss.map (·.2.2),∃ i:Nat,j < i/\os[i]?=some x)/\rps.length+j<=jl/\(j < jl->ss≠[]),
   ⟨jl,jl,last,v0,[],[],rfl,rfl,hjl,hv0,s1,e1,StepsAt.nil,rfl,by simp,fun x h=>by simp at h,by simp,fun h=>by omega⟩,?_⟩
  rintro j σ H2 ⟨_,t,v,rps,ss,rfl,rfl,hj,hv,s2,e2,S2,P2,N2,I2,L2',L3⟩
  have hjo:jl < os.length:=(Qa.mp hjl).1
  obtain ⟨v',hv',cs⟩:=vals j t hj
  rw [hv] at hv'
  cases hv'
  rcases cs with ⟨rfl,rfl⟩ | ⟨p,w,g,i,hj0,rfl,hp,hE,hij,hg⟩
  ·refine ⟨_,rfl,_,rfl,?_⟩
   refine mS ?_
   rw [T.head] at hj
   cases hj
   refine ⟨_,rfl,_,rfl,rfl,sm,_,rfl,SqL.of e2,fun p hp=>?_⟩
   have s3:=aG.new (o:=.lst (rps.map V.ref).reverse) hp
   refine k p _ rps.reverse ss (s2.trans s3) (s2.free hp) (by rw [aB,List.map_reverse]) (S2.tp (Tp.of s3)) P2 N2 (fun x hx=>?_) L3
   obtain ⟨i,_,hi⟩:=I2 _ (Jm.mpr ⟨x,hx,rfl⟩)
   exact Qe hi
  ·refine ⟨_,rfl,_,rfl,?_⟩
   refine iQ ?_
   obtain ⟨vg,hvg,_⟩:=vals i g hg
   refine ⟨fun σ' H'=>∃ m',m' < j/\∃ (j:Nat) (t:Int) (v:V) (rps:List Addr) (ss:List (Nat×Int×Int)),m'=j/\σ' = [some (.ref fdp),some (.int last),some (.ref sm),some v]/\os[j]?=some t/\bJ fs (.inl t)=some v/\aG H H'/\H' sm=some (.lst (rps.map V.ref))/\StepsAt H' rps.reverse ss/\bM ws hs t ss last/\(t::ss.map (·.2.2)).Nodup /\
    (∀ x∈ss.map (·.2.2),∃ i:Nat,j < i/\os[i]?=some x)/\rps.length+j<=jl/\(j < jl->ss≠[]),fun σ' H' z=>z,?_⟩
   have hsz:(rps.map V.ref).length < sizeLine:=by
    rw [Qd]
    exact Zd (Ja (Ja (Xm _ _) L2') (Ja (Js hjo) Tl)) hnsz
   refine ⟨_,rfl,.inl ⟨rfl,_,SqL.of e2⟩,_,rfl,sm,_,.ref p,rfl,rfl,e2,hsz,?_⟩
   have s3:aG H (upd H2 sm (.lst (rps.map V.ref++[.ref p]))):=s2.wr hsm
   have e3:upd H2 sm (.lst (rps.map V.ref++[.ref p])) sm=_:=aB
   have S3:=S2.tp (Tp.upd (a:=sm) (u:=.lst (rps.map V.ref++[.ref p])) fun xs z=>by rw [e2] at z; cases z)
   generalize upd H2 sm (.lst (rps.map V.ref++[.ref p]))=H3 at s3 e3 S3 ⊢
   have hp3:=s3 _ _ hp
   refine ⟨_,rfl,_,rfl,p,_,1,.int g,rfl,rfl,SqT.of hp3,rfl,fdp,vg,rfl,.inl ⟨fs,.inl g,.inl (s3 _ _ hfd),rfl,hvg.symm⟩,?_⟩
   refine ⟨i,hij,i,g,vg,rps++[p],(w,g,t)::ss,rfl,rfl,hg,hvg,s3,by rw [Jd]; exact e3,?_,⟨rfl,hE,P2⟩,?_,?_,?_,fun _=>by simp⟩
   ·rw [Wk]
    exact S3.cons hp3
   ·show (g::t::ss.map (·.2.2)).Nodup
    rw [Qx]
    refine ⟨fun hm=>?_,N2⟩
    have inj:∀ i',i < i'->os[i']?=some g->False:=fun i' h1 h2=>by
     have:=(List.getElem?_inj (Qa.mp hg).1 T.nd).mp (hg.trans h2.symm)
     omega
    rcases Qm.mp hm with e | hm
    ·exact inj j hij (by rw [e]; exact hj)
    ·obtain ⟨i',h1,h2⟩:=I2 g hm
     exact inj i' (by omega) h2
   ·intro x hx
    rcases Qm.mp (show x∈t::ss.map (·.2.2) from hx) with rfl | hx
    ·exact ⟨j,hij,hj⟩
    ·obtain ⟨i',h1,h2⟩:=I2 x hx
     exact ⟨i',by omega,h2⟩
   ·rw [Qh]
    show rps.length+1+i<=jl
    omega
def pT:Str:=("steps_to_least" : Str) ++ ".<locals>." ++ "<lambda>"
theorem lT {ws:List (List Int)} {hs able:List Int} {n g t:Int} {w:Nat} (hl:hs.length=ws.length):gI (ws++[able]) (hs++[n]) g w t↔gI ws hs g w t∨(w=hs.length/\g=n/\t∈able/\t≠n):=by
 unfold gI
 rcases Nat.lt_trichotomy w hs.length with h | h | h
 ·rw [Ql h,Ql (by omega)]
  exact ⟨.inl,fun z=>z.elim id fun z=>by omega⟩
 ·subst h
  rw [Qt (Qg _),Jz,hl,Qt (Qg _),Jz,Xa (by omega:hs.length<=ws.length)]
  constructor
  ·rintro ⟨e,l,e2,h1,h2⟩
   have e:n=g:=by simpa using e
   have e2:able=l:=by simpa using e2
   subst e e2
   exact .inr ⟨rfl,rfl,h1,h2⟩
  ·rintro (⟨e,_⟩ | ⟨_,rfl,h1,h2⟩)
   ·cases e
   ·exact ⟨rfl,able,rfl,h1,h2⟩
 ·rw [Xa (by rw [Qh]; show hs.length+1<=w; omega),Xa (by omega:hs.length<=w)]
  constructor
  ·rintro ⟨e,_⟩; cases e
  ·rintro (⟨e,_⟩ | ⟨e,_⟩)
   ·cases e
   ·omega
def vT (K:PySem.W.Frag) (Pt:Addr):Sp:=fun vs H Q _=>∃ (x:V) (dp ap mp:Addr) (n:Int) (ws:List (List Int)) (hs able ms:List Int),vs = [x,.ref dp,.ref ap,.ref mp]/\oW K H x (.ref dp) n ws hs/\SqT K H ap (able.map V.int)/\cK n (fU able)=true/\SqT K H mp (ms.map V.int)/\ms.length=n.toNat/\H Pt=some (.tab pT) /\
 ∀ p H' ps ss os last,aG H H'->H p=none->H' p=some (.lst (ps.map V.ref))->StepsAt H' ps ss->bM (ws++[able]) (hs++[n]) n ss last->(n::ss.map (·.2.2)).Nodup->ss≠[]->vS (ws++[able]) (hs++[n]) os->n∈os ->
  (∀ o∈os,o≠n->0<=o/\o < n/\ms.getD last.toNat 0<=ms.getD o.toNat 0)->last∈os->last≠n->(∀ s∈ss,s.2.2∈os)->Q (.ref p) H'
theorem qF:FnScope ["book", "deal", "able", "measures", "nobody", "found", "last"] ["book", "deal", "able", "measures"] (aH jG):=⟨rfl,rfl,rfl,by decide +kernel,rfl,by decide +kernel,by decide +kernel⟩
theorem aCf {f fHd fR fW' c Pt:Addr} {fd dHd dR dW':FuncData} (G:Fn K mg "steps_to_least" jG ["book", "deal", "able", "measures"] f fd) (hc:fd.code=.ref c) (Z:Lm K mg base c Pt) (B:Bl mg)
  (GH:Fn K mg "handing" iM ["book", "deal"] fHd dHd) (GR:Fn K mg "reached" jF ["rows", "first"] fR dR) (GW:Fn K mg "way_to" oV ["found", "last"] fW' dW'):FnOk P w K mg base CX0 2 f fd ["book", "deal", "able", "measures"] (vT K Pt):=by
 have OH:FnOk P w K mg base CX0 1 fHd dHd ["book", "deal"] (lQ K):=mY GH B
 have OR:FnOk P w K mg base CX0 1 fR dR ["rows", "first"] (lR K):=mZ GR B
 have OW:FnOk P w K mg base CX0 1 fW' dW' ["found", "last"] (qD K):=sA GW B
 refine G.fn.okC hc qF (fun vs H Q E h=>?_) (fun A outer s H vs Q E hr h=>?_)
 ·obtain ⟨x,dp,ap,mp,n,ws,hs,able,ms,rfl,_⟩:=h
  rfl
 ·obtain ⟨x,dp,ap,mp,n,ws,hs,able,ms,rfl,g,hap,hwk,hmp,hml,hT,k⟩:=h
  have r1:Room 1 _:=hr
  refine ⟨_,(aC (aM (i:=4) qF.nd rfl (Or.inr rfl) (bE bU (pv 0) aI (fun _ _=>rfl)))
   (aC (aM (i:=5) qF.nd rfl (Or.inl rfl) (aZ GR OR r1 rfl (aA (bC aBu (aZ GH OH r1 rfl (aA (pv 0) (aA (pv 1) aE)))
     (eU (aA (xG (own:=["hand"]) (fr:=[1]) (frn:=["deal"]) (bD (aH jG) ["book", "deal", "able", "measures", "nobody", "found", "last"] rfl rfl (by decide +kernel)) rfl (mM (pv 2))
      (fun _ _ _ _=>aT (i:=0) (show (["hand", "deal"]:List Str).Nodup by decide +kernel) rfl (Or.inl rfl)) (fun _ _ _ _=>dQ) (fun _ _ _ _=>pv 0) (fun _ _ _ _=>aJ (tD (K:=K) rfl) rfl B.len cG (aA (pv 1) aE))) aE)))
     (aA (pv 4) aE))))
   (aC (aM (i:=6) qF.nd rfl (Or.inl rfl) (tS 3 rfl r1 rfl B.min Z rfl (q:=pT) rfl
     (kL (own:=["hand"]) (fr:=[4]) (frn:=["nobody"]) (bD (aH jG) ["book", "deal", "able", "measures", "nobody", "found", "last"] rfl rfl (by decide +kernel)) rfl (pv 5)
      (fun _ _ _ _=>aT (i:=0) (show (["hand", "nobody"]:List Str).Nodup by decide +kernel) rfl (Or.inl rfl)) (fun _ _ _ _=>qV (aL kA (pv 0) (pv 1) (aR _))) (fun _ _ _ _=>pv 0)) rfl rfl))
   (aF (aK (aZ GW OW r1 rfl (aA (pv 5) (aA (pv 6) aE)))))))),?_⟩
  obtain ⟨hl12,hn1,hn6⟩:=g.len
  obtain ⟨dp',edp,hdpT⟩:=bR.mp g.2.2.1
  cases edp
  obtain ⟨a,b,ys,rfl,ha,hb2,hys⟩:=jH g.1
  obtain ⟨_,_,hw12,hws⟩:=aS g.2.1
  obtain ⟨hdl,hdm⟩:=cE g.2.2.2
  obtain ⟨able0,able1,able2⟩:=aX hwk
  have hab6:able.length<=6:=by have:=gH (by omega) able1 able2; omega
  have hedge:∀ g w t,gI (ws++[able]) (hs++[n]) g w t->0<=t/\t < n+1:=fun g w t e=>by
   rcases (lT hdl).mp e with ⟨_,l,h1,h2,_⟩ | ⟨_,_,h2,_⟩
   ·have:=(aX (hws l (Qe h1))).2.1 t h2; omega
   ·have:=able1 t h2; omega
  refine ⟨_,rfl,a,_,0,.int n,rfl,rfl,ha,rfl,?_⟩
  refine ⟨_,rfl,_,rfl,.ref a,.ref dp,n,ws,hs,rfl,g,fun rp H2 qs rs s2 hrp hqs R2 hlr ER=>?_⟩
  refine ⟨_,rfl,ap,rfl,⟨_,s2.seqT hap⟩,aAQ (K:=K) (a:=ap) (xs:=able.map V.int) (fun σ=>∃ v,σ = [v,some (.ref dp)]) (fun i zs H3=>H3=H2/\zs.length<=i/\pS (fun w t=>w=hs.length/\t∈able.take i) zs) (fZ (by rw [Qd]; omega)) ⟨_,rfl⟩ ⟨rfl,Qg _,pS.nil fun w t z=>by simp at z⟩
   (fun i zs H3 z=>z.2.1) (fun i zs H3 z=>by rw [z.1]; exact s2.seqT hap) ?_ ?_⟩
  ·rintro i zs σ v H3 hv ⟨v0,rfl⟩ ⟨rfl,hz,hE⟩ hsz
   obtain ⟨t,ht,rfl⟩:=vR hv
   refine cC ?_
   refine ⟨_,rfl,_,rfl,dp,_,rfl,.inr (s2.seqT hdpT),.inl t,rfl,hsz,⟨_,rfl⟩,rfl,Ja (cU _ _ _) (by omega),?_⟩
   rw [Qd]
   refine (hE.put hs.length t).congr fun w t'=>?_
   rw [Xd,ht]
   constructor
   ·rintro (⟨h1,h2⟩ | ⟨h1,h2⟩)
    ·exact ⟨h1,Xe _ h2⟩
    ·exact ⟨h1,by rw [h2]; simp⟩
   ·rintro ⟨h1,h2⟩
    rcases Jo.mp h2 with h | h
    ·exact .inl ⟨h1,h⟩
    ·exact .inr ⟨h1,by simpa using h⟩
  ·rintro zs H3 ⟨rfl,hz,hE⟩ dq hdq
   have hrp2:H3 rp=some (.lst (qs.map V.ref)):=R2.lst
   have sd:=aG.new (o:=.dK zs) hdq
   have hdq0:H dq=none:=s2.free hdq
   have ed:upd H3 dq (.dK zs) dq=some (.dK zs):=aB
   have Rd:=R2.same sd
   have s3:=s2.trans sd
   generalize upd H3 dq (.dK zs)=H4 at sd ed Rd s3 ⊢
   refine ⟨sz1 _,fun lq hlq=>?_⟩
   have sl:=aG.new (o:=.lst [.ref dq]) hlq
   have el:upd H4 lq (.lst [.ref dq]) lq=some (.lst [.ref dq]):=aB
   have s4:=s3.trans sl
   have Rl:=Rd.same sl
   have edl:=sl _ _ ed
   generalize upd H4 lq (.lst [.ref dq])=H5 at sl el s4 Rl edl ⊢
   have hqn:qs.length=n.toNat:=by rw [R2.len,hlr]
   refine ⟨rp,lq,_,_,rfl,rfl,Rl.lst,el,by rw [Qd,sizeLine_eq]; show _+1<=_; omega,fun rq hrq=>?_⟩
   have sr:=aG.new (o:=.lst (qs.map V.ref++[.ref dq])) hrq
   have s5:=s4.trans sr
   have er:upd H5 rq (.lst (qs.map V.ref++[.ref dq])) rq=some (.lst ((qs++[dq]).map V.ref)):=by rw [aB,Jd]; rfl
   have edr:=sr _ _ edl
   have Rr:=Rl.same sr
   generalize upd H5 rq (.lst (qs.map V.ref++[.ref dq]))=H6 at sr s5 er edr Rr ⊢
   have R6:Rows H6 rq (qs++[dq]) (rs++[zs]):=by
    refine ⟨er,by rw [Qh,Qh,R2.len]; rfl,?_,fun g q r h1 h2=>?_⟩
    ·rw [Jr]
     refine ⟨R2.nd,by simp,fun x hx y hy e=>?_⟩
     rw [Qs.mp hy] at e
     obtain ⟨i,hi⟩:=Qy.mp hx
     have hil:i < rs.length:=by rw [<- R2.len]; exact (Qa.mp hi).1
     have:=R2.row i x _ hi (Qc hil)
     rw [e,hdq] at this; cases this
    ·by_cases hg:g < qs.length
     ·rw [Ql hg] at h1
      rw [Ql (by rw [<- R2.len]; exact hg)] at h2
      exact Rr.row g q r h1 h2
     ·have eg:g=qs.length:=by
       have:=(Qa.mp h1).1
       rw [Qh] at this
       simp at this
       omega
      subst eg
      rw [Qt (Qg _),Jz] at h1
      rw [R2.len,Qt (Qg _),Jz] at h2
      have e1:dq=q:=by simpa using h1
      have e2:zs=r:=by simpa using h2
      subst e1 e2
      exact edr
   have E6:xO (gI (ws++[able]) (hs++[n])) (rs++[zs]) 100:=by
    intro g r hgr
    by_cases hg:g < rs.length
    ·rw [Ql hg] at hgr
     obtain ⟨e1,e2⟩:=ER g r hgr
     refine ⟨e1.congr fun w t=>?_,e2⟩
     rw [lT hdl]
     exact ⟨.inl,fun z=>z.elim id fun z=>by omega⟩
    ·have eg:g=rs.length:=by
      have:=(Qa.mp hgr).1
      rw [Qh] at this
      simp at this
      omega
     subst eg
     rw [Qt (Qg _),Jz] at hgr
     have e2:zs=r:=by simpa using hgr
     subst e2
     refine ⟨hE.congr fun w t=>?_,by rw [Qd] at hz; omega⟩
     rw [lT hdl,Qd,Ju]
     constructor
     ·rintro ⟨h1,h2⟩
      have:=able1 t h2
      exact .inr ⟨h1,by omega,h2,by omega⟩
     ·rintro (⟨h1,_⟩ | ⟨h1,_,h2,_⟩)
      ·have h3:hs[w]?=some ((rs.length:Nat):Int):=h1
       have:=g.hand h3
       omega
      ·exact ⟨h1,h2⟩
   refine ⟨_,rfl,rq,n,qs++[dq],rs++[zs],n+1,ws++[able],hs++[n],rfl,R6,by rw [Qh,hlr]; show _+1=_; omega,E6,hedge,by omega,by omega,by omega,fun fdp H7 fs os s7 hfd e7 T7 C7=>?_⟩
   have s57:=s5.trans s7
   have T7l:=T7.len
   have hfl:=T7.flen
   have hnos:n∈os:=Qe T7.head
   refine ⟨_,rfl,fdp,fs,rfl,e7,fun o=>iD (a:=fdp) (o:=o) (kvs:=fs) (fun σ=>∃ v,σ = [v,some (.int n)]) (fun i zs H8=>H8=upd H7 fdp (.frz o (.dK fs))/\zs=((os.take i).filter fun o=>decide (o≠n)).map V.int) (fZ (by omega)) ⟨_,rfl⟩ ⟨rfl,rfl⟩ (fun i zs H8 z=>?_) (fun i zs H8 z=>by rw [z.1]; exact aB) ?_ ?_⟩
   ·rw [z.2,Qd]
    exact Ja (Xl _ _) (by rw [Jq]; omega)
   ·rintro i zs' σ p H8 hp ⟨v,rfl⟩ ⟨rfl,rfl⟩ hsz
    obtain ⟨ov,hov,hpe⟩:∃ ov,os[i]?=some ov/\p.1=.inl ov:=by
     have e:=congrArg (fun l=>l[i]?) T7.keys
     simp only [Qi] at e
     rw [hp] at e
     cases q:os[i]? with
     | none=>rw [q] at e; cases e
     | some ov=>rw [q] at e; exact ⟨ov,rfl,Option.some.inj e⟩
    have etake:os.take (i+1)=os.take i++[ov]:=by rw [Xd,hov]; rfl
    rw [hpe]
    refine ⟨_,rfl,_,rfl,rfl,_,rfl,?_⟩
    refine fF (fun c=>?_) (fun c=>?_)
    ·have hne:ov≠n:=fun z=>by rw [z] at c; simp [kV] at c
     refine ⟨_,rfl,hsz,⟨_,rfl⟩,rfl,?_⟩
     rw [etake,Jx,Jd]
     congr 1
     simp [hne,kV]
    ·have hne:ov=n:=by simpa [kV] using c
     refine ⟨⟨_,rfl⟩,rfl,?_⟩
     rw [etake,Jx,hne]
     simp
   ·rintro zs' H8 ⟨rfl,rfl⟩ lp hlp
    rw [hfl,Ju] at *
    have nlf:fdp≠lp:=fun z=>by rw [<- z,aB] at hlp; cases hlp
    have hlp7:H7 lp=none:=by rw [aD (Ne.symm nlf)] at hlp; exact hlp
    have s8:aG H7 (upd (upd (upd H7 fdp (.frz o (.dK fs))) lp (.lst ((os.filter fun o=>decide (o≠n)).map V.int))) fdp (.dK fs)):=fun b u hb=>by
     by_cases hbf:b=fdp
     ·rw [hbf] at hb ⊢
      rw [aB,<- e7]; exact hb
     ·rw [aD hbf,aD (fun z=>by rw [z,hlp7] at hb; cases hb),aD hbf]
      exact hb
    have l8:(upd (upd (upd H7 fdp (.frz o (.dK fs))) lp (.lst ((os.filter fun o=>decide (o≠n)).map V.int))) fdp (.dK fs)) lp=some (.lst ((os.filter fun o=>decide (o≠n)).map V.int)):=by
     rw [aD (Ne.symm nlf),aB]
    generalize upd (upd (upd H7 fdp (.frz o (.dK fs))) lp (.lst ((os.filter fun o=>decide (o≠n)).map V.int))) fdp (.dK fs)=H8 at s8 l8 ⊢
    have s58:=s57.trans s8
    have hrng:∀ o∈os,o≠n->0<=o/\o < n:=fun o ho hne=>by
     have:=T7.rng o ho
     omega
    obtain ⟨t0,ht0⟩:∃ t,t∈able:=List.exists_mem_of_ne_nil _ able0
    have ht0n:=able1 t0 ht0
    have ht0o:t0∈os:=C7 n hnos hs.length t0 ((lT hdl).mpr (.inr ⟨rfl,rfl,ht0,by omega⟩))
    refine ⟨os.filter fun o=>decide (o≠n),fun o=>ms.getD o.toNat 0,.ref mp,⟨lp,rfl,.inl (SqL.of l8)⟩,Zy (a:=t0) (Xq.mpr ⟨ht0o,decide_eq_true (by omega)⟩),s58 _ _ hT,rfl,fun o ho=>?_,fun j m H9 s9 hj hmin _=>?_⟩
    ·obtain ⟨ho1,ho2⟩:=Xq.mp ho
     obtain ⟨o0,o1⟩:=hrng o ho1 (of_decide_eq_true ho2)
     refine ⟨o0,by omega,mp,_,rfl,.inl (s58.seqT hmp),?_⟩
     rw [Qi,Qc (by omega)]
     show some (V.int _)=some (V.int (ms.getD o.toNat 0))
     rw [Jl,Qc (by omega)]
     rfl
    ·obtain ⟨hm1,hm2⟩:=Xq.mp (Qe hj)
     have hmn:m≠n:=of_decide_eq_true hm2
     obtain ⟨jl,hjl⟩:=Qy.mp hm1
     have s59:=s58.trans s9
     have s79:=s8.trans s9
     refine ⟨_,rfl,_,rfl,fdp,m,fs,os,n,n+1,ws++[able],hs++[n],jl,rfl,s79 _ _ e7,T7.tp (Tp.of s79),by omega,hjl,fun p H10 ps ss s10 hp hps S10 P10 N10 in10 ne10=>?_⟩
     refine k p H10 ps ss os m (s59.trans s10) (s59.free hp) hps S10 P10 N10 (ne10 ?_) C7 hnos (fun o ho hne=>⟨(hrng o ho hne).1,(hrng o ho hne).2,hmin o (Xq.mpr ⟨ho,decide_eq_true hne⟩)⟩) hm1 hmn in10
     rcases Yp jl with z | z
     ·rw [z,T7.head] at hjl
      exact absurd (Option.some.inj hjl).symm hmn
     ·exact z
end
def oZ:Str:=("levels_or_way" : Str) ++ ".<locals>." ++ "<lambda>"
theorem jL {n:Int} {hs:List Int} {h:Int} (h0:0<=h) (h1:h < n):atI ((bF n hs).map V.int) h=some (.int ((hs.count h:Nat):Int)):=by
 have hlt:h.toNat < n.toNat:=by omega
 have hcast:((h.toNat:Nat):Int)=h:=by omega
 have h1:((bF n hs).map V.int)[h.toNat]?=some (.int ((hs.count h:Nat):Int)):=by rw [Qi,gJ hlt,hcast]; rfl
 have h2:=eS h1
 rwa [hcast] at h2
def aFF (n:Int) (ws:List (List Int)) (hs:List Int) (H H':Hp) (p:Addr):Prop :=
 (∃ q lv,H' p=some (.tup [.str "levels",.ref q])/\H' q=some (.tup (lv.map V.int))/\kR n ws hs lv) ∨
 ∃ q ps ss,H' p=some (.tup [.str "way",.ref q])/\H q=none/\H' q=some (.lst (ps.map V.ref))/\StepsAt H' ps ss/\aDW n ws hs ss
section
variable {P:Program} {w:World} {K:PySem.W.Frag} {mg:Str->Option Value} {base:Heap}
variable {fW fH fK fB fNB fD fND fL:Addr} {dW dH dK dB dNB dD dND dL:FuncData}
def aCg (K:PySem.W.Frag) (Pt:Addr):Sp:=fun vs H Q _=>∃ x y n ws hs,vs = [x,y]/\oW K H x y n ws hs/\H Pt=some (.tab oZ)/\∀ p H',aG H H'->aFF n ws hs H H' p->Q (.ref p) H'
theorem sB:FnScope ["book", "deal", "many", "rows", "levels", "hand", "found", "last"] ["book", "deal"] (aH aDd):=⟨rfl,rfl,rfl,by decide +kernel,rfl,by decide +kernel,by decide +kernel⟩
theorem aEE {f fHd fR fW' c Pt:Addr} {fd dHd dR dW':FuncData} (G:Fn K mg "levels_or_way" aDd ["book", "deal"] f fd) (hc:fd.code=.ref c) (Z:Lm K mg base c Pt) (B:Bl mg) (R:Pr K mg fW fH fK fB fNB fD fND fL dW dH dK dB dNB dD dND dL)
  (GH:Fn K mg "handing" iM ["book", "deal"] fHd dHd) (GR:Fn K mg "reached" jF ["rows", "first"] fR dR) (GW:Fn K mg "way_to" oV ["found", "last"] fW' dW'):FnOk P w K mg base CX0 8 f fd ["book", "deal"] (aCg K Pt):=by
 have OL:FnOk P w K mg base CX0 7 fL dL ["book", "deal"] (aAg K):=aCa B R
 have OH:FnOk P w K mg base CX0 1 fHd dHd ["book", "deal"] (lQ K):=mY GH B
 have OR:FnOk P w K mg base CX0 1 fR dR ["rows", "first"] (lR K):=mZ GR B
 have OW:FnOk P w K mg base CX0 1 fW' dW' ["found", "last"] (qD K):=sA GW B
 refine G.fn.okC hc sB (fun vs H Q E h=>?_) (fun A outer s H vs Q E hr h=>?_)
 ·obtain ⟨x,y,n,ws,hs,rfl,_⟩:=h
  rfl
 ·obtain ⟨x,y,n,ws,hs,rfl,g,hT,k⟩:=h
  have r1:Room 1 _:=hr.mono (by decide)
  refine ⟨_,(aC (aM (i:=2) sB.nd rfl (Or.inr rfl) (aZ R.L OL hr rfl (aA (pv 0) (aA (pv 1) aE))))
   (aC (aM (i:=3) sB.nd rfl (Or.inl rfl) (aZ GH OH r1 rfl (aA (pv 0) (aA (pv 1) aE))))
   (aC (aM (i:=4) sB.nd rfl (Or.inl rfl) (eU aE))
   (aC (gD PassesOwn.never rfl (eW rfl B.range (aA (bE bU (pv 0) aI (fun _ _=>rfl)) aE)) (aT (i:=5) sB.nd rfl (Or.inl rfl))
    (aC (aM (i:=6) sB.nd rfl (Or.inl rfl) (aZ GR OR r1 rfl (aA (pv 3) (aA (pv 5) aE))))
    (aC (aM (i:=7) sB.nd rfl (Or.inl rfl) (tS 2 rfl r1 rfl B.min Z rfl (q:=oZ) rfl (pv 6) rfl rfl))
    (aC (bA (aL qP (bC gE (bE bU (pv 2) (pv 5) (fun _ _=>rfl)) (bE bU (pv 2) (pv 7) (fun _ _=>rfl))) aI (aR _))
     (aF (aK (eN (aA aP (aA (aZ GW OW r1 rfl (aA (pv 6) (aA (pv 7) aE))) aE)))))
     aN)
    (aF (cX (pL PySem.F.plainAttrs_list PySem.F.slot_list_append PySem.F.type_list_append lD (pv 4) (aA (bE bU (pv 2) (pv 7) (fun _ _=>rfl)) aE))))))))
   (aF (aK (eN (aA aP (aA (bV gK rfl B.tuple dY (aA (pv 4) aE)) aE))))))))),?_⟩
  obtain ⟨hl12,hn1,hn6⟩:=g.len
  obtain ⟨a,b,ys,ex,ha,hb2,hys⟩:=jH g.1
  obtain ⟨_,_,hw12,hws⟩:=aS g.2.1
  have hedge:∀ g w t,gI ws hs g w t->0<=t/\t < n:=fun g w t e=>by
   obtain ⟨_,l,h1,h2,_⟩:=e
   exact (aX (hws l (Qe h1))).2.1 t h2
  refine ⟨_,rfl,_,rfl,x,y,n,ws,hs,rfl,g,fun mp H1 s1 hmp=>?_⟩
  have g1:=g.same s1
  refine ⟨_,rfl,_,rfl,x,y,n,ws,hs,rfl,g1,fun rp H2 qs rs s2 hrp hqs R2 hlr ER=>?_⟩
  refine ⟨fZ (show 0<=1000 by decide),fun lp hlp=>?_⟩
  have s12:=s1.trans s2
  have s3:=s12.trans (aG.new (o:=.lst []) hlp)
  have hlp0:H lp=none:=s12.free hlp
  have R3:=R2.same (aG.new (o:=.lst []) hlp)
  have m3:=(s2.trans (aG.new (o:=.lst []) hlp)) _ _ hmp
  have e3:upd H2 lp (.lst []) lp=some (.lst []):=aB
  have hrp0:H rp=none:=s1.free hrp
  have nrl:rp≠lp:=fun z=>by have:=R2.lst; rw [z,hlp] at this; cases this
  have nql:∀ q∈qs,q≠lp:=fun q hq z=>by
   obtain ⟨i,hi⟩:=Qy.mp hq
   have hil:i < rs.length:=by rw [<- R2.len]; exact (Qa.mp hi).1
   have:=R2.row i q _ hi (Qc hil)
   rw [z,hlp] at this; cases this
  have nml:mp≠lp:=fun z=>by have:=s2 _ _ hmp; rw [z,hlp] at this; cases this
  generalize upd H2 lp (.lst [])=H3 at s3 R3 m3 e3 ⊢
  subst ex
  refine ⟨_,rfl,a,_,0,.int n,rfl,rfl,s3.seqT ha,rfl,n,rfl,by omega,by omega,lA (lo:=0) (n:=n.toNat) (fun i σ H4=>∃ (v5 v6 v7:Option V) (lv:List Int),σ = [some (.ref a),some y,some (.ref mp),some (.ref rp),some (.ref lp),v5,v6,v7]/\aG H H4/\Rows H4 rp qs rs/\H4 mp=some (.tup ((bF n hs).map V.int))/\H4 lp=some (.lst (lv.map V.int))/\lv.length=i /\
    ∀ (h:Nat) (v:Int),lv[h]?=some v->pP ws hs n.toNat h v/\((hs.count (h:Int):Nat):Int) - v < 2)
   ⟨none,none,none,[],rfl,s3,R3,m3,e3,rfl,fun h v e=>by simp at e⟩ ?_ ?_⟩
  ·rintro i σ H4 hi ⟨v5,v6,v7,lv,rfl,s4,R4,m4,e4,hlv,L4⟩
   have hi0:(0:Int)<=0+(i:Int):=by omega
   have hi1:0+(i:Int) < n:=by omega
   refine ⟨_,rfl,_,rfl,rp,0+(i:Int),qs,rs,n,ws,hs,rfl,R4,hlr,ER,hedge,by omega,hi0,hi1,fun fdp H5 fs os s5 hfd e5 T5 C5=>?_⟩
   have s45:=s4.trans s5
   have R5:=R4.same s5
   have m5:=s5 _ _ m4
   have l5:=s5 _ _ e4
   have T5l:=T5.len
   have hpos:0 < os.length:=(Qa.mp T5.head).1
   refine ⟨_,rfl,os,fun o=>((hs.count o:Nat):Int),.ref mp,⟨fdp,rfl,.inr (.inr ⟨fs,e5,T5.keys⟩)⟩,hpos,s45 _ _ hT,rfl,fun o ho=>?_,fun j m H6 s6 hj hmin _=>?_⟩
   ·obtain ⟨o0,o1⟩:=T5.rng o ho
    refine ⟨o0,by omega,mp,_,rfl,.inl (SqT.of m5),?_⟩
    rw [Qi,gJ (by omega),show ((o.toNat:Nat):Int)=o by omega]
    rfl
   have hjl:j < os.length:=(Qa.mp hj).1
   obtain ⟨m0,m1⟩:=T5.rng m (Qe hj)
   have s46:=s45.trans s6
   have R6:=R5.same s6
   have m6:=s6 _ _ m5
   have l6:=s6 _ _ l5
   have e6:=s6 _ _ e5
   have T6:=T5.tp (Tp.of s6)
   have hRL:RL ws hs n.toNat (0+(i:Int)) m:=(T6.rl j m hj).mono (by omega)
   have hmin2:pP ws hs n.toNat (0+(i:Int)) ((hs.count m:Nat):Int):=by
    refine ⟨⟨m,hRL,rfl⟩,fun k x hx=>?_⟩
    exact hmin x (hx.closed (S:=fun o=>o∈os) (fun g w t hg e=>C5 g hg w t e) (Qe T5.head))
   refine ⟨_,rfl,_,rfl,mp,_,_,_,rfl,rfl,SqT.of m6,jL hi0 hi1,_,rfl,_,rfl,mp,_,_,_,rfl,rfl,SqT.of m6,jL m0 m1,_,_,rfl,rfl,_,_,rfl,rfl,_,rfl,?_⟩
   refine fF (fun c=>?_) (fun c=>?_)
   ·have hge:((hs.count (0+(i:Int)):Nat):Int) - ((hs.count m:Nat):Int)≥2:=of_decide_eq_true c
    refine ⟨_,rfl,_,rfl,fdp,m,fs,os,0+(i:Int),n,ws,hs,j,rfl,e6,T6,by omega,hj,fun p H7 ps ss s7 hp hps S7 P7 N7 _ ne7=>⟨sz2 _ _,fun q hq=>?_⟩⟩
    have s8:=aG.new (o:=.tup [.str "way",.ref p]) hq
    refine k q _ ((s46.trans s7).trans s8) (.inr ⟨p,ps,ss,aB,s46.free hp,s8 _ _ hps,S7.tp (Tp.of s8),0+(i:Int),m,ne7 ?_,P7,N7,hi0,hi1,hRL,hge⟩)
    rcases Yp j with z | z
    ·rw [z,T5.head] at hj
     cases hj
     omega
    ·exact z
   ·have hlt:¬ ((hs.count (0+(i:Int)):Nat):Int) - ((hs.count m:Nat):Int)≥2:=fun z=>c (decide_eq_true z)
    refine ⟨_,rfl,.inl ⟨rfl,_,SqL.of l6⟩,_,rfl,_,rfl,mp,_,_,_,rfl,rfl,SqT.of m6,jL m0 m1,lp,_,_,rfl,rfl,l6,by rw [Qd,sizeLine_eq]; omega,?_⟩
    refine ⟨_,_,_,lv++[((hs.count m:Nat):Int)],rfl,s46.wr hlp0,?_,by rw [aD nml]; exact m6,by rw [aB,Jd]; rfl,by rw [Qh,hlv]; rfl,fun h v e=>?_⟩
    ·refine ⟨by rw [aD nrl]; exact R6.lst,R6.len,R6.nd,fun g q r h1 h2=>?_⟩
     rw [aD (nql q (Qe h1))]
     exact R6.row g q r h1 h2
    ·by_cases hh:h < lv.length
     ·rw [Ql hh] at e
      exact L4 h v e
     ·have eh:h=i:=by
       have:=(Qa.mp e).1
       rw [Qh] at this
       simp at this
       omega
      subst eh
      rw [Qt (by omega),hlv,Jz] at e
      have ev:((hs.count m:Nat):Int)=v:=by simpa using e
      rw [<- ev]
      rw [Int.zero_add] at hmin2 hlt
      exact ⟨hmin2,by omega⟩
  ·rintro σ H4 ⟨v5,v6,v7,lv,rfl,s4,R4,m4,e4,hlv,L4⟩
   refine ⟨_,rfl,lp,_,rfl,.inl ⟨SqL.of e4,fun q hq=>⟨sz2 _ _,fun p hp=>?_⟩⟩⟩
   have s5:=(aG.new (o:=.tup (lv.map V.int)) hq).trans (aG.new (o:=.tup [.str "levels",.ref q]) hp)
   exact k p _ (s4.trans s5) (.inl ⟨q,lv,aB,(aG.new hp) _ _ aB,hlv,L4⟩)
end
def pQ (n:Int) (ws:List (List Int)) (hs:List Int) (last:Int) (i:Int) (ss:List (Nat×Int×Int)):Prop :=
 (ss = []/\∀ h:Int,0<=h->h < i->hs.count last < hs.count h->∃ os:List Int,h∈os/\vS ws hs os/\last∉os) ∨
 ∃ h,ss≠[]/\bM ws hs h ss last/\(h::ss.map (·.2.2)).Nodup/\0<=h/\h < n/\hs.count last < hs.count h
section
variable {P:Program} {w:World} {K:PySem.W.Frag} {mg:Str->Option Value} {base:Heap}
def vU (K:PySem.W.Frag):Sp:=fun vs H Q _=>∃ (x y:V) (n:Int) (ws:List (List Int)) (hs:List Int) (k:Nat) (last:Int),vs = [x,y,.int k]/\oW K H x y n ws hs/\hs[k]?=some last /\
 ∀ p H' ps ss,aG H H'->H p=none->H' p=some (.lst (ps.map V.ref))->StepsAt H' ps ss->pQ n ws hs last n ss->Q (.ref p) H'
theorem eL:FnScope ["book", "deal", "work", "many", "rows", "last", "best", "hand", "found", "some"] ["book", "deal", "work"] (aH nN):=⟨rfl,rfl,rfl,by decide +kernel,rfl,by decide +kernel,by decide +kernel⟩
theorem aCh {f fC fHd fR fW':Addr} {fd dC dHd dR dW':FuncData} (G:Fn K mg "steps_of_take" nN ["book", "deal", "work"] f fd) (B:Bl mg) (GC:Fn K mg "counted" iL ["hands", "deal"] fC dC)
  (GH:Fn K mg "handing" iM ["book", "deal"] fHd dHd) (GR:Fn K mg "reached" jF ["rows", "first"] fR dR) (GW:Fn K mg "way_to" oV ["found", "last"] fW' dW'):FnOk P w K mg base CX0 2 f fd ["book", "deal", "work"] (vU K):=by
 have OC:FnOk P w K mg base CX0 1 fC dC ["hands", "deal"] (jI K):=mX GC B
 have OH:FnOk P w K mg base CX0 1 fHd dHd ["book", "deal"] (lQ K):=mY GH B
 have OR:FnOk P w K mg base CX0 1 fR dR ["rows", "first"] (lR K):=mZ GR B
 have OW:FnOk P w K mg base CX0 1 fW' dW' ["found", "last"] (qD K):=sA GW B
 refine G.fn.ok eL (fun vs H Q E h=>?_) (fun cdv A outer s H vs Q E hr h=>?_)
 ·obtain ⟨x,y,n,ws,hs,k,last,rfl,_⟩:=h
  rfl
 ·obtain ⟨x,y,n,ws,hs,kk,last,rfl,g,hlast,k⟩:=h
  have r1:Room 1 _:=hr
  refine ⟨_,(aC (aM (i:=3) eL.nd rfl (Or.inl rfl) (aZ GC OC r1 rfl (aA (bE bU (pv 0) aI (fun _ _=>rfl)) (aA (pv 1) aE))))
  (aC (aM (i:=4) eL.nd rfl (Or.inl rfl) (aZ GH OH r1 rfl (aA (pv 0) (aA (pv 1) aE))))
  (aC (aM (i:=5) eL.nd rfl (Or.inl rfl) (bE bU (pv 1) (pv 2) (fun _ _=>rfl)))
  (aC (aM (i:=6) eL.nd rfl (Or.inl rfl) (eU aE))
  (aC (gD PassesOwn.never rfl (eW rfl B.range (aA (bE bU (pv 0) aI (fun _ _=>rfl)) aE)) (aT (i:=7) eL.nd rfl (Or.inl rfl))
   (aC (aM (i:=8) eL.nd rfl (Or.inl rfl) (aZ GR OR r1 rfl (aA (pv 4) (aA (pv 7) aE))))
  (aF (bA (PW.pt (kE (oF (aBN (eC hr) (pv 5) (pv 8)) (by with_unfolding_all rfl)) (jQ (aL lY (bE bU (pv 3) (pv 7) (fun _ _=>rfl)) (bE bU (pv 3) (pv 5) (fun _ _=>rfl)) (aR _)))))
   (aC (aM (i:=9) eL.nd rfl (Or.inl rfl) (aZ GW OW r1 rfl (aA (pv 8) (aA (pv 5) aE))))
  (aF (bA (PW.pt (dF (aL dX (aJ aO rfl B.len cG (aA (pv 6) aE)) aI (aR _)) (cW (aL wL (aJ aO rfl B.len cG (aA (pv 9) aE)) (aJ aO rfl B.len cG (aA (pv 6) aE)) (aR _)))))
   (aF (aM (i:=6) eL.nd rfl (Or.inl rfl) (pv 9)))
   aN)))
   aN))))
  (aF (aK (pv 6)))))))),?_⟩
  obtain ⟨hl12,hn1,hn6⟩:=g.len
  obtain ⟨a,b,ys,rfl,ha,hb2,hys⟩:=jH g.1
  obtain ⟨dp,rfl,hdp⟩:=bR.mp g.2.2.1
  obtain ⟨_,_,hw12,hws⟩:=aS g.2.1
  obtain ⟨hdl,hdm⟩:=cE g.2.2.2
  have hedge:∀ g w t,gI ws hs g w t->0<=t/\t < n:=fun g w t e=>by
   obtain ⟨_,l,h1,h2,_⟩:=e
   exact (aX (hws l (Qe h1))).2.1 t h2
  have lr:0<=last/\last < n:=by
   have hk:kk < hs.length:=(Qa.mp hlast).1
   have hl:=Qc (show kk < ws.length by omega)
   have:=hdm kk _ _ hlast hl
   exact (aX (hws _ (Qe hl))).2.1 last this
  refine ⟨_,rfl,a,_,0,.int n,rfl,rfl,ha,rfl,_,rfl,n,dp,hs,rfl,hdp,by omega,hn6,fun mp H1 s1 emp=>?_⟩
  dsimp only [aV]
  refine ⟨_,rfl,_,rfl,.ref a,.ref dp,n,ws,hs,rfl,⟨s1.den _ _ g.1,g.2.1,s1.den _ _ g.2.2.1,g.2.2.2⟩,fun rp H2 qs rs s2 nrp nqs R2 hlr ER=>?_⟩
  dsimp only [aV]
  have s12:=s1.trans s2
  refine ⟨_,rfl,_,rfl,dp,_,_,_,rfl,rfl,s12.seqT hdp,eS (v:=.int last) (by rw [Qi,hlast]; rfl),?_⟩
  dsimp only [aV]
  refine ⟨fZ (Jk _),fun bp hbp=>?_⟩
  have nbp:H bp=none:=s12.free hbp
  have s23:=aG.new (o:=.lst []) hbp
  have eb:upd H2 bp (.lst []) bp=some (.lst (([]:List Addr).map V.ref)):=aB
  generalize upd H2 bp (.lst [])=H3 at s23 eb ⊢
  dsimp only [aV]
  have s13:=s12.trans s23
  refine ⟨_,rfl,a,_,0,.int n,rfl,rfl,s13.seqT ha,rfl,n,rfl,by omega,by omega,lA (lo:=0) (n:=n.toNat) (fun i σ H4=>∃ (bp:Addr) (ps:List Addr) (ss:List (Nat×Int×Int)) (v7 v8 v9:Option V),σ = [some (.ref a),some (.ref dp),some (.int kk),some (.ref mp),some (.ref rp),some (.int last),some (.ref bp),v7,v8,v9]/\aG H3 H4/\H bp=none/\H4 bp=some (.lst (ps.map V.ref))/\StepsAt H4 ps ss/\pQ n ws hs last i ss)
   ⟨bp,[],[],_,_,_,rfl,aG.refl _,nbp,eb,StepsAt.nil,.inl ⟨rfl,fun h h0 h1=>by omega⟩⟩ ?_ ?_⟩
  ·rintro i σ H4 hi ⟨bp,ps,ss,v7,v8,v9,rfl,s4,nb,e4,S4,T4⟩
   dsimp only [aV]
   rw [Int.zero_add]
   have s24:=s23.trans s4
   have s14:=s13.trans s4
   refine ⟨_,rfl,_,rfl,rp,(i:Int),qs,rs,n,ws,hs,rfl,R2.same s24,hlr,ER,hedge,by omega,by omega,by omega,fun fp H5 fs os s5 nfp ef T5 C5=>?_⟩
   dsimp only [aV]
   have s15:=s14.trans s5
   have hio:(i:Int)∈os:=Qe T5.head
   refine ⟨_,rfl,_,rfl,fp,_,rfl,gG.k (k:=.inl last) ef,_,rfl,?_⟩
   rw [qC T5.keys last]
   have emp5:=(s2.trans (s24.trans s5)) _ _ emp
   have notB:last∉os->pQ n ws hs last ((i+1:Nat):Int) ss:=fun hno=>by
    rcases T4 with ⟨e,f⟩ | q
    ·refine .inl ⟨e,fun h h0 h1 hc=>?_⟩
     by_cases c:h < i
     ·exact f h h0 c hc
     ·rw [show h=(i:Int) by omega]
      exact ⟨os,hio,C5,hno⟩
    ·exact .inr q
   refine fF (fun c1=>?_) (fun c1=>?_)
   ·have hlo:last∈os:=of_decide_eq_true c1
    refine ⟨_,rfl,_,rfl,mp,_,_,_,rfl,rfl,SqT.of emp5,jL (by omega) (by omega),_,rfl,_,rfl,mp,_,_,_,rfl,rfl,SqT.of emp5,jL lr.1 lr.2,_,_,rfl,rfl,_,rfl,?_⟩
    refine fF (fun c2=>?_) (fun c2=>?_)
    ·have hc:hs.count last < hs.count (i:Int):=by have:=of_decide_eq_true c2; omega
     obtain ⟨jl,hjl⟩:=Qy.mp hlo
     refine ⟨_,rfl,_,rfl,fp,last,fs,os,(i:Int),n,ws,hs,jl,rfl,ef,T5,by omega,hjl,fun p H6 ps' ss' s6 np e6 S6 P6 N6 _ J6=>?_⟩
     dsimp only [aV]
     have hj0:0 < jl:=by
      rcases Yp jl with z | z
      ·rw [z,T5.head] at hjl
       have:(i:Int)=last:=Option.some.inj hjl
       rw [this] at hc; omega
      ·exact z
     have e46:=(s5.trans s6) _ _ e4
     refine ⟨_,rfl,bp,_,rfl,.inl (SqL.of e46),rfl,_,rfl,?_⟩
     have new:pQ n ws hs last ((i+1:Nat):Int) ss':=.inr ⟨i,J6 hj0,P6,N6,by omega,by omega,hc⟩
     have s36:=s4.trans (s5.trans s6)
     refine fF (fun c3=>?_) (fun c3=>?_)
     ·exact ⟨_,rfl,p,ps',ss',_,_,_,rfl,s36,s15.free np,e6,S6,new⟩
     ·have hold:pQ n ws hs last ((i+1:Nat):Int) ss:=by
       rcases T4 with ⟨e,_⟩ | q
       ·exfalso
        apply c3
        rw [Qd,S4.len,e]
        rfl
       ·exact .inr q
      refine ⟨_,rfl,p,_,rfl,.inl (SqL.of e6),_,rfl,bp,_,rfl,.inl (SqL.of e46),_,_,rfl,rfl,_,rfl,?_⟩
      refine fF (fun c4=>?_) (fun c4=>?_)
      ·exact ⟨_,rfl,p,ps',ss',_,_,_,rfl,s36,s15.free np,e6,S6,new⟩
      ·exact ⟨bp,ps,ss,_,_,_,rfl,s36,nb,e46,S4.tp (Tp.of (s5.trans s6)),hold⟩
    ·refine ⟨bp,ps,ss,_,_,_,rfl,s4.trans s5,nb,s5 _ _ e4,S4.tp (Tp.of s5),?_⟩
     have hnc:¬ hs.count last < hs.count (i:Int):=fun z=>c2 (decide_eq_true (by omega))
     rcases T4 with ⟨e,f⟩ | q
     ·refine .inl ⟨e,fun h h0 h1 hc=>?_⟩
      by_cases c:h < i
      ·exact f h h0 c hc
      ·rw [show h=(i:Int) by omega] at hc
       exact absurd hc hnc
     ·exact .inr q
   ·exact ⟨bp,ps,ss,_,_,_,rfl,s4.trans s5,nb,s5 _ _ e4,S4.tp (Tp.of s5),notB fun z=>c1 (decide_eq_true z)⟩
  ·rintro σ H4 ⟨bp,ps,ss,v7,v8,v9,rfl,s4,nb,e4,S4,T4⟩
   rw [show ((n.toNat:Nat):Int)=n by omega] at T4
   exact ⟨_,rfl,k bp H4 ps ss (s13.trans s4) nb e4 S4 T4⟩
end
def Lv (n:Int) (ws:List (List Int)) (hs:List Int) (lv:Int->Int):Prop :=
 (∀ h:Int,0<=h->h < n->lv h<=hs.count h/\((hs.count h:Nat):Int)<=lv h+1)/\∀ (w:Nat) (g:Int) (l:List Int),hs[w]?=some g->ws[w]?=some l->∀ t∈l,lv g<=lv t
def i1 (a b:Int):Int:=if a=b then 1 else 0
theorem aAk:∀ {hs:List Int} {w:Nat} {g t:Int},hs[w]?=some g->∀ y:Int,(((hs.set w t).count y:Nat):Int)+i1 g y=(hs.count y:Nat)+i1 t y
 | [],w,g,t,h,y=>by simp at h
 | x::hs,0,g,t,h,y=>by
  have e:x=g:=by simpa using h
  subst e
  rw [List.set_cons_zero,Xk,Xk]
  unfold i1
  by_cases c1:t=y <;> by_cases c2:x=y <;> simp [c1,c2] <;> omega
 | x::hs,w+1,g,t,h,y=>by
  have ih:=aAk (hs:=hs) (w:=w) (g:=g) (t:=t) (by simpa using h) y
  rw [List.set_cons_succ,Xk,Xk]
  omega
def goS (hs:List Int) (ss:List (Nat×Int×Int)):List Int:=ss.foldl (fun hs s=>hs.set s.1 s.2.2) hs
theorem iA:∀ (ss:List (Nat×Int×Int)) (hs:List Int),(goS hs ss).length=hs.length
 | [],_=>rfl
 | s::ss,hs=>by
  show (goS (hs.set s.1 s.2.2) ss).length=_
  rw [iA ss,Zp]
theorem sC {ws:List (List Int)} {x h:Int} {w:Nat} {t':Int}:∀ {ss:List (Nat×Int×Int)} {hs:List Int} {t:Int},hs[w]?=some h->bM ws hs t ss x->(∀ s∈ss,s.2.1≠h)->bM ws (hs.set w t') t ss x
 | [],_,_,_,p,_=>p
 | s::ss,hs,t,hw,⟨e1,⟨e2,e3⟩,p⟩,hn=>by
  refine ⟨e1,⟨?_,e3⟩,sC hw p fun s' hs'=>hn s' (Qo _ hs')⟩
  rw [Xc]
  by_cases c:w=s.1
  ·rw [<- c,hw] at e2
   have:=hn s (Qr ..)
   rw [e1] at this
   exact absurd (Option.some.inj e2).symm this
  ·rw [if_neg c]; exact e2
theorem gX {ws:List (List Int)} {hs:List Int} {x:Int}:∀ {ss:List (Nat×Int×Int)} {t:Int},bM ws hs t ss x->∀ s∈ss,s.2.1=t∨∃ s'∈ss,s'.2.2=s.2.1
 | [],_,_,s,h=>(Qp h).elim
 | s0::ss,t,⟨e1,_,p⟩,s,h=>by
  rcases Qm.mp h with rfl | h
  ·exact .inl e1
  ·rcases gX p s h with z | ⟨s',z1,z2⟩
   ·exact .inr ⟨s0,Qr ..,z.symm⟩
   ·exact .inr ⟨s',Qo _ z1,z2⟩
theorem cL {ws:List (List Int)} {hs:List Int} {x:Int}:∀ {ss:List (Nat×Int×Int)} {t:Int},bM ws hs t ss x->∀ s∈ss,gI ws hs s.2.1 s.1 s.2.2
 | [],_,_,s,h=>(Qp h).elim
 | s0::ss,t,⟨e1,e2,p⟩,s,h=>by
  rcases Qm.mp h with rfl | h
  ·rw [e1]; exact e2
  ·exact cL p s h
theorem sD {ws:List (List Int)} {x:Int}:∀ {ss:List (Nat×Int×Int)} {hs:List Int} {h:Int},bM ws hs h ss x->(h::ss.map (·.2.2)).Nodup ->
  (∀ y:Int,(((goS hs ss).count y:Nat):Int)+i1 h y=(hs.count y:Nat)+i1 x y) /\
  ∀ (w:Nat) (g:Int),(goS hs ss)[w]?=some g->hs[w]?=some g∨∃ s∈ss,s.1=w/\s.2.2=g/\hs[w]?=some s.2.1
 | [],hs,h,p,_=>by
  have e:h=x:=p
  subst e
  exact ⟨fun y=>rfl,fun w g q=>.inl q⟩
 | s::ss,hs,h,⟨e1,⟨e2,e3⟩,p⟩,nd=>by
  have nd2:=Qx.mp nd
  have hne:∀ s'∈ss,s'.2.1≠h:=fun s' hs' z=>by
   rcases gX p s' hs' with q | ⟨s2,q1,q2⟩
   ·exact nd2.1 (by rw [<- z,q]; exact Qr ..)
   ·exact nd2.1 (Qo _ (Jm.mpr ⟨s2,q1,q2.trans z⟩))
  have p':=sC (t':=s.2.2) e2 p hne
  obtain ⟨i1',i2'⟩:=sD p' (by have:=nd2.2; rwa [Qw] at this)
  refine ⟨fun y=>?_,fun w g q=>?_⟩
  ·have a:=i1' y
   have b:=aAk (t:=s.2.2) e2 y
   show (((goS (hs.set s.1 s.2.2) ss).count y:Nat):Int)+i1 h y=_
   omega
  ·have q':(goS (hs.set s.1 s.2.2) ss)[w]?=some g:=q
   rcases i2' w g q' with z | ⟨s',z1,z2,z3,z4⟩
   ·rw [Xc] at z
    by_cases c:s.1=w
    ·have hl:s.1 < hs.length:=(Qa.mp e2).1
     rw [if_pos c,if_pos hl] at z
     exact .inr ⟨s,Qr ..,c,Option.some.inj z,by rw [<- c,e1]; exact e2⟩
    ·rw [if_neg c] at z
     exact .inl z
   ·rw [Xc] at z4
    by_cases c:s.1=w
    ·have hl:s.1 < hs.length:=(Qa.mp e2).1
     rw [if_pos c,if_pos hl] at z4
     exfalso
     have:=(cL p s' z1).1
     rw [z2,<- c,e2] at this
     exact hne s' z1 (Option.some.inj this).symm
    ·rw [if_neg c] at z4
     exact .inr ⟨s',Qo _ z1,z2,z3,z4⟩
theorem qG {n:Int} {ws:List (List Int)} {hs:List Int} {lv:Int->Int} (L:Lv n ws hs lv) {g t:Int} {w:Nat} (e:gI ws hs g w t):lv g<=lv t:=by
 obtain ⟨e1,l,e2,e3,_⟩:=e
 exact L.2 w g l e1 e2 t e3
theorem qH {ws:List (List Int)} {hs:List Int} {x:Int} {lv:Int->Int}:∀ {ss:List (Nat×Int×Int)} {h:Int},(∀ s∈ss,lv s.2.1<=lv s.2.2)->bM ws hs h ss x->lv h<=lv x/\∀ s∈ss,lv h<=lv s.2.1/\lv s.2.2<=lv x
 | [],h,_,p=>by
  have e:h=x:=p
  rw [e]
  exact ⟨Xs _,fun s hs=>(Qp hs).elim⟩
 | s::ss,h,hl,⟨e1,_,p⟩=>by
  obtain ⟨a,b⟩:=qH (fun s' hs'=>hl s' (Qo _ hs')) p
  have c:=hl s (Qr ..)
  rw [e1] at c
  refine ⟨by omega,fun s' hs'=>?_⟩
  rcases Qm.mp hs' with rfl | hs'
  ·rw [e1]; exact ⟨Xs _,a⟩
  ·have:=b s' hs'; omega
theorem aCi {n:Int} {ws:List (List Int)} {hs:List Int} {lv:Int->Int} (L:Lv n ws hs lv) {ss:List (Nat×Int×Int)} (hr:∀ (w:Nat) l,ws[w]?=some l->∀ t∈l,0<=t/\t < n) (W:aDW n ws hs ss):False:=by
 obtain ⟨h,x,hne,p,_,h0,h1,_,hd⟩:=W
 have a:=(qH (lv:=lv) (fun s hs'=>qG L (cL p s hs')) p).1
 have hx:0<=x/\x < n:=by
  have:∀ {ss:List (Nat×Int×Int)} {h:Int},ss≠[]->bM ws hs h ss x->0<=x/\x < n:=by
   intro ss
   induction ss with
   | nil=>intro h z; exact absurd rfl z
   | cons s ss ih =>
    intro h _ ⟨_,⟨_,l,q1,q2,_⟩,p⟩
    cases ss with
    | nil =>
     have e:s.2.2=x:=p
     rw [<- e]; exact hr _ _ q1 _ q2
    | cons s2 ss=>exact ih (by simp) p
  exact this hne p
 have b:=L.1 h h0 h1
 have c:=L.1 x hx.1 hx.2
 omega
theorem aEF {n:Int} {ws:List (List Int)} {hs able:List Int} {lv:Int->Int} {ss:List (Nat×Int×Int)} {os:List Int} {last:Int} (L:Lv n ws hs lv) (hl:hs.length=ws.length) (hr:∀ g∈hs,0<=g/\g < n) (wr:∀ l∈ws,∀ t∈l,0<=t/\t < n) (ar:∀ t∈able,0<=t/\t < n)
  (hin:∀ (w:Nat) g l,hs[w]?=some g->ws[w]?=some l->g∈l)
  (p:bM (ws++[able]) (hs++[n]) n ss last) (nd:(n::ss.map (·.2.2)).Nodup) (ne:ss≠[]) (C:vS (ws++[able]) (hs++[n]) os) (hn:n∈os) (hm:∀ o∈os,o≠n->0<=o/\o < n/\((hs.count last:Nat):Int)<=(hs.count o:Nat)) (hlo:last∈os) (hln:last≠n) (hss:∀ s∈ss,s.2.2∈os) :
  (∃ lv',Lv n (ws++[able]) (goS (hs++[n]) ss) lv')/\∀ (w:Nat) g l,(goS (hs++[n]) ss)[w]?=some g->(ws++[able])[w]?=some l->g∈l:=by
 obtain ⟨cn,wk⟩:=sD p nd
 have c0:hs.count n=0:=Yq.mpr fun z=>by have:=hr n z; omega
 have c1:∀ y:Int,(((hs++[n]).count y:Nat):Int)=(hs.count y:Nat)+i1 n y:=fun y=>by
  rw [Ys,Xk,List.count_nil]
  unfold i1
  by_cases q:n=y <;> simp [q]
 have cg:∀ y:Int,(((goS (hs++[n]) ss).count y:Nat):Int)=(hs.count y:Nat)+i1 last y:=fun y=>by
  have:=cn y
  have:=c1 y
  omega
 have gn:∀ (w:Nat) g,(goS (hs++[n]) ss)[w]?=some g->g≠n:=fun w g q z=>by
  have h1:=cg n
  have h2:i1 last n=0:=if_neg hln
  have h4:=Qe q
  rw [z] at h4
  have h3:0 < (goS (hs++[n]) ss).count n:=List.count_pos_iff.mpr h4
  omega
 have old:∀ (w:Nat) g,(hs++[n])[w]?=some g->g≠n->hs[w]?=some g:=fun w g q z=>by
  by_cases c:w < hs.length
  ·rwa [Ql c] at q
  ·rw [Qt (by omega)] at q
   by_cases c2:w - hs.length=0
   ·rw [c2] at q
    exact absurd (by simpa using q.symm) z
   ·rw [Xa (by simp; omega)] at q; cases q
 have wold:∀ (w:Nat) l,w < hs.length->(ws++[able])[w]?=some l->ws[w]?=some l:=fun w l c q=>by rwa [Ql (by omega)] at q
 have M:=((hs.count last:Nat):Int)
 -- the levels
 obtain ⟨lv2,hlv2⟩:∃ lv2:Int->Int,∀ h,lv2 h=if h∈os then max (lv h) ((hs.count last:Nat):Int) else lv h:=⟨_,fun _=>rfl⟩
 have ge:∀ h∈os,((hs.count last:Nat):Int)<=lv2 h:=fun h hh=>by rw [hlv2,if_pos hh]; omega
 have up:∀ h,lv h<=lv2 h:=fun h=>by rw [hlv2]; split <;> omega
 have cl2:∀ (w:Nat) g l,hs[w]?=some g->ws[w]?=some l->g∈os->∀ t∈l,t∈os:=fun w g l q1 q2 q3 t ht=>by
  by_cases c:t=g
  ·rw [c]; exact q3
  ·have hw:=(Qa.mp q1).1
   exact C g q3 w t ⟨by rw [Ql hw]; exact q1,l,by rw [Ql (by omega)]; exact q2,ht,c⟩
 have mono:∀ (w:Nat) g l,hs[w]?=some g->ws[w]?=some l->∀ t∈l,lv2 g<=lv2 t:=fun w g l q1 q2 t ht=>by
  have h1:=L.2 w g l q1 q2 t ht
  rw [hlv2,hlv2]
  by_cases c:g∈os
  ·rw [if_pos c,if_pos (cl2 w g l q1 q2 c t ht)]; omega
  ·rw [if_neg c]; split <;> omega
 have lr:0<=last/\last < n:=⟨(hm last hlo hln).1,(hm last hlo hln).2.1⟩
 have l2:lv2 last=((hs.count last:Nat):Int):=by
  have:=(L.1 last lr.1 lr.2).1
  rw [hlv2,if_pos hlo]; omega
 -- every taker lies at the least level
 have tk:∀ s∈ss,lv2 s.2.2=((hs.count last:Nat):Int):=by
  cases ss with
  | nil=>exact absurd rfl ne
  | cons s0 ss =>
   obtain ⟨e1,e2,p2⟩:=p
   have nd2:=Qx.mp nd
   have stp:∀ s∈ss,lv2 s.2.1<=lv2 s.2.2:=fun s hs'=>by
    have e:=cL p2 s hs'
    obtain ⟨q1,l,q2,q3,_⟩:=e
    have hgn:s.2.1≠n:=fun z=>by
     rcases gX p2 s hs' with y | ⟨s',y1,y2⟩
     ·exact nd2.1 (by rw [<- z,y]; exact Qr ..)
     ·exact nd2.1 (Qo _ (Jm.mpr ⟨s',y1,y2.trans z⟩))
    have q1':=old _ _ q1 hgn
    exact mono _ _ l q1' (wold _ l (Qa.mp q1').1 q2) _ q3
   obtain ⟨a,b⟩:=qH stp p2
   intro s hs'
   have h1:=ge _ (hss s hs')
   rcases Qm.mp hs' with rfl | h2
   ·omega
   ·have:=b s h2; omega
 have moved:∀ s∈ss,∀ l,(ws++[able])[s.1]?=some l->s.2.2∈l/\∀ t∈l,t∈os:=fun s hs' l q=>by
  obtain ⟨q1,l',q2,q3,_⟩:=cL p s hs'
  rw [q] at q2
  cases q2
  refine ⟨q3,fun t ht=>?_⟩
  have hgo:s.2.1∈os:=by
   rcases gX p s hs' with y | ⟨s',y1,y2⟩
   ·rw [y]; exact hn
   ·rw [<- y2]; exact hss s' y1
  by_cases c:t=s.2.1
  ·rw [c]; exact hgo
  ·exact C _ hgo s.1 t ⟨q1,l,q,ht,c⟩
 refine ⟨⟨lv2,fun h h0 h1=>?_,fun w g l q1 q2 t ht=>?_⟩,fun w g l q1 q2=>?_⟩
 ·rw [cg]
  have b:=L.1 h h0 h1
  by_cases c:last=h
  ·rw [<- c,l2]
   have:i1 last last=1:=if_pos rfl
   rw [<- c] at b
   omega
  ·have e:i1 last h=0:=if_neg c
   rw [e,hlv2]
   by_cases c2:h∈os
   ·have:=hm h c2 (by omega)
    rw [if_pos c2]; omega
   ·rw [if_neg c2]; omega
 ·rcases wk w g q1 with z | ⟨s,z1,z2,z3,z4⟩
  ·have z':=old w g z (gn w g q1)
   exact mono w g l z' (wold w l (Qa.mp z').1 q2) t ht
  ·rw [<- z3,tk s z1]
   exact ge t ((moved s z1 l (by rw [z2]; exact q2)).2 t ht)
 ·rcases wk w g q1 with z | ⟨s,z1,z2,z3,z4⟩
  ·have z':=old w g z (gn w g q1)
   exact hin w g l z' (wold w l (Qa.mp z').1 q2)
  ·rw [<- z3]
   exact (moved s z1 l (by rw [z2]; exact q2)).1
theorem uA:∀ {hs:List Int} {k:Nat} {g:Int},hs[k]?=some g->∀ y:Int,(((hs.eraseIdx k).count y:Nat):Int)+i1 g y=(hs.count y:Nat)
 | [],k,g,h,y=>by simp at h
 | x::hs,0,g,h,y=>by
  have e:x=g:=by simpa using h
  subst e
  rw [List.eraseIdx_cons_zero,Xk]
  unfold i1
  by_cases c2:x=y <;> simp [c2]
 | x::hs,k+1,g,h,y=>by
  have ih:=uA (hs:=hs) (k:=k) (g:=g) (by simpa using h) y
  rw [Zv,Xk,Xk]
  omega
theorem eY {α:Type} {l:List α} {k w:Nat} {x:α} (h:(l.eraseIdx k)[w]?=some x):l[if w < k then w else w+1]?=some x:=by
 rw [Xf] at h
 split at h
 ·rename_i c; rw [if_pos c]; exact h
 ·rename_i c; rw [if_neg c]; exact h
theorem xP {n:Int} {ws:List (List Int)} {hs:List Int} {lv:Int->Int} {k:Nat} {g0:Int} (h1:∀ h:Int,0<=h->h < n->lv h<=(hs.count h:Nat) - i1 g0 h/\((hs.count h:Nat):Int) - i1 g0 h<=lv h+1) (h2:∀ (w:Nat) (g:Int) (l:List Int),hs[w]?=some g->ws[w]?=some l->∀ t∈l,lv g<=lv t) (hk:hs[k]?=some g0):Lv n (ws.eraseIdx k) (hs.eraseIdx k) lv:=by
 refine ⟨fun h a b=>?_,fun w g l q1 q2 t ht=>h2 _ g l (eY q1) (eY q2) t ht⟩
 have:=h1 h a b
 have:=uA hk h
 omega
theorem aDn {n:Int} {ws:List (List Int)} {hs:List Int} {lv:Int->Int} {ss:List (Nat×Int×Int)} {k:Nat} {last:Int} (L:Lv n ws hs lv) (hk:hs[k]?=some last) (hr:∀ g∈hs,0<=g/\g < n) (hin:∀ (w:Nat) g l,hs[w]?=some g->ws[w]?=some l->g∈l) (T:pQ n ws hs last n ss) :
  (∃ lv',Lv n (ws.eraseIdx k) ((goS hs ss).eraseIdx k) lv')/\(∀ (w:Nat) g l,(goS hs ss)[w]?=some g->ws[w]?=some l->g∈l):=by
 have lr:=hr last (Qe hk)
 rcases T with ⟨e,hno⟩ | ⟨h,hne,p,nd,h0,h1,hc⟩
 ·subst e
  refine ⟨?_,hin⟩
  show ∃ lv',Lv n (ws.eraseIdx k) (hs.eraseIdx k) lv'
  obtain ⟨rch,hrch⟩:∃ rch:Int->Prop,∀ h,rch h↔∃ j,RL ws hs j h last:=⟨_,fun _=>Iff.rfl⟩
  have dc:∀ h,Decidable (rch h):=fun h=>Classical.propDecidable _
  obtain ⟨lv2,hlv2⟩:∃ lv2:Int->Int,∀ h,(rch h->lv2 h=min (lv h) (((hs.count last:Nat):Int) - 1))/\(¬ rch h->lv2 h=lv h):=⟨fun h=>@ite _ (rch h) (dc h) (min (lv h) (((hs.count last:Nat):Int) - 1)) (lv h),fun h=>⟨fun z=>if_pos z,fun z=>if_neg z⟩⟩
  have rl:rch last:=(hrch last).mpr ⟨0,rfl⟩
  have le:∀ h,rch h->lv h<=lv last:=fun h z=>by
   obtain ⟨j,r⟩:=(hrch h).mp z
   exact RL.closed (S:=fun x=>lv h<=lv x) (fun g w t a e=>Int.le_trans a (qG L e)) (Xs _) r
  have few:∀ h,0<=h->h < n->rch h->hs.count h<=hs.count last:=fun h a b z=>by
   by_cases c:hs.count last < hs.count h
   ·obtain ⟨os,o1,o2,o3⟩:=hno h a b c
    obtain ⟨j,r⟩:=(hrch h).mp z
    exact absurd (RL.closed (S:=fun x=>x∈os) (fun g w t a e=>o2 g a w t e) o1 r) o3
   ·omega
  have bl:=L.1 last lr.1 lr.2
  refine ⟨lv2,xP (g0:=last) (fun h a b=>?_) (fun w g l q1 q2 t ht=>?_) hk⟩
  ·have b0:=L.1 h a b
   by_cases c:rch h
   ·have b1:=few h a b c
    have b2:=le h c
    rw [(hlv2 h).1 c]
    by_cases d:last=h
    ·rw [<- d]
     have:i1 last last=1:=if_pos rfl
     omega
    ·have:i1 last h=0:=if_neg d
     omega
   ·rw [(hlv2 h).2 c]
    have:i1 last h=0:=if_neg fun (z:last=h)=>c (z ▸ rl)
    omega
  ·have b0:=L.2 w g l q1 q2 t ht
   by_cases c:rch t
   ·have cg:rch g:=by
     by_cases d:t=g
     ·rw [<- d]; exact c
     ·obtain ⟨j,r⟩:=(hrch t).mp c
      exact (hrch g).mpr ⟨j+1,.inr ⟨w,t,⟨q1,l,q2,ht,d⟩,r⟩⟩
    rw [(hlv2 g).1 cg,(hlv2 t).1 c]; omega
   ·rw [(hlv2 t).2 c]
    by_cases cg:rch g
    ·rw [(hlv2 g).1 cg]; omega
    ·rw [(hlv2 g).2 cg]; exact b0
 ·obtain ⟨cn,wk⟩:=sD p nd
  have pl:=qH (lv:=lv) (fun s hs'=>qG L (cL p s hs')) p
  have b1:=L.1 h h0 h1
  have b2:=L.1 last lr.1 lr.2
  have eh:lv h=lv last:=by omega
  have hk':(goS hs ss)[k]?=some last:=by
   have hl:k < (goS hs ss).length:=by rw [iA]; exact (Qa.mp hk).1
   have q:=Qc hl
   rcases wk k _ q with z | ⟨s,z1,z2,z3,z4⟩
   ·rw [q,<- z,hk]
   ·exfalso
    rw [hk] at z4
    have e:last=s.2.1:=Option.some.inj z4
    -- no giver is the last
    have:∀ {ss:List (Nat×Int×Int)} {h:Int},bM ws hs h ss last->(h::ss.map (·.2.2)).Nodup->∀ s∈ss,s.2.1≠last:=by
     intro ss
     induction ss with
     | nil=>intro h _ _ s hs'; exact (Qp hs').elim
     | cons s0 ss ih =>
      intro h ⟨e1,e2,p2⟩ nd s hs'
      have nd2:=Qx.mp nd
      rcases Qm.mp hs' with rfl | hs'
      ·intro z
       have hl:∀ {ss:List (Nat×Int×Int)} {t:Int},bM ws hs t ss last->last∈t::ss.map (·.2.2):=by
        intro ss
        induction ss with
        | nil=>intro t p; rw [show t=last from p]; exact Qr ..
        | cons s1 ss ih=>intro t p; exact Qo _ (ih p.2.2)
       have:=hl p2
       rw [<- z,e1] at this
       exact nd2.1 (by rw [Qw]; exact this)
      ·exact ih p2 (by have:=nd2.2; rwa [Qw] at this) s hs'
    exact this p nd s z1 e.symm
  refine ⟨⟨lv,xP (g0:=last) (fun y a b=>?_) (fun w g l q1 q2 t ht=>?_) hk'⟩,fun w g l q1 q2=>?_⟩
  ·have c1:=cn y
   have c2:=L.1 y a b
   by_cases d:h=y
   ·subst d
    have e1:i1 h h=1:=if_pos rfl
    omega
   ·have e1:i1 h y=0:=if_neg d
    omega
  ·rcases wk w g q1 with z | ⟨s,z1,z2,z3,z4⟩
   ·exact L.2 w g l z q2 t ht
   ·have a1:=L.2 w s.2.1 l z4 q2 t ht
    have a2:=pl.2 s z1
    rw [<- z3]
    have a3:lv s.2.1=lv h:=by
     have:=qG L (cL p s z1)
     omega
    omega
  ·rcases wk w g q1 with z | ⟨s,z1,z2,z3,z4⟩
   ·exact hin w g l z q2
   ·obtain ⟨_,l',q3,q4,_⟩:=cL p s z1
    rw [z2,q2] at q3
    cases q3
    rw [<- z3]; exact q4
theorem aAX {n:Int} {ws:List (List Int)} {hs lv:List Int} (L:kR n ws hs lv):lv.length=n.toNat/\(∀ (h:Nat) v,lv[h]?=some v->v<=(hs.count (h:Int):Nat)/\((hs.count (h:Int):Nat):Int)<=v+1)/\∀ (w:Nat) (g:Nat) (l:List Int),hs[w]?=some (g:Int)->ws[w]?=some l->∀ t:Nat,(t:Int)∈l->∀ u v,lv[g]?=some u->lv[t]?=some v->u<=v:=by
 refine ⟨L.1,fun h v q=>?_,fun w g l q1 q2 t ht u v h1 h2=>?_⟩
 ·obtain ⟨a,b⟩:=L.2 h v q
  have:=a.le
  omega
 ·by_cases c:(t:Int)=g
  ·have e:t=g:=by omega
   rw [e,h1] at h2
   rw [Option.some.inj h2]; exact Xs _
  ·exact (L.2 g u h1).1.edge (L.2 t v h2).1 ⟨q1,l,q2,ht,c⟩
section
variable {K:PySem.W.Frag}
theorem aAY {H:Hp} {n:Int} {ws:List (List Int)} {a b:Addr} {ys:List V} (h1:SqT K H a [.int n,.ref b]) (h2:SqT K H b ys) (h3:bK K H (ws.map fU) ys):Den K H (iU n ws) (.ref a) :=
 cN.mpr ⟨a,_,rfl,h1,bQ.mpr ⟨_,_,rfl,eI.mpr rfl,bQ.mpr ⟨_,_,rfl,cN.mpr ⟨b,ys,rfl,h2,h3⟩,eD.mpr rfl⟩⟩⟩
theorem pA {K:PySem.W.Frag} {H:Hp}:∀ {ds:List PyData} {zs:List V},zs.length=ds.length->(∀ (i:Nat) d z,ds[i]?=some d->zs[i]?=some z->Den K H d z)->bK K H ds zs
 | [],[],_,_=>eD.mpr rfl
 | [],_::_,h,_=>by cases h
 | _::_,[],h,_=>by cases h
 | d::ds,z::zs,hl,h=>bQ.mpr ⟨z,zs,rfl,h 0 d z rfl rfl,pA (by simpa using hl) fun i d' z' h1 h2=>h (i+1) d' z' h1 h2⟩
end
theorem bS {b:Bool} {A B:Prop} (e:b=false) (h:B):if b=true then A else B:=by subst e; exact mS h
theorem dZ {b:Bool} {A B:Prop} (e:b=true) (h:A):if b=true then A else B:=by subst e; exact iQ h
theorem aAl:bootBuiltins "any" = some (.builtin "any"):=by decide +kernel
theorem qI (i:Int) (l:List Int):inV (.int i) (l.map V.int)=decide (i∈l):=by
 rw [vL,Xi,Xn,decide_eq_true_iff]
 exact ⟨fun ⟨y,h1,h2⟩=>by have:y=i:=(by simpa using h2); rw [<- this]; exact h1,fun h=>⟨i,h,by simp⟩⟩
theorem But.seqTd {K:PySem.W.Frag} {t:Addr} {H H':Hp} {r:List (Key×V)} {a:Addr} {xs:List V} (e:But t H H') (ht:H t=some (.dK r)) (h:SqT K H a xs):SqT K H' a xs:=by
 rcases h with (h | ⟨o,h⟩) | h
 ·exact .inl (.inl (e a _ (fun z=>by rw [z,ht] at h; cases h) h))
 ·exact .inl (.inr ⟨o,e a _ (fun z=>by rw [z,ht] at h; cases h) h⟩)
 ·exact .inr h
structure Mt (K:PySem.W.Frag) (C:Addr) (m:Str) (st:Stmt) (ps:List Str) (f:Addr) (fd:FuncData):Prop where
 fn:Fun K m (("Dealing." : Str)++m) st f fd
 me:Meth K C m f
 bd:kH K fd ps []
structure Dc (K:PySem.W.Frag) (C:Addr):Prop where
 cl:Cls K C
 n1:gF K C "many_hands"
 n2:gF K C "able_of"
 n3:gF K C "hand_of"
 n4:gF K C "next_number"
 n5:gF K C "moved_last"
 n6:gF K C "moved_in_all"
structure DD where
 n:Int
 nx:Int
 ml:Int
 ma:Int
 nums:List Int
 ws:List (List Int)
 hs:List Int
 dx:Addr
 da:Addr
 dh:Addr
 ts:List Addr
def DD.flds (D:DD):List (Str×V):=[("many_hands",.int D.n),("able_of",.ref D.da),("hand_of",.ref D.dh),("next_number",.int D.nx),("moved_last",.int D.ml),("moved_in_all",.int D.ma)]
def kvA (nums:List Int) (ts:List Addr):List (Key×V):=(nums.zip ts).map fun p=>(.inl p.1,.ref p.2)
def kvH (nums hs:List Int):List (Key×V):=(nums.zip hs).map fun p=>(.inl p.1,.int p.2)
structure DlH (K:PySem.W.Frag) (H:Hp) (C x:Addr) (D:DD):Prop where
 ins:H x=some (.ins C D.dx D.flds)
 able:H D.da=some (.dK (kvA D.nums D.ts))
 hand:H D.dh=some (.dK (kvH D.nums D.hs))
 tl:D.ts.length=D.nums.length
 wl:D.ws.length=D.nums.length
 hl:D.hs.length=D.nums.length
 tup:∀ (i:Nat) t l,D.ts[i]?=some t->D.ws[i]?=some l->SqT K H t (l.map V.int)
 ne:D.da≠D.dh
structure DlM (D:DD):Prop where
 bk:fQ (iU D.n D.ws)=true
 dl:nS D.ws (rT D.hs)=true
 up:D.nums.Pairwise (· < ·)
 few:∀ k∈D.nums,0<=k/\k < D.nx
 nx:0<=D.nx
 lv:∃ lv,Lv D.n D.ws D.hs lv
theorem DlH.same {K:PySem.W.Frag} {H H':Hp} {C x:Addr} {D:DD} (h:DlH K H C x D) (s:aG H H'):DlH K H' C x D :=
 ⟨s _ _ h.ins,s _ _ h.able,s _ _ h.hand,h.tl,h.wl,h.hl,fun i t l a b=>s.seqT (h.tup i t l a b),h.ne⟩
theorem aCj {nums:List Int} {ts:List Addr} (h:ts.length=nums.length):(kvA nums ts).map (·.2)=ts.map V.ref:=by
 unfold kvA
 rw [Jw]
 show (nums.zip ts).map (fun p=>V.ref p.2)=_
 rw [show (fun p:Int×Addr=>V.ref p.2)=V.ref ∘ Prod.snd from rfl,<- Jw,List.map_snd_zip (by omega)]
theorem xQ {nums hs:List Int} (h:hs.length=nums.length):(kvH nums hs).map (·.2)=hs.map V.int:=by
 unfold kvH
 rw [Jw]
 show (nums.zip hs).map (fun p=>V.int p.2)=_
 rw [show (fun p:Int×Int=>V.int p.2)=V.int ∘ Prod.snd from rfl,<- Jw,List.map_snd_zip (by omega)]
section
variable {P:Program} {w:World} {K:PySem.W.Frag} {mg:Str->Option Value} {base:Heap} {C:Addr}
def nU (K:PySem.W.Frag) (C:Addr):Sp:=fun vs H Q _=>∃ (x:Addr) (D:DD),vs = [.ref x]/\DlH K H C x D/\∀ p H',aG H H'->Den K H' (iU D.n D.ws) (.ref p)->Q (.ref p) H'
theorem aDo:FnScope ["self"] ["self"] (aH pN):=⟨rfl,rfl,rfl,by decide +kernel,rfl,by decide +kernel,by decide +kernel⟩
theorem aCk {f:Addr} {fd:FuncData} (G:Mt K C "book_now" pN ["self"] f fd) (T:Dc K C) (B:Bl mg):FnOk P w K mg base CX0 1 f fd ["self"] (nU K C):=by
 refine G.fn.ok aDo (fun vs H Q E h=>?_) (fun cdv A outer s H vs Q E hr h=>?_)
 ·obtain ⟨x,D,rfl,_⟩:=h
  rfl
 ·obtain ⟨x,D,rfl,hD,k⟩:=h
  refine ⟨_,aF (aK (eN (aA (cH (pv 0) rfl) (aA (bV (kB rfl) rfl B.tuple dY (aA (oK PySem.F.plainAttrs_dict PySem.F.slot_dict_values PySem.F.type_dict_values lH (cH (pv 0) rfl)) aE)) aE)))),?_⟩
  refine ⟨_,rfl,x,C,D.dx,_,_,rfl,hD.ins,T.cl,T.n1,rfl,_,rfl,x,C,D.dx,_,_,rfl,hD.ins,T.cl,T.n2,rfl,.inr (.inr (.inl ⟨rfl,.inl ⟨_,hD.able⟩⟩)),D.da,_,rfl,rfl,.inl hD.able,fun v hv=>⟨v,D.da,_,rfl,aB,.inl ((aG.new hv) _ _ hD.able),fun t ht=>⟨sz2 _ _,fun p hp=>?_⟩⟩⟩
  rw [aCj hD.tl] at hp ⊢
  have s1:=(aG.new (o:=VwO v D.da) hv).trans ((aG.new (o:=.tup (D.ts.map V.ref)) ht).trans (aG.new (o:=.tup [.int D.n,.ref t]) hp))
  refine k p _ s1 (aAY (SqT.of aB) ((aG.new hp).seqT (SqT.of aB)) (pA (by rw [Qd,Qd,hD.tl,hD.wl]) fun i d z h1 h2=>?_))
  rw [Qi] at h1 h2
  obtain ⟨l,hl,rfl⟩:=Qv.mp h1
  obtain ⟨t',ht',rfl⟩:=Qv.mp h2
  exact bR.mpr ⟨t',rfl,s1.seqT (hD.tup i t' l ht' hl)⟩
def lU (K:PySem.W.Frag) (C:Addr):Sp:=fun vs H Q _=>∃ (x:Addr) (D:DD),vs = [.ref x]/\DlH K H C x D/\∀ p H',aG H H'->H' p=some (.tup (D.hs.map V.int))->Q (.ref p) H'
theorem aDp:FnScope ["self"] ["self"] (aH jV):=⟨rfl,rfl,rfl,by decide +kernel,rfl,by decide +kernel,by decide +kernel⟩
theorem aCl {f:Addr} {fd:FuncData} (G:Mt K C "deal_now" jV ["self"] f fd) (T:Dc K C) (B:Bl mg):FnOk P w K mg base CX0 1 f fd ["self"] (lU K C):=by
 refine G.fn.ok aDp (fun vs H Q E h=>?_) (fun cdv A outer s H vs Q E hr h=>?_)
 ·obtain ⟨x,D,rfl,_⟩:=h
  rfl
 ·obtain ⟨x,D,rfl,hD,k⟩:=h
  refine ⟨_,aF (aK (bV (kB rfl) rfl B.tuple dY (aA (oK PySem.F.plainAttrs_dict PySem.F.slot_dict_values PySem.F.type_dict_values lH (cH (pv 0) rfl)) aE))),?_⟩
  refine ⟨_,rfl,x,C,D.dx,_,_,rfl,hD.ins,T.cl,T.n3,rfl,.inr (.inr (.inl ⟨rfl,.inl ⟨_,hD.hand⟩⟩)),D.dh,_,rfl,rfl,.inl hD.hand,fun v hv=>⟨v,D.dh,_,rfl,aB,.inl ((aG.new hv) _ _ hD.hand),fun t ht=>?_⟩⟩
  rw [xQ hD.hl]
  exact k t _ ((aG.new hv).trans (aG.new ht)) aB
def DD.moved (D:DD) (m:Int):DD:={ D with ml:=m,ma:=D.ma+m }
def lV (K:PySem.W.Frag) (C:Addr):Sp:=fun vs H Q _=>∃ (x:Addr) (D:DD) (m:Int),vs = [.ref x,.int m]/\H x=some (.ins C D.dx D.flds)/\Q .non (upd H x (.ins C D.dx (D.moved m).flds))
theorem aDq:FnScope ["self", "many"] ["self", "many"] (aH jW):=⟨rfl,rfl,rfl,by decide +kernel,rfl,by decide +kernel,by decide +kernel⟩
theorem aCm {f:Addr} {fd:FuncData} (G:Mt K C "count_moved" jW ["self", "many"] f fd) (T:Dc K C):FnOk P w K mg base CX0 1 f fd ["self", "many"] (lV K C):=by
 refine G.fn.ok aDq (fun vs H Q E h=>?_) (fun cdv A outer s H vs Q E hr h=>?_)
 ·obtain ⟨x,D,m,rfl,_⟩:=h
  rfl
 ·obtain ⟨x,D,m,rfl,hx,k⟩:=h
  refine ⟨_,aC (mP (pv 0) (pv 1) rfl) (aF (lB (pv 0) (pv 1) yE)),?_⟩
  refine ⟨_,rfl,_,rfl,x,C,D.dx,_,rfl,hx,T.cl,T.n5,(show (6:Nat) < 1000 by decide),?_⟩
  refine ⟨_,rfl,x,C,D.dx,_,_,rfl,aB,T.cl,T.n6,rfl,_,rfl,_,_,rfl,rfl,D.dx,_,aB,(show (6:Nat) < 1000 by decide),?_⟩
  rw [iR]
  exact k
def nV (K:PySem.W.Frag) (C:Addr):Sp:=fun vs H Q _=>∃ (x:Addr) (D:DD),vs = [.ref x]/\DlH K H C x D/\0<=D.n/\D.n<=6/\∀ p H',aG H H'->H' p=some (.tup ((bF D.n D.hs).map V.int))->Q (.ref p) H'
theorem aCn:FnScope ["self"] ["self"] (aH mV):=⟨rfl,rfl,rfl,by decide +kernel,rfl,by decide +kernel,by decide +kernel⟩
theorem aAZ {f fD fC:Addr} {fd dD dC:FuncData} (G:Mt K C "loads" mV ["self"] f fd) (T:Dc K C) (GD:Mt K C "deal_now" jV ["self"] fD dD) (OD:FnOk P w K mg base CX0 1 fD dD ["self"] (lU K C)) (GC:Fn K mg "counted" iL ["hands", "deal"] fC dC) (OC:FnOk P w K mg base CX0 1 fC dC ["hands", "deal"] (jI K)):FnOk P w K mg base CX0 2 f fd ["self"] (nV K C):=by
 refine G.fn.ok aCn (fun vs H Q E h=>?_) (fun cdv A outer s H vs Q E hr h=>?_)
 ·obtain ⟨x,D,rfl,_⟩:=h
  rfl
 ·obtain ⟨x,D,rfl,hD,h0,h6,k⟩:=h
  have r1:Room 1 _:=hr
  refine ⟨_,aF (aK (aZ GC OC r1 rfl (aA (cH (pv 0) rfl) (aA (bZ (pv 0) T.cl GD.me OD r1 GD.bd .nil dP) aE)))),?_⟩
  refine ⟨_,rfl,x,C,D.dx,_,_,rfl,hD.ins,T.cl,T.n1,rfl,_,rfl,x,D.dx,_,rfl,hD.ins,rfl,x,D,rfl,hD,fun p H1 s1 hp=>?_⟩
  exact ⟨D.n,p,D.hs,rfl,SqT.of hp,h0,h6,fun q H2 s2 hq=>k q H2 (s1.trans s2) hq⟩
def vV (K:PySem.W.Frag) (C:Addr):Sp:=fun vs H Q _=>∃ (x:Addr) (D:DD),vs = [.ref x]/\H x=some (.ins C D.dx D.flds)/\∀ p,H p=none->Q (.ref p) (upd H p (.tup [.int D.ml,.int D.ma]))
theorem aDr:FnScope ["self"] ["self"] (aH oS):=⟨rfl,rfl,rfl,by decide +kernel,rfl,by decide +kernel,by decide +kernel⟩
theorem aCo {f:Addr} {fd:FuncData} (G:Mt K C "moved" oS ["self"] f fd) (T:Dc K C):FnOk P w K mg base CX0 1 f fd ["self"] (vV K C):=by
 refine G.fn.ok aDr (fun vs H Q E h=>?_) (fun cdv A outer s H vs Q E hr h=>?_)
 ·obtain ⟨x,D,rfl,_⟩:=h
  rfl
 ·obtain ⟨x,D,rfl,hx,k⟩:=h
  refine ⟨_,aF (aK (eN (aA (cH (pv 0) rfl) (aA (cH (pv 0) rfl) aE)))),?_⟩
  exact ⟨_,rfl,x,C,D.dx,_,_,rfl,hx,T.cl,T.n5,rfl,_,rfl,x,C,D.dx,_,_,rfl,hx,T.cl,T.n6,rfl,sz2 _ _,fun p hp=>k p hp⟩
theorem sE:bootBuiltins "dict" = some (.type "dict"):=by decide +kernel
def nW (K:PySem.W.Frag) (C:Addr):Sp:=fun vs H Q _=>∃ (x:Addr) (D:DD),vs = [.ref x]/\DlH K H C x D/\∀ p,H p=none->Q (.ref p) (upd H p (.dK (kvH D.nums D.hs)))
theorem aDs:FnScope ["self"] ["self"] (aH rQ):=⟨rfl,rfl,rfl,by decide +kernel,rfl,by decide +kernel,by decide +kernel⟩
theorem aCp {f:Addr} {fd:FuncData} (G:Mt K C "deal" rQ ["self"] f fd) (T:Dc K C) (B:Bl mg):FnOk P w K mg base CX0 1 f fd ["self"] (nW K C):=by
 refine G.fn.ok aDs (fun vs H Q E h=>?_) (fun cdv A outer s H vs Q E hr h=>?_)
 ·obtain ⟨x,D,rfl,_⟩:=h
  rfl
 ·obtain ⟨x,D,rfl,hD,k⟩:=h
  refine ⟨_,aF (aK (bV vD rfl B.dict sE (aA (cH (pv 0) rfl) aE))),?_⟩
  exact ⟨_,rfl,x,C,D.dx,_,_,rfl,hD.ins,T.cl,T.n3,rfl,D.dh,_,rfl,.inl hD.hand,fun p hp=>k p hp⟩
end
section
variable {P:Program} {w:World} {K:PySem.W.Frag} {mg:Str->Option Value} {base:Heap} {C:Addr}
variable {fW fH fK fB fNB fD fND fL:Addr} {dW dH dK dB dNB dD dND dL:FuncData}
def pB (K:PySem.W.Frag) (C Pt:Addr):Sp:=fun vs H Q _=>∃ (x:Addr) (D:DD),vs = [.ref x]/\DlH K H C x D/\DlM D/\H Pt=some (.tab oZ)/\∀ q lv H',aG H H'->H' q=some (.tup (lv.map V.int))->kR D.n D.ws D.hs lv->Q (.ref q) H'
theorem aA0:FnScope ["self"] ["self"] (aH lI):=⟨rfl,rfl,rfl,by decide +kernel,rfl,by decide +kernel,by decide +kernel⟩
theorem zC {f fBn fDn fLw Pt:Addr} {fd dBn dDn dLw:FuncData} (G:Mt K C "levels" lI ["self"] f fd) (T:Dc K C) (GB:Mt K C "book_now" pN ["self"] fBn dBn) (OB:FnOk P w K mg base CX0 1 fBn dBn ["self"] (nU K C)) (GD:Mt K C "deal_now" jV ["self"] fDn dDn) (OD:FnOk P w K mg base CX0 1 fDn dDn ["self"] (lU K C)) (GLw:Fn K mg "levels_or_way" aDd ["book", "deal"] fLw dLw) (OLw:FnOk P w K mg base CX0 8 fLw dLw ["book", "deal"] (aCg K Pt)):FnOk P w K mg base CX0 9 f fd ["self"] (pB K C Pt):=by
 refine G.fn.ok aA0 (fun vs H Q E h=>?_) (fun cdv A outer s H vs Q E hr h=>?_)
 ·obtain ⟨x,D,rfl,_⟩:=h
  rfl
 ·obtain ⟨x,D,rfl,hD,hM,hT,k⟩:=h
  have r8:Room 8 _:=hr
  have r1:Room 1 _:=hr.mono (by decide)
  refine ⟨_,aF (aK (bE bU (aZ GLw OLw r8 rfl (aA (bZ (pv 0) T.cl GB.me OB r1 GB.bd .nil dP) (aA (bZ (pv 0) T.cl GD.me OD r1 GD.bd .nil dP) aE))) aI (fun _ _=>rfl))),?_⟩
  refine ⟨_,rfl,x,D.dx,_,rfl,hD.ins,rfl,x,D,rfl,hD,fun p H1 s1 hp=>?_⟩
  refine ⟨_,rfl,x,D.dx,_,rfl,s1 _ _ hD.ins,rfl,x,D,rfl,hD.same s1,fun q H2 s2 hq=>?_⟩
  have s12:=s1.trans s2
  refine ⟨.ref p,.ref q,D.n,D.ws,D.hs,rfl,⟨s2.den _ _ hp,hM.bk,bR.mpr ⟨q,rfl,SqT.of hq⟩,hM.dl⟩,s12 _ _ hT,fun r H3 s3 TD=>?_⟩
  rcases TD with ⟨q',lv,e1,e2,L⟩ | ⟨q',ps,ss,_,_,_,_,W⟩
  ·exact ⟨r,_,1,.ref q',rfl,rfl,SqT.of e1,rfl,k q' lv H3 (s12.trans s3) e2 L⟩
  ·obtain ⟨lv,L⟩:=hM.lv
   exact (aCi L (fun w l hl t ht=>(aX ((aS hM.bk).2.2.2 l (Qe hl))).2.1 t ht) W).elim
def DD.came (D:DD):DD:={ D with n:=D.n+1,ml:=0 }
def vW (K:PySem.W.Frag) (C:Addr):Sp:=fun vs H Q _=>∃ (x:Addr) (D:DD),vs = [.ref x]/\H x=some (.ins C D.dx D.flds)/\D.n≠6/\Q (.int D.n) (upd H x (.ins C D.dx D.came.flds))
theorem aDt:FnScope ["self"] ["self"] (aH tX):=⟨rfl,rfl,rfl,by decide +kernel,rfl,by decide +kernel,by decide +kernel⟩
theorem aCq {f fC:Addr} {fd dC:FuncData} (G:Mt K C "come" tX ["self"] f fd) (T:Dc K C) (B:Bl mg) (GC:Mt K C "count_moved" jW ["self", "many"] fC dC) (OC:FnOk P w K mg base CX0 1 fC dC ["self", "many"] (lV K C)):FnOk P w K mg base CX0 2 f fd ["self"] (vW K C):=by
 obtain ⟨tmh,hmh⟩:=B.hands
 refine G.fn.ok aDt (fun vs H Q E h=>?_) (fun cdv A outer s H vs Q E hr h=>?_)
 ·obtain ⟨x,D,rfl,_⟩:=h
  rfl
 ·obtain ⟨x,D,rfl,hx,h6,k⟩:=h
  have r1:Room 1 _:=hr
  refine ⟨_,aC (bA (aL dX (cH (pv 0) rfl) (pV (v:=.int 6) rfl hmh ⟨tmh,rfl⟩) (aR _)) eV aN)
   (aC (lB (pv 0) aI yE)
   (aC (cX (lC (pv 0) T.cl GC.me OC r1 GC.bd .nil dP (aA aI aE)))
   (aF (aK (bC gE (cH (pv 0) rfl) aI))))),?_⟩
  refine ⟨_,rfl,x,C,D.dx,_,_,rfl,hx,T.cl,T.n1,rfl,rfl,_,rfl,bS (decide_eq_false fun z=>h6 (by injection z)) ?_⟩
  refine ⟨_,rfl,x,C,D.dx,_,_,rfl,hx,T.cl,T.n1,rfl,_,_,rfl,rfl,D.dx,_,hx,(show (6:Nat) < 1000 by decide),?_⟩
  refine ⟨_,rfl,x,D.dx,_,rfl,aB,rfl,x,{ D with n:=D.n+1 },0,rfl,aB,?_⟩
  rw [iR]
  refine ⟨_,rfl,x,C,D.dx,_,_,rfl,aB,T.cl,T.n1,rfl,_,_,rfl,rfl,?_⟩
  have e:D.n+1 - 1=D.n:=by omega
  have e2:((({ D with n:=D.n+1 }:DD).moved 0).flds)=D.came.flds:=by
   unfold DD.moved DD.came DD.flds
   simp
  show Q (.int (D.n+1 - 1)) (upd H x (.ins C D.dx ((({ D with n:=D.n+1 }:DD).moved 0).flds)))
  rw [e,e2]
  exact k
def DD.gone (D:DD):DD:={ D with n:=D.n - 1,ml:=0 }
def aCr (K:PySem.W.Frag) (C:Addr):Sp:=fun vs H Q _=>∃ (x:Addr) (D:DD),vs = [.ref x]/\DlH K H C x D/\D.n≠1/\(∀ l∈D.ws,D.n - 1∉l)/\D.nums.length<=1000/\∀ H',But x H H'->H' x=some (.ins C D.dx D.gone.flds)->Q .non H'
theorem aDX:FnScope ["self", "last"] ["self"] (aH mGo):=⟨rfl,rfl,rfl,by decide +kernel,rfl,by decide +kernel,by decide +kernel⟩
theorem aEG {f fC:Addr} {fd dC:FuncData} (G:Mt K C "go" mGo ["self"] f fd) (T:Dc K C) (B:Bl mg) (GC:Mt K C "count_moved" jW ["self", "many"] fC dC) (OC:FnOk P w K mg base CX0 1 fC dC ["self", "many"] (lV K C)):FnOk P w K mg base CX0 2 f fd ["self"] (aCr K C):=by
 refine G.fn.ok aDX (fun vs H Q E h=>?_) (fun cdv A outer s H vs Q E hr h=>?_)
 ·obtain ⟨x,D,rfl,_⟩:=h
  rfl
 ·obtain ⟨x,D,rfl,hD,h1,hno,hlen,k⟩:=h
  have r1:Room 1 _:=hr
  refine ⟨_,aC (aM (i:=1) aDX.nd rfl (Or.inr rfl) (bC gE (cH (pv 0) rfl) aI))
   (aC (bA (PW.pt (dF (aL dX (pv 1) aI (aR _)) (cW (bP (aJ (nI rfl) rfl B.any aAl (aA (aB2 (own:=["able"]) (fr:=[1]) (frn:=["last"]) (bD (aH mGo) ["self", "last"] rfl rfl (by decide +kernel)) rfl (oK PySem.F.plainAttrs_dict PySem.F.slot_dict_values PySem.F.type_dict_values lH (cH (pv 0) rfl))
    (fun _ _ _ _=>(aT (i:=0) (show (["able", "last"]:List Str).Nodup by decide +kernel) rfl (Or.inl rfl))) (fun _ _ _ _=>dQ)
    (fun _ _ _ _=>(eR (iN (K:=K) rfl) (pv 1) (pv 0) (by with_unfolding_all rfl)))) aE)))))) eV aN)
   (aC (lB (pv 0) aI aEk)
   (aF (cX (lC (pv 0) T.cl GC.me OC r1 GC.bd .nil dP (aA aI aE)))))),?_⟩
  refine ⟨_,rfl,x,C,D.dx,_,_,rfl,hD.ins,T.cl,T.n1,rfl,_,_,rfl,rfl,?_⟩
  dsimp only [aV]
  refine ⟨_,rfl,rfl,_,rfl,bS (decide_eq_false fun z=>h1 (by injection z; omega)) ?_⟩
  refine ⟨_,rfl,x,C,D.dx,_,_,rfl,hD.ins,T.cl,T.n2,rfl,.inr (.inr (.inl ⟨rfl,.inl ⟨_,hD.able⟩⟩)),D.da,_,rfl,rfl,.inl hD.able,fun v hv=>?_⟩
  have s1:=aG.new (o:=VwO v D.da) hv
  have ev:upd H v (VwO v D.da) v=some (VwO v D.da):=aB
  have hD1:=hD.same s1
  generalize upd H v (VwO v D.da)=H1 at s1 ev hD1 ⊢
  refine ⟨v,D.da,_,rfl,ev,hD1.able,fun o=>?_⟩
  have z2:upd H1 D.da (.frz o (.dK (kvA D.nums D.ts))) D.da=some (.frz o (.dK (kvA D.nums D.ts))):=aB
  have b2:But D.da H1 (upd H1 D.da (.frz o (.dK (kvA D.nums D.ts)))):=But.at
  have hkl:(kvA D.nums D.ts).length=D.nums.length:=by unfold kvA; rw [Qd,Xr,hD.tl,Ya]
  refine aAS (a:=D.da) (o:=o) (kvs:=kvA D.nums D.ts) (fun σ=>∃ u,σ = [u,some (.int (D.n - 1))]) (fun i zs H2=>zs=(List.replicate i false).map V.bl/\H2=upd H1 D.da (.frz o (.dK (kvA D.nums D.ts)))) (fZ (by omega)) ⟨none,rfl⟩ ⟨rfl,rfl⟩ (fun i zs H2 h=>by rw [h.1,Qd,Jj]; exact Qg _) (fun i zs H2 h=>by rw [h.2]; exact z2) ?_ ?_
  ·rintro i zs σ kv H2 hkv ⟨u,rfl⟩ ⟨rfl,rfl⟩ hz
   obtain ⟨num,t,hnum,ht,rfl⟩:∃ num t,D.nums[i]?=some num/\D.ts[i]?=some t/\kv=(.inl num,.ref t):=by
    unfold kvA at hkv
    rw [Qi] at hkv
    obtain ⟨p,hp,e⟩:=Qv.mp hkv
    rw [Jb] at hp
    exact ⟨p.1,p.2,hp.1,hp.2,e.symm⟩
   have hi:i < D.ts.length:=(Qa.mp ht).1
   have hl:=Qc (show i < D.ws.length by rw [hD.wl,<- hD.tl]; exact hi)
   generalize D.ws[i]'(by rw [hD.wl,<- hD.tl]; exact hi)=l at hl
   have hsq:=hD1.tup i t l ht hl
   have hsq2:SqT K (upd H1 D.da (.frz o (.dK (kvA D.nums D.ts)))) t (l.map V.int):=b2.seqTd hD1.able hsq
   refine cC ?_
   refine ⟨_,rfl,_,rfl,t,_,rfl,.inr hsq2,rfl,lM _,hz,⟨_,rfl⟩,?_,rfl⟩
   rw [Ye,Jd]
   show _++[V.bl (inV (.int (D.n - 1)) (l.map V.int))]=_
   rw [qI,decide_eq_false (hno l (Qe hl))]; rfl
  ·rintro zs H2 ⟨rfl,rfl⟩ pc hpc
   have npd:pc≠D.da:=fun z=>by rw [z,z2] at hpc; cases hpc
   refine ⟨pc,List.replicate (kvA D.nums D.ts).length false,rfl,SqL.of (by rw [aD npd,aB]),_,rfl,?_⟩
   have s3:aG H1 (upd (upd (upd H1 D.da (.frz o (.dK (kvA D.nums D.ts)))) pc (.lst ((List.replicate (kvA D.nums D.ts).length false).map V.bl))) D.da (.dK (kvA D.nums D.ts))):=fun b' u hb'=>by
    by_cases c:b'=D.da
    ·rw [c] at hb' ⊢
     rw [aB,<- hD1.able]; exact hb'
    ·have n2:b'≠pc:=fun z=>by rw [aD npd] at hpc; rw [z,hpc] at hb'; cases hb'
     rw [aD c,aD n2,aD c]; exact hb'
   generalize upd (upd (upd H1 D.da (.frz o (.dK (kvA D.nums D.ts)))) pc (.lst ((List.replicate (kvA D.nums D.ts).length false).map V.bl))) D.da (.dK (kvA D.nums D.ts))=H4 at s3 ⊢
   refine bS (by simp) ?_
   have s4:=s1.trans s3
   have hx4:=s4 _ _ hD.ins
   refine ⟨_,rfl,x,C,D.dx,_,_,rfl,hx4,T.cl,T.n1,rfl,_,_,rfl,rfl,D.dx,_,hx4,(show (6:Nat) < 1000 by decide),?_⟩
   refine ⟨_,rfl,x,D.dx,_,rfl,aB,rfl,x,{ D with n:=D.n - 1 },0,rfl,aB,?_⟩
   rw [iR]
   refine k _ (fun c' u hc hu=>by rw [aD hc]; exact s4 _ _ hu) ?_
   rw [aB]
   unfold DD.moved DD.gone DD.flds
   simp
end
theorem jZ {nums hs:List Int} (h:hs.length=nums.length):(kvH nums hs).length=nums.length:=by unfold kvH; rw [Qd,Xr,h,Ya]
theorem gR {nums:List Int} {ts:List Addr} (h:ts.length=nums.length):(kvA nums ts).length=nums.length:=by unfold kvA; rw [Qd,Xr,h,Ya]
theorem sF {nums:List Int} {ts:List Addr} (h:ts.length=nums.length) (k:Int) (t:Addr):kvA (nums++[k]) (ts++[t])=kvA nums ts++[(.inl k,.ref t)]:=by
 unfold kvA
 rw [List.zip_append h.symm,Jd]; rfl
theorem aCs {nums hs:List Int} (h:hs.length=nums.length) (k g:Int):kvH (nums++[k]) (hs++[g])=kvH nums hs++[(.inl k,.int g)]:=by
 unfold kvH
 rw [List.zip_append h.symm,Jd]; rfl
theorem kS {nums:List Int} {ts:List Addr} (h:ts.length=nums.length):((kvA nums ts).map fun kv=>kV kv.1)=nums.map V.int:=by
 unfold kvA
 rw [Jw]
 show (nums.zip ts).map (fun p=>V.int p.1)=_
 rw [show (fun p:Int×Addr=>V.int p.1)=V.int ∘ Prod.fst from rfl,<- Jw,List.map_fst_zip (by omega)]
theorem jM {α:Type} {f:α->V}:∀ {nums:List Int} {xs:List α} {k:Int},k∉nums->bJ ((nums.zip xs).map fun p=>((Sum.inl p.1:Key),f p.2)) (.inl k)=none
 | [],_,_,_=>rfl
 | _::_,[],_,_=>rfl
 | n::nums,x::xs,k,h=>by
  have ne:¬ (Sum.inl n:Key)=Sum.inl k:=fun z=>h (by have:n=k:=(by simpa using z); rw [this]; exact Qr ..)
  show bJ (((Sum.inl n:Key),f x)::_) (.inl k)=none
  rw [bL ne]
  exact jM fun z=>h (Qo _ z)
theorem bW {α:Type} {f:α->V}:∀ {nums:List Int} {xs:List α} {k:Int} {i:Nat} {x:α},nums.Nodup->nums[i]?=some k->xs[i]?=some x->bJ ((nums.zip xs).map fun p=>((Sum.inl p.1:Key),f p.2)) (.inl k)=some (f x)
 | [],_,_,_,_,_,h,_=>by simp at h
 | _::_,[],_,_,_,_,_,h=>by simp at h
 | n::nums,y::xs,k,0,x,_,h1,h2=>by
  have e1:n=k:=by simpa using h1
  have e2:y=x:=by simpa using h2
  subst e1 e2
  show bJ (((Sum.inl n:Key),f y)::_) (.inl n)=_
  rw [bO rfl]
 | n::nums,y::xs,k,i+1,x,nd,h1,h2=>by
  have h1':nums[i]?=some k:=by simpa using h1
  have ne:¬ (Sum.inl n:Key)=Sum.inl k:=fun z=>(Qx.mp nd).1 (by have:n=k:=(by simpa using z); rw [this]; exact Qe h1')
  show bJ (((Sum.inl n:Key),f y)::_) (.inl k)=_
  rw [bL ne]
  exact bW (Qx.mp nd).2 h1' (by simpa using h2)
theorem uB {l:List Int} (nd:l.Nodup) {i j:Nat} {x:Int} (a:l[i]?=some x) (b:l[j]?=some x):i=j:=by
 obtain ⟨h1,e1⟩:=Qa.mp a
 obtain ⟨h2,e2⟩:=Qa.mp b
 exact (Yb nd).mp (e1.trans e2.symm)
theorem xR:∀ {nums hs:List Int} {k:Nat} {key v:Int},nums.Nodup->hs.length=nums.length->nums[k]?=some key->cB (kvH nums hs) (.inl key) (.int v)=kvH nums (hs.set k v):=by
 intro nums hs k key v nd hl hk
 have hk2:k < hs.length:=by rw [hl]; exact (Qa.mp hk).1
 have hs':(bJ (kvH nums hs) (.inl key)).isSome=true:=by
  have:=bW (f:=V.int) nd hk (Qc hk2)
  unfold kvH
  rw [this]; rfl
 unfold cB
 rw [eP,hs',if_pos rfl]
 unfold kvH
 rw [Jw]
 refine Yt fun j=>?_
 rw [Qi,Qi]
 cases h1:nums[j]? with
 | none =>
  have e1:(nums.zip hs)[j]?=none:=by rw [Xv] at h1 ⊢; rw [Xr]; omega
  have e2:(nums.zip (hs.set k v))[j]?=none:=by rw [Xv] at h1 ⊢; rw [Xr]; omega
  rw [e1,e2]; rfl
 | some m =>
  have hj:j < hs.length:=by rw [hl]; exact (Qa.mp h1).1
  have e1:(nums.zip hs)[j]?=some (m,hs[j]):=Jb.mpr ⟨h1,Qc hj⟩
  rw [e1]
  by_cases c:j=k
  ·subst c
   have em:m=key:=by rw [hk] at h1; exact (Option.some.inj h1).symm
   have e2:(nums.zip (hs.set j v))[j]?=some (m,v):=Jb.mpr ⟨h1,by rw [Xc,if_pos rfl,if_pos hj]⟩
   rw [e2]
   show some (if (Sum.inl m:Key)=Sum.inl key then _ else _)=some _
   rw [if_pos (by rw [em])]
  ·have e2:(nums.zip (hs.set k v))[j]?=some (m,hs[j]):=Jb.mpr ⟨h1,by rw [Xc,if_neg (Ne.symm c)]; exact Qc hj⟩
   rw [e2]
   have nm:¬ (Sum.inl m:Key)=Sum.inl key:=fun z=>by
    have z':m=key:=by simpa using z
    rw [z'] at h1
    exact c (uB nd h1 hk)
   show some (if (Sum.inl m:Key)=Sum.inl key then _ else _)=some _
   rw [if_neg nm]
theorem nX {α:Type} {f:α->V}:∀ {nums:List Int} {xs:List α} {k:Nat} {key:Int},nums.Nodup->xs.length=nums.length->nums[k]?=some key->nJ ((nums.zip xs).map fun p=>((Sum.inl p.1:Key),f p.2)) (.inl key)=((nums.eraseIdx k).zip (xs.eraseIdx k)).map fun p=>((Sum.inl p.1:Key),f p.2)
 | [],_,_,_,_,_,h=>by simp at h
 | _::_,[],_,_,_,h,_=>by simp at h
 | n::nums,x::xs,0,key,nd,hl,h=>by
  have e:n=key:=by simpa using h
  subst e
  have hn:=(Qx.mp nd).1
  show List.filter _ (_::_)=_
  rw [Jv,if_neg (by simp)]
  refine List.filter_eq_self.mpr fun p hp=>?_
  obtain ⟨q,hq,rfl⟩:=Jm.mp hp
  have:=(Yi hq).1
  simp
  intro z
  exact hn (z ▸ this)
 | n::nums,x::xs,k+1,key,nd,hl,h=>by
  have h':nums[k]?=some key:=by simpa using h
  have ih:=nX (f:=f) (Qx.mp nd).2 (by simpa using hl:xs.length=nums.length) h'
  have ne:¬ n=key:=fun z=>(Qx.mp nd).1 (z ▸ Qe h')
  show List.filter _ (_::_)=_::_
  rw [Jv,if_pos (by simp [ne])]
  congr 1
def bH (x a b:Addr) (H H':Hp):Prop:=∀ c u,c≠x->c≠a->c≠b->H c=some u->H' c=some u
theorem bH.refl (x a b:Addr) (H:Hp):bH x a b H H:=fun _ _ _ _ _ h=>h
theorem bH.trans {x a b:Addr} {H H1 H2:Hp} (p:bH x a b H H1) (q:bH x a b H1 H2):bH x a b H H2:=fun c u h1 h2 h3 h=>q c u h1 h2 h3 (p c u h1 h2 h3 h)
theorem bH.of {x a b:Addr} {H H':Hp} (s:aG H H'):bH x a b H H':=fun c u _ _ _ h=>s c u h
theorem bH.x {x a b:Addr} {H:Hp} {u:HO}:bH x a b H (upd H x u):=fun c v h1 _ _ h=>by rw [aD h1]; exact h
theorem bH.a {x a b:Addr} {H:Hp} {u:HO}:bH x a b H (upd H a u):=fun c v _ h2 _ h=>by rw [aD h2]; exact h
theorem bH.b {x a b:Addr} {H:Hp} {u:HO}:bH x a b H (upd H b u):=fun c v _ _ h3 h=>by rw [aD h3]; exact h
theorem bH.seqT {K:PySem.W.Frag} {x a b t:Addr} {H H':Hp} {xs:List V} {C dx:Addr} {fs:List (Str×V)} {k1 k2:List (Key×V)} (p:bH x a b H H') (hx:H x=some (.ins C dx fs)) (ha:H a=some (.dK k1)) (hb:H b=some (.dK k2)) (h:SqT K H t xs):SqT K H' t xs:=by
 have n:∀ u,H t=some u->(∀ C dx fs,u≠.ins C dx fs)->(∀ k,u≠.dK k)->H' t=some u:=fun u e h1 h2 =>
  p t u (fun z=>by rw [z,hx] at e; exact h1 _ _ _ (Option.some.inj e).symm) (fun z=>by rw [z,ha] at e; exact h2 _ (Option.some.inj e).symm) (fun z=>by rw [z,hb] at e; exact h2 _ (Option.some.inj e).symm) e
 rcases h with (h | ⟨o,h⟩) | h
 ·exact .inl (.inl (n _ h (by intro _ _ _ z; cases z) (by intro _ z; cases z)))
 ·exact .inl (.inr ⟨o,n _ h (by intro _ _ _ z; cases z) (by intro _ z; cases z)⟩)
 ·exact .inr h
theorem xS (hs:List Int) {ss:List (Nat×Int×Int)} {i:Nat} {s:Nat×Int×Int} (h:ss[i]?=some s):goS hs (ss.take (i+1))=(goS hs (ss.take i)).set s.1 s.2.2:=by
 obtain ⟨h1,h2⟩:=Qa.mp h
 rw [Jy h1,h2]
 unfold goS
 rw [List.foldl_append]; rfl
theorem aCt {α:Type} (l:List α) (x y:α):(l++[x]).set l.length y=l++[y]:=by
 rw [List.set_append_right _ _ (Qg _)]; simp
def DD.put (D:DD) (l:List Int) (t:Addr) (hs:List Int) (m:Int):DD:={ D with nx:=D.nx+1,ml:=m,ma:=D.ma+m,nums:=D.nums++[D.nx],ws:=D.ws++[l],hs:=hs,ts:=D.ts++[t] }
structure PutS (D:DD) (l:List Int) (hs:List Int) (m:Int) (ss:List (Nat×Int×Int)) (last:Int):Prop where
 path:bM (D.ws++[l]) (D.hs++[D.n]) D.n ss last
 nd:(D.n::ss.map (·.2.2)).Nodup
 ne:ss≠[]
 hs:hs=goS (D.hs++[D.n]) ss
 m:m=(ss.length:Int) - 1
section
variable {P:Program} {w:World} {K:PySem.W.Frag} {mg:Str->Option Value} {base:Heap} {C:Addr}
def aCu (K:PySem.W.Frag) (C Pt:Addr):Sp:=fun vs H Q _=>∃ (x t:Addr) (D:DD) (l:List Int),vs = [.ref x,.ref t]/\DlH K H C x D/\DlM D/\SqT K H t (l.map V.int)/\cK D.n (fU l)=true/\D.nums.length < 12/\H Pt=some (.tab pT) /\
 ∀ hs m ss last H',bH x D.da D.dh H H'->PutS D l hs m ss last->DlH K H' C x (D.put l t hs m)->DlM (D.put l t hs m)->Q (.int D.nx) H'
theorem sG:FnScope ["self", "able", "steps", "number", "numbers", "work", "giver", "taker"] ["self", "able"] (aH aAV):=⟨rfl,rfl,rfl,by decide +kernel,rfl,by decide +kernel,by decide +kernel⟩
set_option maxHeartbeats 1000000 in
theorem aEH {f fWk fBn fDn fLm fSt fCm Pt:Addr} {fd dWk dBn dDn dLm dSt dCm:FuncData} (G:Mt K C "put" aAV ["self", "able"] f fd) (T:Dc K C) (B:Bl mg) (GWk:Fn K mg "is_work" oU ["hands", "thing"] fWk dWk) (OWk:FnOk P w K mg base CX0 2 fWk dWk ["hands", "thing"] (pZ K)) (GB:Mt K C "book_now" pN ["self"] fBn dBn) (OB:FnOk P w K mg base CX0 1 fBn dBn ["self"] (nU K C)) (GD:Mt K C "deal_now" jV ["self"] fDn dDn) (OD:FnOk P w K mg base CX0 1 fDn dDn ["self"] (lU K C))
  (GLm:Mt K C "loads" mV ["self"] fLm dLm) (OLm:FnOk P w K mg base CX0 2 fLm dLm ["self"] (nV K C)) (GSt:Fn K mg "steps_to_least" jG ["book", "deal", "able", "measures"] fSt dSt) (OSt:FnOk P w K mg base CX0 2 fSt dSt ["book", "deal", "able", "measures"] (vT K Pt)) (GCm:Mt K C "count_moved" jW ["self", "many"] fCm dCm) (OCm:FnOk P w K mg base CX0 1 fCm dCm ["self", "many"] (lV K C)):FnOk P w K mg base CX0 3 f fd ["self", "able"] (aCu K C Pt):=by
 obtain ⟨tmw,hmw⟩:=B.works
 refine G.fn.ok sG (fun vs H Q E h=>?_) (fun cdv A outer s H vs Q E hr h=>?_)
 ·obtain ⟨x,t,D,l,rfl,_⟩:=h
  rfl
 ·obtain ⟨x,t,D,l,rfl,hD,hM,ht,hwk,h12,hT,k⟩:=h
  have r2:Room 2 _:=hr
  have r1:Room 1 _:=hr.mono (by decide)
  refine ⟨_,aC (bA (bY (bP (aZ GWk OWk r2 rfl (aA (cH (pv 0) rfl) (aA (pv 1) aE))))) eV aN)
   (aC (bA (aL dX (aJ lG rfl B.len cG (aA (cH (pv 0) rfl) aE)) (pV (v:=.int 12) rfl hmw ⟨tmw,rfl⟩) (aR _)) eV aN)
   (aC (aM (i:=2) sG.nd rfl (Or.inl rfl) (aZ GSt OSt r2 rfl (aA (bZ (pv 0) T.cl GB.me OB r1 GB.bd .nil dP) (aA (bZ (pv 0) T.cl GD.me OD r1 GD.bd .nil dP) (aA (pv 1) (aA (bZ (pv 0) T.cl GLm.me OLm r2 GLm.bd .nil dP) aE))))))
   (aC (aM (i:=3) sG.nd rfl (Or.inl rfl) (cH (pv 0) rfl))
   (aC (gM (eC hr) (cH (pv 0) rfl) (pv 3) (pv 1) rfl)
   (aC (aM (i:=4) sG.nd rfl (Or.inl rfl) (bV (hX rfl) rfl B.list oR (aA (cH (pv 0) rfl) aE)))
   (aC (gD PassesOwn.never rfl (iS (pv 2)) (mK rfl (cF (aT (i:=5) sG.nd rfl (Or.inl rfl)) (cF (aT (i:=6) sG.nd rfl (Or.inl rfl)) (cF (aT (i:=7) sG.nd rfl (Or.inl rfl)) jS))))
    (aF (gM (eC hr) (cH (pv 0) rfl) (bE bX (pv 4) (pv 5) (fun _ _=>rfl)) (pv 7) rfl)))
   (aC (lB (pv 0) aI yE)
   (aC (cX (lC (pv 0) T.cl GCm.me OCm r1 GCm.bd .nil dP (aA (bC gE (aJ aO rfl B.len cG (aA (pv 2) aE)) aI) aE)))
   (aF (aK (pv 3))))))))))),?_⟩
  obtain ⟨hn1,hn6,hw12,hws⟩:=aS hM.bk
  obtain ⟨hdl,hdm⟩:=cE hM.dl
  obtain ⟨l0,l1,l2⟩:=aX hwk
  have hr':∀ g∈D.hs,0<=g/\g < D.n:=fun g hg=>by
   obtain ⟨i,hi⟩:=Qy.mp hg
   have hl:=Qc (show i < D.ws.length by rw [<- hdl]; exact (Qa.mp hi).1)
   exact (aX (hws _ (Qe hl))).2.1 g (hdm i _ _ hi hl)
  have hnd:D.nums.Nodup:=Jc.mpr (hM.up.imp fun h=>Xu h)
  refine ⟨_,rfl,x,C,D.dx,_,_,rfl,hD.ins,T.cl,T.n1,rfl,_,rfl,D.n,.ref t,fU l,rfl,bR.mpr ⟨t,rfl,ht⟩,_,rfl,bS (by rw [hwk]; rfl) ?_⟩
  refine ⟨_,rfl,x,C,D.dx,_,_,rfl,hD.ins,T.cl,T.n2,rfl,D.da,_,rfl,hD.able,rfl,_,rfl,bS (decide_eq_false fun z=>?_) ?_⟩
  ·injection z with z
   rw [gR hD.tl] at z
   omega
  refine ⟨_,rfl,x,D.dx,_,rfl,hD.ins,rfl,x,D,rfl,hD,fun bp H1 s1 hbp=>?_⟩
  refine ⟨_,rfl,x,D.dx,_,rfl,s1 _ _ hD.ins,rfl,x,D,rfl,hD.same s1,fun dp H2 s2 hdp=>?_⟩
  have s12:=s1.trans s2
  refine ⟨_,rfl,_,rfl,x,D.dx,_,rfl,s12 _ _ hD.ins,rfl,x,D,rfl,hD.same s12,by omega,hn6,fun mp H3 s3 hmp=>?_⟩
  have s13:=s12.trans s3
  refine ⟨.ref bp,dp,t,mp,D.n,D.ws,D.hs,l,bF D.n D.hs,rfl,⟨(s2.trans s3).den _ _ hbp,hM.bk,bR.mpr ⟨dp,rfl,SqT.of (s3 _ _ hdp)⟩,hM.dl⟩,s13.seqT ht,hwk,SqT.of hmp,by unfold bF; rw [Qd,eE],s13 _ _ hT,fun sp H4 ps ss os last s4 nsp esp SS PT ND NE CL hnos hmin hlo hln hss=>?_⟩
  dsimp only [aV]
  have s14:=s13.trans s4
  have hD4:=hD.same s14
  have sz:∀ n:Nat,n < 1000->n < sizeLine:=fun n h=>Yn h (by decide +kernel)
  have nax:D.da≠x:=fun z=>by have:=hD4.able; rw [z,hD4.ins] at this; cases this
  have nhx:D.dh≠x:=fun z=>by have:=hD4.hand; rw [z,hD4.ins] at this; cases this
  refine ⟨_,rfl,x,C,D.dx,_,_,rfl,hD4.ins,T.cl,T.n4,rfl,?_⟩
  dsimp only [aV]
  refine ⟨_,rfl,_,rfl,x,C,D.dx,_,_,rfl,hD4.ins,T.cl,T.n2,rfl,_,rfl,D.da,_,rfl,lX.k (k:=.inl D.nx) hD4.able (sz _ (by rw [gR hD.tl]; omega)),?_⟩
  have hnew:D.nx∉D.nums:=fun z=>by have:=hM.few _ z; omega
  have e5:cB (kvA D.nums D.ts) (.inl D.nx) (.ref t)=kvA (D.nums++[D.nx]) (D.ts++[t]):=by
   rw [sF hD.tl]
   exact gT _ (jM hnew)
  rw [e5]
  have x5:upd H4 D.da (.dK (kvA (D.nums++[D.nx]) (D.ts++[t]))) x=some (.ins C D.dx D.flds):=by rw [aD nax.symm]; exact hD4.ins
  have a5:upd H4 D.da (.dK (kvA (D.nums++[D.nx]) (D.ts++[t]))) D.da=some (.dK (kvA (D.nums++[D.nx]) (D.ts++[t]))):=aB
  have h5:upd H4 D.da (.dK (kvA (D.nums++[D.nx]) (D.ts++[t]))) D.dh=some (.dK (kvH D.nums D.hs)):=by rw [aD hD.ne.symm]; exact hD4.hand
  have nspa:sp≠D.da:=fun z=>by rw [z,hD4.able] at esp; cases esp
  have sp5:upd H4 D.da (.dK (kvA (D.nums++[D.nx]) (D.ts++[t]))) sp=some (.lst (ps.map V.ref)):=by rw [aD nspa]; exact esp
  have SS5:StepsAt (upd H4 D.da (.dK (kvA (D.nums++[D.nx]) (D.ts++[t])))) ps ss:=⟨SS.len,fun i p s' a b=>by
   have:=SS.at_ i p s' a b
   rw [aD (fun z=>by rw [z,hD4.able] at this; cases this)]; exact this⟩
  have b5:bH x D.da D.dh H (upd H4 D.da (.dK (kvA (D.nums++[D.nx]) (D.ts++[t])))):=(bH.of s14).trans bH.a
  generalize upd H4 D.da (.dK (kvA (D.nums++[D.nx]) (D.ts++[t])))=H5 at x5 a5 h5 sp5 SS5 b5 ⊢
  refine ⟨_,rfl,x,C,D.dx,_,_,rfl,x5,T.cl,T.n2,rfl,D.da,_,rfl,.inl a5,fun np hnp=>?_⟩
  dsimp only [aV]
  rw [kS (by rw [Qh,Qh,hD.tl]; rfl)]
  have s6:=aG.new (o:=.lst ((D.nums++[D.nx]).map V.int)) hnp
  have np6:upd H5 np (.lst ((D.nums++[D.nx]).map V.int)) np=some (.lst ((D.nums++[D.nx]).map V.int)):=aB
  have x6:=s6 _ _ x5
  have a6:=s6 _ _ a5
  have h6:=s6 _ _ h5
  have sp6:=s6 _ _ sp5
  have SS6:StepsAt (upd H5 np (.lst ((D.nums++[D.nx]).map V.int))) ps ss:=⟨SS5.len,fun i p s' a b=>s6 _ _ (SS5.at_ i p s' a b)⟩
  have b6:=b5.trans (bH.of (x:=x) (a:=D.da) (b:=D.dh) s6)
  generalize upd H5 np (.lst ((D.nums++[D.nx]).map V.int))=H6 at s6 np6 x6 a6 h6 sp6 SS6 b6 ⊢
  have nnh:np≠D.dh:=fun z=>by rw [z,h6] at np6; cases np6
  have nsh:sp≠D.dh:=fun z=>by rw [z,h6] at sp6; cases sp6
  have hcl:(D.hs++[D.n]).length=(D.nums++[D.nx]).length:=by rw [Qh,Qh,hD.hl]; rfl
  have hnd':(D.nums++[D.nx]).Nodup:=Jr.mpr ⟨hnd,by simp,fun a ha b hb=>by
   have e:b=D.nx:=by simpa using hb
   rw [e]; exact fun z=>hnew (z ▸ ha)⟩
  refine ⟨_,rfl,sp,rfl,⟨_,SqL.of sp6⟩,qO (K:=K) (a:=sp) (xs:=ps.map V.ref) (fun i σ H'=>∃ v5 v6 v7,σ = [some (.ref x),some (.ref t),some (.ref sp),some (.int D.nx),some (.ref np),v5,v6,v7]/\But D.dh H6 H'/\H' D.dh=some (.dK (if i=0 then kvH D.nums D.hs else kvH (D.nums++[D.nx]) (goS (D.hs++[D.n]) (ss.take i))))) ⟨none,none,none,rfl,But.refl _ _,h6⟩ (fun i σ H' _ ⟨_,_,_,_,b,_⟩=>SqL.of (b _ _ nsh sp6)) ?_ ?_⟩
  ·rintro i y σ H' hy ⟨v5,v6,v7,rfl,b7,h7⟩
   rw [Qi] at hy
   obtain ⟨p,hp,rfl⟩:=Qv.mp hy
   have hi:i < ss.length:=by rw [<- SS.len]; exact (Qa.mp hp).1
   obtain ⟨s',hs'⟩:∃ s',ss[i]?=some s':=⟨_,Qc hi⟩
   have hpt:=SS6.at_ i p s' hp hs'
   have hpt7:=b7 _ _ (fun z=>by rw [z,h6] at hpt; cases hpt) hpt
   have x7:=b7 _ _ nhx.symm x6
   have np7:=b7 _ _ nnh np6
   have ed:=cL PT s' (Qe hs')
   have hkey:s'.1 < (D.nums++[D.nx]).length:=by rw [<- hcl]; exact (Qa.mp ed.1).1
   obtain ⟨key,hkey'⟩:∃ key,(D.nums++[D.nx])[s'.1]?=some key:=⟨_,Qc hkey⟩
   refine ⟨p,_,rfl,SqT.of hpt7,rfl,_,_,rfl,_,_,rfl,_,_,rfl,rfl,?_⟩
   dsimp only [aV]
   refine ⟨_,rfl,_,rfl,x,C,D.dx,_,_,rfl,x7,T.cl,T.n3,rfl,_,rfl,_,rfl,np,_,(s'.1:Int),.int key,rfl,rfl,SqL.of np7,?_,D.dh,_,rfl,lX.k (k:=.inl key) h7 ?_,?_⟩
   ·show atI _ _=_
    exact eS (by rw [Qi,hkey']; rfl)
   ·refine sz _ ?_
    by_cases c:i=0
    ·rw [if_pos c,jZ hD.hl]; omega
    ·rw [if_neg c,jZ (by rw [iA]; exact hcl),Qh]
     show D.nums.length+1 < 1000
     omega
   ·refine ⟨_,_,_,rfl,b7.trans But.at,?_⟩
    rw [aB,if_neg (Nat.succ_ne_zero i),xS _ hs']
    by_cases c:i=0
    ·subst c
     rw [if_pos rfl]
     have eg:s'.2.1=D.n:=by
      cases ss with
      | nil=>simp at hs'
      | cons s0 ss =>
       have e:s0=s':=by simpa using hs'
       rw [<- e]; exact PT.1
     have ew:s'.1=D.hs.length:=by
      by_cases d:s'.1 < D.hs.length
      ·have:=ed.1
       rw [Ql d] at this
       have:=hr' _ (Qe this)
       omega
      ·rw [Qh] at hkey
       have:s'.1 < D.nums.length+1:=hkey
       have:=hD.hl
       omega
     have ek:key=D.nx:=by
      rw [ew,hD.hl,Qt (Qg _),Jz] at hkey'
      simpa using hkey'.symm
     rw [ek,List.take_zero]
     show some (HO.dK (cB (kvH D.nums D.hs) (.inl D.nx) (.int s'.2.2)))=some (.dK (kvH (D.nums++[D.nx]) ((D.hs++[D.n]).set s'.1 s'.2.2)))
     rw [ew,aCt,aCs hD.hl]
     exact congrArg (fun z=>some (HO.dK z)) (gT _ (jM hnew))
    ·rw [if_neg c]
     exact congrArg (fun z=>some (HO.dK z)) (xR hnd' (by rw [iA]; exact hcl) hkey')
  ·rintro σ H7 ⟨v5,v6,v7,rfl,b7,h7⟩
   have sl:(ps.map V.ref).length=ss.length:=by rw [Qd,SS.len]
   rw [sl,if_neg (by intro z; exact NE (Xp.mp z)),Ju] at h7
   have x7:=b7 _ _ nhx.symm x6
   have a7:=b7 _ _ hD.ne a6
   have sp7:=b7 _ _ nsh sp6
   have b07:bH x D.da D.dh H H7:=b6.trans fun c u _ _ h3 hu=>b7 _ _ h3 hu
   refine ⟨_,rfl,x,C,D.dx,_,_,rfl,x7,T.cl,T.n4,rfl,_,_,rfl,rfl,D.dx,_,x7,(show (6:Nat) < 1000 by decide),?_⟩
   refine ⟨_,rfl,x,D.dx,_,rfl,aB,rfl,_,rfl,sp,_,rfl,.inl (SqL.of (by rw [aD (fun z=>by rw [z,x7] at sp7; cases sp7)]; exact sp7)),_,_,rfl,rfl,x,{ D with nx:=D.nx+1 },(ss.length:Int) - 1,?_,aB,?_⟩
   ·rw [sl]; rfl
   rw [iR]
   refine ⟨_,rfl,?_⟩
   have b08:bH x D.da D.dh H (upd H7 x (.ins C D.dx (D.put l t (goS (D.hs++[D.n]) ss) ((ss.length:Int) - 1)).flds)):=b07.trans bH.x
   have lr:=hmin last hlo hln
   have ld:∀ o:Int,0<=o->o < D.n->(bF D.n D.hs).getD o.toNat 0=((D.hs.count o:Nat):Int):=fun o h1 h2=>by
    rw [Jl,gJ (by omega),show ((o.toNat:Nat):Int)=o by omega]; rfl
   obtain ⟨lv,L⟩:=hM.lv
   obtain ⟨⟨lv',L'⟩,ins'⟩:=aEF L hdl hr' (fun l' hl'=>(aX (hws l' hl')).2.1) l1 hdm PT ND NE CL hnos (fun o ho hno=>by
    have q:=hmin o ho hno
    rw [ld _ lr.1 lr.2.1,ld _ q.1 q.2.1] at q
    exact q) hlo hln hss
   have hgl:(goS (D.hs++[D.n]) ss).length=D.nums.length+1:=by rw [iA,hcl,Qh]; rfl
   refine k (goS (D.hs++[D.n]) ss) ((ss.length:Int) - 1) ss last _ b08 ⟨PT,ND,NE,rfl,rfl⟩ ⟨aB,(aD nax).trans a7,(aD nhx).trans h7,?_,?_,?_,fun i t' l' q1 q2=>?_,hD.ne⟩ ⟨?_,?_,?_,?_,?_,lv',L'⟩
   ·show (D.ts++[t]).length=(D.nums++[D.nx]).length
    rw [Qh,Qh,hD.tl]; rfl
   ·show (D.ws++[l]).length=(D.nums++[D.nx]).length
    rw [Qh,Qh,hD.wl]; rfl
   ·show (goS (D.hs++[D.n]) ss).length=(D.nums++[D.nx]).length
    rw [hgl,Qh]; rfl
   ·refine b08.seqT hD.ins hD.able hD.hand ?_
    have q1':(D.ts++[t])[i]?=some t':=q1
    have q2':(D.ws++[l])[i]?=some l':=q2
    by_cases c:i < D.ts.length
    ·rw [Ql c] at q1'
     rw [Ql (by rw [hD.wl,<- hD.tl]; exact c)] at q2'
     exact hD.tup i t' l' q1' q2'
    ·have ci:i=D.ts.length:=by
      have:=(Qa.mp q1').1
      rw [Qh] at this
      have:i < D.ts.length+1:=this
      omega
     have cw:D.ts.length=D.ws.length:=by rw [hD.tl,hD.wl]
     rw [ci,Qt (Qg _),Jz] at q1'
     rw [ci,cw,Qt (Qg _),Jz] at q2'
     have e1:t=t':=by simpa using q1'
     have e2:l=l':=by simpa using q2'
     rw [<- e1,<- e2]; exact ht
   ·refine gQ hn1 hn6 ?_ fun l' hl'=>?_
    ·show (D.ws++[l]).length<=12
     rw [Qh,hD.wl]
     show D.nums.length+1<=12
     omega
    ·have hl2:l'∈D.ws++[l]:=hl'
     rcases Jo.mp hl2 with z | z
     ·exact hws l' z
     ·rw [show l'=l by simpa using z]; exact hwk
   ·refine vQ ?_ ins'
    show (goS (D.hs++[D.n]) ss).length=(D.ws++[l]).length
    rw [hgl,Qh,hD.wl]; rfl
   ·show (D.nums++[D.nx]).Pairwise (· < ·)
    refine Yd.mpr ⟨hM.up,Yv _ _,fun a ha b hb=>?_⟩
    rw [show b=D.nx by simpa using hb]
    exact (hM.few a ha).2
   ·intro k' hk'
    have hk2:k'∈D.nums++[D.nx]:=hk'
    show 0<=k'/\k' < D.nx+1
    have n0:=hM.nx
    rcases Jo.mp hk2 with z | z
    ·have:=hM.few k' z
     omega
    ·rw [show k'=D.nx by simpa using z]; omega
   ·have:=hM.nx
    show 0<=D.nx+1
    omega
def DD.take (D:DD) (k:Nat) (ss:List (Nat×Int×Int)):DD:={ D with ml:=(ss.length:Int),ma:=D.ma+(ss.length:Int),nums:=D.nums.eraseIdx k,ws:=D.ws.eraseIdx k,hs:=(goS D.hs ss).eraseIdx k,ts:=D.ts.eraseIdx k }
def zD (K:PySem.W.Frag) (C:Addr):Sp:=fun vs H Q _=>∃ (x:Addr) (D:DD) (num:Int) (k:Nat) (last:Int),vs = [.ref x,.int num]/\DlH K H C x D/\DlM D/\D.nums[k]?=some num/\D.hs[k]?=some last /\
 ∀ ss H',bH x D.da D.dh H H'->pQ D.n D.ws D.hs last D.n ss->DlH K H' C x (D.take k ss)->DlM (D.take k ss)->Q .non H'
theorem pC:FnScope ["self", "number", "numbers", "steps", "work", "giver", "taker"] ["self", "number"] (aH tW):=⟨rfl,rfl,rfl,by decide +kernel,rfl,by decide +kernel,by decide +kernel⟩
set_option maxHeartbeats 1000000 in
theorem aDu {f fWh fBn fDn fTk fCm:Addr} {fd dWh dBn dDn dTk dCm:FuncData} (G:Mt K C "take" tW ["self", "number"] f fd) (T:Dc K C) (B:Bl mg) (GWh:Fn K mg "is_whole" kP ["thing"] fWh dWh) (OWh:FnOk P w K mg base CX0 1 fWh dWh ["thing"] (lL K)) (GB:Mt K C "book_now" pN ["self"] fBn dBn) (OB:FnOk P w K mg base CX0 1 fBn dBn ["self"] (nU K C)) (GD:Mt K C "deal_now" jV ["self"] fDn dDn) (OD:FnOk P w K mg base CX0 1 fDn dDn ["self"] (lU K C))
  (GTk:Fn K mg "steps_of_take" nN ["book", "deal", "work"] fTk dTk) (OTk:FnOk P w K mg base CX0 2 fTk dTk ["book", "deal", "work"] (vU K)) (GCm:Mt K C "count_moved" jW ["self", "many"] fCm dCm) (OCm:FnOk P w K mg base CX0 1 fCm dCm ["self", "many"] (lV K C)):FnOk P w K mg base CX0 3 f fd ["self", "number"] (zD K C):=by
 refine G.fn.ok pC (fun vs H Q E h=>?_) (fun cdv A outer s H vs Q E hr h=>?_)
 ·obtain ⟨x,D,num,k,last,rfl,_⟩:=h
  rfl
 ·obtain ⟨x,D,num,kk,last,rfl,hD,hM,hnum,hlast,k⟩:=h
  have r2:Room 2 _:=hr
  have r1:Room 1 _:=hr.mono (by decide)
  refine ⟨_,aC (bA (PW.pt (dF (bY (bP (aZ GWh OWh r1 rfl (aA (pv 1) aE)))) (cW (oF (oP (eC hr) (pv 1) (cH (pv 0) rfl)) (by with_unfolding_all rfl))))) eV aN)
   (aC (aM (i:=2) pC.nd rfl (Or.inl rfl) (bV (hX rfl) rfl B.list oR (aA (cH (pv 0) rfl) aE)))
   (aC (aM (i:=3) pC.nd rfl (Or.inl rfl) (aZ GTk OTk r2 rfl (aA (bZ (pv 0) T.cl GB.me OB r1 GB.bd .nil dP) (aA (bZ (pv 0) T.cl GD.me OD r1 GD.bd .nil dP) (aA (pL PySem.F.plainAttrs_list PySem.F.slot_list_index PySem.F.type_list_index aAH (pv 2) (aA (pv 1) aE)) aE)))))
   (aC (gD PassesOwn.never rfl (iS (pv 3)) (mK rfl (cF (aT (i:=4) pC.nd rfl (Or.inl rfl)) (cF (aT (i:=5) pC.nd rfl (Or.inl rfl)) (cF (aT (i:=6) pC.nd rfl (Or.inl rfl)) jS))))
    (aF (gM (eC hr) (cH (pv 0) rfl) (bE bX (pv 2) (pv 4) (fun _ _=>rfl)) (pv 6) rfl)))
   (aC (cX (rK (cH (pv 0) rfl) (pv 1) ⟨rfl,rfl,rfl,rfl⟩))
   (aC (cX (rK (cH (pv 0) rfl) (pv 1) ⟨rfl,rfl,rfl,rfl⟩))
   (aF (cX (lC (pv 0) T.cl GCm.me OCm r1 GCm.bd .nil dP (aA (aJ aO rfl B.len cG (aA (pv 3) aE)) aE))))))))),?_⟩
  obtain ⟨hn1,hn6,hw12,hws⟩:=aS hM.bk
  obtain ⟨hdl,hdm⟩:=cE hM.dl
  have hr':∀ g∈D.hs,0<=g/\g < D.n:=fun g hg=>by
   obtain ⟨i,hi⟩:=Qy.mp hg
   have hl:=Qc (show i < D.ws.length by rw [<- hdl]; exact (Qa.mp hi).1)
   exact (aX (hws _ (Qe hl))).2.1 g (hdm i _ _ hi hl)
  have hnd:D.nums.Nodup:=Jc.mpr (hM.up.imp fun h=>Xu h)
  have sz:∀ n:Nat,n < 1000->n < sizeLine:=fun n h=>Yn h (by decide +kernel)
  have n12:D.nums.length<=12:=by rw [<- hD.wl]; exact hw12
  obtain ⟨t0,ht0⟩:∃ t0,D.ts[kk]?=some t0:=⟨_,Qc (by rw [hD.tl]; exact (Qa.mp hnum).1)⟩
  have va:bJ (kvA D.nums D.ts) (.inl num)=some (.ref t0):=bW hnd hnum ht0
  refine ⟨_,rfl,.int num,.int num,rfl,eI.mpr rfl,_,rfl,bS rfl ?_⟩
  refine ⟨_,rfl,_,rfl,x,C,D.dx,_,_,rfl,hD.ins,T.cl,T.n2,rfl,D.da,_,rfl,gG.k (k:=.inl num) hD.able,_,rfl,bS (by rw [va]; rfl) ?_⟩
  refine ⟨_,rfl,x,C,D.dx,_,_,rfl,hD.ins,T.cl,T.n2,rfl,D.da,_,rfl,.inl hD.able,fun np hnp=>?_⟩
  dsimp only [aV]
  rw [kS hD.tl]
  have s1:=aG.new (o:=.lst (D.nums.map V.int)) hnp
  have np1:upd H np (.lst (D.nums.map V.int)) np=some (.lst (D.nums.map V.int)):=aB
  generalize upd H np (.lst (D.nums.map V.int))=H1 at s1 np1 ⊢
  have hD1:=hD.same s1
  refine ⟨_,rfl,x,D.dx,_,rfl,hD1.ins,rfl,x,D,rfl,hD1,fun bp H2 s2 hbp=>?_⟩
  have hD2:=hD1.same s2
  refine ⟨_,rfl,x,D.dx,_,rfl,hD2.ins,rfl,x,D,rfl,hD2,fun dp H3 s3 hdp=>?_⟩
  have s23:=s2.trans s3
  have np3:=s23 _ _ np1
  refine ⟨_,rfl,.inl ⟨rfl,_,SqL.of np3⟩,_,rfl,np,D.nums,num,kk,rfl,rfl,SqL.of np3,hnum,fun m hm hm2=>Qz hm (uB hnd hm2 hnum),?_⟩
  refine ⟨.ref bp,.ref dp,D.n,D.ws,D.hs,kk,last,rfl,⟨s3.den _ _ hbp,hM.bk,bR.mpr ⟨dp,rfl,SqT.of hdp⟩,hM.dl⟩,hlast,fun sp H4 ps ss s4 nsp esp SS TK=>?_⟩
  dsimp only [aV]
  have s14:=s1.trans (s23.trans s4)
  have hD4:=hD.same s14
  have np4:=s4 _ _ np3
  have nax:D.da≠x:=fun z=>by have:=hD4.able; rw [z,hD4.ins] at this; cases this
  have nhx:D.dh≠x:=fun z=>by have:=hD4.hand; rw [z,hD4.ins] at this; cases this
  have nsa:sp≠D.da:=fun z=>by rw [z,hD4.able] at esp; cases esp
  have nsh:sp≠D.dh:=fun z=>by rw [z,hD4.hand] at esp; cases esp
  have nsx:sp≠x:=fun z=>by rw [z,hD4.ins] at esp; cases esp
  have nnh:np≠D.dh:=fun z=>by rw [z,hD4.hand] at np4; cases np4
  have key:∀ (i:Nat) (s':Nat×Int×Int),ss[i]?=some s'->s'.1 < D.hs.length:=fun i s' h=>by
   rcases TK with ⟨e,_⟩ | ⟨h0,_,p,_⟩
   ·subst e; simp at h
   ·exact (Qa.mp (cL p s' (Qe h)).1).1
  refine ⟨_,rfl,sp,rfl,⟨_,SqL.of esp⟩,qO (K:=K) (a:=sp) (xs:=ps.map V.ref) (fun i σ H'=>∃ v5 v6 v7,σ = [some (.ref x),some (.int num),some (.ref np),some (.ref sp),v5,v6,v7]/\But D.dh H4 H'/\H' D.dh=some (.dK (kvH D.nums (goS D.hs (ss.take i))))) ⟨none,none,none,rfl,But.refl _ _,hD4.hand⟩ (fun i σ H' _ ⟨_,_,_,_,b,_⟩=>SqL.of (b _ _ nsh esp)) ?_ ?_⟩
  ·rintro i y σ H' hy ⟨v5,v6,v7,rfl,b7,h7⟩
   rw [Qi] at hy
   obtain ⟨p,hp,rfl⟩:=Qv.mp hy
   have hi:i < ss.length:=by rw [<- SS.len]; exact (Qa.mp hp).1
   obtain ⟨s',hs'⟩:∃ s',ss[i]?=some s':=⟨_,Qc hi⟩
   have hpt:=SS.at_ i p s' hp hs'
   have hpt7:=b7 _ _ (fun z=>by rw [z,hD4.hand] at hpt; cases hpt) hpt
   have x7:=b7 _ _ nhx.symm hD4.ins
   have np7:=b7 _ _ nnh np4
   have hkey:=key i s' hs'
   rw [hD.hl] at hkey
   obtain ⟨key',hkey'⟩:∃ key',D.nums[s'.1]?=some key':=⟨_,Qc hkey⟩
   refine ⟨p,_,rfl,SqT.of hpt7,rfl,_,_,rfl,_,_,rfl,_,_,rfl,rfl,?_⟩
   dsimp only [aV]
   refine ⟨_,rfl,_,rfl,x,C,D.dx,_,_,rfl,x7,T.cl,T.n3,rfl,_,rfl,_,rfl,np,_,(s'.1:Int),.int key',rfl,rfl,SqL.of np7,?_,D.dh,_,rfl,lX.k (k:=.inl key') h7 ?_,?_⟩
   ·show atI _ _=_
    exact eS (by rw [Qi,hkey']; rfl)
   ·refine sz _ ?_
    rw [jZ (by rw [iA]; exact hD.hl)]; omega
   ·refine ⟨_,_,_,rfl,b7.trans But.at,?_⟩
    rw [aB,xS _ hs']
    exact congrArg (fun z=>some (HO.dK z)) (xR hnd (by rw [iA]; exact hD.hl) hkey')
  ·rintro σ H7 ⟨v5,v6,v7,rfl,b7,h7⟩
   have sl:(ps.map V.ref).length=ss.length:=by rw [Qd,SS.len]
   rw [sl,Ju] at h7
   have x7:=b7 _ _ nhx.symm hD4.ins
   have a7:=b7 _ _ hD.ne hD4.able
   have sp7:=b7 _ _ nsh esp
   have b07:bH x D.da D.dh H H7:=(bH.of s14).trans fun c u _ _ h3 hu=>b7 _ _ h3 hu
   have hgl:(goS D.hs ss).length=D.nums.length:=by rw [iA]; exact hD.hl
   obtain ⟨g0,hg0⟩:∃ g0,(goS D.hs ss)[kk]?=some g0:=⟨_,Qc (by rw [hgl]; exact (Qa.mp hnum).1)⟩
   have vh:bJ (kvH D.nums (goS D.hs ss)) (.inl num)=some (.int g0):=bW hnd hnum hg0
   have da:nJ (kvA D.nums D.ts) (.inl num)=kvA (D.nums.eraseIdx kk) (D.ts.eraseIdx kk):=nX hnd hD.tl hnum
   have dh:nJ (kvH D.nums (goS D.hs ss)) (.inl num)=kvH (D.nums.eraseIdx kk) ((goS D.hs ss).eraseIdx kk):=nX hnd hgl hnum
   refine ⟨_,rfl,x,C,D.dx,_,_,rfl,x7,T.cl,T.n2,rfl,D.da,rfl,.inl ⟨_,.inl a7⟩,_,rfl,_,.inl num,_,a7,rfl,va,?_⟩
   rw [da]
   have x8:upd H7 D.da (.dK (kvA (D.nums.eraseIdx kk) (D.ts.eraseIdx kk))) x=some (.ins C D.dx D.flds):=(aD nax.symm).trans x7
   have h8:upd H7 D.da (.dK (kvA (D.nums.eraseIdx kk) (D.ts.eraseIdx kk))) D.dh=some (.dK (kvH D.nums (goS D.hs ss))):=(aD hD.ne.symm).trans h7
   have a8:upd H7 D.da (.dK (kvA (D.nums.eraseIdx kk) (D.ts.eraseIdx kk))) D.da=some (.dK (kvA (D.nums.eraseIdx kk) (D.ts.eraseIdx kk))):=aB
   have sp8:upd H7 D.da (.dK (kvA (D.nums.eraseIdx kk) (D.ts.eraseIdx kk))) sp=some (.lst (ps.map V.ref)):=(aD nsa).trans sp7
   have b08:bH x D.da D.dh H (upd H7 D.da (.dK (kvA (D.nums.eraseIdx kk) (D.ts.eraseIdx kk)))):=b07.trans bH.a
   generalize upd H7 D.da (.dK (kvA (D.nums.eraseIdx kk) (D.ts.eraseIdx kk)))=H8 at x8 h8 a8 sp8 b08 ⊢
   refine ⟨_,rfl,x,C,D.dx,_,_,rfl,x8,T.cl,T.n3,rfl,D.dh,rfl,.inl ⟨_,.inl h8⟩,_,rfl,_,.inl num,_,h8,rfl,vh,?_⟩
   rw [dh]
   have x9:upd H8 D.dh (.dK (kvH (D.nums.eraseIdx kk) ((goS D.hs ss).eraseIdx kk))) x=some (.ins C D.dx D.flds):=(aD nhx.symm).trans x8
   have a9:upd H8 D.dh (.dK (kvH (D.nums.eraseIdx kk) ((goS D.hs ss).eraseIdx kk))) D.da=some (.dK (kvA (D.nums.eraseIdx kk) (D.ts.eraseIdx kk))):=(aD hD.ne).trans a8
   have h9:upd H8 D.dh (.dK (kvH (D.nums.eraseIdx kk) ((goS D.hs ss).eraseIdx kk))) D.dh=some (.dK (kvH (D.nums.eraseIdx kk) ((goS D.hs ss).eraseIdx kk))):=aB
   have sp9:upd H8 D.dh (.dK (kvH (D.nums.eraseIdx kk) ((goS D.hs ss).eraseIdx kk))) sp=some (.lst (ps.map V.ref)):=(aD nsh).trans sp8
   have b09:bH x D.da D.dh H (upd H8 D.dh (.dK (kvH (D.nums.eraseIdx kk) ((goS D.hs ss).eraseIdx kk)))):=b08.trans bH.b
   generalize upd H8 D.dh (.dK (kvH (D.nums.eraseIdx kk) ((goS D.hs ss).eraseIdx kk)))=H9 at x9 h9 a9 sp9 b09 ⊢
   refine ⟨_,rfl,x,D.dx,_,rfl,x9,rfl,_,rfl,sp,_,rfl,.inl (SqL.of sp9),x,D,(ss.length:Int),?_,x9,?_⟩
   ·rw [sl]; rfl
   obtain ⟨lv,L⟩:=hM.lv
   obtain ⟨⟨lv',L'⟩,ins'⟩:=aDn L hlast hr' hdm TK
   refine k ss _ (b09.trans bH.x) TK ⟨aB,(aD nax).trans a9,(aD nhx).trans h9,?_,?_,?_,fun i t' l' q1 q2=>?_,hD.ne⟩ ⟨?_,?_,?_,?_,hM.nx,lv',L'⟩
   ·show (D.ts.eraseIdx kk).length=(D.nums.eraseIdx kk).length
    rw [Jg,Jg,hD.tl]
   ·show (D.ws.eraseIdx kk).length=(D.nums.eraseIdx kk).length
    rw [Jg,Jg,hD.wl]
   ·show ((goS D.hs ss).eraseIdx kk).length=(D.nums.eraseIdx kk).length
    rw [Jg,Jg,hgl]
   ·exact (b09.trans bH.x).seqT hD.ins hD.able hD.hand (hD.tup _ t' l' (eY q1) (eY q2))
   ·refine gQ hn1 hn6 (Ja (Yw ..) hw12) fun l' hl'=>hws l' (Xx hl')
   ·refine vQ ?_ fun j h l q1 q2=>ins' _ h l (eY q1) (eY q2)
    show ((goS D.hs ss).eraseIdx kk).length=(D.ws.eraseIdx kk).length
    rw [Jg,Jg,hgl,hD.wl]
   ·exact hM.up.sublist (Zg ..)
   ·exact fun k' hk'=>hM.few k' (Xx hk')
end
end Ab
namespace L2
open PySem
theorem aDv {X:Cx} {K:PySem.W.Frag} {tg l:Expr} {tl:TE} (hK:X.K=K) (hl:PE X l tl):PI X tg l (aE1 K tl):=by subst hK; exact mM hl
theorem aDw {X:Cx} {K:PySem.W.Frag} {e:Expr} {f:Str} {pos:Pos} {ta:TE} (hK:X.K=K) (he:PE X e ta) (hb:attributeBase e f X.env (eval e X.env)=eval e X.env):PE X (.Attribute e f pos) (aE5 K ta f):=by subst hK; exact cH he hb
end L2
namespace Ab
open PySem L2
section
variable {P:Program} {w:World} {K:PySem.W.Frag} {mg:Str->Option Value} {base:Heap} {C:Addr}
def kT (K:PySem.W.Frag) (C:Addr):Sp:=fun vs H Q _=>∃ (x:Addr) (D:DD),vs = [.ref x]/\DlH K H C x D/\DlM D /\
 ∀ p ts H',aG H H'->H p=none->H' p=some (.dK (kvA D.nums ts))->ts.length=D.nums.length->(∀ (i:Nat) t l,ts[i]?=some t->D.ws[i]?=some l->SqT K H' t (l.map V.int))->Q (.ref p) H'
def aDx:Scope:={ kind:=.function,names:=[(".0",.local),("number",.local),("tuple",.globalImplicit),("self",.free)],isGenerator:=false,isCoroutine:=false }
theorem aCv:FnScope ["self"] ["self"] (aH jX):=⟨rfl,rfl,rfl,by decide +kernel,rfl,by decide +kernel,by decide +kernel⟩
set_option maxHeartbeats 1000000 in
theorem aA1 {f:Addr} {fd:FuncData} (G:Mt K C "works" jX ["self"] f fd) (T:Dc K C) (B:Bl mg):FnOk P w K mg base CX0 1 f fd ["self"] (kT K C):=by
 refine G.fn.ok aCv (fun vs H Q E h=>?_) (fun cdv A outer s H vs Q E hr h=>?_)
 ·obtain ⟨x,D,rfl,_⟩:=h
  rfl
 ·obtain ⟨x,D,rfl,hD,hM,k⟩:=h
  refine ⟨_,aF (aK (aAT (own:=["number"]) (fr:=[0]) (frn:=["self"]) (bD (aH jX) ["self"] rfl rfl (by decide +kernel)) rfl (cH (pv 0) rfl)
   (fun _ _ _ _=>(aT (i:=0) (show (["number", "self"]:List Str).Nodup by decide +kernel) rfl (Or.inl rfl))) (fun _ _ _ _=>dQ)
   (fun _ _ _ _=>pv 0)
   (fun _ _ _ _=>bV (rV (K:=K) rfl) rfl B.tuple dY (aA (cZ (own:=["hand"]) (fr:=[]) (frn:=[]) (bD (aFC aDx (aH jX)) ["number", "self"] rfl rfl (by decide +kernel)) rfl (aDv (K:=K) rfl (aQ (eC hr) (aDw (K:=K) rfl (pv 1) rfl) (pv 0) (fun _ _=>rfl)))
    (fun _ _ _ _=>(aT (i:=0) (show (["hand"]:List Str).Nodup by decide +kernel) rfl (Or.inl rfl))) (fun _ _ _ _=>dQ)
    (fun _ _ _ _=>pv 0)) aE)))),?_⟩
  obtain ⟨hn1,hn6,hw12,hws⟩:=aS hM.bk
  have hnd:D.nums.Nodup:=Jc.mpr (hM.up.imp fun h=>Xu h)
  have n12:D.nums.length<=12:=by rw [<- hD.wl]; exact hw12
  refine ⟨_,rfl,x,C,D.dx,_,_,rfl,hD.ins,T.cl,T.n2,rfl,D.da,_,rfl,hD.able,fun o=>?_⟩
  have z2:upd H D.da (.frz o (.dK (kvA D.nums D.ts))) D.da=some (.frz o (.dK (kvA D.nums D.ts))):=aB
  have b2:But D.da H (upd H D.da (.frz o (.dK (kvA D.nums D.ts)))):=But.at
  have back:∀ {H2:Hp} {c:Addr} {u:HO},aG (upd H D.da (.frz o (.dK (kvA D.nums D.ts)))) H2->c≠D.da->H c=some u->H2 c=some u:=fun s hc hu=>s _ _ (b2 _ _ hc hu)
  have hkl:(kvA D.nums D.ts).length=D.nums.length:=gR hD.tl
  have nax:D.da≠x:=fun z=>by have:=hD.able; rw [z,hD.ins] at this; cases this
  generalize hHf:upd H D.da (.frz o (.dK (kvA D.nums D.ts)))=Hf at z2 b2 back
  refine aB3 (a:=D.da) (o:=o) (kvs:=kvA D.nums D.ts) (fun σ=>∃ u,σ = [u,some (.ref x)]) (fun i ys H2=>aG Hf H2/\∃ ts',ys=kvA (D.nums.take i) ts'/\ts'.length=(D.nums.take i).length/\∀ (j:Nat) t l,ts'[j]?=some t->D.ws[j]?=some l->SqT K H2 t (l.map V.int)) (fZ (by omega)) ⟨none,rfl⟩ ⟨aG.refl _,[],rfl,rfl,fun j t l h=>by simp at h⟩ (fun i ys H2 h=>by
   obtain ⟨_,ts',e,l,_⟩:=h
   rw [e,gR l,Jq]; omega) (fun i ys H2 h=>h.1 _ _ z2) ?_ ?_
  ·rintro i ys σ kv H2 hkv ⟨u,rfl⟩ ⟨s2,ts',rfl,htl,htt⟩ hz
   obtain ⟨num,t,hnum,ht,rfl⟩:∃ num t,D.nums[i]?=some num/\D.ts[i]?=some t/\kv=(.inl num,.ref t):=by
    unfold kvA at hkv
    rw [Qi] at hkv
    obtain ⟨p,hp,e⟩:=Qv.mp hkv
    rw [Jb] at hp
    exact ⟨p.1,p.2,hp.1,hp.2,e.symm⟩
   have hi:i < D.nums.length:=(Qa.mp hnum).1
   obtain ⟨l,hl⟩:∃ l,D.ws[i]?=some l:=⟨_,Qc (by rw [hD.wl]; exact hi)⟩
   have hsq:=s2.seqT (b2.seqTd hD.able (hD.tup i t l ht hl))
   have hl6:=(aX (hws l (Qe hl)))
   have ll:l.length<=1000:=by
    have:=gH (by omega) hl6.2.1 hl6.2.2
    omega
   refine cC ?_
   refine ⟨_,rfl,_,rfl,x,C,D.dx,_,_,rfl,back s2 nax.symm hD.ins,T.cl,T.n2,rfl,_,rfl,D.da,.ref t,rfl,.inl ⟨_,.inl num,.inr ⟨o,s2 _ _ z2⟩,rfl,(bW hnd hnum ht).symm⟩,t,rfl,⟨_,hsq⟩,rC (K:=K) (a:=t) (xs:=l.map V.int) (vs:=l.map V.int) (fun σ=>∃ v,σ = [v]) (by rw [Qd]; exact ll) rfl hsq ⟨none,rfl⟩ ?_ ?_⟩
   ·rintro j y v σ H3 h1 h2 ⟨v0,rfl⟩ s3 Q' hq
    rw [h1] at h2
    cases h2
    exact ⟨_,rfl,hq _ _ ⟨_,rfl⟩ (aG.refl _)⟩
   ·intro H3 s3 pc hpc
    refine ⟨pc,_,rfl,.inl ⟨SqL.of aB,fun tp htp=>?_⟩⟩
    have s4:=(s3.trans (aG.new (o:=.lst (l.map V.int)) hpc)).trans (aG.new (o:=.tup (l.map V.int)) htp)
    have etp:upd (upd H3 pc (.lst (l.map V.int))) tp (.tup (l.map V.int)) tp=some (.tup (l.map V.int)):=aB
    generalize upd (upd H3 pc (.lst (l.map V.int))) tp (.tup (l.map V.int))=H4 at s4 etp ⊢
    have etk:D.nums.take (i+1)=D.nums.take i++[num]:=by
     obtain ⟨_,e⟩:=Qa.mp hnum
     rw [Jy hi,e]
    have hnew:num∉D.nums.take i:=fun z=>by
     rw [<- List.take_append_drop (i+1) D.nums,etk] at hnd
     exact (Jr.mp (Jr.mp hnd).1).2.2 num z num (by simp) rfl
    refine ⟨.inl num,rfl,hz,⟨_,rfl⟩,s2.trans s4,ts'++[tp],?_,?_,fun j t' l' q1 q2=>?_⟩
    ·rw [etk,sF htl]
     exact gT _ (jM hnew)
    ·rw [etk,Qh,Qh,htl]; rfl
    ·have lt:ts'.length=i:=by rw [htl,Jq]; omega
     by_cases c:j < ts'.length
     ·rw [Ql c] at q1
      exact s4.seqT (htt j t' l' q1 q2)
     ·have cj:j=ts'.length:=by
       have:=(Qa.mp q1).1
       rw [Qh] at this
       have:j < ts'.length+1:=this
       omega
      rw [cj,Qt (Qg _),Jz] at q1
      have e1:tp=t':=by simpa using q1
      rw [cj,lt,hl] at q2
      rw [<- e1,<- Option.some.inj q2]
      exact SqT.of etp
  ·rintro ys H2 ⟨s2,ts',rfl,htl,htt⟩ p hp
   rw [hkl,Ju] at htl ⊢
   have npa:p≠D.da:=fun z=>by rw [z,s2 _ _ z2] at hp; cases hp
   have hpH:H p=none:=by
    cases e:H p with
    | none=>rfl
    | some u=>rw [back s2 npa e] at hp; cases hp
   have s5:aG H (upd (upd H2 p (.dK (kvA D.nums ts'))) D.da (.dK (kvA D.nums D.ts))):=fun c u hc=>by
    by_cases d:c=D.da
    ·rw [d] at hc ⊢
     rw [aB,<- hD.able]; exact hc
    ·have n2:c≠p:=fun z=>by rw [z,hpH] at hc; cases hc
     rw [aD d,aD n2]; exact back s2 d hc
   refine k p ts' _ s5 hpH (by rw [aD npa,aB]) htl fun j t l q1 q2=>?_
   have q3:=(aG.new (o:=.dK (kvA D.nums ts')) hp).seqT (htt j t l q1 q2)
   have q4:upd H2 p (.dK (kvA D.nums ts')) D.da=some (.frz o (.dK (kvA D.nums D.ts))):=(aG.new hp) _ _ (s2 _ _ z2)
   generalize upd H2 p (.dK (kvA D.nums ts'))=H3 at q3 q4 ⊢
   rcases q3 with (q | ⟨o',q⟩) | q
   ·exact .inl (.inl (by rw [aD (fun z=>by rw [z,q4] at q; cases q)]; exact q))
   ·exact .inl (.inr ⟨o',by rw [aD (fun z=>by rw [z,q4] at q; cases q)]; exact q⟩)
   ·exact .inr q
def DD.begun (n:Int) (dx da dh:Addr):DD:=⟨n,0,0,0,[],[],[],dx,da,dh,[]⟩
theorem aDy {n:Int} {dx da dh:Addr} (h1:1<=n) (h2:n<=6):DlM (DD.begun n dx da dh) :=
 ⟨gQ h1 h2 (Jk _) fun l hl=>(Qp hl).elim,vQ rfl fun j h l q=>by simp [DD.begun] at q,List.Pairwise.nil,fun k hk=>(Qp hk).elim,Xs _,fun _=>0,fun h _ _=>by simp [DD.begun],fun w g l q=>by simp [DD.begun] at q⟩
def vX (K:PySem.W.Frag) (C:Addr):Sp:=fun vs H Q _=>∃ (x dx:Addr) (n:Int),vs = [.ref x,.int n]/\H x=some (.ins C dx [])/\1<=n/\n<=6 /\
 ∀ da dh H',But x H H'->H da=none->H dh=none->DlH K H' C x (DD.begun n dx da dh)->Q .non H'
theorem aEI:FnScope ["self", "hands"] ["self", "hands"] (aH tV):=⟨rfl,rfl,rfl,by decide +kernel,rfl,by decide +kernel,by decide +kernel⟩
theorem aDz {f fH:Addr} {fd dH:FuncData} (G:Mt K C "__init__" tV ["self", "hands"] f fd) (T:Dc K C) (B:Bl mg) (GH:Fn K mg "are_hands" oT ["thing"] fH dH) (OH:FnOk P w K mg base CX0 2 fH dH ["thing"] (pY K)):FnOk P w K mg base CX0 3 f fd ["self", "hands"] (vX K C):=by
 refine G.fn.ok aEI (fun vs H Q E h=>?_) (fun cdv A outer s H vs Q E hr h=>?_)
 ·obtain ⟨x,dx,n,rfl,_⟩:=h
  rfl
 ·obtain ⟨x,dx,n,rfl,hx,h1,h6,k⟩:=h
  have r2:Room 2 _:=hr
  refine ⟨_,aC (bA (bY (bP (aZ GH OH r2 rfl (aA (pv 1) aE)))) eV aN)
   (aC (mP (pv 0) (pv 1) rfl) (aC (mP (pv 0) jD rfl) (aC (mP (pv 0) jD rfl) (aC (mP (pv 0) aI rfl) (aC (mP (pv 0) aI rfl) (aF (mP (pv 0) aI rfl))))))),?_⟩
  have lt:∀ n:Nat,n<=6->n < 1000:=fun n h=>by omega
  refine ⟨_,rfl,.int n,.int n,rfl,eI.mpr rfl,_,rfl,bS ?_ ?_⟩
  ·show (!(eQ (.int n)))=false
   rw [show eQ (.int n)=true by simp [eQ]; omega]; rfl
  refine ⟨_,rfl,_,rfl,x,C,dx,_,rfl,hx,T.cl,T.n1,lt 0 (by decide),fun da hda=>⟨_,rfl,x,C,dx,_,rfl,(aG.new hda) _ _ aB,T.cl,T.n2,lt 1 (by decide),fun dh hdh=>⟨_,rfl,x,C,dx,_,rfl,(aG.new hdh) _ _ aB,T.cl,T.n3,lt 2 (by decide),?_⟩⟩⟩
  refine ⟨_,rfl,x,C,dx,_,rfl,aB,T.cl,T.n4,lt 3 (by decide),_,rfl,x,C,dx,_,rfl,aB,T.cl,T.n5,lt 4 (by decide),_,rfl,x,C,dx,_,rfl,aB,T.cl,T.n6,lt 5 (by decide),?_⟩
  rw [iR,iR,iR]
  have nda:da≠x:=fun z=>by rw [z,aB] at hda; cases hda
  have ndh:dh≠x:=fun z=>by rw [z,aB] at hdh; cases hdh
  have ndd:da≠dh:=fun z=>by rw [<- z,aD nda,aB] at hdh; cases hdh
  have hda0:H da=none:=by rw [aD nda] at hda; exact hda
  have hdh0:H dh=none:=by rw [aD ndh,aD ndd.symm,aD ndh] at hdh; exact hdh
  refine k da dh _ (fun c u hc hu=>?_) hda0 hdh0 ⟨aB,?_,?_,rfl,rfl,rfl,fun i t l q=>by simp [DD.begun] at q,ndd⟩
  ·have n1:c≠da:=fun z=>by rw [z,hda0] at hu; cases hu
   have n2:c≠dh:=fun z=>by rw [z,hdh0] at hu; cases hu
   rw [aD hc,aD n2,aD hc,aD n1,aD hc]; exact hu
  ·show upd _ x _ da=some (.dK [])
   rw [aD nda,aD ndd,aD nda,aB]
  ·show upd _ x _ dh=some (.dK [])
   rw [aD ndh,aB]
theorem aDY:¬ (Sum.inr "hands" : Key)=.inr "able" := by decide +kernel
theorem aDZ:¬ (Sum.inr "hands" : Key)=.inr "due" := by decide +kernel
theorem aD0:¬ (Sum.inr "able" : Key)=.inr "due" := by decide +kernel
structure SD where
 n:Int
 due:Int
 nums:List Int
 ws:List (List Int)
 ap:Addr
 ts:List Addr
def SD.kv (S:SD):List (Key×V):=[(.inr "hands",.int S.n),(.inr "able",.ref S.ap),(.inr "due",.int S.due)]
theorem eM (S:SD):bJ S.kv (.inr "hands")=some (.int S.n):=bO rfl
theorem eG (S:SD):bJ S.kv (.inr "able")=some (.ref S.ap):=by
 unfold SD.kv
 rw [bL aDY,bO rfl]
theorem vY (S:SD):bJ S.kv (.inr "due")=some (.int S.due):=by
 unfold SD.kv
 rw [bL aDZ,bL aD0,bO rfl]
theorem uC (S:SD) (m:Int):cB S.kv (.inr "hands") (.int m)=({ S with n:=m }:SD).kv:=by
 unfold cB SD.kv
 rw [if_pos (by simp)]
 simp only [Qw,Xz]
 rw [if_pos trivial,if_neg (by decide +kernel),if_neg (by decide +kernel)]
theorem aDA (S:SD) (m:Int):cB S.kv (.inr "due") (.int m)=({ S with due:=m }:SD).kv:=by
 unfold cB SD.kv
 rw [if_pos (by simp)]
 simp only [Qw,Xz]
 rw [if_neg (by decide +kernel),if_neg (by decide +kernel),if_pos trivial]
structure StH (K:PySem.W.Frag) (H:Hp) (sp:Addr) (S:SD):Prop where
 st:H sp=some (.dK S.kv)
 able:H S.ap=some (.dK (kvA S.nums S.ts))
 tl:S.ts.length=S.nums.length
 wl:S.ws.length=S.nums.length
 tup:∀ (i:Nat) t l,S.ts[i]?=some t->S.ws[i]?=some l->SqT K H t (l.map V.int)
 ne:sp≠S.ap
structure StM (S:SD):Prop where
 bk:fQ (iU S.n S.ws)=true
 up:S.nums.Pairwise (· < ·)
 few:∀ k∈S.nums,0<=k/\k < S.due
 due:0<=S.due
 len:S.ws.length=S.nums.length
theorem StH.same {K:PySem.W.Frag} {H H':Hp} {sp:Addr} {S:SD} (h:StH K H sp S) (s:aG H H'):StH K H' sp S:=⟨s _ _ h.st,s _ _ h.able,h.tl,h.wl,fun i t l a b=>s.seqT (h.tup i t l a b),h.ne⟩
theorem StH.dget {K:PySem.W.Frag} {H:Hp} {sp:Addr} {S:SD} {k:Key} {v:V} (h:StH K H sp S) (e:bJ S.kv k=some v):gG H sp (kV k) (some v):=.inl ⟨S.kv,k,.inl h.st,rfl,e.symm⟩
theorem pD {a b:Str} (h:a≠b):decide (V.str a=V.str b)=false:=decide_eq_false fun z=>h (by injection z)
theorem tF {a:Str}:decide (V.str a=V.str a)=true:=decide_eq_true rfl
theorem wN1:("put" : Str) ≠ "come" := by decide +kernel
theorem wN2:("go" : Str) ≠ "come" := by decide +kernel
theorem wN3:("take" : Str) ≠ "come" := by decide +kernel
theorem wN4:("go" : Str) ≠ "put" := by decide +kernel
theorem wN5:("take" : Str) ≠ "put" := by decide +kernel
theorem wN6:("take" : Str) ≠ "go" := by decide +kernel
theorem wN7:("come" : Str) ≠ "put" := by decide +kernel
theorem wN8:("come" : Str) ≠ "take" := by decide +kernel
theorem wN9:("go" : Str) ≠ "take" := by decide +kernel
theorem szK (n:Nat) (h:n < 1000):n < sizeLine:=Yn h (by decide +kernel)
theorem StH.seqT {K:PySem.W.Frag} {H H':Hp} {sp t:Addr} {S:SD} {xs:List V} (h:StH K H sp S) (b:bH sp S.ap S.ap H H') (q:SqT K H t xs):SqT K H' t xs:=by
 have n:∀ u,H t=some u->(∀ k,u≠.dK k)->H' t=some u:=fun u e h2 =>
  b t u (fun z=>by rw [z,h.st] at e; exact h2 _ (Option.some.inj e).symm) (fun z=>by rw [z,h.able] at e; exact h2 _ (Option.some.inj e).symm) (fun z=>by rw [z,h.able] at e; exact h2 _ (Option.some.inj e).symm) e
 rcases q with (q | ⟨o,q⟩) | q
 ·exact .inl (.inl (n _ q (by intro _ z; cases z)))
 ·exact .inl (.inr ⟨o,n _ q (by intro _ z; cases z)⟩)
 ·exact .inr q
theorem aAm {l:List Int} {x:Int} (h:x∈l):l[l.idxOf x]?=some x:=by
 have hl:=List.idxOf_lt_length_of_mem h
 rw [Qc hl,List.getElem_idxOf hl]
inductive Deed where
 | come
 | go
 | take (num:Int)
 | put (t:Addr) (l:List Int)
def sH (K:PySem.W.Frag) (H:Hp) (dp:Addr):Deed->Prop
 | .come=>SqT K H dp [.str "come"]
 | .go=>SqT K H dp [.str "go"]
 | .take num=>SqT K H dp [.str "take",.int num]
 | .put t l=>SqT K H dp [.str "put",.ref t]/\SqT K H t (l.map V.int)
def xT (S:SD):Deed->Prop
 | .come=>S.n≠6
 | .go=>S.n≠1/\∀ l∈S.ws,S.n - 1∉l
 | .take num=>num∈S.nums
 | .put _ l=>cK S.n (fU l)=true/\S.nums.length < 12
def SD.step (S:SD):Deed->SD
 | .come=>{ S with n:=S.n+1 }
 | .go=>{ S with n:=S.n - 1 }
 | .take num=>{ S with nums:=S.nums.eraseIdx (S.nums.idxOf num),ws:=S.ws.eraseIdx (S.nums.idxOf num),ts:=S.ts.eraseIdx (S.nums.idxOf num) }
 | .put t l=>{ S with due:=S.due+1,nums:=S.nums++[S.due],ws:=S.ws++[l],ts:=S.ts++[t] }
def SD.told (S:SD):Deed->V
 | .come=>.int S.n
 | .go=>.non
 | .take _=>.non
 | .put _ _=>.int S.due
def qJ:Sp:=fun vs H Q _=>∃ n:Int,vs = [.int n]/\∀ p ap H',aG H H'->H p=none->H ap=none->p≠ap->H' p=some (.dK (⟨n,0,[],[],ap,[]⟩:SD).kv)->H' ap=some (.dK [])->Q (.ref p) H'
theorem aDB:FnScope ["hands"] ["hands"] (aH vI):=⟨rfl,rfl,rfl,by decide +kernel,rfl,by decide +kernel,by decide +kernel⟩
theorem aCw {f:Addr} {fd:FuncData} (G:Fn K mg "_law_e_begun" vI ["hands"] f fd):FnOk P w K mg base CX0 1 f fd ["hands"] qJ:=by
 refine G.fn.ok aDB (fun vs H Q E h=>?_) (fun cdv A outer s H vs Q E hr h=>?_)
 ·obtain ⟨n,rfl,_⟩:=h
  rfl
 ·obtain ⟨n,rfl,k⟩:=h
  refine ⟨_,aF (aK (aAa (kN aP (pv 0) (kN aP jD (kN aP aI zZ))) rfl rfl (by simp) (by decide))),?_⟩
  intro p hp
  refine ⟨_,rfl,fun ap hap=>?_⟩
  have npa:p≠ap:=fun z=>by rw [<- z,aB] at hap; cases hap
  have hap0:H ap=none:=by rw [aD npa.symm] at hap; exact hap
  refine ⟨by rw [aD npa,aB],[(.inr "hands",.int n),(.inr "able",.ref ap),(.inr "due",.int 0)],rfl,(show (3:Nat)<=15 by decide),?_⟩
  refine k p ap _ (fun c u hc=>?_) hp hap0 npa ?_ (by rw [aD npa.symm,aB])
  ·have n1:c≠p:=fun z=>by rw [z,hp] at hc; cases hc
   have n2:c≠ap:=fun z=>by rw [z,hap0] at hc; cases hc
   rw [aD n1,aD n2,aD n1]; exact hc
  ·rw [aB]
   have e2:cB [((.inr "hands" : Key),V.int n)] (.inr "able") (.ref ap) = [(.inr "hands",.int n),(.inr "able",.ref ap)]:=gT _ (by rw [bL aDY]; rfl)
   have e3:cB [((.inr "hands" : Key),V.int n),(.inr "able",.ref ap)] (.inr "due") (.int 0) = [(.inr "hands",.int n),(.inr "able",.ref ap),(.inr "due",.int 0)]:=gT _ (by rw [bL aDZ,bL aD0]; rfl)
   show some (HO.dK (cB (cB [((.inr "hands" : Key),V.int n)] (.inr "able") (.ref ap)) (.inr "due") (.int 0)))=_
   rw [e2,e3]; rfl
def vZ (K:PySem.W.Frag):Sp:=fun vs H Q _=>∃ (sp dp:Addr) (S:SD) (e:Deed),vs = [.ref sp,.ref dp]/\StH K H sp S/\StM S/\sH K H dp e/\xT S e /\
 ∀ H',bH sp S.ap S.ap H H'->StH K H' sp (S.step e)->Q (S.told e) H'
theorem aDC:FnScope ["state", "deed"] ["state", "deed"] (aH vH):=⟨rfl,rfl,rfl,by decide +kernel,rfl,by decide +kernel,by decide +kernel⟩
theorem aDD {f:Addr} {fd:FuncData} (G:Fn K mg "_law_e_step" vH ["state", "deed"] f fd):FnOk P w K mg base CX0 1 f fd ["state", "deed"] (vZ K):=by
 refine G.fn.ok aDC (fun vs H Q E h=>?_) (fun cdv A outer s H vs Q E hr h=>?_)
 ·obtain ⟨sp,dp,S,e,rfl,_⟩:=h
  rfl
 ·obtain ⟨sp,dp,S,e,rfl,hS,hM,hE,hEM,k⟩:=h
  have hu:=eC hr
  refine ⟨_,aC (bA (aL dX (bE bU (pv 1) aI (fun _ _=>rfl)) aP (aR _)) (aC (gM hu (pv 0) aP (bC cY (aQ hu (pv 0) aP (fun _ _=>rfl)) aI) rfl) (aF (aK (bC gE (aQ hu (pv 0) aP (fun _ _=>rfl)) aI)))) aN)
   (aC (bA (aL dX (bE bU (pv 1) aI (fun _ _=>rfl)) aP (aR _)) (aC (gM hu (aQ hu (pv 0) aP (fun _ _=>rfl)) (aQ hu (pv 0) aP (fun _ _=>rfl)) (bE bU (pv 1) aI (fun _ _=>rfl)) rfl) (aC (gM hu (pv 0) aP (bC cY (aQ hu (pv 0) aP (fun _ _=>rfl)) aI) rfl) (aF (aK (bC gE (aQ hu (pv 0) aP (fun _ _=>rfl)) aI))))) aN)
   (aC (bA (aL dX (bE bU (pv 1) aI (fun _ _=>rfl)) aP (aR _)) (aF (gM hu (pv 0) aP (bC gE (aQ hu (pv 0) aP (fun _ _=>rfl)) aI) rfl)) (aF (cX (rK (aQ hu (pv 0) aP (fun _ _=>rfl)) (bE bU (pv 1) aI (fun _ _=>rfl)) ⟨rfl,rfl,rfl,rfl⟩))))
   (aF (aK aBc)))),?_⟩
  have hnd:S.nums.Nodup:=Jc.mpr (hM.up.imp fun h=>Xu h)
  have sz3:S.kv.length < sizeLine:=szK 3 (by decide)
  have n12:S.nums.length<=12:=by rw [<- hS.wl]; exact (aS hM.bk).2.2.1
  cases e with
  | come =>
   refine ⟨_,rfl,dp,_,0,_,rfl,rfl,hE,rfl,rfl,_,rfl,dZ tF ?_⟩
   refine ⟨_,rfl,sp,_,rfl,hS.dget (k:=.inr "hands") (eM S),S.n,1,rfl,rfl,_,rfl,sp,_,rfl,lX.k (k:=.inr "hands") hS.st sz3,?_⟩
   rw [uC]
   have hS':StH K (upd H sp (.dK ({ S with n:=S.n+1 }:SD).kv)) sp { S with n:=S.n+1 }:=⟨aB,(aD hS.ne.symm).trans hS.able,hS.tl,hS.wl,fun i t l a b=>hS.seqT bH.x (hS.tup i t l a b),hS.ne⟩
   refine ⟨_,rfl,sp,_,rfl,hS'.dget (k:=.inr "hands") (eM _),S.n+1,1,rfl,rfl,?_⟩
   have ee:S.n+1 - 1=S.n:=by omega
   have q:=k _ bH.x hS'
   show Q (.int (S.n+1 - 1)) _
   rw [ee]; exact q
  | go =>
   refine ⟨_,rfl,dp,_,0,_,rfl,rfl,hE,rfl,rfl,_,rfl,bS (pD wN2) ?_⟩
   refine ⟨_,rfl,dp,_,0,_,rfl,rfl,hE,rfl,rfl,_,rfl,bS (pD wN4) ?_⟩
   refine ⟨_,rfl,dp,_,0,_,rfl,rfl,hE,rfl,rfl,_,rfl,dZ tF ?_⟩
   refine ⟨_,rfl,sp,_,rfl,hS.dget (k:=.inr "hands") (eM S),S.n,1,rfl,rfl,_,rfl,sp,_,rfl,lX.k (k:=.inr "hands") hS.st sz3,?_⟩
   rw [uC]
   have hS':StH K (upd H sp (.dK ({ S with n:=S.n - 1 }:SD).kv)) sp { S with n:=S.n - 1 }:=⟨aB,(aD hS.ne.symm).trans hS.able,hS.tl,hS.wl,fun i t l a b=>hS.seqT bH.x (hS.tup i t l a b),hS.ne⟩
   exact k _ bH.x hS'
  | take num =>
   have hi:=aAm hEM
   obtain ⟨t0,ht0⟩:∃ t0,S.ts[S.nums.idxOf num]?=some t0:=⟨_,Qc (by rw [hS.tl]; exact (Qa.mp hi).1)⟩
   have va:bJ (kvA S.nums S.ts) (.inl num)=some (.ref t0):=bW hnd hi ht0
   have da:nJ (kvA S.nums S.ts) (.inl num)=kvA (S.nums.eraseIdx (S.nums.idxOf num)) (S.ts.eraseIdx (S.nums.idxOf num)):=nX hnd hS.tl hi
   refine ⟨_,rfl,dp,_,0,_,rfl,rfl,hE,rfl,rfl,_,rfl,bS (pD wN3) ?_⟩
   refine ⟨_,rfl,dp,_,0,_,rfl,rfl,hE,rfl,rfl,_,rfl,bS (pD wN5) ?_⟩
   refine ⟨_,rfl,dp,_,0,_,rfl,rfl,hE,rfl,rfl,_,rfl,bS (pD wN6) ?_⟩
   refine ⟨_,rfl,sp,_,rfl,hS.dget (k:=.inr "able") (eG S),S.ap,rfl,.inl ⟨_,.inl hS.able⟩,_,rfl,dp,_,1,_,rfl,rfl,hE,rfl,_,.inl num,_,hS.able,rfl,va,?_⟩
   rw [da]
   exact k _ bH.a ⟨(aD hS.ne).trans hS.st,aB,by show (S.ts.eraseIdx _).length=(S.nums.eraseIdx _).length; rw [Jg,Jg,hS.tl],by show (S.ws.eraseIdx _).length=(S.nums.eraseIdx _).length; rw [Jg,Jg,hS.wl],fun i t l a b=>hS.seqT bH.a (hS.tup _ t l (eY a) (eY b)),hS.ne⟩
  | put t l =>
   obtain ⟨hE1,hE2⟩:=hE
   obtain ⟨hw,h12⟩:=hEM
   have hnew:S.due∉S.nums:=fun z=>by have:=hM.few _ z; omega
   have e5:cB (kvA S.nums S.ts) (.inl S.due) (.ref t)=kvA (S.nums++[S.due]) (S.ts++[t]):=by
    rw [sF hS.tl]
    exact gT _ (jM hnew)
   refine ⟨_,rfl,dp,_,0,_,rfl,rfl,hE1,rfl,rfl,_,rfl,bS (pD wN1) ?_⟩
   refine ⟨_,rfl,dp,_,0,_,rfl,rfl,hE1,rfl,rfl,_,rfl,dZ tF ?_⟩
   refine ⟨_,rfl,dp,_,1,_,rfl,rfl,hE1,rfl,_,rfl,sp,_,rfl,hS.dget (k:=.inr "able") (eG S),_,rfl,sp,_,rfl,hS.dget (k:=.inr "due") (vY S),S.ap,_,rfl,lX.k (k:=.inl S.due) hS.able (szK _ (by rw [gR hS.tl]; omega)),?_⟩
   rw [e5]
   have st1:upd H S.ap (.dK (kvA (S.nums++[S.due]) (S.ts++[t]))) sp=some (.dK S.kv):=(aD hS.ne).trans hS.st
   have g1:gG (upd H S.ap (.dK (kvA (S.nums++[S.due]) (S.ts++[t])))) sp (kV (.inr "due")) (some (.int S.due)):=.inl ⟨S.kv,_,.inl st1,rfl,(vY S).symm⟩
   refine ⟨_,rfl,sp,_,rfl,g1,S.due,1,rfl,rfl,_,rfl,sp,_,rfl,lX.k (k:=.inr "due") st1 sz3,?_⟩
   rw [aDA]
   have b2:bH sp S.ap S.ap H (upd (upd H S.ap (.dK (kvA (S.nums++[S.due]) (S.ts++[t])))) sp (.dK ({ S with due:=S.due+1 }:SD).kv)):=bH.a.trans bH.x
   have hS':StH K (upd (upd H S.ap (.dK (kvA (S.nums++[S.due]) (S.ts++[t])))) sp (.dK ({ S with due:=S.due+1 }:SD).kv)) sp (S.step (.put t l)):=by
    refine ⟨aB,(aD hS.ne.symm).trans aB,?_,?_,fun i t' l' q1 q2=>hS.seqT b2 ?_,hS.ne⟩
    ·show (S.ts++[t]).length=(S.nums++[S.due]).length
     rw [Qh,Qh,hS.tl]; rfl
    ·show (S.ws++[l]).length=(S.nums++[S.due]).length
     rw [Qh,Qh,hS.wl]; rfl
    ·have q1':(S.ts++[t])[i]?=some t':=q1
     have q2':(S.ws++[l])[i]?=some l':=q2
     by_cases c:i < S.ts.length
     ·rw [Ql c] at q1'
      rw [Ql (by rw [hS.wl,<- hS.tl]; exact c)] at q2'
      exact hS.tup i t' l' q1' q2'
     ·have ci:i=S.ts.length:=by
       have:=(Qa.mp q1').1
       rw [Qh] at this
       have:i < S.ts.length+1:=this
       omega
      have cw:S.ts.length=S.ws.length:=by rw [hS.tl,hS.wl]
      rw [ci,Qt (Qg _),Jz] at q1'
      rw [ci,cw,Qt (Qg _),Jz] at q2'
      have e1:t=t':=by simpa using q1'
      have e2:l=l':=by simpa using q2'
      rw [<- e1,<- e2]; exact hE2
   refine ⟨_,rfl,sp,_,rfl,.inl ⟨_,.inr "due",.inl hS'.st,rfl,(vY _).symm⟩,S.due+1,1,rfl,rfl,?_⟩
   have ee:S.due+1 - 1=S.due:=by omega
   have q:=k _ b2 hS'
   show Q (.int (S.due+1 - 1)) _
   rw [ee]; exact q
theorem aEJ {D:DD} (h:DlM D) (h6:D.n≠6):DlM D.came:=by
 obtain ⟨hn1,hn6,hw12,hws⟩:=aS h.bk
 obtain ⟨hdl,hdm⟩:=cE h.dl
 have n6:D.n+1<=6:=by omega
 refine ⟨gQ (show 1<=D.n+1 by omega) n6 hw12 fun l hl=>?_,h.dl,h.up,h.few,h.nx,?_⟩
 ·obtain ⟨a,b,c⟩:=aX (hws l hl)
  exact lP a (fun x hx=>by have:=b x hx; show 0<=x/\x < D.n+1; omega) c
 ·obtain ⟨lv,L1,L2⟩:=h.lv
  have hr:∀ g∈D.hs,0<=g/\g < D.n:=fun g hg=>by
   obtain ⟨i,hi⟩:=Qy.mp hg
   have hl:=Qc (show i < D.ws.length by rw [<- hdl]; exact (Qa.mp hi).1)
   exact (aX (hws _ (Qe hl))).2.1 g (hdm i _ _ hi hl)
  refine ⟨fun x=>if x=D.n then 0 else lv x,fun x h0 h1=>?_,fun w g l q1 q2 t ht=>?_⟩
  ·have h1':x < D.n+1:=h1
   show (if x=D.n then 0 else lv x)<=((D.hs.count x:Nat):Int)/\((D.hs.count x:Nat):Int)<=(if x=D.n then 0 else lv x)+1
   by_cases c:x=D.n
   ·have c0:D.hs.count x=0:=Yq.mpr fun z=>by have:=hr x z; omega
    rw [if_pos c,c0]
    omega
   ·rw [if_neg c]
    exact L1 x h0 (by omega)
  ·have q1':D.hs[w]?=some g:=q1
   have hg:=hr g (Qe q1')
   have ht':=(aX (hws l (Qe q2))).2.1 t ht
   show (if g=D.n then 0 else lv g)<=(if t=D.n then 0 else lv t)
   rw [if_neg (by omega),if_neg (by omega)]
   exact L2 w g l q1 q2 t ht
theorem aEK {D:DD} (h:DlM D) (h1:D.n≠1) (hno:∀ l∈D.ws,D.n - 1∉l):DlM D.gone:=by
 obtain ⟨hn1,hn6,hw12,hws⟩:=aS h.bk
 refine ⟨gQ (show 1<=D.n - 1 by omega) (show D.n - 1<=6 by omega) hw12 fun l hl=>?_,h.dl,h.up,h.few,h.nx,?_⟩
 ·obtain ⟨a,b,c⟩:=aX (hws l hl)
  refine lP a (fun x hx=>?_) c
  have:=b x hx
  have:x≠D.n - 1:=fun z=>hno l hl (z ▸ hx)
  show 0<=x/\x < D.n - 1
  omega
 ·obtain ⟨lv,L1,L2⟩:=h.lv
  exact ⟨lv,fun x h0 h1=>L1 x h0 (by have h1':x < D.n - 1:=h1; omega),L2⟩
theorem aEL {S:SD} {e:Deed} (h:StM S) (m:xT S e):StM (S.step e):=by
 obtain ⟨hn1,hn6,hw12,hws⟩:=aS h.bk
 have hd:=h.due
 cases e with
 | come =>
  have m':S.n≠6:=m
  have n6:S.n+1<=6:=by omega
  refine ⟨gQ (show 1<=S.n+1 by omega) n6 hw12 fun l hl=>?_,h.up,h.few,h.due,h.len⟩
  obtain ⟨a,b,c⟩:=aX (hws l hl)
  exact lP a (fun x hx=>by have:=b x hx; show 0<=x/\x < S.n+1; omega) c
 | go =>
  obtain ⟨m1,m2⟩:=m
  refine ⟨gQ (show 1<=S.n - 1 by omega) (show S.n - 1<=6 by omega) hw12 fun l hl=>?_,h.up,h.few,h.due,h.len⟩
  obtain ⟨a,b,c⟩:=aX (hws l hl)
  refine lP a (fun x hx=>?_) c
  have:=b x hx
  have:x≠S.n - 1:=fun z=>m2 l hl (z ▸ hx)
  show 0<=x/\x < S.n - 1
  omega
 | take num =>
  refine ⟨gQ hn1 hn6 (Ja (Yw ..) hw12) fun l' hl'=>hws l' (Xx hl'),h.up.sublist (Zg ..),fun k' hk'=>h.few k' (Xx hk'),h.due,?_⟩
  show (S.ws.eraseIdx _).length=(S.nums.eraseIdx _).length
  rw [Jg,Jg,h.len]
 | put t l =>
  obtain ⟨m1,m2⟩:=m
  refine ⟨gQ hn1 hn6 ?_ fun l' hl'=>?_,?_,fun k' hk'=>?_,show 0<=S.due+1 by omega,?_⟩
  ·show (S.ws++[l]).length<=12
   rw [Qh,h.len]
   show S.nums.length+1<=12
   omega
  ·have hl2:l'∈S.ws++[l]:=hl'
   rcases Jo.mp hl2 with z | z
   ·exact hws l' z
   ·rw [show l'=l by simpa using z]; exact m1
  ·show (S.nums++[S.due]).Pairwise (· < ·)
   refine Yd.mpr ⟨h.up,Yv _ _,fun a ha b hb=>?_⟩
   rw [show b=S.due by simpa using hb]
   exact (h.few a ha).2
  ·have hk2:k'∈S.nums++[S.due]:=hk'
   show 0<=k'/\k' < S.due+1
   rcases Jo.mp hk2 with z | z
   ·have:=h.few k' z
    omega
   ·rw [show k'=S.due by simpa using z]; omega
  ·show (S.ws++[l]).length=(S.nums++[S.due]).length
   rw [Qh,Qh,h.len]; rfl
structure Like (D:DD) (S:SD):Prop where
 n:D.n=S.n
 nx:D.nx=S.due
 nums:D.nums=S.nums
 ws:D.ws=S.ws
def Did (D:DD):Deed->DD->Prop
 | .come,D'=>D'=D.came
 | .go,D'=>D'=D.gone
 | .take num,D'=>∃ (k:Nat) (last:Int) (ss:List (Nat×Int×Int)),D.nums[k]?=some num/\D.hs[k]?=some last/\pQ D.n D.ws D.hs last D.n ss/\D'=D.take k ss
 | .put t l,D'=>∃ (hs:List Int) (m:Int) (ss:List (Nat×Int×Int)) (last:Int),PutS D l hs m ss last/\D'=D.put l t hs m
def aDE (K:PySem.W.Frag) (C Pt:Addr):Sp:=fun vs H Q _=>∃ (x dp:Addr) (D:DD) (S:SD) (e:Deed),vs = [.ref x,.ref dp]/\DlH K H C x D/\DlM D/\Like D S/\sH K H dp e/\xT S e/\H Pt=some (.tab pT) /\
 ∀ D' H',bH x D.da D.dh H H'->D'.da=D.da->D'.dh=D.dh->DlH K H' C x D'->DlM D'->Like D' (S.step e)->Did D e D'->Q (S.told e) H'
theorem aFG:FnScope ["dealing", "deed"] ["dealing", "deed"] (aH sDo):=⟨rfl,rfl,rfl,by decide +kernel,rfl,by decide +kernel,by decide +kernel⟩
set_option maxHeartbeats 1000000 in
theorem aFj {f fPu fTa fCo fGo Pt:Addr} {fd dPu dTa dCo dGo:FuncData} (G:Fn K mg "_law_e_do" sDo ["dealing", "deed"] f fd) (T:Dc K C) (GPu:Mt K C "put" aAV ["self", "able"] fPu dPu) (OPu:FnOk P w K mg base CX0 3 fPu dPu ["self", "able"] (aCu K C Pt)) (GTa:Mt K C "take" tW ["self", "number"] fTa dTa) (OTa:FnOk P w K mg base CX0 3 fTa dTa ["self", "number"] (zD K C))
  (GCo:Mt K C "come" tX ["self"] fCo dCo) (OCo:FnOk P w K mg base CX0 2 fCo dCo ["self"] (vW K C)) (GGo:Mt K C "go" mGo ["self"] fGo dGo) (OGo:FnOk P w K mg base CX0 2 fGo dGo ["self"] (aCr K C)):FnOk P w K mg base CX0 4 f fd ["dealing", "deed"] (aDE K C Pt):=by
 refine G.fn.ok aFG (fun vs H Q E h=>?_) (fun cdv A outer s H vs Q E hr h=>?_)
 ·obtain ⟨x,dp,D,S,e,rfl,_⟩:=h
  rfl
 ·obtain ⟨x,dp,D,S,e,rfl,hD,hM,hL,hE,hEM,hT,k⟩:=h
  have r3:Room 3 _:=hr
  have r2:Room 2 _:=hr.mono (by decide)
  refine ⟨_,aC (bA (aL dX (bE bU (pv 1) aI (fun _ _=>rfl)) aP (aR _)) (aF (aK (lC (pv 0) T.cl GPu.me OPu r3 GPu.bd .nil dP (aA (bE bU (pv 1) aI (fun _ _=>rfl)) aE)))) aN)
   (aC (bA (aL dX (bE bU (pv 1) aI (fun _ _=>rfl)) aP (aR _)) (aF (aK (lC (pv 0) T.cl GTa.me OTa r3 GTa.bd .nil dP (aA (bE bU (pv 1) aI (fun _ _=>rfl)) aE)))) aN)
   (aC (bA (aL dX (bE bU (pv 1) aI (fun _ _=>rfl)) aP (aR _)) (aF (aK (bZ (pv 0) T.cl GCo.me OCo r2 GCo.bd .nil dP))) aN)
   (aF (aK (bZ (pv 0) T.cl GGo.me OGo r2 GGo.bd .nil dP))))),?_⟩
  have nax:D.da≠x:=fun z=>by have:=hD.able; rw [z,hD.ins] at this; cases this
  have nhx:D.dh≠x:=fun z=>by have:=hD.hand; rw [z,hD.ins] at this; cases this
  have n12:D.nums.length<=12:=by rw [<- hD.wl]; exact (aS hM.bk).2.2.1
  cases e with
  | come =>
   refine ⟨_,rfl,dp,_,0,_,rfl,rfl,hE,rfl,rfl,_,rfl,bS (pD wN7) ?_⟩
   refine ⟨_,rfl,dp,_,0,_,rfl,rfl,hE,rfl,rfl,_,rfl,bS (pD wN8) ?_⟩
   refine ⟨_,rfl,dp,_,0,_,rfl,rfl,hE,rfl,rfl,_,rfl,dZ tF ?_⟩
   have h6:D.n≠6:=by rw [hL.n]; exact hEM
   refine ⟨_,rfl,x,D.dx,_,rfl,hD.ins,rfl,x,D,rfl,hD.ins,h6,?_⟩
   have b:bH x D.da D.dh H (upd H x (.ins C D.dx D.came.flds)):=bH.x
   have q:=k D.came _ b rfl rfl ⟨aB,(aD nax).trans hD.able,(aD nhx).trans hD.hand,hD.tl,hD.wl,hD.hl,fun i t l q1 q2=>b.seqT hD.ins hD.able hD.hand (hD.tup i t l q1 q2),hD.ne⟩ (aEJ hM h6) ⟨by show D.n+1=S.n+1; rw [hL.n],hL.nx,hL.nums,hL.ws⟩ rfl
   have e:V.int D.n=S.told .come:=by rw [hL.n]; rfl
   rw [e]; exact q
  | go =>
   refine ⟨_,rfl,dp,_,0,_,rfl,rfl,hE,rfl,rfl,_,rfl,bS (pD wN4) ?_⟩
   refine ⟨_,rfl,dp,_,0,_,rfl,rfl,hE,rfl,rfl,_,rfl,bS (pD wN9) ?_⟩
   refine ⟨_,rfl,dp,_,0,_,rfl,rfl,hE,rfl,rfl,_,rfl,bS (pD wN2) ?_⟩
   obtain ⟨m1,m2⟩:=hEM
   have h1:D.n≠1:=by rw [hL.n]; exact m1
   have h2:∀ l∈D.ws,D.n - 1∉l:=by rw [hL.n,hL.ws]; exact m2
   refine ⟨_,rfl,x,D.dx,_,rfl,hD.ins,rfl,x,D,rfl,hD,h1,h2,by omega,fun H' b hx=>?_⟩
   have b3:bH x D.da D.dh H H':=fun c u z1 _ _ hu=>b c u z1 hu
   exact k D.gone H' b3 rfl rfl ⟨hx,b _ _ nax hD.able,b _ _ nhx hD.hand,hD.tl,hD.wl,hD.hl,fun i t l q1 q2=>b3.seqT hD.ins hD.able hD.hand (hD.tup i t l q1 q2),hD.ne⟩ (aEK hM h1 h2) ⟨by show D.n - 1=S.n - 1; rw [hL.n],hL.nx,hL.nums,hL.ws⟩ rfl
  | take num =>
   refine ⟨_,rfl,dp,_,0,_,rfl,rfl,hE,rfl,rfl,_,rfl,bS (pD wN5) ?_⟩
   refine ⟨_,rfl,dp,_,0,_,rfl,rfl,hE,rfl,rfl,_,rfl,dZ tF ?_⟩
   have hm:num∈D.nums:=by rw [hL.nums]; exact hEM
   have hi:=aAm hm
   obtain ⟨last,hlast⟩:∃ last,D.hs[D.nums.idxOf num]?=some last:=⟨_,Qc (by rw [hD.hl]; exact (Qa.mp hi).1)⟩
   refine ⟨_,rfl,x,D.dx,_,rfl,hD.ins,rfl,_,rfl,dp,_,1,_,rfl,rfl,hE,rfl,x,D,num,D.nums.idxOf num,last,rfl,hD,hM,hi,hlast,fun ss H' b TK hD' hM'=>?_⟩
   exact k (D.take (D.nums.idxOf num) ss) H' b rfl rfl hD' hM' ⟨hL.n,hL.nx,by show D.nums.eraseIdx _=S.nums.eraseIdx _; rw [hL.nums],by show D.ws.eraseIdx _=S.ws.eraseIdx _; rw [hL.ws,hL.nums]⟩ ⟨D.nums.idxOf num,last,ss,hi,hlast,TK,rfl⟩
  | put t l =>
   obtain ⟨hE1,hE2⟩:=hE
   obtain ⟨hw,h12⟩:=hEM
   refine ⟨_,rfl,dp,_,0,_,rfl,rfl,hE1,rfl,rfl,_,rfl,dZ tF ?_⟩
   refine ⟨_,rfl,x,D.dx,_,rfl,hD.ins,rfl,_,rfl,dp,_,1,_,rfl,rfl,hE1,rfl,x,t,D,l,rfl,hD,hM,hE2,by rw [hL.n]; exact hw,by rw [hL.nums]; exact h12,hT,fun hs m ss last H' b PS hD' hM'=>?_⟩
   have q:=k (D.put l t hs m) H' b rfl rfl hD' hM' ⟨hL.n,by show D.nx+1=S.due+1; rw [hL.nx],by show D.nums++[D.nx]=S.nums++[S.due]; rw [hL.nums,hL.nx],by show D.ws++[l]=S.ws++[l]; rw [hL.ws]⟩ ⟨hs,m,ss,last,PS,rfl⟩
   have e:V.int D.nx=S.told (.put t l):=by rw [hL.nx]; rfl
   rw [e]; exact q
theorem StH.but {K:PySem.W.Frag} {H H':Hp} {sp t:Addr} {S:SD} {xs:List V} (h:StH K H sp S) (e:H t=some (.lst xs)) (b:But t H H'):StH K H' sp S :=
 ⟨b _ _ (fun z=>by have:=h.st; rw [z,e] at this; cases this) h.st,b _ _ (fun z=>by have:=h.able; rw [z,e] at this; cases this) h.able,h.tl,h.wl,fun i t' l q1 q2=>b.seqT e (h.tup i t' l q1 q2),h.ne⟩
theorem DlH.but {K:PySem.W.Frag} {H H':Hp} {C x t:Addr} {D:DD} {xs:List V} (h:DlH K H C x D) (e:H t=some (.lst xs)) (b:But t H H'):DlH K H' C x D :=
 ⟨b _ _ (fun z=>by have:=h.ins; rw [z,e] at this; cases this) h.ins,b _ _ (fun z=>by have:=h.able; rw [z,e] at this; cases this) h.able,b _ _ (fun z=>by have:=h.hand; rw [z,e] at this; cases this) h.hand,h.tl,h.wl,h.hl,fun i t' l q1 q2=>b.seqT e (h.tup i t' l q1 q2),h.ne⟩
theorem Jar.lst {K:PySem.W.Frag} {H:Hp} {t a:Addr} {ns:List Int} {N:Nat} (h:Jar K H t a ns N):∃ xs,H t=some (.lst xs):=by
 obtain ⟨⟨p,q,_,_,e⟩,_⟩:=h
 exact ⟨_,e⟩
def Tst (c:TT) (σ:St) (H:Hp) (b:Bool):Prop:=∀ Q':Bool->Hp->Prop,(∀ H',aG H H'->Q' b H')->c σ H Q'
theorem aAn {t u:TT} {σ:St} {H:Hp} {b c:Bool} (ht:Tst t σ H b) (hu:b=true->∀ H1,aG H H1->Tst u σ H1 c):Tst (aCL t u) σ H (b && c):=fun Q' q=>ht _ fun H1 s1=>by
 cases b with
 | true=>exact iQ (hu rfl H1 s1 _ fun H2 s2=>q H2 (s1.trans s2))
 | false=>exact mS (q H1 s1)
theorem nY {t u:TT} {σ:St} {H:Hp} {b c:Bool} (ht:Tst t σ H b) (hu:b=false->∀ H1,aG H H1->Tst u σ H1 c):Tst (tOr t u) σ H (b || c):=fun Q' q=>ht _ fun H1 s1=>by
 cases b with
 | false=>exact mS (hu rfl H1 s1 _ fun H2 s2=>q H2 (s1.trans s2))
 | true=>exact iQ (q H1 s1)
theorem kU {t:TT} {σ:St} {H:Hp} {b:Bool} (ht:Tst t σ H b):Tst (aBe t) σ H (!b):=fun Q' q=>ht _ q
theorem gA {c:TT} {t u:TS} {D:Ends} {σ:St} {H:Hp} (b:Bool) (hc:Tst c σ H b) (h1:b=true->∀ H',aG H H'->t D σ H') (h2:b=false->∀ H',aG H H'->u D σ H'):uK c t u D σ H:=hc _ fun H' s=>by
 cases b with
 | true=>exact iQ (h1 rfl H' s)
 | false=>exact mS (h2 rfl H' s)
theorem dI {i j:Int}:decide (V.int i=V.int j)=decide (i=j):=by
 by_cases c:i=j
 ·rw [decide_eq_true c,c,decide_eq_true rfl]
 ·rw [decide_eq_false c,decide_eq_false fun z=>c (by injection z)]
def wA (K:PySem.W.Frag):Sp:=fun vs H Q _=>∃ (t a:Addr) (ns:List Int) (N:Nat) (sp:Addr) (S:SD),vs = [.ref t,.ref sp]/\Jar K H t a ns N/\N<=700000/\StH K H sp S/\StM S /\
 ∀ dp e H',But t H H'->Jar K H' t a ns (N+20)->sH K H' dp e->xT S e->Q (.ref dp) H'
theorem wB:FnScope ["jar", "state", "kind", "last", "numbers"] ["jar", "state"] (aH xI):=⟨rfl,rfl,rfl,by decide +kernel,rfl,by decide +kernel,by decide +kernel⟩
set_option maxHeartbeats 1000000 in
theorem aDF {f fS fA:Addr} {fd dS dA:FuncData} (G:Fn K mg "_law_e_deed" xI ["jar", "state"] f fd) (B:Bl mg) (GSc:Fn K mg "_law_e_scoop" mW ["jar", "many"] fS dS) (OSc:FnOk P w K mg base CX0 2 fS dS ["jar", "many"] (gO K)) (GAb:Fn K mg "_law_e_able" xH ["jar", "hands"] fA dA) (OAb:FnOk P w K mg base CX0 3 fA dA ["jar", "hands"] (yZ K)):FnOk P w K mg base CX0 4 f fd ["jar", "state"] (wA K):=by
 refine G.fn.ok wB (fun vs H Q E h=>?_) (fun cdv A outer s H vs Q E hr h=>?_)
 ·obtain ⟨t,a,ns,N,sp,S,rfl,_⟩:=h
  rfl
 ·obtain ⟨t,a,ns,N,sp,S,rfl,hJ,hN,hS,hM,k⟩:=h
  have r3:Room 3 _:=hr
  have r2:Room 2 _:=hr.mono (by decide)
  have hu:=eC hr
  refine ⟨_,aC (aM (i:=2) wB.nd rfl (Or.inl rfl) (aZ GSc OSc r2 rfl (aA (pv 0) (aA aI aE))))
   (aC (aM (i:=3) wB.nd rfl (Or.inr rfl) (bC gE (aQ hu (pv 1) aP (fun _ _=>rfl)) aI))
   (aC (bA (PW.pt (kE (aL dX (pv 2) aI (aR _)) (jQ (aL wL (aQ hu (pv 1) aP (fun _ _=>rfl)) aI (aR _))))) (aF (aK (eN (aA aP aE)))) aN)
   (aC (bA (PW.pt (kE (aL dX (pv 2) aI (aR _)) (kE (aL lY (pv 3) aI (aR _)) (jQ (bY (bP (aJ (nI rfl) rfl B.any aAl (aA (kL (own:=["number"]) (fr:=[3,1]) (frn:=["last", "state"]) (bD (aH xI) ["jar", "state", "kind", "last", "numbers"] rfl rfl (by decide +kernel)) rfl (aQ hu (pv 1) aP (fun _ _=>rfl))
     (fun _ _ _ _=>(aT (i:=0) (show (["number", "last", "state"]:List Str).Nodup by decide +kernel) rfl (Or.inl rfl))) (fun _ _ _ _=>dQ)
     (fun _ _ _ _=>(eR (iN (K:=K) rfl) (pv 1) (aQ hu (aQ hu (pv 2) aP (fun _ _=>rfl)) (pv 0) (fun _ _=>rfl)) (by with_unfolding_all rfl)))) aE)))))))) (aF (aK (eN (aA aP aE)))) aN)
   (aC (bA (PW.pt (dF (PW.pt (kE (aL wL (pv 2) aI (aR _)) (jQ (aL lY (aJ lG rfl B.len cG (aA (aQ hu (pv 1) aP (fun _ _=>rfl)) aE)) aI (aR _))))) (cW (aL dX (aJ lG rfl B.len cG (aA (aQ hu (pv 1) aP (fun _ _=>rfl)) aE)) aI (aR _)))))
    (aC (aM (i:=4) wB.nd rfl (Or.inl rfl) (aJ (iK rfl) rfl B.sorted rP (aA (aQ hu (pv 1) aP (fun _ _=>rfl)) aE)))
    (aF (aK (eN (aA aP (aA (bE bX (pv 4) (aZ GSc OSc r2 rfl (aA (pv 0) (aA (aJ aO rfl B.len cG (aA (pv 4) aE)) aE))) (fun _ _=>rfl)) aE)))))) aN)
   (aF (aK (eN (aA aP (aA (aZ GAb OAb r3 rfl (aA (pv 0) (aA (aQ hu (pv 1) aP (fun _ _=>rfl)) aE))) aE))))))))),?_⟩
  obtain ⟨hn1,hn6,hw12,hws⟩:=aS hM.bk
  have n12:S.nums.length<=12:=by rw [<- hS.wl]; exact hw12
  have hnd:S.nums.Nodup:=Jc.mpr (hM.up.imp fun h=>Xu h)
  obtain ⟨xs0,e0⟩:=hJ.lst
  refine ⟨_,rfl,t,a,ns,N,12,rfl,hJ,by omega,by decide,by decide,fun kd H1 k0 k1 b1 J1=>?_⟩
  dsimp only [aV]
  have hS1:=hS.but e0 b1
  refine ⟨_,rfl,sp,_,rfl,hS1.dget (k:=.inr "hands") (eM S),S.n,1,rfl,rfl,?_⟩
  dsimp only [aV]
  refine gA (decide (V.int kd=V.int 0) && decide (S.n < 6)) (aAn (fun Q' q=>⟨_,rfl,rfl,_,rfl,q _ (aG.refl _)⟩) (fun _ H2 s2 Q' q=>⟨_,rfl,sp,_,rfl,(hS1.same s2).dget (k:=.inr "hands") (eM S),S.n,6,rfl,rfl,_,rfl,q _ (aG.refl _)⟩)) (fun hb H2 s2=>?_) (fun hb H2 s2=>?_)
  ·rw [Ji] at hb
   have h6:=of_decide_eq_true hb.2
   refine ⟨szK 1 (by decide) |> Js,fun p hp=>?_⟩
   exact k p .come _ ((b1.trans (But.of s2)).trans (But.of (aG.new hp))) (((J1.same s2).same (aG.new hp)).more (by omega)) (SqT.of aB) (show S.n≠6 by omega)
  clear hb
  have hS2:=hS1.same s2
  have J2:=J1.same s2
  have b2:=b1.trans (But.of s2)
  dsimp only [cQ]
  refine gA (decide (V.int kd=V.int 1) && (decide (0 < S.n - 1) && !(S.ws.any fun l=>decide (S.n - 1∈l)))) (aAn (fun Q' q=>⟨_,rfl,rfl,_,rfl,q _ (aG.refl _)⟩) (fun _ H3 s3=>aAn (fun Q' q=>⟨_,rfl,S.n - 1,0,rfl,rfl,_,rfl,q _ (aG.refl _)⟩) (fun _ H4 s4=>kU ?anyT))) (fun hb H3 s3=>?yes) (fun hb H3 s3=>?no)
  case yes =>
   rw [Ji,Ji] at hb
   have h1:=of_decide_eq_true hb.2.1
   refine ⟨szK 1 (by decide) |> Js,fun p hp=>?_⟩
   refine k p .go _ ((b2.trans (But.of s3)).trans (But.of (aG.new hp))) (((J2.same s3).same (aG.new hp)).more (by omega)) (SqT.of aB) ⟨by omega,fun l hl z=>?_⟩
   have:=hb.2.2
   rw [Bool.not_eq_true',List.any_eq_false] at this
   exact this l hl (decide_eq_true z)
  case anyT =>
   have s34:=s3.trans s4
   clear s3 s4
   generalize H4=H3 at s34
   intro Q' q
   have hS3:=hS2.same s34
   refine ⟨_,rfl,sp,_,rfl,hS3.dget (k:=.inr "able") (eG S),S.ap,_,rfl,hS3.able,fun o=>?_⟩
   have z2:upd H3 S.ap (.frz o (.dK (kvA S.nums S.ts))) S.ap=some (.frz o (.dK (kvA S.nums S.ts))):=aB
   have bf:But S.ap H3 (upd H3 S.ap (.frz o (.dK (kvA S.nums S.ts)))):=But.at
   have st3:=bf _ _ hS.ne hS3.st
   have hkl:(kvA S.nums S.ts).length=S.nums.length:=gR hS.tl
   refine iD (a:=S.ap) (o:=o) (kvs:=kvA S.nums S.ts) (fun σ=>∃ u,σ = [u,some (.int (S.n - 1)),some (.ref sp)]) (fun i ys H4=>ys=((S.ws.take i).map fun l=>decide (S.n - 1∈l)).map V.bl/\H4=upd H3 S.ap (.frz o (.dK (kvA S.nums S.ts)))) (fZ (by omega)) ⟨none,rfl⟩ ⟨rfl,rfl⟩ (fun i ys H4 h=>by rw [h.1,Qd,Qd,Jq]; omega) (fun i ys H4 h=>by rw [h.2]; exact z2) ?_ ?_
   ·rintro i ys σ kv H4 hkv ⟨u,rfl⟩ ⟨rfl,rfl⟩ hz
    obtain ⟨num,t',hnum,ht',rfl⟩:∃ num t',S.nums[i]?=some num/\S.ts[i]?=some t'/\kv=(.inl num,.ref t'):=by
     unfold kvA at hkv
     rw [Qi] at hkv
     obtain ⟨p,hp,e⟩:=Qv.mp hkv
     rw [Jb] at hp
     exact ⟨p.1,p.2,hp.1,hp.2,e.symm⟩
    have hi:i < S.nums.length:=(Qa.mp hnum).1
    obtain ⟨l,hl⟩:∃ l,S.ws[i]?=some l:=⟨_,Qc (by rw [hS.wl]; exact hi)⟩
    have hsq:SqT K (upd H3 S.ap (.frz o (.dK (kvA S.nums S.ts)))) t' (l.map V.int):=bf.seqTd hS3.able (hS3.tup i t' l ht' hl)
    refine cC ?_
    refine ⟨_,rfl,_,rfl,sp,_,rfl,.inl ⟨S.kv,.inr "able",.inl st3,rfl,(eG S).symm⟩,_,rfl,S.ap,.ref t',rfl,.inl ⟨_,.inl num,.inr ⟨o,z2⟩,rfl,(bW hnd hnum ht').symm⟩,t',_,rfl,.inr hsq,rfl,lM _,hz,⟨_,rfl⟩,?_,rfl⟩
    obtain ⟨hlw,elw⟩:=Qa.mp hl
    rw [Jy hlw,elw,Jd,Jd]
    show _++[V.bl (inV (.int (S.n - 1)) (l.map V.int))]=_
    rw [qI]; rfl
   ·rintro ys H4 ⟨rfl,rfl⟩ pc hpc
    have npd:pc≠S.ap:=fun z=>by rw [z,z2] at hpc; cases hpc
    refine ⟨pc,(S.ws.take (kvA S.nums S.ts).length).map fun l=>decide (S.n - 1∈l),rfl,SqL.of (by rw [aD npd,aB]),_,rfl,?_⟩
    rw [hkl,<- hS.wl,Ju]
    have e:((S.ws.map fun l=>decide (S.n - 1∈l)).any id)=S.ws.any fun l=>decide (S.n - 1∈l):=by
     rw [We]; rfl
    rw [e]
    refine q _ fun b' u hb'=>?_
    by_cases c:b'=S.ap
    ·rw [c] at hb' ⊢
     rw [aB,<- hS3.able]; exact hb'
    ·have n2:b'≠pc:=fun z=>by rw [aD npd] at hpc; rw [z,hpc] at hb'; cases hb'
     rw [aD c,aD n2,aD c]; exact hb'
  clear hb
  have hS3:=hS2.same s3
  have J3:=J2.same s3
  have b3:=b2.trans (But.of s3)
  dsimp only [cQ]
  have hkl:(kvA S.nums S.ts).length=S.nums.length:=gR hS.tl
  refine gA (decide (kd < 5) && decide (0 < ((kvA S.nums S.ts).length:Int)) || decide (V.int ((kvA S.nums S.ts).length:Int)=V.int 12)) (nY (aAn (fun Q' q=>⟨_,rfl,kd,5,rfl,rfl,_,rfl,q _ (aG.refl _)⟩) (fun _ H4 s4 Q' q=>⟨_,rfl,sp,_,rfl,(hS3.same s4).dget (k:=.inr "able") (eG S),S.ap,_,rfl,(hS3.same s4).able,_,0,rfl,rfl,_,rfl,q _ (aG.refl _)⟩)) (fun _ H4 s4 Q' q=>⟨_,rfl,sp,_,rfl,(hS3.same s4).dget (k:=.inr "able") (eG S),S.ap,_,rfl,(hS3.same s4).able,rfl,_,rfl,q _ (aG.refl _)⟩)) (fun hb H4 s4=>?take) (fun hb H4 s4=>?put)
  case take =>
   have pos:0 < S.nums.length:=by
    rw [hkl] at hb
    rcases Wb .. |>.mp hb with z | z
    ·have:=of_decide_eq_true ((Ji ..).mp z).2
     omega
    ·have:=of_decide_eq_true z
     injection this with this
     omega
   have hS4:=hS3.same s4
   refine ⟨_,rfl,sp,_,rfl,hS4.dget (k:=.inr "able") (eG S),S.ap,_,S.nums,rfl,.inl hS4.able,kS hS.tl,by omega,fun p ms hp hperm _=>?_⟩
   dsimp only [aV]
   have s5:=aG.new (o:=.lst (ms.map V.int)) hp
   have J5:=(J3.same s4).same s5
   have ep:upd H4 p (.lst (ms.map V.int)) p=some (.lst (ms.map V.int)):=aB
   have b5:=(b3.trans (But.of s4)).trans (But.of s5)
   have npt:p≠t:=(J3.same s4).ne hp
   generalize upd H4 p (.lst (ms.map V.int))=H5 at s5 J5 ep b5 ⊢
   have ml:ms.length=S.nums.length:=hperm.length_eq
   refine ⟨_,rfl,_,rfl,_,rfl,p,_,rfl,.inl (SqL.of ep),t,a,ns,N+1,_,rfl,J5,by omega,by rw [Qd]; omega,?_,fun r H6 r0 r1 b6 J6=>?_⟩
   ·rw [Qd,ml]
    have:(S.nums.length:Int).natAbs<=12:=by omega
    exact Zd this (by decide +kernel)
   rw [Qd,ml] at r1
   obtain ⟨num,hnum⟩:∃ num,ms[r.toNat]?=some num:=⟨_,Qc (by omega)⟩
   refine ⟨p,_,r,.int num,rfl,rfl,SqL.of (b6 _ _ npt ep),?_,szK 2 (by decide) |> Js,fun dp hdp=>?_⟩
   ·have er:r=((r.toNat:Nat):Int):=by omega
    rw [er]
    exact eS (by rw [Qi,hnum]; rfl)
   ·exact k dp (.take num) _ ((b5.trans b6).trans (But.of (aG.new hdp))) ((J6.same (aG.new hdp)).more (by omega)) (SqT.of aB) (hperm.mem_iff.mp (Qe hnum))
  case put =>
   have few:S.nums.length < 12:=by
    rw [Bool.or_eq_false_iff,hkl] at hb
    have:=of_decide_eq_false hb.2
    have:¬ (S.nums.length:Int)=12:=fun z=>this (by rw [z])
    omega
   have hS4:=hS3.same s4
   have J4:=J3.same s4
   refine ⟨_,rfl,_,rfl,sp,_,rfl,hS4.dget (k:=.inr "hands") (eM S),t,a,ns,N+1,S.n,rfl,J4,by omega,hn1,hn6,fun l p H5 hw b5 J5 hp=>?_⟩
   refine ⟨szK 2 (by decide) |> Js,fun dp hdp=>?_⟩
   exact k dp (.put p l) _ (((b3.trans (But.of s4)).trans b5).trans (But.of (aG.new hdp))) ((J5.same (aG.new hdp)).more (by omega)) ⟨SqT.of aB,(aG.new hdp).seqT hp⟩ ⟨hw,few⟩
end
end Ab
namespace L2
open PySem
theorem mH {X:Cx} {K:PySem.W.Frag} (hK:X.K=K):dJ X (.builtin "isinstance") (fun xs H Q=>∃ x k,xs = [x,.ty "int"]/\KdV K H x k/\Q (.bl (decide (k=.int∨k=.bl))) H):=by subst hK; exact nF
theorem kW {X:Cx} {K:PySem.W.Frag} (hK:X.K=K):dJ X (.builtin "isinstance") (fun xs H Q=>∃ x k,xs = [x,.ty "bool"]/\KdV K H x k/\Q (.bl (decide (k=.bl))) H):=by subst hK; exact iX
theorem mI {X:Cx}:dJ X (.builtin "isinstance") (fun xs H Q=>∃ (a:Addr) (kvs:List (Key×V)),xs = [.ref a,.ty "dict"]/\H a=some (.dK kvs)/\Q (.bl true) H):=by
 intro pins s σ H xs us Q I r h
 obtain ⟨a,kvs,rfl,ha,q⟩:=h
 obtain ⟨u,t,rfl,rx,rt⟩:=pI r
 cases rt
 cases rx
 obtain ⟨o,e,c⟩:=uQ I ha
 exact IsiPair.dict_dict e c ⟨.bl true,H,I,rfl,q⟩
end L2
namespace Ab
open PySem L2
theorem zE (n:Int):bF n []=List.replicate n.toNat 0:=by
 unfold bF
 refine Yt fun j=>?_
 by_cases c:j < n.toNat
 ·rw [Qi,rW c,Xo,if_pos c]; rfl
 ·rw [Xa (by rw [Qd,eE]; omega),Xa (by rw [Jj]; omega)]
theorem xU {n g:Int} {hs:List Int} (h0:0<=g) (h1:g < n):(bF n hs).set g.toNat (((hs.count g:Nat):Int)+1)=bF n (hs++[g]):=by
 refine Yt fun j=>?_
 have ll:∀ hs:List Int,(bF n hs).length=n.toNat:=fun hs=>by unfold bF; rw [Qd,eE]
 by_cases c:j < n.toNat
 ·rw [Xc,gJ c,gJ c,ll]
  by_cases d:g.toNat=j
  ·have e:g=(j:Int):=by omega
   rw [if_pos d,if_pos (by omega),e,Ys,List.count_singleton_self]
   rfl
  ·rw [if_neg d,Ys,Yq.mpr (fun z=>d (by have:(j:Int)=g:=(by simpa using z); omega):(j:Int)∉[g])]
   rfl
 ·rw [Xa (by rw [Zp,ll]; omega),Xa (by rw [ll]; omega)]
theorem xV {α:Type} (x:α):∀ n:Nat,(List.replicate n [x]).flatten=List.replicate n x
 | 0=>rfl
 | n+1=>by rw [Xg,Zh,xV x n,Xg]; rfl
theorem sI {nums hs:List Int} {i:Nat} {kv:Key×V} (h:(kvH nums hs)[i]?=some kv):∃ num g,nums[i]?=some num/\hs[i]?=some g/\kv=(.inl num,.int g):=by
 unfold kvH at h
 rw [Qi] at h
 obtain ⟨p,hp,e⟩:=Qv.mp h
 rw [Jb] at hp
 exact ⟨p.1,p.2,hp.1,hp.2,e.symm⟩
theorem qK (n:Nat):(List.replicate n true).all id=true:=by
 rw [Xb]; intro x hx; rw [(Zw.mp hx).2]; rfl
section
variable {P:Program} {w:World} {K:PySem.W.Frag} {mg:Str->Option Value} {base:Heap} {C:Addr}
def jN (K:PySem.W.Frag):Sp:=fun vs H Q _=>∃ (p:Addr) (ns:List Int),vs = [.ref p]/\(SqL K H p (ns.map V.int)∨SqT K H p (ns.map V.int))/\ns.length<=1000/\∀ H',aG H H'->Q (.bl true) H'
theorem aA2:FnScope ["some"] ["some"] (aH gW):=⟨rfl,rfl,rfl,by decide +kernel,rfl,by decide +kernel,by decide +kernel⟩
theorem zF {f:Addr} {fd:FuncData} (G:Fn K mg "_law_e_whole_in" gW ["some"] f fd) (B:Bl mg):FnOk P w K mg base CX0 1 f fd ["some"] (jN K):=by
 refine G.fn.ok aA2 (fun vs H Q E h=>?_) (fun cdv A outer s H vs Q E hr h=>?_)
 ·obtain ⟨p,ns,rfl,_⟩:=h
  rfl
 ·obtain ⟨p,ns,rfl,hp,hn,k⟩:=h
  rcases hp with hp | hp
  ·refine ⟨_,aF (aK (aJ (jB rfl) rfl B.all tU (aA (cZ (own:=["number"]) (fr:=[]) (frn:=[]) (bD (aH gW) ["some"] rfl rfl (by decide +kernel)) rfl (iS (pv 0))
    (fun _ _ _ _=>(aT (i:=0) (show (["number"]:List Str).Nodup by decide +kernel) rfl (Or.inl rfl))) (fun _ _ _ _=>dQ)
    (fun _ _ _ _=>iF (aJ (mH (K:=K) rfl) rfl B.isinstance gU (aA (pv 0) (aA (cP (v:=.ty "int") rfl B.int aB4 rfl) aE))) (kF (xZ (aJ (kW (K:=K) rfl) rfl B.isinstance gU (aA (pv 0) (aA (cP (v:=.ty "bool") rfl B.bool vE rfl) aE))))))) aE))),?_⟩
   refine ⟨_,rfl,p,rfl,⟨_,hp⟩,aBI (K:=K) (a:=p) (xs:=ns.map V.int) (vs:=(List.replicate ns.length true).map V.bl) (fun σ=>∃ v,σ = [v]) (by rw [Qd]; exact hn) (by rw [Qd,Qd,Jj]) hp ⟨none,rfl⟩ ?_ ?_⟩
   ·rintro j y v σ H3 h1 h2 ⟨v0,rfl⟩ s3 Q' hq
    rw [Qi] at h1 h2
    obtain ⟨m,_,rfl⟩:=Qv.mp h1
    obtain ⟨b,hb,rfl⟩:=Qv.mp h2
    have eb:b=true:=(Zw.mp (Qe hb)).2
    subst eb
    exact ⟨_,rfl,_,.int,rfl,rfl,true,rfl,iQ ⟨_,rfl,_,.int,rfl,rfl,false,rfl,hq _ _ ⟨_,rfl⟩ (aG.refl _)⟩⟩
   ·intro H3 s3 pc hpc
    refine ⟨pc,_,rfl,SqL.of aB,?_⟩
    rw [qK]
    exact k _ (s3.trans (aG.new hpc))
  ·refine ⟨_,aF (aK (aJ (jB rfl) rfl B.all tU (aA (cZ (own:=["number"]) (fr:=[]) (frn:=[]) (bD (aH gW) ["some"] rfl rfl (by decide +kernel)) rfl (mM (pv 0))
    (fun _ _ _ _=>(aT (i:=0) (show (["number"]:List Str).Nodup by decide +kernel) rfl (Or.inl rfl))) (fun _ _ _ _=>dQ)
    (fun _ _ _ _=>iF (aJ (mH (K:=K) rfl) rfl B.isinstance gU (aA (pv 0) (aA (cP (v:=.ty "int") rfl B.int aB4 rfl) aE))) (kF (xZ (aJ (kW (K:=K) rfl) rfl B.isinstance gU (aA (pv 0) (aA (cP (v:=.ty "bool") rfl B.bool vE rfl) aE))))))) aE))),?_⟩
   refine ⟨_,rfl,p,rfl,⟨_,hp⟩,rC (K:=K) (a:=p) (xs:=ns.map V.int) (vs:=(List.replicate ns.length true).map V.bl) (fun σ=>∃ v,σ = [v]) (by rw [Qd]; exact hn) (by rw [Qd,Qd,Jj]) hp ⟨none,rfl⟩ ?_ ?_⟩
   ·rintro j y v σ H3 h1 h2 ⟨v0,rfl⟩ s3 Q' hq
    rw [Qi] at h1 h2
    obtain ⟨m,_,rfl⟩:=Qv.mp h1
    obtain ⟨b,hb,rfl⟩:=Qv.mp h2
    have eb:b=true:=(Zw.mp (Qe hb)).2
    subst eb
    exact ⟨_,rfl,_,.int,rfl,rfl,true,rfl,iQ ⟨_,rfl,_,.int,rfl,rfl,false,rfl,hq _ _ ⟨_,rfl⟩ (aG.refl _)⟩⟩
   ·intro H3 s3 pc hpc
    refine ⟨pc,_,rfl,SqL.of aB,?_⟩
    rw [qK]
    exact k _ (s3.trans (aG.new hpc))
structure WhH (K:PySem.W.Frag) (H:Hp) (wp:Addr) (S:SD) (hs:List Int):Prop where
 at_:H wp=some (.dK (kvH S.nums hs))
 len:hs.length=S.nums.length
 rg:∀ g∈hs,0<=g/\g < S.n
theorem WhH.same {H H':Hp} {wp:Addr} {S:SD} {hs:List Int} (h:WhH K H wp S hs) (s:aG H H'):WhH K H' wp S hs:=⟨s _ _ h.at_,h.len,h.rg⟩
def nZ (K:PySem.W.Frag):Sp:=fun vs H Q _=>∃ (sp wp:Addr) (S:SD) (hs:List Int),vs = [.ref sp,.ref wp]/\StH K H sp S/\StM S/\WhH K H wp S hs/\∀ p H',aG H H'->H p=none->H' p=some (.lst ((bF S.n hs).map V.int))->Q (.ref p) H'
theorem sJ:FnScope ["state", "where", "found", "number"] ["state", "where"] (aH nO):=⟨rfl,rfl,rfl,by decide +kernel,rfl,by decide +kernel,by decide +kernel⟩
set_option maxHeartbeats 1000000 in
theorem aA3 {f:Addr} {fd:FuncData} (G:Fn K mg "_law_e_heaps" nO ["state", "where"] f fd) (B:Bl mg):FnOk P w K mg base CX0 1 f fd ["state", "where"] (nZ K):=by
 refine G.fn.ok sJ (fun vs H Q E h=>?_) (fun cdv A outer s H vs Q E hr h=>?_)
 ·obtain ⟨sp,wp,S,hs,rfl,_⟩:=h
  rfl
 ·obtain ⟨sp,wp,S,hs,rfl,hS,hM,hW,k⟩:=h
  have hu:=eC hr
  refine ⟨_,aC (aM (i:=2) sJ.nd rfl (Or.inl rfl) (bC aEq (eU (aA aI aE)) (aQ hu (pv 0) aP (fun _ _=>rfl))))
   (aC (pX (gD PassesOwn.never rfl (lF (pv 1)) (aT (i:=3) sJ.nd rfl (Or.inl rfl))
    (aF (oG (bC cY (bE bX (pv 2) (aQ hu (pv 1) (pv 3) (fun _ _=>rfl)) (fun _ _=>rfl)) aI) (uL (pv 2) (aQ hu (pv 1) (pv 3) (fun _ _=>rfl)) nE)))))
   (aF (aK (pv 2)))),?_⟩
  obtain ⟨hn1,hn6,hw12,hws⟩:=aS hM.bk
  have n12:S.nums.length<=12:=by rw [<- hS.wl]; exact hw12
  have hnd:S.nums.Nodup:=Jc.mpr (hM.up.imp fun h=>Xu h)
  have hkl:(kvH S.nums hs).length=S.nums.length:=jZ hW.len
  refine ⟨szK 1 (by decide) |> Js,fun p0 hp0=>?_⟩
  have s1:=aG.new (o:=.lst [V.int 0]) hp0
  have e1:upd H p0 (.lst [V.int 0]) p0=some (.lst [V.int 0]):=aB
  generalize upd H p0 (.lst [V.int 0])=H1 at s1 e1 ⊢
  refine ⟨_,rfl,sp,_,rfl,(hS.same s1).dget (k:=.inr "hands") (eM S),p0,S.n,_,rfl,rfl,e1,by omega,by omega,?_,fun fp hfp=>?_⟩
  ·have:([V.int 0]:List V).length*S.n.toNat < sizeLine:=szK _ (by show 1*S.n.toNat < 1000; omega)
   exact Js this
  dsimp only [aV]
  have hfp0:H fp=none:=by
   cases e:H fp with
   | none=>rfl
   | some u=>rw [s1 _ _ e] at hfp; cases hfp
  have s2:=s1.trans (aG.new (o:=.lst (List.replicate S.n.toNat [V.int 0]).flatten) hfp)
  have e2:upd H1 fp (.lst (List.replicate S.n.toNat [V.int 0]).flatten) fp=some (.lst ((bF S.n []).map V.int)):=by rw [aB,xV,zE,List.map_replicate]
  generalize upd H1 fp (.lst (List.replicate S.n.toNat [V.int 0]).flatten)=H2 at s2 e2 ⊢
  have hW2:=hW.same s2
  have nfw:fp≠wp:=fun z=>by rw [z,hW.at_] at hfp0; cases hfp0
  refine ⟨_,rfl,wp,_,rfl,hW2.at_,fun o nf=>?_⟩
  have z3:upd H2 wp (.frz o (.dK (kvH S.nums hs))) wp=some (.frz o (.dK (kvH S.nums hs))):=aB
  have b3:But wp H2 (upd H2 wp (.frz o (.dK (kvH S.nums hs)))):=But.at
  have e3:=b3 _ _ nfw e2
  generalize upd H2 wp (.frz o (.dK (kvH S.nums hs)))=H3 at z3 b3 e3 ⊢
  have bb:bH wp fp fp H H3:=fun c u h1 h2 h3 hu=>b3 _ _ h1 (s2 _ _ hu)
  refine rG (a:=wp) (o:=o) (kvs:=kvH S.nums hs) (fun i σ H4=>∃ v,σ = [some (.ref sp),some (.ref wp),some (.ref fp),v]/\H4 wp=some (.frz o (.dK (kvH S.nums hs)))/\H4 fp=some (.lst ((bF S.n (hs.take i)).map V.int))/\bH wp fp fp H H4) ⟨none,rfl,z3,e3,bb⟩ (fun i σ H4 _ ⟨_,_,h,_⟩=>h) ?_ ?_
  ·rintro i kv σ H4 hkv ⟨v,rfl,z4,e4,b4⟩
   obtain ⟨num,g,hnum,hg,rfl⟩:=sI hkv
   have gr:=hW.rg g (Qe hg)
   have dg:gG H4 wp (kV (.inl num)) (some (.int g)):=.inl ⟨_,.inl num,.inr ⟨o,z4⟩,rfl,(bW (f:=V.int) hnd hnum hg).symm⟩
   have lg:(bF S.n (hs.take i))[g.toNat]?=some (((hs.take i).count g:Nat):Int):=by rw [gJ (by omega),show ((g.toNat:Nat):Int)=g by omega]
   have eg:g=((g.toNat:Nat):Int):=by omega
   refine ⟨_,rfl,_,rfl,_,rfl,wp,_,rfl,dg,fp,_,g,.int (((hs.take i).count g:Nat):Int),rfl,rfl,SqL.of e4,?_,(((hs.take i).count g:Nat):Int),1,rfl,rfl,_,rfl,_,rfl,_,rfl,wp,_,rfl,dg,fp,_,g,g.toNat,rfl,rfl,e4,?_,?_⟩
   ·rw [eg]
    exact eS (by rw [Qi,<- eg,lg]; rfl)
   ·rw [Qd,show (bF S.n (hs.take i)).length=S.n.toNat by unfold bF; rw [Qd,eE]]
    exact aCe gr.1 (by omega)
   ·refine ⟨_,rfl,(aD nfw.symm).trans z4,?_,b4.trans bH.a⟩
    obtain ⟨hlt,ee⟩:=Qa.mp hg
    rw [aB,Jy hlt,ee,<- xU gr.1 gr.2,List.map_set]
  ·rintro σ H4 ⟨v,rfl,z4,e4,b4⟩
   rw [hkl,<- hW.len,Ju] at e4
   refine ⟨wp,o,_,z4,nf,_,rfl,k fp _ (fun c u hc=>?_) hfp0 ((aD nfw).trans e4)⟩
   by_cases d:c=wp
   ·rw [d] at hc ⊢
    rw [aB,<- hW.at_]; exact hc
   ·have n2:c≠fp:=fun z=>by rw [z,hfp0] at hc; cases hc
    rw [aD d]; exact b4 c u d n2 n2 hc
theorem xW {nums hs:List Int} (h:hs.length=nums.length):((kvH nums hs).map fun kv=>kV kv.1)=nums.map V.int:=by
 unfold kvH
 rw [Jw]
 show (nums.zip hs).map (fun p=>V.int p.1)=_
 rw [show (fun p:Int×Int=>V.int p.1)=V.int ∘ Prod.fst from rfl,<- Jw,List.map_fst_zip (by omega)]
theorem aD1 {S:SD} {nums hs:List Int} (h:HO.dK S.kv=HO.dK (kvH nums hs)):False:=by
 injection h with h
 cases nums with
 | nil=>cases h
 | cons n nums => cases hs with
   | nil=>cases h
   | cons g hs=>cases h
theorem aA4 {a b c:List Int} (h1:a.Perm c) (h2:b.Perm c) (p1:a.Pairwise (·<=·)) (p2:b.Pairwise (·<=·)):a=b :=
 (h1.trans h2.symm).eq_of_pairwise (fun x y _ _ h h'=>Int.le_antisymm h h') p1 p2
def pE (K:PySem.W.Frag):Sp:=fun vs H Q _=>∃ (sp wp:Addr) (S:SD) (hs:List Int),vs = [.ref sp,.ref wp]/\StH K H sp S/\StM S/\WhH K H wp S hs/\(∀ (i:Nat) g l,hs[i]?=some g->S.ws[i]?=some l->g∈l)/\wp≠S.ap/\∀ H',aG H H'->Q (.bl true) H'
theorem aA5:FnScope ["state", "where"] ["state", "where"] (aH kQ):=⟨rfl,rfl,rfl,by decide +kernel,rfl,by decide +kernel,by decide +kernel⟩
set_option maxHeartbeats 1000000 in
theorem zG {f fW:Addr} {fd dW:FuncData} (G:Fn K mg "_law_e_is_deal" kQ ["state", "where"] f fd) (B:Bl mg) (GWi:Fn K mg "_law_e_whole_in" gW ["some"] fW dW) (OWi:FnOk P w K mg base CX0 1 fW dW ["some"] (jN K)):FnOk P w K mg base CX0 2 f fd ["state", "where"] (pE K):=by
 refine G.fn.ok aA5 (fun vs H Q E h=>?_) (fun cdv A outer s H vs Q E hr h=>?_)
 ·obtain ⟨sp,wp,S,hs,rfl,_⟩:=h
  rfl
 ·obtain ⟨sp,wp,S,hs,rfl,hS,hM,hW,hin,nwa,k⟩:=h
  have hu:=eC hr
  have r1:Room 1 _:=hr
  refine ⟨_,aC (bA (PW.pt (dF (bY (bP (aJ mI rfl B.isinstance gU (aA (pv 1) (aA (cP (v:=.ty "dict") rfl B.dict sE rfl) aE))))) (cW (aL (uS hr.u64) (aJ (iK rfl) rfl B.sorted rP (aA (pv 1) aE)) (aJ (iK rfl) rfl B.sorted rP (aA (aQ hu (pv 0) aP (fun _ _=>rfl)) aE)) (aR _))))) (aF (aK cO)) aN)
   (aC (bA (bY (bP (aZ GWi OWi r1 rfl (aA (bC aBu (bV (hX rfl) rfl B.list oR (aA (pv 1) aE)) (bV (rO rfl) rfl B.list oR (aA (oK PySem.F.plainAttrs_dict PySem.F.slot_dict_values PySem.F.type_dict_values lH (pv 1)) aE))) aE)))) (aF (aK cO)) aN)
   (aF (aK (aJ (jB rfl) rfl B.all tU (aA (kL (own:=["number"]) (fr:=[0,1]) (frn:=["state", "where"]) (bD (aH kQ) ["state", "where"] rfl rfl (by decide +kernel)) rfl (pv 1)
     (fun _ _ _ _=>(aT (i:=0) (show (["number", "state", "where"]:List Str).Nodup by decide +kernel) rfl (Or.inl rfl))) (fun _ _ _ _=>dQ)
     (fun _ _ _ _=>(eR (iN (K:=K) rfl) (aQ hu (pv 2) (pv 0) (fun _ _=>rfl)) (aQ hu (aQ hu (pv 1) aP (fun _ _=>rfl)) (pv 0) (fun _ _=>rfl)) (by with_unfolding_all rfl)))) aE))))),?_⟩
  obtain ⟨hn1,hn6,hw12,hws⟩:=aS hM.bk
  have n12:S.nums.length<=12:=by rw [<- hS.wl]; exact hw12
  have hnd:S.nums.Nodup:=Jc.mpr (hM.up.imp fun h=>Xu h)
  have hkl:(kvH S.nums hs).length=S.nums.length:=jZ hW.len
  refine gA false (nY (b:=false) (c:=false) (fun Q' q=>⟨_,rfl,wp,_,rfl,hW.at_,true,rfl,q _ (aG.refl _)⟩) (fun _ H1 s1 Q' q=>?_)) (fun hb=>by cases hb) (fun _ H1 s1=>?_)
  ·refine ⟨_,rfl,wp,_,S.nums,rfl,.inl (hW.same s1).at_,xW hW.len,by omega,fun p ms hp hpm pm=>?_⟩
   have s2:=aG.new (o:=.lst (ms.map V.int)) hp
   have ep:upd H1 p (.lst (ms.map V.int)) p=some (.lst (ms.map V.int)):=aB
   generalize upd H1 p (.lst (ms.map V.int))=H2 at s2 ep ⊢
   have hS2:=hS.same (s1.trans s2)
   refine ⟨_,rfl,sp,_,rfl,hS2.dget (k:=.inr "able") (eG S),S.ap,_,S.nums,rfl,.inl hS2.able,kS hS.tl,by omega,fun p' ms' hp' hpm' pm'=>?_⟩
   have em:ms'=ms:=aA4 hpm' hpm pm' pm
   rw [em]
   have s3:=aG.new (o:=.lst (ms.map V.int)) hp'
   refine ⟨.list (ms.map .int),.list (ms.map .int),iB.mpr ⟨p,rfl,SqL.of (s3 _ _ ep)⟩,iB.mpr ⟨p',rfl,SqL.of aB⟩,eF _,eF _,cV _,cV _,_,rfl,?_⟩
   rw [PySem.SeqAt.eqv_refl _ (SeqAt.canLay_of_shaped (cV _))]
   exact q _ (s2.trans s3)
  dsimp only [cQ]
  refine gA false (kU (b:=true) fun Q' q=>?_) (fun hb=>by cases hb) (fun _ H2 s2=>?_)
  ·have hW1:=hW.same s1
   refine ⟨_,rfl,wp,_,rfl,.inl hW1.at_,fun p hp=>?_⟩
   rw [xW hW.len]
   have s2:=aG.new (o:=.lst (S.nums.map V.int)) hp
   have ep:upd H1 p (.lst (S.nums.map V.int)) p=some (.lst (S.nums.map V.int)):=aB
   generalize upd H1 p (.lst (S.nums.map V.int))=H2 at s2 ep ⊢
   have hW2:=hW1.same s2
   refine ⟨_,rfl,.inr (.inr (.inl ⟨rfl,.inl ⟨_,hW2.at_⟩⟩)),wp,_,rfl,rfl,.inl hW2.at_,fun v hv=>⟨v,wp,_,rfl,aB,.inl ((aG.new hv) _ _ hW2.at_),fun p2 hp2=>?_⟩⟩
   rw [xQ hW.len]
   have s3:=(aG.new (o:=VwO v wp) hv).trans (aG.new (o:=.lst (hs.map V.int)) hp2)
   have ep2:upd (upd H2 v (VwO v wp)) p2 (.lst (hs.map V.int)) p2=some (.lst (hs.map V.int)):=aB
   generalize upd (upd H2 v (VwO v wp)) p2 (.lst (hs.map V.int))=H3 at s3 ep2 ⊢
   refine ⟨p,p2,_,_,rfl,rfl,s3 _ _ ep,ep2,?_,fun p3 hp3=>?_⟩
   ·have:(S.nums.map V.int).length+(hs.map V.int).length < sizeLine:=szK _ (by rw [Qd,Qd,hW.len]; omega)
    exact Js this
   rw [<- Jd]
   have s4:=aG.new (o:=.lst ((S.nums++hs).map V.int)) hp3
   refine ⟨p3,S.nums++hs,rfl,.inl (SqL.of aB),by rw [Qh,hW.len]; omega,fun H4 s5=>⟨true,rfl,q _ ?_⟩⟩
   exact ((s2.trans s3).trans s4).trans s5
  dsimp only [cQ]
  have s12:=s1.trans s2
  have hS2:=hS.same s12
  have hW2:=hW.same s12
  refine ⟨_,rfl,wp,_,rfl,hW2.at_,fun o=>?_⟩
  have z3:upd H2 wp (.frz o (.dK (kvH S.nums hs))) wp=some (.frz o (.dK (kvH S.nums hs))):=aB
  have b3:But wp H2 (upd H2 wp (.frz o (.dK (kvH S.nums hs)))):=But.at
  have nsw:sp≠wp:=fun z=>by have:=hS.st; rw [z,hW.at_] at this; exact aD1 (Option.some.inj this).symm
  have st3:=b3 _ _ nsw hS2.st
  have a3:=b3 _ _ nwa.symm hS2.able
  refine iD (a:=wp) (o:=o) (kvs:=kvH S.nums hs) (fun σ=>∃ u,σ = [u,some (.ref sp),some (.ref wp)]) (fun i ys H4=>ys=(List.replicate i true).map V.bl/\H4=upd H2 wp (.frz o (.dK (kvH S.nums hs)))) (fZ (by omega)) ⟨none,rfl⟩ ⟨rfl,rfl⟩ (fun i ys H4 h=>by rw [h.1,Qd,Jj]; exact Qg _) (fun i ys H4 h=>by rw [h.2]; exact z3) ?_ ?_
  ·rintro i ys σ kv H4 hkv ⟨u,rfl⟩ ⟨rfl,rfl⟩ hz
   obtain ⟨num,g,hnum,hg,rfl⟩:=sI hkv
   have hi:i < S.nums.length:=(Qa.mp hnum).1
   obtain ⟨l,hl⟩:∃ l,S.ws[i]?=some l:=⟨_,Qc (by rw [hS.wl]; exact hi)⟩
   obtain ⟨t',ht'⟩:∃ t',S.ts[i]?=some t':=⟨_,Qc (by rw [hS.tl]; exact hi)⟩
   have hsq:SqT K (upd H2 wp (.frz o (.dK (kvH S.nums hs)))) t' (l.map V.int):=b3.seqTd hW2.at_ (hS2.tup i t' l ht' hl)
   refine cC ?_
   refine ⟨_,rfl,_,rfl,wp,_,rfl,.inl ⟨_,.inl num,.inr ⟨o,z3⟩,rfl,(bW (f:=V.int) hnd hnum hg).symm⟩,_,rfl,sp,_,rfl,.inl ⟨S.kv,.inr "able",.inl st3,rfl,(eG S).symm⟩,_,rfl,S.ap,.ref t',rfl,.inl ⟨_,.inl num,.inl a3,rfl,(bW hnd hnum ht').symm⟩,t',_,rfl,.inr hsq,rfl,lM _,hz,⟨_,rfl⟩,?_,rfl⟩
   rw [Ye,Jd]
   show _++[V.bl (inV (.int g) (l.map V.int))]=_
   rw [qI,decide_eq_true (hin i g l hg hl)]; rfl
  ·rintro ys H4 ⟨rfl,rfl⟩ pc hpc
   have npd:pc≠wp:=fun z=>by rw [z,z3] at hpc; cases hpc
   refine ⟨pc,List.replicate (kvH S.nums hs).length true,rfl,SqL.of (by rw [aD npd,aB]),?_⟩
   rw [qK]
   refine k _ fun b' u hb'=>?_
   have hb2:=s12 _ _ hb'
   by_cases c:b'=wp
   ·rw [c] at hb2 ⊢
    rw [aB,<- hW2.at_]; exact hb2
   ·have n2:b'≠pc:=fun z=>by rw [aD npd] at hpc; rw [z,hpc] at hb2; cases hb2
    rw [aD c,aD n2,aD c]; exact hb2
def sK (K:PySem.W.Frag):Sp:=fun vs H Q _=>∃ (sp wp p:Addr) (S:SD) (hs lv:List Int),vs = [.ref sp,.ref wp,.ref p]/\StH K H sp S/\StM S/\WhH K H wp S hs/\wp≠S.ap/\SqT K H p (lv.map V.int)/\kR S.n S.ws hs lv/\∀ H',aG H H'->Q (.bl true) H'
theorem sL:FnScope ["state", "where", "heights", "heaps", "number"] ["state", "where", "heights"] (aH lJ):=⟨rfl,rfl,rfl,by decide +kernel,rfl,by decide +kernel,by decide +kernel⟩
set_option maxHeartbeats 1000000 in
theorem aA6 {f fW fH:Addr} {fd dW dH:FuncData} (G:Fn K mg "_law_e_are_levels" lJ ["state", "where", "heights"] f fd) (B:Bl mg) (GWi:Fn K mg "_law_e_whole_in" gW ["some"] fW dW) (OWi:FnOk P w K mg base CX0 1 fW dW ["some"] (jN K)) (GHp:Fn K mg "_law_e_heaps" nO ["state", "where"] fH dH) (OHp:FnOk P w K mg base CX0 1 fH dH ["state", "where"] (nZ K)):FnOk P w K mg base CX0 2 f fd ["state", "where", "heights"] (sK K):=by
 refine G.fn.ok sL (fun vs H Q E h=>?_) (fun cdv A outer s H vs Q E hr h=>?_)
 ·obtain ⟨sp,wp,p,S,hs,lv,rfl,_⟩:=h
  rfl
 ·obtain ⟨sp,wp,p,S,hs,lv,rfl,hS,hM,hW,nwa,hp,hLv,k⟩:=h
  have hu:=eC hr
  have r1:Room 1 _:=hr
  refine ⟨_,aC (aM (i:=3) sL.nd rfl (Or.inr rfl) (aZ GHp OHp r1 rfl (aA (pv 0) (aA (pv 1) aE))))
   (aC (bA (PW.pt (dF (bY (bP (aJ cA rfl B.isinstance gU (aA (pv 2) (aA (cP (v:=.ty "tuple") rfl B.tuple dY rfl) aE))))) (dF (aL kA (aJ aO rfl B.len cG (aA (pv 2) aE)) (aJ aO rfl B.len cG (aA (pv 3) aE)) (aR _)) (cW (bY (bP (aZ GWi OWi r1 rfl (aA (pv 2) aE)))))))) (aF (aK cO)) aN)
   (aC (bA (bP (aJ (nI rfl) rfl B.any aAl (aA (cZ (own:=["hand"]) (fr:=[3,2]) (frn:=["heaps", "heights"]) (bD (aH lJ) ["state", "where", "heights", "heaps", "number"] rfl rfl (by decide +kernel)) rfl (eW rfl B.range (aA (aJ aO rfl B.len cG (aA (pv 3) aE)) aE))
    (fun _ _ _ _=>(aT (i:=0) (show (["hand", "heaps", "heights"]:List Str).Nodup by decide +kernel) rfl (Or.inl rfl))) (fun _ _ _ _=>dQ)
    (fun _ _ _ _=>(eR (mC (K:=K) rfl) (bC gE (bE (aBK (K:=K) rfl) (pv 1) (pv 0) (fun _ _=>rfl)) (bE (vM (K:=K) rfl) (pv 2) (pv 0) (fun _ _=>rfl))) (eN (aA aI (aA aI aE))) (by with_unfolding_all rfl)))) aE))) (aF (aK cO)) aN)
   (aC (pX (gD PassesOwn.never rfl (lF (pv 1)) (aT (i:=4) sL.nd rfl (Or.inr rfl)) (aF (bA (bP (aJ (nI rfl) rfl B.any aAl (aA (cZ (own:=["hand"]) (fr:=[2,1,4]) (frn:=["heights", "where", "number"]) (bD (aH lJ) ["state", "where", "heights", "heaps", "number"] rfl rfl (by decide +kernel)) rfl (mM (aQ hu (aQ hu (pv 0) aP (fun _ _=>rfl)) (pv 4) (fun _ _=>rfl)))
    (fun _ _ _ _=>(aT (i:=0) (show (["hand", "heights", "where", "number"]:List Str).Nodup by decide +kernel) rfl (Or.inl rfl))) (fun _ _ _ _=>dQ)
    (fun _ _ _ _=>(eR lY (bE (vM (K:=K) rfl) (pv 1) (aQ hu (pv 2) (pv 3) (fun _ _=>rfl)) (fun _ _=>rfl)) (bE (vM (K:=K) rfl) (pv 1) (pv 0) (fun _ _=>rfl)) (aR _)))) aE))) (aF (aK cO)) aN))))
   (aF (aK cO))))),?_⟩
  obtain ⟨hn1,hn6,hw12,hws⟩:=aS hM.bk
  have n12:S.nums.length<=12:=by rw [<- hS.wl]; exact hw12
  have hnd:S.nums.Nodup:=Jc.mpr (hM.up.imp fun h=>Xu h)
  have hkl:(kvH S.nums hs).length=S.nums.length:=jZ hW.len
  obtain ⟨hlv,hlb,hlm⟩:=aAX hLv
  have ll:(bF S.n hs).length=S.n.toNat:=by unfold bF; rw [Qd,eE]
  have lvat:∀ h:Int,0<=h->h < S.n->∃ v,lv[h.toNat]?=some v/\atI (lv.map V.int) h=some (.int v):=fun h h0 h1=>by
   have ev:lv[h.toNat]?=some lv[h.toNat]:=Qc (by omega)
   have z:=eS (xs:=lv.map V.int) (j:=h.toNat) (v:=.int lv[h.toNat]) (by rw [Qi,ev]; rfl)
   rw [show ((h.toNat:Nat):Int)=h by omega] at z
   exact ⟨_,ev,z⟩
  refine ⟨_,rfl,_,rfl,sp,wp,S,hs,rfl,hS,hM,hW,fun q H1 s1 nq e1=>?_⟩
  dsimp only [aV]
  refine gA false (nY (b:=false) (c:=false) (fun Q' h=>⟨_,rfl,_,.tup,rfl,.inr (.inl ⟨rfl,_,s1.seqT hp⟩),true,rfl,h _ (aG.refl _)⟩) (fun _ H2 s2=>nY (b:=false) (c:=false) (fun Q' h=>⟨_,rfl,p,_,rfl,.inr (s2.seqT (s1.seqT hp)),_,rfl,q,_,rfl,.inl (SqL.of (s2 _ _ e1)),rfl,false,?_,h _ (aG.refl _)⟩) (fun _ H3 s3=>kU (b:=true) fun Q' h=>⟨_,rfl,p,lv,rfl,.inr (s3.seqT (s2.seqT (s1.seqT hp))),by omega,fun H4 s4=>⟨true,rfl,h _ s4⟩⟩))) (fun hb=>by cases hb) (fun _ H2 s2=>?_)
  ·rw [Qd,Qd,ll,hlv,show (!decide (V.int (S.n.toNat:Nat)=V.int (S.n.toNat:Nat)))=false by simp]
  dsimp only [cQ]
  have s02:=s1.trans s2
  have e2:=s2 _ _ e1
  have hp2:=s02.seqT hp
  refine gA false (fun Q' h=>?_) (fun hb=>by cases hb) (fun _ H3 s3=>?_)
  ·refine ⟨_,rfl,q,_,rfl,.inl (SqL.of e2),_,rfl,by rw [Qd,ll]; omega,by rw [Qd,ll]; omega,aBJ (lo:=0) (n:=((((bF S.n hs).map V.int).length:Int)).toNat) (vs:=(List.replicate ((((bF S.n hs).map V.int).length:Int)).toNat false).map V.bl) (fun σ=>∃ v,σ = [v,some (.ref q),some (.ref p)]) (by rw [Qd,ll]; omega) (by rw [Qd,Jj]) ⟨none,rfl⟩ ?_ ?_⟩
   ·rintro i v σ H3 hi hv ⟨v0,rfl⟩ s3 Q2 hQ2
    rw [Qd,ll] at hi
    have ev:v=.bl false:=by
     obtain ⟨b,hb,rfl⟩:∃ b,b∈List.replicate ((((bF S.n hs).map V.int).length:Int)).toNat false/\V.bl b=v:=Jm.mp (Qe hv)
     rw [List.eq_of_mem_replicate hb]
    subst ev
    have i0:(0:Int)<=0+(i:Int):=by omega
    have i1:0+(i:Int) < S.n:=by omega
    obtain ⟨u,hu1,hu2⟩:=lvat _ i0 i1
    obtain ⟨m1,m2⟩:=hlb _ u hu1
    rw [show (((0+(i:Int)).toNat:Nat):Int)=0+(i:Int) by omega] at m1 m2
    refine ⟨_,rfl,_,rfl,q,_,_,_,rfl,rfl,SqL.of (s3 _ _ e2),jL i0 i1,_,rfl,_,rfl,p,_,_,_,rfl,rfl,s3.seqT hp2,hu2,_,_,rfl,rfl,sz2 _ _,fun z hz=>⟨z,_,rfl,.inr (SqT.of aB),rfl,rfl,?_⟩⟩
    have hin:inV (.int (((hs.count (0+(i:Int)):Nat):Int) - u)) [.int 0,.int 1]=true:=by
     have e:=vL (((hs.count (0+(i:Int)):Nat):Int) - u) [0,1]
     have:((hs.count (0+(i:Int)):Nat):Int) - u=0∨((hs.count (0+(i:Int)):Nat):Int) - u=1:=by omega
     refine e.trans ?_
     rcases this with z | z <;> rw [z] <;> rfl
    rw [hin]
    exact hQ2 _ _ ⟨_,rfl⟩ (aG.new hz)
   ·rintro H3 s3 z hz
    refine ⟨z,_,rfl,SqL.of aB,false,?_,h _ (s3.trans (aG.new hz))⟩
    rw [show (List.replicate ((((bF S.n hs).map V.int).length:Int)).toNat false).any id=false by simp]
  dsimp only [cQ]
  have s03:=s02.trans s3
  have hS3:=hS.same s03
  have hW3:=hW.same s03
  have hp3:=s03.seqT hp
  refine ⟨_,rfl,wp,_,rfl,hW3.at_,fun o nf=>?_⟩
  have z4:upd H3 wp (.frz o (.dK (kvH S.nums hs))) wp=some (.frz o (.dK (kvH S.nums hs))):=aB
  have b4:But wp H3 (upd H3 wp (.frz o (.dK (kvH S.nums hs)))):=But.at
  have nsw:sp≠wp:=fun z=>by have:=hS.st; rw [z,hW.at_] at this; exact aD1 (Option.some.inj this).symm
  have st4:=b4 _ _ nsw hS3.st
  have a4:=b4 _ _ nwa.symm hS3.able
  have p4:=b4.seqTd hW3.at_ hp3
  have tp4:∀ (i:Nat) t l,S.ts[i]?=some t->S.ws[i]?=some l->SqT K (upd H3 wp (.frz o (.dK (kvH S.nums hs)))) t (l.map V.int):=fun i t l a b=>b4.seqTd hW3.at_ (hS3.tup i t l a b)
  generalize upd H3 wp (.frz o (.dK (kvH S.nums hs)))=H4 at z4 b4 st4 a4 p4 tp4 ⊢
  refine rG (a:=wp) (o:=o) (kvs:=kvH S.nums hs) (fun i σ H5=>(∃ v,σ = [some (.ref sp),some (.ref wp),some (.ref p),some (.ref q),v])/\aG H4 H5) ⟨⟨none,rfl⟩,aG.refl _⟩ (fun i σ H5 _ h=>h.2 _ _ z4) ?_ ?_
  ·rintro i kv σ H5 hkv ⟨⟨v,rfl⟩,s5⟩
   obtain ⟨num,g,hnum,hg,rfl⟩:=sI hkv
   have hi:i < S.nums.length:=(Qa.mp hnum).1
   obtain ⟨l,hl⟩:∃ l,S.ws[i]?=some l:=⟨_,Qc (by rw [hS.wl]; exact hi)⟩
   obtain ⟨t',ht'⟩:∃ t',S.ts[i]?=some t':=⟨_,Qc (by rw [hS.tl]; exact hi)⟩
   have gr:=hW.rg g (Qe hg)
   obtain ⟨ug,hug,hug2⟩:=lvat g gr.1 gr.2
   obtain ⟨w1,w2,w3⟩:=aX (hws l (Qe hl))
   have l6:=gH (by omega) w2 w3
   have hsq:=s5.seqT (tp4 i t' l ht' hl)
   dsimp only [aV]
   refine gA false (fun Q' h=>?_) (fun hb=>by cases hb) (fun _ H6 s6=>⟨⟨_,rfl⟩,s5.trans s6⟩)
   refine ⟨_,rfl,sp,_,rfl,.inl ⟨S.kv,.inr "able",.inl (s5 _ _ st4),rfl,(eG S).symm⟩,_,rfl,S.ap,.ref t',rfl,.inl ⟨_,.inl num,.inl (s5 _ _ a4),rfl,(bW hnd hnum ht').symm⟩,t',rfl,⟨_,hsq⟩,rC (K:=K) (a:=t') (xs:=l.map V.int) (vs:=(List.replicate l.length false).map V.bl) (fun σ=>∃ v,σ = [v,some (.ref p),some (.ref wp),some (.int num)]) (by rw [Qd]; omega) (by rw [Qd,Jj,Qd]) hsq ⟨none,rfl⟩ ?_ ?_⟩
   ·rintro j y v2 σ H6 h1 h2 ⟨v0,rfl⟩ s6 Q2 hQ2
    rw [Qi] at h1 h2
    obtain ⟨m,hm,rfl⟩:=Qv.mp h1
    obtain ⟨b,hb,rfl⟩:=Qv.mp h2
    have eb:b=false:=(Zw.mp (Qe hb)).2
    subst eb
    have mr:=w2 m (Qe hm)
    obtain ⟨um,hum,hum2⟩:=lvat m mr.1 mr.2
    have s56:=s5.trans s6
    refine ⟨_,rfl,_,rfl,_,rfl,wp,_,rfl,.inl ⟨_,.inl num,.inr ⟨o,s56 _ _ z4⟩,rfl,(bW (f:=V.int) hnd hnum hg).symm⟩,p,_,g,_,rfl,rfl,s56.seqT p4,hug2,_,rfl,_,rfl,p,_,m,_,rfl,rfl,s56.seqT p4,hum2,ug,um,rfl,rfl,?_⟩
    have le:ug<=um:=by
     have eg:((g.toNat:Nat):Int)=g:=by omega
     have em:((m.toNat:Nat):Int)=m:=by omega
     exact hlm i g.toNat l (by rw [eg]; exact hg) hl m.toNat (by rw [em]; exact Qe hm) ug um hug hum
    dsimp only
    rw [show decide (um < ug)=false from decide_eq_false (by omega)]
    exact hQ2 _ _ ⟨_,rfl⟩ (aG.refl _)
   ·intro H6 s6 pc hpc
    refine ⟨pc,_,rfl,SqL.of aB,false,?_,h _ (s6.trans (aG.new hpc))⟩
    rw [show (List.replicate l.length false).any id=false by simp]
  ·rintro σ H5 ⟨⟨v,rfl⟩,s5⟩
   refine ⟨wp,o,_,s5 _ _ z4,nf,?_⟩
   refine k _ fun c u hc=>?_
   have hc3:=s03 _ _ hc
   by_cases d:c=wp
   ·rw [d] at hc3 ⊢
    rw [aB,<- hW3.at_]; exact hc3
   ·rw [aD d]; exact s5 _ _ (b4 _ _ d hc3)
inductive Wd where
 | works | deal | loads | levels | moved
 deriving DecidableEq
def Wd.str:Wd->Str
 | .works => "works" | .deal => "deal" | .loads => "loads" | .levels => "levels" | .moved => "moved"
def nB (K:PySem.W.Frag) (D:DD) (H0 H:Hp):Wd->V->Prop
 | .works,v=>∃ p ts,v=.ref p/\H0 p=none/\H p=some (.dK (kvA D.nums ts))/\ts.length=D.nums.length/\∀ (i:Nat) t l,ts[i]?=some t->D.ws[i]?=some l->SqT K H t (l.map V.int)
 | .deal,v=>∃ p,v=.ref p/\H0 p=none/\H p=some (.dK (kvH D.nums D.hs))
 | .loads,v=>∃ p,v=.ref p/\SqT K H p ((bF D.n D.hs).map V.int)
 | .levels,v=>∃ p lv,v=.ref p/\SqT K H p (lv.map V.int)/\kR D.n D.ws D.hs lv
 | .moved,v=>∃ p,v=.ref p/\SqT K H p [.int D.ml,.int D.ma]
def NT (H:Hp) (c:Addr):Prop:=(∀ xs,H c≠some (.tup xs))/\∀ o xs,H c≠some (.frz o (.tup xs))
theorem NT.lst {H:Hp} {c:Addr} {xs:List V} (h:H c=some (.lst xs)):NT H c:=⟨fun _ z=>(by rw [h] at z; cases z),fun _ _ z=>(by rw [h] at z; cases z)⟩
theorem NT.dK {H:Hp} {c:Addr} {xs:List (Key×V)} (h:H c=some (.dK xs)):NT H c:=⟨fun _ z=>(by rw [h] at z; cases z),fun _ _ z=>(by rw [h] at z; cases z)⟩
theorem NT.ins {H:Hp} {c C dx:Addr} {fs:List (Str×V)} (h:H c=some (.ins C dx fs)):NT H c:=⟨fun _ z=>(by rw [h] at z; cases z),fun _ _ z=>(by rw [h] at z; cases z)⟩
theorem bH.sqT {K:PySem.W.Frag} {x a b p:Addr} {H H':Hp} {xs:List V} (e:bH x a b H H') (hx:NT H x) (ha:NT H a) (hb:NT H b) (h:SqT K H p xs):SqT K H' p xs:=by
 rcases h with (h | ⟨o,h⟩) | h
 ·exact .inl (.inl (e p _ (fun z=>hx.1 _ (z ▸ h)) (fun z=>ha.1 _ (z ▸ h)) (fun z=>hb.1 _ (z ▸ h)) h))
 ·exact .inl (.inr ⟨o,e p _ (fun z=>hx.2 _ _ (z ▸ h)) (fun z=>ha.2 _ _ (z ▸ h)) (fun z=>hb.2 _ _ (z ▸ h)) h⟩)
 ·exact .inr h
theorem nB.keep {K:PySem.W.Frag} {D:DD} {H0 H H':Hp} {x a b:Addr} (e:bH x a b H H') (hx:NT H x) (ha:NT H a) (hb:NT H b) (nx:H0 x≠none) (na:H0 a≠none) (nb:H0 b≠none):∀ {wd:Wd} {v:V},nB K D H0 H wd v->nB K D H0 H' wd v
 | .works,v,⟨p,ts,h1,h2,h3,h4,h5⟩=>⟨p,ts,h1,h2,e p _ (fun z=>nx (z ▸ h2)) (fun z=>na (z ▸ h2)) (fun z=>nb (z ▸ h2)) h3,h4,fun i t l q1 q2=>e.sqT hx ha hb (h5 i t l q1 q2)⟩
 | .deal,v,⟨p,h1,h2,h3⟩=>⟨p,h1,h2,e p _ (fun z=>nx (z ▸ h2)) (fun z=>na (z ▸ h2)) (fun z=>nb (z ▸ h2)) h3⟩
 | .loads,v,⟨p,h1,h2⟩=>⟨p,h1,e.sqT hx ha hb h2⟩
 | .levels,v,⟨p,lv,h1,h2,h3⟩=>⟨p,lv,h1,e.sqT hx ha hb h2,h3⟩
 | .moved,v,⟨p,h1,h2⟩=>⟨p,h1,e.sqT hx ha hb h2⟩
theorem nB.same {K:PySem.W.Frag} {D:DD} {H0 H H':Hp} (e:aG H H'):∀ {wd:Wd} {v:V},nB K D H0 H wd v->nB K D H0 H' wd v
 | .works,v,⟨p,ts,h1,h2,h3,h4,h5⟩=>⟨p,ts,h1,h2,e p _ h3,h4,fun i t l q1 q2=>e.seqT (h5 i t l q1 q2)⟩
 | .deal,v,⟨p,h1,h2,h3⟩=>⟨p,h1,h2,e p _ h3⟩
 | .loads,v,⟨p,h1,h2⟩=>⟨p,h1,e.seqT h2⟩
 | .levels,v,⟨p,lv,h1,h2,h3⟩=>⟨p,lv,h1,e.seqT h2,h3⟩
 | .moved,v,⟨p,h1,h2⟩=>⟨p,h1,e.seqT h2⟩
theorem nB.old {K:PySem.W.Frag} {D:DD} {H0 H1 H:Hp} (e:∀ c,H1 c=none->H0 c=none):∀ {wd:Wd} {v:V},nB K D H1 H wd v->nB K D H0 H wd v
 | .works,v,⟨p,ts,h1,h2,h3,h4,h5⟩=>⟨p,ts,h1,e p h2,h3,h4,h5⟩
 | .deal,v,⟨p,h1,h2,h3⟩=>⟨p,h1,e p h2,h3⟩
 | .loads,v,⟨p,h1,h2⟩=>⟨p,h1,h2⟩
 | .levels,v,⟨p,lv,h1,h2,h3⟩=>⟨p,lv,h1,h2,h3⟩
 | .moved,v,⟨p,h1,h2⟩=>⟨p,h1,h2⟩
def aCx (K:PySem.W.Frag) (C Pl:Addr):Sp:=fun vs H Q _=>∃ (x:Addr) (D:DD) (wd:Wd),vs = [.ref x,.str wd.str]/\DlH K H C x D/\DlM D/\H Pl=some (.tab oZ)/\∀ v H',aG H H'->nB K D H H' wd v->Q v H'
theorem aFk:FnScope ["dealing", "word"] ["dealing", "word"] (aH aDe):=⟨rfl,rfl,rfl,by decide +kernel,rfl,by decide +kernel,by decide +kernel⟩
set_option maxHeartbeats 1000000 in
theorem aEM {f fWo fDe fLo fLe fMo Pl:Addr} {fd dWo dDe dLo dLe dMo:FuncData} (G:Fn K mg "_law_e_ask" aDe ["dealing", "word"] f fd) (T:Dc K C) (GWo:Mt K C "works" jX ["self"] fWo dWo) (OWo:FnOk P w K mg base CX0 1 fWo dWo ["self"] (kT K C)) (GDe:Mt K C "deal" rQ ["self"] fDe dDe) (ODe:FnOk P w K mg base CX0 1 fDe dDe ["self"] (nW K C))
  (GLo:Mt K C "loads" mV ["self"] fLo dLo) (OLo:FnOk P w K mg base CX0 2 fLo dLo ["self"] (nV K C)) (GLe:Mt K C "levels" lI ["self"] fLe dLe) (OLe:FnOk P w K mg base CX0 9 fLe dLe ["self"] (pB K C Pl)) (GMo:Mt K C "moved" oS ["self"] fMo dMo) (OMo:FnOk P w K mg base CX0 1 fMo dMo ["self"] (vV K C)):FnOk P w K mg base CX0 10 f fd ["dealing", "word"] (aCx K C Pl):=by
 refine G.fn.ok aFk (fun vs H Q E h=>?_) (fun cdv A outer s H vs Q E hr h=>?_)
 ·obtain ⟨x,D,wd,rfl,_⟩:=h
  rfl
 ·obtain ⟨x,D,wd,rfl,hD,hM,hT,k⟩:=h
  have r9:Room 9 _:=hr
  have r1:Room 1 _:=hr.mono (by decide)
  have r2:Room 2 _:=hr.mono (by decide)
  refine ⟨_,aC (bA (aL dX (pv 1) aP (aR _)) (aF (aK (bZ (pv 0) T.cl GWo.me OWo r1 GWo.bd .nil dP))) aN)
   (aC (bA (aL dX (pv 1) aP (aR _)) (aF (aK (bZ (pv 0) T.cl GDe.me ODe r1 GDe.bd .nil dP))) aN)
   (aC (bA (aL dX (pv 1) aP (aR _)) (aF (aK (bZ (pv 0) T.cl GLo.me OLo r2 GLo.bd .nil dP))) aN)
   (aC (bA (aL dX (pv 1) aP (aR _)) (aF (aK (bZ (pv 0) T.cl GLe.me OLe r9 GLe.bd .nil dP))) aN)
   (aF (aK (bZ (pv 0) T.cl GMo.me OMo r1 GMo.bd .nil dP)))))),?_⟩
  obtain ⟨hn1,hn6,_,_⟩:=aS hM.bk
  have F:∀ {a b:Str},a≠b->decide (V.str a=V.str b)=false:=pD
  cases wd with
  | works =>
   refine ⟨_,rfl,rfl,_,rfl,dZ tF ?_⟩
   refine ⟨_,rfl,x,D.dx,_,rfl,hD.ins,rfl,x,D,rfl,hD,hM,fun p ts H' s1 h0 h1 h2 h3=>k _ H' s1 ⟨p,ts,rfl,h0,h1,h2,h3⟩⟩
  | deal =>
   refine ⟨_,rfl,rfl,_,rfl,bS (F (by decide +kernel)) ⟨_,rfl,rfl,_,rfl,dZ tF ?_⟩⟩
   refine ⟨_,rfl,x,D.dx,_,rfl,hD.ins,rfl,x,D,rfl,hD,fun p hp=>k _ _ (aG.new hp) ⟨p,rfl,hp,aB⟩⟩
  | loads =>
   refine ⟨_,rfl,rfl,_,rfl,bS (F (by decide +kernel)) ⟨_,rfl,rfl,_,rfl,bS (F (by decide +kernel)) ⟨_,rfl,rfl,_,rfl,dZ tF ?_⟩⟩⟩
   refine ⟨_,rfl,x,D.dx,_,rfl,hD.ins,rfl,x,D,rfl,hD,by omega,hn6,fun p H' s1 hp=>k _ H' s1 ⟨p,rfl,SqT.of hp⟩⟩
  | levels =>
   refine ⟨_,rfl,rfl,_,rfl,bS (F (by decide +kernel)) ⟨_,rfl,rfl,_,rfl,bS (F (by decide +kernel)) ⟨_,rfl,rfl,_,rfl,bS (F (by decide +kernel)) ⟨_,rfl,rfl,_,rfl,dZ tF ?_⟩⟩⟩⟩
   refine ⟨_,rfl,x,D.dx,_,rfl,hD.ins,rfl,x,D,rfl,hD,hM,hT,fun p lv H' s1 hp L=>k _ H' s1 ⟨p,lv,rfl,SqT.of hp,L⟩⟩
  | moved =>
   refine ⟨_,rfl,rfl,_,rfl,bS (F (by decide +kernel)) ⟨_,rfl,rfl,_,rfl,bS (F (by decide +kernel)) ⟨_,rfl,rfl,_,rfl,bS (F (by decide +kernel)) ⟨_,rfl,rfl,_,rfl,bS (F (by decide +kernel)) ?_⟩⟩⟩⟩
   refine ⟨_,rfl,x,D.dx,_,rfl,hD.ins,rfl,x,D,rfl,hD.ins,fun p hp=>k _ _ (aG.new hp) ⟨p,rfl,SqT.of aB⟩⟩
def wdD (ls:List Wd):PyData:=.list (ls.map fun wd=>.str wd.str)
theorem aEN {a b:Wd} (h:(Sum.inr a.str:Key)=.inr b.str):a=b:=by
 have h':a.str=b.str:=by injection h
 revert h'
 cases a <;> cases b <;> decide +kernel
theorem uD {α β:Type} (f:α->β):∀ (l:List α) (k:Nat),(l.map f).eraseIdx k=(l.eraseIdx k).map f
 | [],_=>rfl
 | _::_,0=>rfl
 | x::l,k+1=>by rw [Qw,Zv,Zv,Qw,uD f l k]
theorem Jar.fresh {K:PySem.W.Frag} {H H5:Hp} {t a lp:Addr} {ns:List Int} {N M:Nat} {u:HO} (hJ:Jar K H t a ns N) (hl:H lp=none) (J5:Jar K H5 t a ns M) (nt:t≠lp):Jar K (upd H5 lp u) t a ns M:=by
 obtain ⟨⟨p,q,h1,h2,e5⟩,q5⟩:=J5
 refine ⟨⟨p,q,h1,h2,(aD nt).trans e5⟩,?_⟩
 rcases hJ.2 with (h | ⟨o,h⟩) | h
 ·exact But.seqL But.at (fun z=>by rw [z,hl] at h; cases h) q5
 ·exact But.seqL But.at (fun z=>by rw [z,hl] at h; cases h) q5
 ·exact .inr h
theorem uE (ls:List Wd):cR (wdD ls)=true:=by
 unfold wdD cR
 induction ls with
 | nil=>unfold List.map hV; rfl
 | cons n r ih=>rw [Qw]; unfold hV; rw [ih]; unfold cR; rfl
theorem uF (ls:List Wd):SeqAt.shaped (wdD ls)=true:=oY (by unfold wdD PyData.canLay0; exact jY _ (fun x=>by unfold PyData.canLay0; cases x <;> decide +kernel) ls) (Ja (by unfold wdD PyData.depth; exact Zn (lN (k:=0) _ (fun _=>by unfold PyData.depth; exact Qg _) ls)) (by decide))
theorem aCy {K:PySem.W.Frag} {H:Hp} {a:Addr} {ls:List Wd} (h:H a=some (.lst (ls.map fun wd=>.str wd.str))):Den K H (wdD ls) (.ref a):=by
 refine nG.mpr ⟨a,_,rfl,SqL.of h,pA (by rw [Qd,Qd]) fun i d z h1 h2=>?_⟩
 rw [Qi] at h1 h2
 obtain ⟨x,hx,rfl⟩:=Qv.mp h1
 obtain ⟨y,hy,rfl⟩:=Qv.mp h2
 rw [hx] at hy
 cases hy
 exact uR.mpr rfl
theorem aEO (ls:List Wd):PyData.eqv (wdD ls) (wdD [])=ls.isEmpty:=by
 unfold wdD
 cases ls with
 | nil=>rw [Xz,PyData.eqv,PyData.eqvAll]; rfl
 | cons x r=>rw [Qw,Xz,PyData.eqv,PyData.eqvAll]; rfl
theorem DlH.keep {K:PySem.W.Frag} {H H':Hp} {C x a b c:Addr} {D:DD} (h:DlH K H C x D) (e:bH a b c H H') (ha:NT H a) (hb:NT H b) (hc:NT H c) (n:∀ q,q=x∨q=D.da∨q=D.dh->q≠a/\q≠b/\q≠c):DlH K H' C x D:=by
 obtain ⟨x1,x2,x3⟩:=n x (.inl rfl)
 obtain ⟨y1,y2,y3⟩:=n D.da (.inr (.inl rfl))
 obtain ⟨z1,z2,z3⟩:=n D.dh (.inr (.inr rfl))
 exact ⟨e _ _ x1 x2 x3 h.ins,e _ _ y1 y2 y3 h.able,e _ _ z1 z2 z3 h.hand,h.tl,h.wl,h.hl,fun i t l q1 q2=>e.sqT ha hb hc (h.tup i t l q1 q2),h.ne⟩
def oA (K:PySem.W.Frag) (C Pl:Addr):Sp:=fun vs H Q _=>∃ (t a:Addr) (ns:List Int) (N:Nat) (x:Addr) (D:DD),vs = [.ref t,.ref x]/\Jar K H t a ns N/\N<=700000/\DlH K H C x D/\DlM D/\H Pl=some (.tab oZ) /\
 ∀ fp kvs H',But t H H'->Jar K H' t a ns (N+5)->H fp=none->H' fp=some (.dK kvs)->(∀ wd:Wd,∃ v,bJ kvs (.inr wd.str)=some v/\nB K D H H' wd v)->Q (.ref fp) H'
theorem qL:FnScope ["jar", "dealing", "left", "found", "word"] ["jar", "dealing"] (aH vJ):=⟨rfl,rfl,rfl,by decide +kernel,rfl,by decide +kernel,by decide +kernel⟩
set_option maxHeartbeats 1000000 in
theorem aCz {f fS fA Pl:Addr} {fd dS dA:FuncData} (G:Fn K mg "_law_e_asked" vJ ["jar", "dealing"] f fd) (B:Bl mg) (GSc:Fn K mg "_law_e_scoop" mW ["jar", "many"] fS dS) (OSc:FnOk P w K mg base CX0 2 fS dS ["jar", "many"] (gO K)) (GAk:Fn K mg "_law_e_ask" aDe ["dealing", "word"] fA dA) (OAk:FnOk P w K mg base CX0 10 fA dA ["dealing", "word"] (aCx K C Pl)):FnOk P w K mg base CX0 11 f fd ["jar", "dealing"] (oA K C Pl):=by
 refine G.fn.ok qL (fun vs H Q E h=>?_) (fun cdv A outer s H vs Q E hr h=>?_)
 ·obtain ⟨t,a,ns,N,x,D,rfl,_⟩:=h
  rfl
 ·obtain ⟨t,a,ns,N,x,D,rfl,hJ,hN,hD,hM,hT,k⟩:=h
  have r10:Room 10 _:=hr
  have r2:Room 2 _:=hr.mono (by decide)
  have hu:=eC hr
  refine ⟨_,aC (aM (i:=2) qL.nd rfl (Or.inl rfl) (eU (aA aP (aA aP (aA aP (aA aP (aA aP aE)))))))
   (aC (aM (i:=3) qL.nd rfl (Or.inl rfl) jD)
   (aC (qN PassesOwn.never (aL (uS hr.u64) (pv 2) (eU aE) (aR _))
    (aC (aM (i:=4) qL.nd rfl (Or.inl rfl) (pL PySem.F.plainAttrs_list PySem.F.slot_list_pop PySem.F.type_list_pop wO (pv 2) (aA (aZ GSc OSc r2 rfl (aA (pv 0) (aA (aJ aO rfl B.len cG (aA (pv 2) aE)) aE))) aE)))
    (aF (gM hu (pv 3) (pv 4) (aZ GAk OAk r10 rfl (aA (pv 1) (aA (pv 4) aE))) rfl))))
   (aF (aK (pv 3))))),?_⟩
  obtain ⟨xs0,e0⟩:=hJ.lst
  refine ⟨szK 5 (by decide) |> Js,fun lp hlp=>?_⟩
  dsimp only [aV]
  have s1:=aG.new (o:=.lst [.str "works",.str "deal",.str "loads",.str "levels",.str "moved"]) hlp
  have l1:upd H lp (.lst [.str "works",.str "deal",.str "loads",.str "levels",.str "moved"]) lp=some (.lst (([.works,.deal,.loads,.levels,.moved]:List Wd).map fun wd=>.str wd.str)):=aB
  generalize upd H lp (.lst [.str "works",.str "deal",.str "loads",.str "levels",.str "moved"])=H1 at s1 l1 ⊢
  intro fp hfp
  dsimp only [aV]
  have hfp0:H fp=none:=s1.free hfp
  have s2:=s1.trans (aG.new (o:=.dK []) hfp)
  have l2:=(aG.new (o:=.dK []) hfp) _ _ l1
  have f2:upd H1 fp (.dK []) fp=some (.dK []):=aB
  generalize upd H1 fp (.dK [])=H2 at s2 l2 f2 ⊢
  have nlf:lp≠fp:=fun z=>by rw [z,f2] at l2; cases l2
  have ntl:t≠lp:=fun z=>by rw [z,hlp] at e0; cases e0
  have ntf:t≠fp:=fun z=>by rw [z,hfp0] at e0; cases e0
  have hD2:=hD.same s2
  have own:∀ q,q=x∨q=D.da∨q=D.dh->q≠t/\q≠lp/\q≠fp:=fun q hq=>by
   have hs:∃ u,H q=some u/\∀ xs,u≠.lst xs:=by
    rcases hq with rfl | rfl | rfl
    ·exact ⟨_,hD.ins,fun _ z=>by cases z⟩
    ·exact ⟨_,hD.able,fun _ z=>by cases z⟩
    ·exact ⟨_,hD.hand,fun _ z=>by cases z⟩
   obtain ⟨u,hu,nu⟩:=hs
   exact ⟨fun z=>(by rw [z,e0] at hu; exact nu _ (Option.some.inj hu).symm),fun z=>(by rw [z,hlp] at hu; cases hu),fun z=>(by rw [z,hfp0] at hu; cases hu)⟩
  have nPl:Pl≠t/\Pl≠lp/\Pl≠fp:=⟨fun z=>(by rw [z,e0] at hT; cases hT),fun z=>(by rw [z,hlp] at hT; cases hT),fun z=>(by rw [z,hfp0] at hT; cases hT)⟩
  have nt2:∀ {H3:Hp} {xs ys:List V} {kvs:List (Key×V)},H3 t=some (.lst xs)->H3 lp=some (.lst ys)->H3 fp=some (.dK kvs)->NT H3 t/\NT H3 lp/\NT H3 fp:=fun h1 h2 h3=>⟨NT.lst h1,NT.lst h2,NT.dK h3⟩
  have b0t:H2 t≠none:=by rw [s2 _ _ e0]; exact fun z=>by cases z
  have b0l:H2 lp≠none:=by rw [l2]; exact fun z=>by cases z
  have b0f:H2 fp≠none:=by rw [f2]; exact fun z=>by cases z
  refine ⟨fun m σ H3=>∃ (v:Option V) (ls:List Wd) (kvs:List (Key×V)),σ = [some (.ref t),some (.ref x),some (.ref lp),some (.ref fp),v]/\m=ls.length/\H3 lp=some (.lst (ls.map fun wd=>.str wd.str))/\H3 fp=some (.dK kvs)/\kvs.length+ls.length<=5/\Jar K H3 t a ns (N+(5 - ls.length))/\bH t lp fp H2 H3/\∀ wd:Wd,wd∈ls∨∃ v,bJ kvs (.inr wd.str)=some v/\nB K D H2 H3 wd v,
   ⟨5,none,[.works,.deal,.loads,.levels,.moved],[],rfl,rfl,l2,f2,Qg _,(hJ.same s2).more (Xm ..),bH.refl _ _ _ _,fun wd=>.inl (by cases wd <;> decide)⟩,?_⟩
  rintro m σ H3 ⟨v,ls,kvs,rfl,rfl,l3,f3,h5,J3,b3,ans⟩
  refine ⟨_,rfl,Jk _,fun pe hpe=>?_⟩
  have s4:=aG.new (o:=.lst []) hpe
  refine ⟨wdD ls,wdD [],aCy (s4 _ _ l3),aCy aB,uE _,uE _,uF _,uF _,_,rfl,?_⟩
  rw [aEO]
  generalize upd H3 pe (.lst [])=H4 at s4 ⊢
  have J4:=J3.same s4
  have l4:=s4 _ _ l3
  have f4:=s4 _ _ f3
  have b4:=b3.trans (bH.of (x:=t) (a:=lp) (b:=fp) s4)
  have ans4:∀ wd:Wd,wd∈ls∨∃ v,bJ kvs (.inr wd.str)=some v/\nB K D H2 H4 wd v:=fun wd=>(ans wd).imp id fun ⟨v,h1,h2⟩=>⟨v,h1,h2.same s4⟩
  cases hls:ls with
  | nil =>
   subst hls
   refine mS ?_
   refine ⟨_,rfl,k fp kvs H4 (fun c u hc hu=>?_) (J4.more (by simp)) hfp0 f4 fun wd=>?_⟩
   ·exact b4 c u hc (fun z=>by rw [z,hlp] at hu; cases hu) (fun z=>by rw [z,hfp0] at hu; cases hu) (s2 _ _ hu)
   ·rcases ans4 wd with z | ⟨v,h1,h2⟩
    ·cases z
    ·exact ⟨v,h1,h2.old fun c hc=>s2.free hc⟩
  | cons w0 ls0 =>
   rw [<- hls]
   have pos:0 < ls.length:=by rw [hls]; exact Nat.succ_pos _
   rw [show (!ls.isEmpty)=true by rw [hls]; rfl]
   refine iQ ⟨fun σ' H'=>∃ m',m' < ls.length/\∃ (v:Option V) (ls:List Wd) (kvs:List (Key×V)),σ' = [some (.ref t),some (.ref x),some (.ref lp),some (.ref fp),v]/\m'=ls.length/\H' lp=some (.lst (ls.map fun wd=>.str wd.str))/\H' fp=some (.dK kvs)/\kvs.length+ls.length<=5/\Jar K H' t a ns (N+(5 - ls.length))/\bH t lp fp H2 H'/\∀ wd:Wd,wd∈ls∨∃ v,bJ kvs (.inr wd.str)=some v/\nB K D H2 H' wd v,fun σ' H' h=>h,?_⟩
   have h5l:ls.length<=5:=by omega
   refine ⟨_,rfl,.inl ⟨rfl,_,SqL.of l4⟩,_,rfl,_,rfl,lp,_,rfl,.inl (SqL.of l4),t,a,ns,N+(5 - ls.length),_,rfl,J4,by omega,by rw [Qd]; omega,?_,fun r H5 r0 r1 b5 J5=>?_⟩
   ·rw [Qd]
    exact Zd (show ((ls.length:Int)).natAbs<=5 by omega) (by decide +kernel)
   rw [Qd] at r1
   obtain ⟨wd,hwd⟩:∃ wd,ls[r.toNat]?=some wd:=⟨_,Qc (by omega)⟩
   have l5:=b5 _ _ ntl.symm l4
   have f5:=b5 _ _ ntf.symm f4
   refine ⟨lp,_,r,r.toNat,.str wd.str,rfl,rfl,l5,by omega,by omega,(uN (aCe r0 (by rw [Qd]; omega))).1,by rw [Qi,hwd]; rfl,?_⟩
   dsimp only [aV]
   have el:(ls.map fun wd=>V.str wd.str).eraseIdx r.toNat=(ls.eraseIdx r.toNat).map fun wd=>V.str wd.str:=uD _ _ _
   rw [el]
   have l6:upd H5 lp (.lst ((ls.eraseIdx r.toNat).map fun wd=>V.str wd.str)) lp=some (.lst ((ls.eraseIdx r.toNat).map fun wd=>V.str wd.str)):=aB
   have f6:upd H5 lp (.lst ((ls.eraseIdx r.toNat).map fun wd=>V.str wd.str)) fp=some (.dK kvs):=(aD nlf.symm).trans f5
   obtain ⟨xs5,e5⟩:=J5.lst
   have J6:Jar K (upd H5 lp (.lst ((ls.eraseIdx r.toNat).map fun wd=>V.str wd.str))) t a ns (N+(5 - ls.length)+1):=hJ.fresh hlp J5 ntl
   have b46:bH t lp fp H4 (upd H5 lp (.lst ((ls.eraseIdx r.toNat).map fun wd=>V.str wd.str))):=fun c u h1 h2 h3 hu=>by rw [aD h2]; exact b5 _ _ h1 hu
   have t6:upd H5 lp (.lst ((ls.eraseIdx r.toNat).map fun wd=>V.str wd.str)) t=some (.lst xs5):=(aD ntl).trans e5
   generalize upd H5 lp (.lst ((ls.eraseIdx r.toNat).map fun wd=>V.str wd.str))=H6 at l6 f6 J6 b46 t6 ⊢
   have b26:=b4.trans b46
   obtain ⟨n2t,n2l,n2f⟩:=nt2 (s2 _ _ e0) l2 f2
   have hD6:DlH K H6 C x D:=hD2.keep b26 n2t n2l n2f own
   have hT6:=b26 _ _ nPl.1 nPl.2.1 nPl.2.2 (s2 _ _ hT)
   refine ⟨_,rfl,_,rfl,x,D,wd,rfl,hD6,hM,hT6,fun v' H7 s7 A7=>?_⟩
   have f7:=s7 _ _ f6
   refine ⟨_,rfl,_,rfl,fp,_,rfl,lX.k (k:=.inr wd.str) f7 (szK _ (by omega)),?_⟩
   have l7:=s7 _ _ l6
   have t7:=s7 _ _ t6
   have b78:bH t lp fp H7 (upd H7 fp (.dK (cB kvs (.inr wd.str) v'))):=bH.b
   have b48:=(b46.trans (bH.of s7)).trans b78
   have hle:(ls.eraseIdx r.toNat).length=ls.length - 1:=by rw [Jg,if_pos (by omega)]
   refine ⟨(ls.eraseIdx r.toNat).length,by omega,_,ls.eraseIdx r.toNat,cB kvs (.inr wd.str) v',rfl,rfl,(aD nlf).trans l7,aB,?_,?_,b4.trans b48,fun wd'=>?_⟩
   ·have:=cU kvs (.inr wd.str) v'
    omega
   ·exact (hJ.fresh hfp0 (J6.same s7) ntf).more (by omega)
   ·rw [rD]
    by_cases c:wd'=wd
    ·subst c
     obtain ⟨n7t,n7l,n7f⟩:=nt2 t7 l7 f7
     refine .inr ⟨v',if_pos rfl,?_⟩
     refine (A7.old fun c hc=>?_).keep b78 n7t n7l n7f b0t b0l b0f
     cases e:H2 c with
     | none=>rfl
     | some u =>
      by_cases c1:c=t
      ·rw [c1,t6] at hc; cases hc
      ·by_cases c2:c=lp
       ·rw [c2,l6] at hc; cases hc
       ·by_cases c3:c=fp
        ·rw [c3,f6] at hc; cases hc
        ·rw [b26 _ _ c1 c2 c3 e] at hc; cases hc
    ·rcases ans4 wd' with z | ⟨v0,h1,h2⟩
     ·left
      obtain ⟨j,hj⟩:=Qy.mp z
      have hjr:j≠r.toNat:=fun z=>c (by rw [z,hwd] at hj; exact (Option.some.inj hj).symm)
      exact List.mem_eraseIdx_iff_getElem?.mpr ⟨j,hjr,hj⟩
     ·right
      obtain ⟨xs4,e4⟩:=J4.lst
      obtain ⟨n4t,n4l,n4f⟩:=nt2 e4 l4 f4
      refine ⟨v0,?_,h2.keep b48 n4t n4l n4f b0t b0l b0f⟩
      rw [if_neg (fun z=>c (aEN z))]
      exact h1
end
end Ab
namespace L2
open PySem
theorem pU {X:Cx} {K:PySem.W.Frag} (hK:X.K=K):dJ X (.builtin "isinstance") (fun xs H Q=>∃ x k,xs = [x,.ty "tuple"]/\KdV K H x k/\Q (.bl (decide (k=.tup))) H):=by subst hK; exact cA
end L2
namespace Ab
open PySem L2
theorem wC {nums:List Int} {ts:List Addr} {i:Nat} {kv:Key×V} (h:(kvA nums ts)[i]?=some kv):∃ num t,nums[i]?=some num/\ts[i]?=some t/\kv=(.inl num,.ref t):=by
 unfold kvA at h
 rw [Qi] at h
 obtain ⟨p,hp,e⟩:=Qv.mp h
 rw [Jb] at hp
 exact ⟨p.1,p.2,hp.1,hp.2,e.symm⟩
theorem aDG {K:PySem.W.Frag} {H:Hp} {nums:List Int} {t1 t2:List Addr} {ws:List (List Int)} (nd:nums.Nodup) (l1:t1.length=nums.length) (l2:t2.length=nums.length) (lw:ws.length=nums.length)
  (h1:∀ (i:Nat) t l,t1[i]?=some t->ws[i]?=some l->SqT K H t (l.map V.int)) (h2:∀ (i:Nat) t l,t2[i]?=some t->ws[i]?=some l->SqT K H t (l.map V.int)):SameK K H (kvA nums t1) (kvA nums t2):=by
 refine ⟨by rw [gR l1,gR l2],fun kv hk=>?_,fun kv hk=>?_,fun kv hk=>?_⟩
 ·obtain ⟨i,hi⟩:=Qy.mp hk
  obtain ⟨num,t,_,_,rfl⟩:=wC hi
  exact ⟨num,rfl⟩
 ·obtain ⟨i,hi⟩:=Qy.mp hk
  obtain ⟨num,t,_,_,rfl⟩:=wC hi
  exact ⟨num,rfl⟩
 ·obtain ⟨i,hi⟩:=Qy.mp hk
  obtain ⟨num,t,hn,ht,rfl⟩:=wC hi
  have hlt:=(Qa.mp hn).1
  obtain ⟨u,hu⟩:∃ u,t2[i]?=some u:=⟨_,Qc (by omega)⟩
  obtain ⟨l,hl⟩:∃ l,ws[i]?=some l:=⟨_,Qc (by omega)⟩
  exact ⟨.ref u,.tuple (l.map .int),bW nd hn hu,bR.mpr ⟨t,rfl,h1 i t l ht hl⟩,bR.mpr ⟨u,rfl,h2 i u l hu hl⟩,fX _,eK _⟩
section
variable {P:Program} {w:World} {K:PySem.W.Frag} {mg:Str->Option Value} {base:Heap} {C:Addr}
def kX (K:PySem.W.Frag):Sp:=fun vs H Q _=>∃ (fp sp:Addr) (kvs:List (Key×V)) (H0:Hp) (S:SD) (D:DD),vs = [.ref fp,.ref sp]/\H fp=some (.dK kvs)/\(∀ wd:Wd,∃ v,bJ kvs (.inr wd.str)=some v/\nB K D H0 H wd v)/\Like D S/\DlM D/\D.hs.length=D.nums.length/\StH K H sp S/\StM S/\H0 S.ap≠none/\∀ H',aG H H'->Q (.bl true) H'
theorem kY:FnScope ["found", "state", "able", "where", "heaps", "many"] ["found", "state"] (aH lK):=⟨rfl,rfl,rfl,by decide +kernel,rfl,by decide +kernel,by decide +kernel⟩
set_option maxHeartbeats 2000000 in
theorem aA7 {f fW fH fI fL:Addr} {fd dW dH dI dL:FuncData} (G:Fn K mg "_law_e_stands" lK ["found", "state"] f fd) (B:Bl mg) (GWi:Fn K mg "_law_e_whole_in" gW ["some"] fW dW) (OWi:FnOk P w K mg base CX0 1 fW dW ["some"] (jN K)) (GHp:Fn K mg "_law_e_heaps" nO ["state", "where"] fH dH) (OHp:FnOk P w K mg base CX0 1 fH dH ["state", "where"] (nZ K))
  (GId:Fn K mg "_law_e_is_deal" kQ ["state", "where"] fI dI) (OId:FnOk P w K mg base CX0 2 fI dI ["state", "where"] (pE K)) (GLv:Fn K mg "_law_e_are_levels" lJ ["state", "where", "heights"] fL dL) (OLv:FnOk P w K mg base CX0 2 fL dL ["state", "where", "heights"] (sK K)):FnOk P w K mg base CX0 3 f fd ["found", "state"] (kX K):=by
 refine G.fn.ok kY (fun vs H Q E h=>?_) (fun cdv A outer s H vs Q E hr h=>?_)
 ·obtain ⟨fp,sp,kvs,H0,S,D,rfl,_⟩:=h
  rfl
 ·obtain ⟨fp,sp,kvs,H0,S,D,rfl,hf,ans,hL,hDM,hhl,hS,hM,n0,k⟩:=h
  have hu:=eC hr
  have r2:Room 2 _:=hr
  have r1:Room 1 _:=hr.mono (by decide)
  have hu100:(A.deeper (PyProof.Rows.envOfC "_law_e_stands" (aH lK) s.heap.objs.size f cdv)).units+100 < cLine:=by have:=r1.un; omega
  refine ⟨_,aC (aM (i:=2) kY.nd rfl (Or.inr rfl) (aQ hu (pv 0) aP (fun _ _=>rfl)))
   (aC (aM (i:=3) kY.nd rfl (Or.inl rfl) (aQ hu (pv 0) aP (fun _ _=>rfl)))
   (aC (aM (i:=4) kY.nd rfl (Or.inl rfl) (aQ hu (pv 0) aP (fun _ _=>rfl)))
   (aC (aM (i:=5) kY.nd rfl (Or.inl rfl) (aQ hu (pv 0) aP (fun _ _=>rfl)))
   (aC (bA (PW.pt (dF (bY (bP (aJ mI rfl B.isinstance gU (aA (pv 2) (aA (cP (v:=.ty "dict") rfl B.dict sE rfl) aE))))) (dF (aL (yT hu100) (pv 2) (aQ hu (pv 1) aP (fun _ _=>rfl)) (aR _)) (cW (bY (bP (aZ GId OId r2 rfl (aA (pv 1) (aA (pv 3) aE))))))))) (aF (aK cO)) aN)
   (aC (bA (bY (bP (aZ GWi OWi r1 rfl (aA (bV (hX rfl) rfl B.list oR (aA (pv 2) aE)) aE)))) (aF (aK cO)) aN)
   (aC (bA (bY (bP (aJ (jB rfl) rfl B.all tU (aA (kL (own:=["number"]) (fr:=[2]) (frn:=["able"]) (bD (aH lK) ["found", "state", "able", "where", "heaps", "many"] rfl rfl (by decide +kernel)) rfl (pv 2)
     (fun _ _ _ _=>(aT (i:=0) (show (["number", "able"]:List Str).Nodup by decide +kernel) rfl (Or.inl rfl))) (fun _ _ _ _=>dQ)
     (fun _ _ _ _=>iF (aJ (pU (K:=K) rfl) rfl B.isinstance gU (aA (aQ hu (pv 1) (pv 0) (fun _ _=>rfl)) (aA (cP (v:=.ty "tuple") rfl B.tuple dY rfl) aE))) (kF (aZ GWi OWi r1 rfl (aA (aQ hu (pv 1) (pv 0) (fun _ _=>rfl)) aE))))) aE)))) (aF (aK cO)) aN)
   (aC (bA (PW.pt (dF (bY (bP (aJ cA rfl B.isinstance gU (aA (pv 4) (aA (cP (v:=.ty "tuple") rfl B.tuple dY rfl) aE))))) (dF (aL (uS hr.u64) (bV uP rfl B.list oR (aA (pv 4) aE)) (aZ GHp OHp r1 rfl (aA (pv 1) (aA (pv 3) aE))) (aR _)) (cW (bY (bP (aZ GWi OWi r1 rfl (aA (pv 4) aE)))))))) (aF (aK cO)) aN)
   (aC (bA (PW.pt (dF (bY (bP (aJ cA rfl B.isinstance gU (aA (pv 5) (aA (cP (v:=.ty "tuple") rfl B.tuple dY rfl) aE))))) (dF (aL kA (aJ aO rfl B.len cG (aA (pv 5) aE)) aI (aR _)) (cW (bY (bP (aZ GWi OWi r1 rfl (aA (pv 5) aE)))))))) (aF (aK cO)) aN)
   (aF (aK (aZ GLv OLv r2 rfl (aA (pv 1) (aA (pv 3) (aA (aQ hu (pv 0) aP (fun _ _=>rfl)) aE)))))))))))))),?_⟩
  obtain ⟨hn1,hn6,hw12,hws⟩:=aS hM.bk
  obtain ⟨hdl,hdm⟩:=cE hDM.dl
  have n12:S.nums.length<=12:=by rw [<- hS.wl]; exact hw12
  have hnd:S.nums.Nodup:=Jc.mpr (hM.up.imp fun h=>Xu h)
  obtain ⟨_,aw,ap,ts,rfl,h0p,hap,htl,htt⟩:=ans .works
  obtain ⟨_,ad,wp,rfl,h0w,hwp⟩:=ans .deal
  obtain ⟨_,al,lp,rfl,hlp⟩:=ans .loads
  obtain ⟨_,av,vp,lv,rfl,hvp,hLV⟩:=ans .levels
  obtain ⟨_,am,mp,rfl,hmp⟩:=ans .moved
  rw [hL.nums] at hap htl hwp
  rw [hL.ws] at htt
  rw [hL.n] at hlp
  rw [hL.n,hL.ws] at hLV
  have hr':∀ g∈D.hs,0<=g/\g < S.n:=fun g hg=>by
   obtain ⟨i,hi⟩:=Qy.mp hg
   have hl:=Qc (show i < D.ws.length by rw [<- hdl]; exact (Qa.mp hi).1)
   have:=(aX ((aS hDM.bk).2.2.2 _ (Qe hl))).2.1 g (hdm i _ _ hi hl)
   rw [hL.n] at this; exact this
  have hhl':D.hs.length=S.nums.length:=by rw [hhl,hL.nums]
  have hW:WhH K H wp S D.hs:=⟨hwp,hhl',hr'⟩
  have nwa:wp≠S.ap:=fun z=>n0 (z ▸ h0w)
  have hdm':∀ (i:Nat) g l,D.hs[i]?=some g->S.ws[i]?=some l->g∈l:=by rw [<- hL.ws]; exact hdm
  have ll:(bF S.n D.hs).length=S.n.toNat:=tE _ _
  refine ⟨_,rfl,fp,_,rfl,.inl ⟨kvs,.inr "works",.inl hf,rfl,aw.symm⟩,?_⟩
  dsimp only [aV]
  refine ⟨_,rfl,fp,_,rfl,.inl ⟨kvs,.inr "deal",.inl hf,rfl,ad.symm⟩,?_⟩
  dsimp only [aV]
  refine ⟨_,rfl,fp,_,rfl,.inl ⟨kvs,.inr "loads",.inl hf,rfl,al.symm⟩,?_⟩
  dsimp only [aV]
  refine ⟨_,rfl,fp,_,rfl,.inl ⟨kvs,.inr "moved",.inl hf,rfl,am.symm⟩,?_⟩
  dsimp only [aV]
  refine gA false (nY (b:=false) (c:=false) (fun Q' q=>⟨_,rfl,ap,_,rfl,hap,true,rfl,q _ (aG.refl _)⟩) (fun _ H1 s1=>nY (b:=false) (c:=false) (fun Q' q=>⟨_,rfl,_,rfl,sp,_,rfl,(hS.same s1).dget (k:=.inr "able") (eG S),ap,S.ap,_,_,rfl,rfl,.inl (s1 _ _ hap),.inl (hS.same s1).able,aDG hnd htl hS.tl hS.wl (fun i t l a b=>s1.seqT (htt i t l a b)) (hS.same s1).tup,false,rfl,q _ (aG.refl _)⟩)
   (fun _ H2 s2=>kU (b:=true) fun Q' q=>⟨_,rfl,_,rfl,sp,wp,S,D.hs,rfl,(hS.same s1).same s2,hM,(hW.same s1).same s2,hdm',nwa,fun H3 s3=>⟨true,rfl,q _ s3⟩⟩))) (fun hb=>by cases hb) (fun _ H1 s1=>?_)
  dsimp only [cQ]
  refine gA false (kU (b:=true) fun Q' q=>?_) (fun hb=>by cases hb) (fun _ H2 s2=>?_)
  ·refine ⟨_,rfl,ap,_,rfl,.inl (s1 _ _ hap),fun p hp=>?_⟩
   rw [kS htl]
   exact ⟨p,S.nums,rfl,.inl (SqL.of aB),by omega,fun H3 s3=>⟨true,rfl,q _ ((aG.new hp).trans s3)⟩⟩
  dsimp only [cQ]
  have s02:=s1.trans s2
  have hap2:=s02 _ _ hap
  have hkl:(kvA S.nums ts).length=S.nums.length:=gR htl
  refine gA false (kU (b:=true) fun Q' q=>?_) (fun hb=>by cases hb) (fun _ H3 s3=>?_)
  ·refine ⟨_,rfl,ap,_,rfl,hap2,fun o=>?_⟩
   have z3:upd H2 ap (.frz o (.dK (kvA S.nums ts))) ap=some (.frz o (.dK (kvA S.nums ts))):=aB
   have b3:But ap H2 (upd H2 ap (.frz o (.dK (kvA S.nums ts)))):=But.at
   have tt3:∀ (i:Nat) t l,ts[i]?=some t->S.ws[i]?=some l->SqT K (upd H2 ap (.frz o (.dK (kvA S.nums ts)))) t (l.map V.int):=fun i t l a b=>b3.seqTd hap2 (s02.seqT (htt i t l a b))
   generalize upd H2 ap (.frz o (.dK (kvA S.nums ts)))=Hf at z3 b3 tt3 ⊢
   refine iD (a:=ap) (o:=o) (kvs:=kvA S.nums ts) (fun σ=>∃ u,σ = [u,some (.ref ap)]) (fun i ys H4=>ys=(List.replicate i true).map V.bl/\aG Hf H4) (fZ (by omega)) ⟨none,rfl⟩ ⟨rfl,aG.refl _⟩ (fun i ys H4 h=>by rw [h.1,Qd,Jj]; exact Qg _) (fun i ys H4 h=>h.2 _ _ z3) ?_ ?_
   ·rintro i ys σ kv H4 hkv ⟨u,rfl⟩ ⟨rfl,s4⟩ hz
    obtain ⟨num,t',hnum,ht',rfl⟩:=wC hkv
    have hi:i < S.nums.length:=(Qa.mp hnum).1
    obtain ⟨l,hl⟩:∃ l,S.ws[i]?=some l:=⟨_,Qc (by rw [hS.wl]; exact hi)⟩
    obtain ⟨w1,w2,w3⟩:=aX (hws l (Qe hl))
    have l6:=gH (by omega) w2 w3
    have hsq:=s4.seqT (tt3 i t' l ht' hl)
    have dg:∀ {H5:Hp},aG H4 H5->gG H5 ap (kV (.inl num)) (some (.ref t')):=fun s5=>.inl ⟨_,.inl num,.inr ⟨o,s5 _ _ (s4 _ _ z3)⟩,rfl,(bW hnd hnum ht').symm⟩
    refine cC ?_
    refine ⟨_,rfl,_,rfl,ap,_,rfl,dg (aG.refl _),_,.tup,rfl,.inr (.inl ⟨rfl,_,hsq⟩),true,rfl,iQ ?_⟩
    refine ⟨_,rfl,_,rfl,ap,_,rfl,dg (aG.refl _),t',l,rfl,.inr hsq,by omega,fun H5 s5=>⟨hz,⟨_,rfl⟩,?_,s4.trans s5⟩⟩
    rw [Ye,Jd]; rfl
   ·rintro ys H4 ⟨rfl,s4⟩ pc hpc
    have npd:pc≠ap:=fun z=>by rw [z,s4 _ _ z3] at hpc; cases hpc
    refine ⟨pc,List.replicate (kvA S.nums ts).length true,rfl,SqL.of (by rw [aD npd,aB]),true,by rw [qK],q _ fun c u hc=>?_⟩
    by_cases d:c=ap
    ·rw [d] at hc ⊢
     rw [aB,<- hap2]; exact hc
    ·have n2:c≠pc:=fun z=>by rw [z] at hc; rw [s4 _ _ (b3 _ _ npd hc)] at hpc; cases hpc
     rw [aD d,aD n2]; exact s4 _ _ (b3 _ _ d hc)
  dsimp only [cQ]
  have s03:=s02.trans s3
  have hlp3:=s03.seqT hlp
  refine gA false (nY (b:=false) (c:=false) (fun Q' q=>⟨_,rfl,_,.tup,rfl,.inr (.inl ⟨rfl,_,hlp3⟩),true,rfl,q _ (aG.refl _)⟩) (fun _ H4 s4=>nY (b:=false) (c:=false) (fun Q' q=>?_) (fun _ H5 s5=>kU (b:=true) fun Q' q=>⟨_,rfl,lp,_,rfl,.inr (s5.seqT (s4.seqT hlp3)),by rw [ll]; omega,fun H6 s6=>⟨true,rfl,q _ s6⟩⟩))) (fun hb=>by cases hb) (fun _ H4 s4=>?_)
  ·refine ⟨_,rfl,lp,_,rfl,.inr (s4.seqT hlp3),fun p hp=>?_⟩
   have s5:=aG.new (o:=.lst ((bF S.n D.hs).map V.int)) hp
   have ep:upd H4 p (.lst ((bF S.n D.hs).map V.int)) p=some (.lst ((bF S.n D.hs).map V.int)):=aB
   generalize upd H4 p (.lst ((bF S.n D.hs).map V.int))=H5 at s5 ep ⊢
   have s05:=(s03.trans s4).trans s5
   refine ⟨_,rfl,_,rfl,sp,wp,S,D.hs,rfl,hS.same s05,hM,hW.same s05,fun p2 H6 s6 _ e6=>?_⟩
   refine ⟨.list ((bF S.n D.hs).map .int),.list ((bF S.n D.hs).map .int),iB.mpr ⟨p,rfl,SqL.of (s6 _ _ ep)⟩,iB.mpr ⟨p2,rfl,SqL.of e6⟩,eF _,eF _,cV _,cV _,false,?_,q _ (s5.trans s6)⟩
   rw [PySem.SeqAt.eqv_refl _ (SeqAt.canLay_of_shaped (cV _))]; rfl
  dsimp only [cQ]
  have s04:=s03.trans s4
  have hmp4:SqT K H4 mp (([D.ml,D.ma]:List Int).map V.int):=s04.seqT hmp
  refine gA false (nY (b:=false) (c:=false) (fun Q' q=>⟨_,rfl,_,.tup,rfl,.inr (.inl ⟨rfl,_,hmp4⟩),true,rfl,q _ (aG.refl _)⟩) (fun _ H5 s5=>nY (b:=false) (c:=false) (fun Q' q=>⟨_,rfl,mp,_,rfl,.inr (s5.seqT hmp4),rfl,false,rfl,q _ (aG.refl _)⟩) (fun _ H6 s6=>kU (b:=true) fun Q' q=>⟨_,rfl,mp,[D.ml,D.ma],rfl,.inr (s6.seqT (s5.seqT hmp4)),by simp,fun H7 s7=>⟨true,rfl,q _ s7⟩⟩))) (fun hb=>by cases hb) (fun _ H5 s5=>?_)
  dsimp only [cQ]
  have s05:=s04.trans s5
  refine ⟨_,rfl,_,rfl,_,rfl,fp,_,rfl,.inl ⟨kvs,.inr "levels",.inl (s05 _ _ hf),rfl,av.symm⟩,sp,wp,vp,S,D.hs,lv,rfl,hS.same s05,hM,hW.same s05,nwa,s05.seqT hvp,hLV,fun H6 s6=>k _ (s05.trans s6)⟩
def lk (en eh:List Int) (k:Int):Option Int:=(en.zip eh).lookup k
theorem qM:∀ (en eh:List Int) (k:Int),bJ (kvH en eh) (.inl k)=(lk en eh k).map V.int
 | [],_,_=>rfl
 | _::_,[],_=>rfl
 | n::en,g::eh,k=>by
  show bJ (((.inl n:Key),V.int g)::kvH en eh) (.inl k)=(((n,g)::en.zip eh).lookup k).map V.int
  rw [Jp]
  by_cases c:k=n
  ·rw [bO (by rw [c]),show (k==n)=true by simp [c]]; rfl
  ·rw [bL (fun z=>c (by injection z with z; exact z.symm)),show (k==n)=false by simp [c]]
   exact qM en eh k
def goB (en eh:List Int) (p:Int×Int):Bool:=(lk en eh p.1).any (fun g=>decide (g≠p.2))
def hG (en eh fn fh:List Int):List Int:=((fn.zip fh).filter (goB en eh)).map (·.1)
def wD:Sp:=fun vs H Q _=>∃ (ep fp:Addr) (en eh fn fh:List Int),vs = [.ref ep,.ref fp]/\H ep=some (.dK (kvH en eh))/\H fp=some (.dK (kvH fn fh))/\ep≠fp/\fh.length=fn.length/\fn.Nodup/\fn.length<=12 /\
 ∀ p H',aG H H'->H p=none->H' p=some (.lst ((hG en eh fn fh).map V.int))->Q (.ref p) H'
theorem aEP:FnScope ["elder", "after"] ["elder", "after"] (aH tY):=⟨rfl,rfl,rfl,by decide +kernel,rfl,by decide +kernel,by decide +kernel⟩
set_option maxHeartbeats 1000000 in
theorem aDH {f:Addr} {fd:FuncData} (G:Fn K mg "_law_e_goes" tY ["elder", "after"] f fd) (B:Bl mg):FnOk P w K mg base CX0 1 f fd ["elder", "after"] wD:=by
 refine G.fn.ok aEP (fun vs H Q E h=>?_) (fun cdv A outer s H vs Q E hr h=>?_)
 ·obtain ⟨ep,fp,en,eh,fn,fh,rfl,_⟩:=h
  rfl
 ·obtain ⟨ep,fp,en,eh,fn,fh,rfl,hep,hfp,nef,hfl,hnd,h12,k⟩:=h
  have hu:=eC hr
  refine ⟨_,aF (aK (kL (own:=["number"]) (fr:=[0,1]) (frn:=["elder", "after"]) (bD (aH tY) ["elder", "after"] rfl rfl (by decide +kernel)) rfl (pv 1)
   (fun _ _ _ _=>(aT (i:=0) (show (["number", "elder", "after"]:List Str).Nodup by decide +kernel) rfl (Or.inl rfl)))
   (fun _ _ _ _=>qV (PW.pt (kE (oF (aBN hu (pv 0) (pv 1)) (by with_unfolding_all rfl)) (jQ (aL kA (aQ hu (pv 1) (pv 0) (fun _ _=>rfl)) (aQ hu (pv 2) (pv 0) (fun _ _=>rfl)) (aR _))))))
   (fun _ _ _ _=>pv 0))),?_⟩
  have hkl:(kvH fn fh).length=fn.length:=jZ hfl
  refine ⟨_,rfl,fp,_,rfl,hfp,fun o=>?_⟩
  have z3:upd H fp (.frz o (.dK (kvH fn fh))) fp=some (.frz o (.dK (kvH fn fh))):=aB
  have e3:upd H fp (.frz o (.dK (kvH fn fh))) ep=some (.dK (kvH en eh)):=(aD nef).trans hep
  refine iD (a:=fp) (o:=o) (kvs:=kvH fn fh) (fun σ=>∃ u,σ = [u,some (.ref ep),some (.ref fp)]) (fun i ys H4=>ys=((((fn.zip fh).take i).filter (goB en eh)).map (·.1)).map V.int/\H4=upd H fp (.frz o (.dK (kvH fn fh)))) (fZ (by omega)) ⟨none,rfl⟩ ⟨rfl,rfl⟩ (fun i ys H4 h=>by
   rw [h.1,Qd,Qd]
   exact Ja (Xl ..) (by rw [Jq]; omega)) (fun i ys H4 h=>by rw [h.2]; exact z3) ?_ ?_
  ·rintro i ys σ kv H4 hkv ⟨u,rfl⟩ ⟨rfl,rfl⟩ hz
   obtain ⟨num,g,hnum,hg,rfl⟩:=sI hkv
   have hzp:(fn.zip fh)[i]?=some (num,g):=Jb.mpr ⟨hnum,hg⟩
   obtain ⟨hlt,hel⟩:=Qa.mp hzp
   have tk:(fn.zip fh).take (i+1)=(fn.zip fh).take i++[(num,g)]:=by rw [Jy hlt,hel]
   have dga:gG (upd H fp (.frz o (.dK (kvH fn fh)))) fp (kV (.inl num)) (some (.int g)):=.inl ⟨_,.inl num,.inr ⟨o,z3⟩,rfl,(bW (f:=V.int) hnd hnum hg).symm⟩
   have dge:gG (upd H fp (.frz o (.dK (kvH fn fh)))) ep (kV (.inl num)) ((lk en eh num).map V.int):=.inl ⟨_,.inl num,.inl e3,rfl,(qM en eh num).symm⟩
   dsimp only [aV]
   cases hl:lk en eh num with
   | none =>
    rw [hl] at dge
    refine ⟨_,rfl,_,rfl,ep,_,rfl,dge,_,rfl,mS ?_⟩
    refine mS ⟨⟨_,rfl⟩,?_,rfl⟩
    rw [tk,Jx,Jv,if_neg (by unfold goB; rw [hl]; simp)]; simp
   | some g' =>
    rw [hl] at dge
    refine ⟨_,rfl,_,rfl,ep,_,rfl,dge,_,rfl,iQ ?_⟩
    refine ⟨_,rfl,_,rfl,ep,_,rfl,dge,_,rfl,_,rfl,fp,_,rfl,dga,rfl,_,rfl,?_⟩
    by_cases c:g'=g
    ·refine bS (by rw [c]; simp) ⟨⟨_,rfl⟩,?_,rfl⟩
     rw [tk,Jx,Jv,if_neg (by unfold goB; rw [hl]; simp [c])]; simp
    ·refine dZ ?_ ⟨_,rfl,hz,⟨_,rfl⟩,?_,rfl⟩
     ·simp [c]
     ·rw [tk,Jx,Jv,if_pos (by unfold goB; rw [hl]; simp [c])]; simp; rfl
  ·rintro ys H4 ⟨rfl,rfl⟩ pc hpc
   have npd:pc≠fp:=fun z=>by rw [z,z3] at hpc; cases hpc
   have hp0:H pc=none:=by rw [aD npd] at hpc; exact hpc
   rw [hkl,Xt (by rw [Xr,hfl,Ya]; exact Qg _)]
   refine k pc _ (fun c u hc=>?_) hp0 (by rw [aD npd,aB]; rfl)
   by_cases d:c=fp
   ·rw [d] at hc ⊢
    rw [aB,<- hfp]; exact hc
   ·have n2:c≠pc:=fun z=>by rw [z,hp0] at hc; cases hc
    rw [aD d,aD n2,aD d]; exact hc
theorem sM {w:Nat}:∀ {ss:List (Nat×Int×Int)} {hs:List Int},(∀ s∈ss,s.1≠w)->(goS hs ss)[w]?=hs[w]?
 | [],_,_=>rfl
 | s::ss,hs,h=>by
  show (goS (hs.set s.1 s.2.2) ss)[w]?=_
  rw [sM fun s' hs'=>h s' (Qo _ hs'),Xc,if_neg (h s (Qr ..))]
theorem sN {ws:List (List Int)} {x h:Int} {s:Nat×Int×Int} {ss:List (Nat×Int×Int)} {hs:List Int} (p:bM ws hs h (s::ss) x) (nd:(h::(s::ss).map (·.2.2)).Nodup):∀ s'∈ss,s'.1≠s.1/\s'.2.1≠h:=by
 obtain ⟨e1,⟨e2,_⟩,p2⟩:=p
 have nd2:=Qx.mp nd
 intro s' hs'
 have hne:s'.2.1≠h:=fun z=>by
  rcases gX p2 s' hs' with q | ⟨s2,q1,q2⟩
  ·exact nd2.1 (by rw [<- z,q]; exact Qr ..)
  ·exact nd2.1 (Qo _ (Jm.mpr ⟨s2,q1,q2.trans z⟩))
 refine ⟨fun z=>?_,hne⟩
 have:=(cL p2 s' hs').1
 rw [z,e2] at this
 exact hne (Option.some.inj this).symm
theorem wE {ws:List (List Int)} {x:Int}:∀ {ss:List (Nat×Int×Int)} {hs:List Int} {h:Int},bM ws hs h ss x->(h::ss.map (·.2.2)).Nodup->∀ s∈ss,(goS hs ss)[s.1]?=some s.2.2
 | [],_,_,_,_,s,hs'=>(Qp hs').elim
 | s0::ss,hs,h,p,nd,s,hs'=>by
  have ap:=sN p nd
  obtain ⟨e1,⟨e2,e3⟩,p2⟩:=p
  have nd2:=Qx.mp nd
  show (goS (hs.set s0.1 s0.2.2) ss)[s.1]?=_
  rcases Qm.mp hs' with rfl | hs'
  ·rw [sM fun s' h'=>(ap s' h').1,Xc,if_pos rfl,if_pos (Qa.mp e2).1]
  ·exact wE (sC (t':=s0.2.2) e2 p2 fun s' h'=>(ap s' h').2) (by have:=nd2.2; rwa [Qw] at this) s hs'
theorem uG {ws:List (List Int)} {x h:Int} {ss:List (Nat×Int×Int)} {hs:List Int} (p:bM ws hs h ss x) (nd:(h::ss.map (·.2.2)).Nodup) (w:Nat):(goS hs ss)[w]?≠hs[w]?↔∃ s∈ss,s.1=w:=by
 constructor
 ·intro n
  refine Classical.byContradiction fun c=>n (sM fun s hs' z=>c ⟨s,hs',z⟩)
 ·rintro ⟨s,hs',rfl⟩ e
  rw [wE p nd s hs'] at e
  obtain ⟨q1,l,q2,q3,q4⟩:=cL p s hs'
  rw [q1] at e
  exact q4 (Option.some.inj e)
theorem sO {α:Type} [DecidableEq α] {f:α->Bool} {h:α}:∀ {L:List α},L.Nodup->h∈L->(∀ x∈L,f x=true↔x=h)->L.filter f = [h]
 | [],_,m,_=>(Qp m).elim
 | x::L,nd,m,hf=>by
  have nd2:=Qx.mp nd
  by_cases c:x=h
  ·rw [Jv,if_pos ((hf x (Qr ..)).mpr c),c]
   congr 1
   refine List.filter_eq_nil_iff.mpr fun y hy z=>?_
   have:=(hf y (Qo _ hy)).mp z
   exact nd2.1 (by rw [c,<- this]; exact hy)
  ·rw [Jv,if_neg (fun z=>c ((hf x (Qr ..)).mp z))]
   refine sO nd2.2 ?_ fun y hy=>hf y (Qo _ hy)
   rcases Qm.mp m with z | z
   ·exact absurd z.symm c
   ·exact z
theorem iV {ws:List (List Int)} {hs:List Int} {x:Int}:∀ {q:List (Nat×Int×Int)} {h:Int},bM ws hs h q x->q≠[]->q.map (·.2.1)=h::(q.map (·.2.2)).dropLast
 | [],_,_,n=>absurd rfl n
 | [s],h,⟨e,_,_⟩,_=>by rw [<- e]; rfl
 | s::s2::q,h,⟨e,_,p⟩,_=>by
  have ih:=iV p (by simp)
  rw [Qw,ih,e,Qw (l:=s2::q),Qw,List.dropLast_cons_cons]
theorem sP (kvs:List (Key×V)):∀ (es:List (Key×V)),(kvs.map (·.1)++es.map (·.1)).Nodup->iJ kvs es=kvs++es
 | [],_=>by show kvs=kvs++[]; rw [Yh]
 | e::es,nd=>by
  have hn:bJ kvs e.1=none:=by
   cases q:bJ kvs e.1 with
   | none=>rfl
   | some v =>
    have:(bJ kvs e.1).isSome=true:=by rw [q]; rfl
    rw [<- eP,Xn] at this
    obtain ⟨kv,h1,h2⟩:=this
    exact absurd rfl ((Jr.mp nd).2.2 kv.1 (Jm.mpr ⟨kv,h1,rfl⟩) kv.1 (by rw [of_decide_eq_true h2]; simp))
  show iJ (cB kvs e.1 e.2) es=_
  rw [gT _ hn,sP (kvs++[(e.1,e.2)]) es (by simpa using nd)]
  simp
theorem kZ {es:List (Key×V)} (nd:(es.map (·.1)).Nodup):iJ [] es=es:=by
 rw [sP [] es (by simpa using nd)]; rfl
def zH (h:Int) (q:List (Nat×Int×Int)) (j:Nat):Int:=(h::q.map (·.2.2)).getD j h
theorem xX {ws:List (List Int)} {hs:List Int} {x:Int}:∀ {q:List (Nat×Int×Int)} {h:Int},bM ws hs h q x->∀ (j:Nat) s,q[j]?=some s->(h::q.map (·.2.2))[j]?=some s.2.1/\(h::q.map (·.2.2))[j+1]?=some s.2.2
 | [],_,_,j,s,e=>by simp at e
 | s0::q,h,⟨e1,_,p⟩,0,s,e=>by
  have e':s0=s:=by simpa using e
  subst e'
  exact ⟨by rw [e1]; rfl,rfl⟩
 | s0::q,h,⟨e1,_,p⟩,j+1,s,e=>by
  have:=xX p j s (by simpa using e)
  exact ⟨by simpa using this.1,by simpa using this.2⟩
theorem iW:∀ {en eh:List Int} {k g:Int},lk en eh k=some g->∃ i:Nat,en[i]?=some k/\eh[i]?=some g
 | [],_,_,_,h=>by simp [lk] at h
 | _::_,[],_,_,h=>by simp [lk] at h
 | n::en,x::eh,k,g,h=>by
  unfold lk at h
  rw [Zx,Jp] at h
  by_cases c:k=n
  ·rw [show (k==n)=true by simp [c]] at h
   exact ⟨0,by rw [c]; rfl,by simpa using h⟩
  ·rw [show (k==n)=false by simp [c]] at h
   obtain ⟨i,h1,h2⟩:=iW (en:=en) (eh:=eh) h
   exact ⟨i+1,by simpa using h1,by simpa using h2⟩
theorem sQ:∀ {en eh:List Int} {k g:Int} {i:Nat},en.Nodup->en[i]?=some k->eh[i]?=some g->lk en eh k=some g
 | [],_,_,_,_,_,h,_=>by simp at h
 | _::_,[],_,_,_,_,_,h=>by simp at h
 | n::en,x::eh,k,g,0,_,h1,h2=>by
  have e1:n=k:=by simpa using h1
  have e2:x=g:=by simpa using h2
  unfold lk
  rw [Zx,Jp,show (k==n)=true by simp [e1],e2]
 | n::en,x::eh,k,g,i+1,nd,h1,h2=>by
  have nd2:=Qx.mp nd
  have h1':en[i]?=some k:=by simpa using h1
  unfold lk
  rw [Zx,Jp,show (k==n)=false by simp; exact fun z=>nd2.1 (z ▸ Qe h1')]
  exact sQ nd2.2 h1' (by simpa using h2)
theorem sR {en eh fn fh:List Int} (nd:fn.Nodup):(hG en eh fn fh).Nodup :=
 List.Nodup.sublist (((List.filter_sublist).map _).trans (by
  have:∀ (a b:List Int),((a.zip b).map (·.1)).Sublist a:=by
   intro a
   induction a with
   | nil=>intro b; simp
   | cons x a ih => intro b; cases b with
     | nil=>simp
     | cons y b=>rw [Zx,Qw]; exact (ih b).cons₂ _
  exact this fn fh)) nd
theorem oB {en eh fn fh:List Int} (nd:fn.Nodup) (k:Int):k∈hG en eh fn fh↔∃ a b,lk en eh k=some a/\lk fn fh k=some b/\a≠b:=by
 unfold hG
 rw [Jm]
 constructor
 ·rintro ⟨⟨k',b⟩,h,rfl⟩
  obtain ⟨h1,h2⟩:=Xq.mp h
  obtain ⟨i,hi⟩:=Qy.mp h1
  rw [Jb] at hi
  unfold goB at h2
  cases e:lk en eh k' with
  | none=>rw [e] at h2; cases h2
  | some a =>
   rw [e] at h2
   exact ⟨a,b,rfl,sQ nd hi.1 hi.2,of_decide_eq_true h2⟩
 ·rintro ⟨a,b,h1,h2,h3⟩
  obtain ⟨i,q1,q2⟩:=iW h2
  refine ⟨(k,b),Xq.mpr ⟨Qe (Jb.mpr ⟨q1,q2⟩),?_⟩,rfl⟩
  unfold goB
  rw [h1]
  exact decide_eq_true h3
theorem pF {ws:List (List Int)} {hs:List Int} {x h:Int} {q:List (Nat×Int×Int)} (p:bM ws hs h q x) (nd:(h::q.map (·.2.2)).Nodup):(q.map (·.2.1)).Nodup:=by
 by_cases c:q = []
 ·rw [c]; exact Zl
 ·rw [iV p c]
  exact nd.sublist ((Wf _).cons₂ _)
theorem pG {en eh fn fh:List Int} {q:List (Nat×Int×Int)} (ndf:fn.Nodup) (key:Nat×Int×Int->Int) (H1:∀ s∈q,lk en eh (key s)=some s.2.1/\lk fn fh (key s)=some s.2.2/\s.2.1≠s.2.2)
  (H2:∀ k a b,lk en eh k=some a->lk fn fh k=some b->a≠b->∃ s∈q,key s=k) (nd:(q.map (·.2.1)).Nodup) :
  ((hG en eh fn fh).map fun k=>(lk en eh k,lk fn fh k)).Perm (q.map fun s=>(some s.2.1,some s.2.2)):=by
 have nk:(q.map key).Nodup:=by
  have e:(q.map key).map (fun k=>(lk en eh k).getD 0)=q.map (·.2.1):=by
   rw [Jw]
   refine Zb fun s hs=>?_
   show (lk en eh (key s)).getD 0=s.2.1
   rw [(H1 s hs).1]; rfl
  rw [<- e] at nd
  rw [Jc,List.pairwise_map] at nd
  exact Jc.mpr (nd.imp fun h z=>h (by rw [z]))
 have pm:(hG en eh fn fh).Perm (q.map key):=(List.perm_ext_iff_of_nodup (sR ndf) nk).mpr fun k=>by
  rw [oB ndf,Jm]
  constructor
  ·rintro ⟨a,b,h1,h2,h3⟩
   exact H2 k a b h1 h2 h3
  ·rintro ⟨s,hs,rfl⟩
   exact ⟨_,_,H1 s hs⟩
 refine (pm.map _).trans ?_
 rw [Jw]
 refine List.Perm.of_eq (Zb fun s hs=>?_)
 show (lk en eh (key s),lk fn fh (key s))=_
 rw [(H1 s hs).1,(H1 s hs).2.1]
def sS (en eh fn fh:List Int) (m:Nat):Prop:=∃ (q:List (Nat×Int×Int)) (ws:List (List Int)) (hs:List Int) (h x:Int),bM ws hs h q x/\(h::q.map (·.2.2)).Nodup/\((hG en eh fn fh).map fun k=>(lk en eh k,lk fn fh k)).Perm (q.map fun s=>(some s.2.1,some s.2.2))/\q.length=m
theorem sS.len {en eh fn fh:List Int} {m:Nat} (h:sS en eh fn fh m):(hG en eh fn fh).length=m:=by
 obtain ⟨q,_,_,_,_,_,_,p,e⟩:=h
 have:=p.length_eq
 rw [Qd,Qd] at this
 rw [this,e]
theorem wF {en eh:List Int} (nd:en.Nodup):sS en eh en eh 0:=by
 refine ⟨[],[],[],0,0,rfl,by simp,?_,rfl⟩
 exact pG nd (fun _=>0) (fun s hs=>(Qp hs).elim) (fun k a b h1 h2 h3=>absurd (Option.some.inj (h1.symm.trans h2)) h3) Zl
theorem aD2 {l:List Int} (nd:l.Nodup) {i j:Nat} {a:Int} (hi:l[i]?=some a) (hj:l[j]?=some a):i=j:=by
 obtain ⟨h1,e1⟩:=Qa.mp hi
 obtain ⟨h2,e2⟩:=Qa.mp hj
 exact (Yb nd).mp (e1.trans e2.symm)
theorem aEQ {nums hs:List Int} {ws:List (List Int)} {n nx last:Int} {ss:List (Nat×Int×Int)} (nd:(nums++[nx]).Nodup) (hl:hs.length=nums.length) (hr:∀ g∈hs,0<=g/\g < n) (p:bM ws (hs++[n]) n ss last) (sn:(n::ss.map (·.2.2)).Nodup) (ne:ss≠[]):sS nums hs (nums++[nx]) (goS (hs++[n]) ss) (ss.length - 1):=by
 have nd1:nums.Nodup:=(Jr.mp nd).1
 cases ss with
 | nil=>exact absurd rfl ne
 | cons s0 q =>
  have ap:=sN p sn
  have mv:=fun w=>uG p sn w
  have at':=wE p sn
  have edges:=cL p
  obtain ⟨e1,⟨e2,_⟩,p2⟩:=p
  have sn2:(s0.2.2::q.map (·.2.2)).Nodup:=(Qx.mp sn).2
  have gl:(goS (hs++[n]) (s0::q)).length=hs.length+1:=by rw [iA,Qh]; rfl
  have low:∀ {i:Nat} {a:Int},hs[i]?=some a->(hs++[n])[i]?=some a:=fun h=>by
   rw [Ql (Qa.mp h).1]; exact h
  refine ⟨q,ws,hs++[n],s0.2.2,last,p2,sn2,pG nd (fun s=>nums.getD s.1 0) (fun s hs'=>?_) (fun k a b h1 h2 h3=>?_) (pF p2 sn2),rfl⟩
  ·obtain ⟨q1,_,_,_,q4⟩:=edges s (Qo _ hs')
   have hg:=at' s (Qo _ hs')
   have hne:=(ap s hs').2
   have hlt:s.1 < hs.length:=by
    refine Nat.lt_of_not_le fun z=>?_
    have:s.1=hs.length:=by
     have:=(Qa.mp q1).1
     rw [Qh] at this
     have:s.1 < hs.length+1:=this
     omega
    rw [this,Qt (Qg _),Jz] at q1
    exact hne (by simpa using q1.symm)
   have hk:nums[s.1]?=some (nums.getD s.1 0):=by
    rw [Jl,Qc (by omega)]; rfl
   have hk':(nums++[nx])[s.1]?=some (nums.getD s.1 0):=by rw [Ql (by omega)]; exact hk
   rw [Ql hlt] at q1
   exact ⟨sQ nd1 hk q1,sQ nd hk' hg,q4.symm⟩
  ·obtain ⟨i,i1,i2⟩:=iW h1
   obtain ⟨j,j1,j2⟩:=iW h2
   have hi:i < nums.length:=(Qa.mp i1).1
   have i1':(nums++[nx])[i]?=some k:=by rw [Ql hi]; exact i1
   have ij:j=i:=aD2 nd j1 i1'
   subst ij
   obtain ⟨s,s1,s2⟩:=(mv j).mp (by rw [j2,low i2]; exact fun z=>h3 (Option.some.inj z).symm)
   rcases Qm.mp s1 with rfl | s1
   ·exfalso
    rw [s2,low i2] at e2
    have:=hr a (Qe i2)
    have:=Option.some.inj e2
    omega
   ·exact ⟨s,s1,by show nums.getD s.1 0=k; rw [s2,Jl,i1]; rfl⟩
theorem aFl {α:Type} {l:List α} {k i:Nat} {a:α} (h:l[i]?=some a) (n:i≠k):∃ j:Nat,(l.eraseIdx k)[j]?=some a/\∀ {β:Type} (m:List β),(m.eraseIdx k)[j]?=m[i]?:=by
 by_cases c:i < k
 ·refine ⟨i,?_,fun m=>?_⟩
  ·rw [Xf,if_pos c]; exact h
  ·rw [Xf,if_pos c]
 ·refine ⟨i - 1,?_,fun m=>?_⟩
  ·rw [Xf,if_neg (by omega),show i - 1+1=i by omega]; exact h
  ·rw [Xf,if_neg (by omega),show i - 1+1=i by omega]
theorem aDI {α β:Type} {l:List α} {m:List β} {k j:Nat} {a:α} {b:β} (h:(l.eraseIdx k)[j]?=some a) (h2:(m.eraseIdx k)[j]?=some b):∃ i,i≠k/\l[i]?=some a/\m[i]?=some b:=by
 rw [Xf] at h h2
 by_cases c:j < k
 ·rw [if_pos c] at h h2; exact ⟨j,by omega,h,h2⟩
 ·rw [if_neg c] at h h2; exact ⟨j+1,by omega,h,h2⟩
theorem aAo {nums hs:List Int} {ws:List (List Int)} {last h:Int} {k0:Nat} {ss:List (Nat×Int×Int)} (nd:nums.Nodup) (hl:hs.length=nums.length) (hk:hs[k0]?=some last) (p:bM ws hs h ss last) (sn:(h::ss.map (·.2.2)).Nodup):sS nums hs (nums.eraseIdx k0) ((goS hs ss).eraseIdx k0) ss.length:=by
 have nd2:(nums.eraseIdx k0).Nodup:=nd.sublist (Zg ..)
 have mv:=fun w=>uG p sn w
 have at':=wE p sn
 have edges:=cL p
 -- the last hand gives nothing
 have nl:∀ s∈ss,s.2.1≠last:=fun s hs' z=>by
  have hne:ss≠[]:=fun z=>by rw [z] at hs'; cases hs'
  have e:=iV p hne
  have hm:s.2.1∈ss.map (·.2.1):=Jm.mpr ⟨s,hs',rfl⟩
  rw [e,z] at hm
  have hlast:(ss.map (·.2.2)).getLast (by simpa using hne)=last:=by
   have:∀ {q:List (Nat×Int×Int)} {h:Int} (n:q≠[]),bM ws hs h q last->(q.map (·.2.2)).getLast (by simpa using n)=last:=by
    intro q
    induction q with
    | nil=>intro h n; exact absurd rfl n
    | cons s q ih =>
     intro h n ⟨_,_,p⟩
     cases q with
     | nil=>exact p
     | cons s2 q=>simpa using ih (by simp) p
   exact this hne p
  have spl:=Yg (l:=ss.map (·.2.2)) (by simpa using hne)
  rw [hlast] at spl
  rw [<- spl,<- Yy] at sn
  exact (Jr.mp sn).2.2 last hm last (Qs.mpr rfl) rfl
 refine ⟨ss,ws,hs,h,last,p,sn,pG nd2 (fun s=>nums.getD s.1 0) (fun s hs'=>?_) (fun k a b h1 h2 h3=>?_) (pF p sn),rfl⟩
 ·obtain ⟨q1,_,_,_,q4⟩:=edges s hs'
  have hlt:=(Qa.mp q1).1
  have hk1:nums[s.1]?=some (nums.getD s.1 0):=by
   rw [Jl,Qc (by omega)]; rfl
  have hn:s.1≠k0:=fun z=>by
   rw [z,hk] at q1
   exact nl s hs' (Option.some.inj q1).symm
  obtain ⟨j,j1,j2⟩:=aFl hk1 hn
  exact ⟨sQ nd hk1 q1,sQ nd2 j1 (by rw [j2]; exact at' s hs'),q4.symm⟩
 ·obtain ⟨i,i1,i2⟩:=iW h1
  obtain ⟨j,j1,j2⟩:=iW h2
  obtain ⟨i',_,i1',i2'⟩:=aDI j1 j2
  have e:i'=i:=aD2 nd i1' i1
  subst e
  obtain ⟨s,s1,s2⟩:=(mv i').mp (by rw [i2',i2]; exact fun z=>h3 (Option.some.inj z).symm)
  exact ⟨s,s1,by show nums.getD s.1 0=k; rw [s2,Jl,i1]; rfl⟩
theorem aCA:∀ {l m:List Int},l.Nodup->(∀ x∈l,x∈m)->l.length<=m.length
 | [],_,_,_=>Jk _
 | x::l,m,nd,h=>by
  have nd2:=Qx.mp nd
  have hx:=h x (Qr ..)
  have ih:=aCA (m:=m.erase x) nd2.2 fun y hy=>(Wi (fun z:y=x=>nd2.1 (z ▸ hy))).mpr (h y (Qo _ hy))
  rw [Zo hx] at ih
  have:=Zy hx
  rw [Jf]; omega
theorem zI {en eh mn mh fn fh:List Int} (nde:fn.Nodup) (ndm:mn.Nodup) (hm:∀ k,k∈fn->k∈en->k∈mn) (hml:mh.length=mn.length):(hG en eh fn fh).length<=(hG en eh mn mh).length+(hG mn mh fn fh).length:=by
 rw [<- Qh]
 refine aCA (sR nde) fun k hk=>?_
 obtain ⟨a,b,h1,h2,h3⟩:=(oB nde k).mp hk
 obtain ⟨i,i1,_⟩:=iW h1
 obtain ⟨j,j1,_⟩:=iW h2
 have:=hm k (Qe j1) (Qe i1)
 obtain ⟨o,ho⟩:=Qy.mp this
 obtain ⟨c,hc⟩:∃ c,mh[o]?=some c:=⟨_,Qc (by have:=(Qa.mp ho).1; omega)⟩
 have h4:=sQ ndm ho hc
 rw [Jo,oB ndm,oB nde]
 by_cases d:a=c
 ·exact .inr ⟨c,b,h4,h2,fun z=>h3 (d.trans z)⟩
 ·exact .inl ⟨a,c,h1,h4,d⟩
def Deed.word:Deed->Str
 | .come => "come" | .go => "go" | .take _ => "take" | .put _ _ => "put"
def oC (w:Str):Bool:=inV (.str w) [.str "put",.str "take"]
def zJ (w:Str):Bool:=inV (.str w) [.str "come",.str "go"]
theorem DlM.nd {D:DD} (h:DlM D):D.nums.Nodup:=Jc.mpr (h.up.imp fun h=>Xu h)
theorem DlM.hr {D:DD} (h:DlM D):∀ g∈D.hs,0<=g/\g < D.n:=fun g hg=>by
 obtain ⟨hn1,hn6,hw12,hws⟩:=aS h.bk
 obtain ⟨hdl,hdm⟩:=cE h.dl
 obtain ⟨i,hi⟩:=Qy.mp hg
 have hl:=Qc (show i < D.ws.length by rw [<- hdl]; exact (Qa.mp hi).1)
 exact (aX (hws _ (Qe hl))).2.1 g (hdm i _ _ hi hl)
theorem DlM.wr {D:DD} (h:DlM D) {w:Nat} {l:List Int} (hl:D.ws[w]?=some l):∀ t∈l,0<=t/\t < D.n :=
 (aX ((aS h.bk).2.2.2 l (Qe hl))).2.1
theorem uH {ws:List (List Int)} {hs:List Int} {n x h:Int} {q:List (Nat×Int×Int)} (p:bM ws hs h q x) (hw:∀ (w:Nat) l,ws[w]?=some l->∀ t∈l,0<=t/\t < n):∀ t∈q.map (·.2.2),0<=t/\t < n:=fun t ht=>by
 obtain ⟨s,hs',rfl⟩:=Jm.mp ht
 obtain ⟨_,l,q2,q3,_⟩:=cL p s hs'
 exact hw _ l q2 _ q3
structure Mv1 (D:DD) (e:Deed) (D':DD) (m:Nat):Prop where
 mv:sS D.nums D.hs D'.nums D'.hs m
 ml:D'.ml=m
 ma:D'.ma=D.ma+m
 lt:(m:Int)<=D'.n - 1
 cg:zJ e.word=true->m=0
 pt:oC e.word=false->m=0
 nx:D.nx<=D'.nx
 old:∀ k∈D'.nums,k < D.nx->k∈D.nums
theorem aER {D D':DD} {e:Deed} (hM:DlM D) (hM':DlM D') (hl:D.hs.length=D.nums.length) (d:Did D e D'):∃ m,Mv1 D e D' m:=by
 have n1:=(aS hM'.bk).1
 cases e with
 | come =>
  have d':D'=D.came:=d
  subst d'
  exact ⟨0,wF hM.nd,rfl,(Int.add_zero _).symm,by omega,fun _=>rfl,fun _=>rfl,Xs _,fun k hk _=>hk⟩
 | go =>
  have d':D'=D.gone:=d
  subst d'
  exact ⟨0,wF hM.nd,rfl,(Int.add_zero _).symm,by omega,fun _=>rfl,fun _=>rfl,Xs _,fun k hk _=>hk⟩
 | take num =>
  obtain ⟨k,last,ss,h1,h2,T,d'⟩:=d
  subst d'
  have old:∀ j∈(D.take k ss).nums,j < D.nx->j∈D.nums:=fun j hj _=>(Zg ..).subset hj
  rcases T with ⟨rfl,_⟩ | ⟨h,_,p,nd,h0,hn,_⟩
  ·refine ⟨0,aAo (ss:=[]) (ws:=[]) (h:=last) hM.nd hl h2 rfl (by simp),rfl,rfl,by omega,fun _=>rfl,fun _=>rfl,Xs _,old⟩
  ·refine ⟨ss.length,aAo hM.nd hl h2 p nd,rfl,rfl,?_,fun z=>absurd z (show ¬ zJ "take" = true by decide +kernel),fun z=>absurd z (show ¬ oC "take" = false by decide +kernel),Xs _,old⟩
   have:=jJ D.n.toNat (h::ss.map (·.2.2)) nd fun x hx=>by
    rcases Qm.mp hx with rfl | hx
    ·omega
    ·have:=uH p (fun w l q=>hM.wr q) x hx
     omega
   rw [Jf,Qd] at this
   have e:(D.take k ss).n=D.n:=rfl
   rw [e]; omega
 | put t l =>
  obtain ⟨hs,m,ss,last,PS,d'⟩:=d
  subst d'
  obtain ⟨p,nd,ne,rfl,rfl⟩:=PS
  have ndn:(D.nums++[D.nx]).Nodup:=hM'.nd
  have pos:0 < ss.length:=Wo.mpr ne
  refine ⟨ss.length - 1,aEQ ndn hl hM.hr p nd ne,?_,?_,?_,fun z=>absurd z (show ¬ zJ "put" = true by decide +kernel),fun z=>absurd z (show ¬ oC "put" = false by decide +kernel),?_,fun k hk hlt=>?_⟩
  ·show (ss.length:Int) - 1=_; omega
  ·show D.ma+((ss.length:Int) - 1)=_; omega
  ·have e:(D.put l t (goS (D.hs++[D.n]) ss) ((ss.length:Int) - 1)).n=D.n:=rfl
   have:=jJ D.n.toNat (ss.map (·.2.2)) (Qx.mp nd).2 fun x hx=>by
    have:=uH p (fun w l q=>hM'.wr q) x hx
    rw [e] at this
    omega
   rw [Qd] at this
   rw [e]; omega
  ·show D.nx<=D.nx+1; omega
  ·have hk':k∈D.nums++[D.nx]:=hk
   rcases Jo.mp hk' with z | z
   ·exact z
   ·have:=Qs.mp z; omega
structure Snc (en eh:List Int) (ea:Int) (ds:List Str) (D:DD):Prop where
 nx:∀ k∈en,k < D.nx
 go:((hG en eh D.nums D.hs).length:Int)<=D.ma - ea
 most:D.ma - ea<=5*((ds.filter oC).length:Int)
 ml:ds≠[]->0<=D.ml/\D.ml<=D.n - 1/\D.ml<=D.ma - ea
 cg:∀ w,ds.getLast?=some w->zJ w=true->D.ml=0
 nil:ds = []->en=D.nums/\eh=D.hs/\ea=D.ma
 one:ds.length=1->∃ m:Nat,sS en eh D.nums D.hs m/\D.ml=m/\D.ma=ea+m/\(m:Int)<=D.n - 1
theorem Snc.start {D:DD} (hM:DlM D):Snc D.nums D.hs D.ma [] D:=by
 refine ⟨fun k hk=>(hM.few k hk).2,?_,?_,fun z=>absurd rfl z,fun w z=>by simp at z,fun _=>⟨rfl,rfl,rfl⟩,fun z=>by cases z⟩
 ·rw [(wF hM.nd).len]; show (0:Int)<=_; omega
 ·show D.ma - D.ma<=0; omega
theorem Snc.step {en eh:List Int} {ea:Int} {ds:List Str} {D D':DD} {e:Deed} (S:Snc en eh ea ds D) (hM:DlM D) (hM':DlM D') (hl:D.hs.length=D.nums.length) (d:Did D e D'):Snc en eh ea (ds++[e.word]) D':=by
 obtain ⟨m,M⟩:=aER hM hM' hl d
 have n6:=(aS hM'.bk).2.1
 have go':((hG en eh D'.nums D'.hs).length:Int)<=D'.ma - ea:=by
  have h1:=zI (en:=en) (eh:=eh) (mn:=D.nums) (mh:=D.hs) (fn:=D'.nums) (fh:=D'.hs) hM'.nd hM.nd (fun k h1 h2=>M.old k h1 (S.nx k h2)) hl
  rw [M.mv.len] at h1
  have h2:=S.go
  have h3:=M.ma
  omega
 have m5:(m:Int)<=5:=by have:=M.lt; omega
 have ge:0<=D.ma - ea:=Int.le_trans (Int.natCast_nonneg _) S.go
 have h3:=M.ma
 refine ⟨fun k hk=>Int.lt_of_lt_of_le (S.nx k hk) M.nx,go',?_,fun _=>?_,fun w hw hc=>?_,fun z=>by simp at z,fun z=>?_⟩
 ·rw [Jx,Qh]
  have h4:=S.most
  cases c:oC e.word with
  | true=>rw [Jv,if_pos c]; show _<=5*(((ds.filter oC).length+1:Nat):Int); omega
  | false =>
   have:=M.pt c
   rw [Jv,if_neg (by rw [c]; simp)]; show _<=5*(((ds.filter oC).length+0:Nat):Int); omega
 ·have:=M.ml
  have:=M.lt
  omega
 ·rw [List.getLast?_append] at hw
  have:e.word=w:=by simpa using hw
  rw [<- this] at hc
  have:=M.cg hc
  have:=M.ml
  omega
 ·have:ds = []:=Xp.mp (by rw [Qh] at z; have:ds.length+1=1:=z; omega)
  obtain ⟨rfl,rfl,rfl⟩:=S.nil this
  exact ⟨m,M.mv,M.ml,M.ma,M.lt⟩
def sT:Sp:=fun vs H Q _=>∃ (ep fp:Addr) (en eh fn fh:List Int) (hands:Int) (q:List (Nat×Int×Int)) (ws:List (List Int)) (hs:List Int) (h x:Int),vs = [.ref ep,.ref fp,.int hands]/\H ep=some (.dK (kvH en eh))/\H fp=some (.dK (kvH fn fh))/\ep≠fp/\fh.length=fn.length/\fn.Nodup/\fn.length<=12 /\
 bM ws hs h q x/\(h::q.map (·.2.2)).Nodup/\((hG en eh fn fh).map fun k=>(lk en eh k,lk fn fh k)).Perm (q.map fun s=>(some s.2.1,some s.2.2))/\(q.length:Int)<=hands - 1/\∀ H',aG H H'->Q (.bl true) H'
theorem gY:FnScope ["elder", "after", "hands", "goes", "by_starts", "ends", "first", "here", "turn"] ["elder", "after", "hands"] (aH iT):=⟨rfl,rfl,rfl,by decide +kernel,rfl,by decide +kernel,by decide +kernel⟩
set_option maxHeartbeats 1000000 in
theorem aA8 {f fG:Addr} {fd dG:FuncData} (G:Fn K mg "_law_e_is_one_way" iT ["elder", "after", "hands"] f fd) (B:Bl mg) (GGo:Fn K mg "_law_e_goes" tY ["elder", "after"] fG dG) (OGo:FnOk P w K mg base CX0 1 fG dG ["elder", "after"] wD):FnOk P w K mg base CX0 2 f fd ["elder", "after", "hands"] sT:=by
 refine G.fn.ok gY (fun vs H Q E h=>?_) (fun cdv A outer s H vs Q E hr h=>?_)
 ·obtain ⟨ep,fp,en,eh,fn,fh,hands,q,ws,hs,h,x,rfl,_⟩:=h
  rfl
 ·obtain ⟨ep,fp,en,eh,fn,fh,hands,q,ws,hs,h,x,rfl,hep,hfp,nef,hfl,hnd,h12,p,nd,perm,hq,k⟩:=h
  have hu:=eC hr
  have r1:Room 1 _:=hr
  have hu3:(A.deeper (PyProof.Rows.envOfC "_law_e_is_one_way" (aH iT) s.heap.objs.size f cdv)).units+3 < cLine:=by have:=r1.un; omega
  refine ⟨_,aC (aM (i:=3) gY.nd rfl (Or.inl rfl) (aZ GGo OGo r1 rfl (aA (pv 0) (aA (pv 1) aE))))
   (aC (aM (i:=4) gY.nd rfl (Or.inl rfl) (bV (jE (K:=K) rfl rfl hu3) rfl B.dict sE (aA (cZ (own:=["number"]) (fr:=[0,1]) (frn:=["elder", "after"]) (bD (aH iT) ["elder", "after", "hands", "goes", "by_starts", "ends", "first", "here", "turn"] rfl rfl (by decide +kernel)) rfl (iS (pv 3))
    (fun _ _ _ _=>(aT (i:=0) (show (["number", "elder", "after"]:List Str).Nodup by decide +kernel) rfl (Or.inl rfl))) (fun _ _ _ _=>dQ)
    (fun _ _ _ _=>eN (aA (aQ hu (pv 1) (pv 0) (fun _ _=>rfl)) (aA (aQ hu (pv 2) (pv 0) (fun _ _=>rfl)) aE)))) aE)))
   (aC (aM (i:=5) gY.nd rfl (Or.inr rfl) (cZ (own:=["number"]) (fr:=[1]) (frn:=["after"]) (bD (aH iT) ["elder", "after", "hands", "goes", "by_starts", "ends", "first", "here", "turn"] rfl rfl (by decide +kernel)) rfl (iS (pv 3))
    (fun _ _ _ _=>(aT (i:=0) (show (["number", "after"]:List Str).Nodup by decide +kernel) rfl (Or.inl rfl))) (fun _ _ _ _=>dQ)
    (fun _ _ _ _=>aQ hu (pv 1) (pv 0) (fun _ _=>rfl))))
   (aC (pX (qX (i:=6) (own:=["hand"]) (fr:=[5]) (frn:=["ends"]) (bD (aH iT) ["elder", "after", "hands", "goes", "by_starts", "ends", "first", "here", "turn"] rfl rfl (by decide +kernel)) rfl gY.nd rfl rfl rfl (lF (pv 4))
    (fun _ _ _ _=>(aT (i:=0) (show (["hand", "ends"]:List Str).Nodup by decide +kernel) rfl (Or.inl rfl))) (fun _ _ _ _=>qV (aL (mC (K:=K) rfl) (pv 0) (pv 1) (by with_unfolding_all rfl)))
    (fun _ _ _ _=>pv 0)))
   (aC (bA (PW.pt (dF (aL kA (aJ lG rfl B.len cG (aA (pv 4) aE)) (aJ aO rfl B.len cG (aA (pv 3) aE)) (aR _)) (dF (aL kA (aJ sW rfl B.len cG (aA (bV (aAK (K:=K) rfl rfl) rfl B.set aFh (aA (pv 5) aE)) aE)) (aJ aO rfl B.len cG (aA (pv 3) aE)) (aR _)) (cW (aL lY (aJ aO rfl B.len cG (aA (pv 3) aE)) (bC gE (pv 2) aI) (aR _)))))) (aF (aK cO)) aN)
   (aC (bA (aL (aBx hr.u64) (pv 3) (eU aE) (aR _)) (aF (aK cO)) aN)
   (aC (bA (aL kA (aJ aO rfl B.len cG (aA (pv 6) aE)) aI (aR _)) (aF (aK cO)) aN)
   (aC (aM (i:=7) gY.nd rfl (Or.inl rfl) (bE bX (pv 6) aI (fun _ _=>rfl)))
   (aC (gD PassesOwn.never rfl (iS (pv 3)) (aT (i:=8) gY.nd rfl (Or.inl rfl))
    (aC (bA (oF (oP hu (pv 7) (pv 4)) (by with_unfolding_all rfl)) (aF (aK cO)) aN)
    (aF (aM (i:=7) gY.nd rfl (Or.inl rfl) (aQ hu (pv 4) (pv 7) (fun _ _=>rfl))))))
   (aF (aK cO)))))))))),?_⟩
  refine ⟨_,rfl,_,rfl,ep,fp,en,eh,fn,fh,rfl,hep,hfp,nef,hfl,hnd,h12,fun gp H1 s1 ng eg=>?_⟩
  dsimp only [aV]
  obtain ⟨gs,hgs⟩:∃ gs,gs=hG en eh fn fh:=⟨_,rfl⟩
  rw [<- hgs] at eg perm
  obtain ⟨fa,hfa⟩:∃ fa:Int->Int,∀ k,fa k=(lk en eh k).getD 0:=⟨_,fun _=>rfl⟩
  obtain ⟨fb,hfb⟩:∃ fb:Int->Int,∀ k,fb k=(lk fn fh k).getD 0:=⟨_,fun _=>rfl⟩
  have hk:∀ k∈gs,lk en eh k=some (fa k)/\lk fn fh k=some (fb k):=fun k hk=>by
   have:(lk en eh k,lk fn fh k)∈q.map fun s=>(some s.2.1,some s.2.2):=perm.mem_iff.mp (Jm.mpr ⟨k,hk,rfl⟩)
   obtain ⟨s,_,e⟩:=Jm.mp this
   injection e with e1 e2
   rw [hfa,hfb,<- e1,<- e2]
   exact ⟨rfl,rfl⟩
  have gl:gs.length=q.length:=by have:=perm.length_eq; simpa using this
  have gs12:gs.length<=12:=by
   rw [hgs]
   unfold hG
   rw [Qd]
   refine Ja (Xl ..) ?_
   rw [Xr]
   omega
  have pa:(gs.map fa).Perm (q.map (·.2.1)):=by
   have h1:=perm.map (fun p=>p.1.getD 0)
   rw [Jw,Jw] at h1
   have e1:gs.map ((fun p:Option Int×Option Int=>p.1.getD 0) ∘ fun k=>(lk en eh k,lk fn fh k))=gs.map fa:=Zb fun k _=>(hfa k).symm
   rw [e1] at h1
   exact h1
  have pb:(gs.map fb).Perm (q.map (·.2.2)):=by
   have h1:=perm.map (fun p=>p.2.getD 0)
   rw [Jw,Jw] at h1
   have e1:gs.map ((fun p:Option Int×Option Int=>p.2.getD 0) ∘ fun k=>(lk en eh k,lk fn fh k))=gs.map fb:=Zb fun k _=>(hfb k).symm
   rw [e1] at h1
   exact h1
  have nda:=pa.nodup_iff.mpr (pF p nd)
  have ndb:=pb.nodup_iff.mpr (Qx.mp nd).2
  have hst:∀ s∈q,∃ k∈gs,fa k=s.2.1/\fb k=s.2.2:=fun s hs'=>by
   have:=perm.mem_iff.mpr (Jm.mpr ⟨s,hs',rfl⟩)
   obtain ⟨k,hk1,hk2⟩:=Jm.mp this
   injection hk2 with e1 e2
   exact ⟨k,hk1,by rw [hfa,e1]; rfl,by rw [hfb,e2]; rfl⟩
  obtain ⟨es,hek⟩:∃ es:List (Key×V),es=kvH (gs.map fa) (gs.map fb):=⟨_,rfl⟩
  have hes:es=gs.map fun k=>(.inl (fa k),.int (fb k)):=by
   rw [hek]
   unfold kvH
   rw [List.zip_map',Jw]; rfl
  have esl:es.length=gs.length:=by rw [hes,Qd]
  have ga:∀ {H4:Hp} {k:Int},aG H1 H4->k∈gs->gG H4 ep (kV (.inl k)) (some (.int (fa k))):=fun s4 m=>.inl ⟨_,.inl _,.inl (s4 _ _ (s1 _ _ hep)),rfl,by rw [qM,(hk _ m).1]; rfl⟩
  have gb:∀ {H4:Hp} {k:Int},aG H1 H4->k∈gs->gG H4 fp (kV (.inl k)) (some (.int (fb k))):=fun s4 m=>.inl ⟨_,.inl _,.inl (s4 _ _ (s1 _ _ hfp)),rfl,by rw [qM,(hk _ m).2]; rfl⟩
  -- by_starts
  refine ⟨_,rfl,gp,rfl,⟨_,SqL.of eg⟩,lE (K:=K) (a:=gp) (xs:=gs.map V.int) (fun σ=>∃ v,σ = [v,some (.ref ep),some (.ref fp)]) (fun i ys H4=>aG H1 H4/\ys.length=i/\∀ (j:Nat) k,j < i->gs[j]?=some k->∃ t,ys[j]?=some (.ref t)/\H4 t=some (.tup [.int (fa k),.int (fb k)])) (fZ (by rw [Qd]; omega)) ⟨none,rfl⟩ ⟨aG.refl _,rfl,fun j k z=>absurd z (Yl _)⟩ (fun i ys H4 z=>Ym z.2.1) (fun i ys H4 z=>SqL.of (z.1 _ _ eg)) ?_ ?_⟩
  ·rintro i ys σ xv H4 hx ⟨v,rfl⟩ ⟨s4,hyl,hys⟩ hz
   rw [Qi] at hx
   obtain ⟨kk,hkk,rfl⟩:=Qv.mp hx
   have hm:=Qe hkk
   refine cC ?_
   refine ⟨_,rfl,_,rfl,ep,_,rfl,ga s4 hm,_,rfl,_,rfl,fp,_,rfl,gb s4 hm,sz2 _ _,fun tp htp=>?_⟩
   refine ⟨hz,⟨_,rfl⟩,s4.trans (aG.new htp),by rw [Qh,hyl]; rfl,fun j k hj hjk=>?_⟩
   by_cases c:j < i
   ·obtain ⟨t,t1,t2⟩:=hys j k c hjk
    exact ⟨t,by rw [Ql (by omega)]; exact t1,(aG.new htp) _ _ t2⟩
   ·have:j=i:=by omega
    subst this
    rw [hkk] at hjk
    cases hjk
    exact ⟨tp,by rw [Qt (by omega),hyl,Jz]; rfl,aB⟩
  rintro ys H2 ⟨s2,hyl,hys⟩ lq hlq
  have s23:=aG.new (o:=.lst ys) hlq
  have eq3:upd H2 lq (.lst ys) lq=some (.lst ys):=aB
  generalize upd H2 lq (.lst ys)=H3 at s23 eq3 ⊢
  rw [Qd] at hyl hys
  refine ⟨lq,ys,es,rfl,eq3,by rw [esl,hyl],fun i e he=>?_,fun bp hbp=>?_⟩
  ·rw [hes,Qi] at he
   obtain ⟨kk,hkk,rfl⟩:=Qv.mp he
   obtain ⟨t,t1,t2⟩:=hys i kk (Qa.mp hkk).1 hkk
   exact ⟨t,t1,s23 _ _ t2⟩
  have ndk:(es.map (·.1)).Nodup:=by
   rw [hes,Jw]
   have e:gs.map ((fun p:Key×V=>p.1) ∘ fun k=>((.inl (fa k):Key),V.int (fb k)))=(gs.map fa).map (fun a=>(.inl a:Key)):=by rw [Jw]; rfl
   rw [e]
   refine Jc.mpr (List.pairwise_map.mpr (List.Pairwise.imp ?_ (Jc.mp nda)))
   intro a b h z
   injection z with z
   exact h z
  rw [kZ ndk]
  dsimp only [aV]
  have s34:=aG.new (o:=.dK es) hbp
  have eb4:upd H3 bp (.dK es) bp=some (.dK es):=aB
  generalize upd H3 bp (.dK es)=H4 at s34 eb4 ⊢
  have s14:=(s2.trans s23).trans s34
  have eg4:=s14 _ _ eg
  have hal:∀ s∈q,bJ es (.inl s.2.1)=some (.int s.2.2):=fun s hs'=>by
   obtain ⟨kk,m,e1,e2⟩:=hst s hs'
   obtain ⟨j,hj⟩:=Qy.mp m
   rw [hek]
   exact bW (f:=V.int) nda (by rw [Qi,hj,<- e1]; rfl) (by rw [Qi,hj,<- e2]; rfl)
  -- ends
  refine ⟨_,rfl,gp,rfl,⟨_,SqL.of eg4⟩,lE (K:=K) (a:=gp) (xs:=gs.map V.int) (fun σ=>∃ v,σ = [v,some (.ref fp)]) (fun i zs H5=>H5=H4/\zs=((gs.take i).map fb).map V.int) (fZ (by rw [Qd]; omega)) ⟨none,rfl⟩ ⟨rfl,rfl⟩ (fun i zs H5 z=>by rw [z.2,Qd,Qd,Jq]; omega) (fun i zs H5 z=>by rw [z.1]; exact SqL.of eg4) ?_ ?_⟩
  ·rintro i zs σ xv H5 hx ⟨v,rfl⟩ ⟨rfl,rfl⟩ hz
   rw [Qi] at hx
   obtain ⟨kk,hkk,rfl⟩:=Qv.mp hx
   refine cC ?_
   refine ⟨_,rfl,_,rfl,fp,_,rfl,gb s14 (Qe hkk),hz,⟨_,rfl⟩,rfl,?_⟩
   rw [Xd,hkk,Jd,Jd]; rfl
  rintro zs Hx ⟨rfl,rfl⟩ np hnp
  rw [Qd,Ju]
  dsimp only [aV]
  have s45:=aG.new (o:=.lst ((gs.map fb).map V.int)) hnp
  have en5:upd Hx np (.lst ((gs.map fb).map V.int)) np=some (.lst ((gs.map fb).map V.int)):=aB
  generalize upd Hx np (.lst ((gs.map fb).map V.int))=H5 at s45 en5 ⊢
  have eb5:=s45 _ _ eb4
  have eg5:=s45 _ _ eg4
  -- first
  refine ⟨_,rfl,bp,es,rfl,eb5,fun o nf=>iD (a:=bp) (o:=o) (kvs:=es) (fun σ=>∃ v,σ = [v,some (.ref np)]) (fun i zs H6=>H6=upd H5 bp (.frz o (.dK es))/\zs=(((gs.map fa).take i).filter fun a=>!decide (a∈gs.map fb)).map V.int) (fZ (by omega)) ⟨_,rfl⟩ ⟨rfl,rfl⟩ (fun i zs H6 z=>?_) (fun i zs H6 z=>by rw [z.1]; exact aB) ?_ ?_⟩
  ·rw [z.2,Qd]
   exact Ja (Xl _ _) (by rw [Jq]; omega)
  ·rintro i zs σ pr H6 hp ⟨v,rfl⟩ ⟨rfl,rfl⟩ hsz
   rw [hek] at hp
   obtain ⟨ka,kb,hka,_,rfl⟩:=sI hp
   have nbn:np≠bp:=fun z=>by rw [z,eb5] at en5; cases en5
   have en6:upd H5 bp (.frz o (.dK es)) np=some (.lst ((gs.map fb).map V.int)):=(aD nbn).trans en5
   have etake:(gs.map fa).take (i+1)=(gs.map fa).take i++[ka]:=by rw [Xd,hka]; rfl
   dsimp only [aV]
   refine ⟨_,rfl,_,rfl,np,_,rfl,.inl (SqL.of en6),rfl,by simp [lZ],_,rfl,?_⟩
   rw [show (if true=true then !inV (kV (Sum.inl ka)) (List.map V.int (List.map fb gs)) else inV (kV (Sum.inl ka)) (List.map V.int (List.map fb gs)))=!decide (ka∈gs.map fb) by rw [if_pos rfl]; exact congrArg _ (qI _ _)]
   by_cases c:ka∈gs.map fb
   ·refine bS (by simp [c]) ⟨⟨_,rfl⟩,rfl,?_⟩
    rw [etake,Jx,List.filter_cons_of_neg (by simp [c]),List.filter_nil,Yh]
   ·refine dZ (by simp [c]) ⟨_,rfl,hsz,⟨_,rfl⟩,rfl,?_⟩
    rw [etake,Jx,List.filter_cons_of_pos (by simp [c]),Jd]; rfl
  rintro zs H6 ⟨rfl,rfl⟩ lf hlf
  have nlf:bp≠lf:=fun z=>by rw [<- z,aB] at hlf; cases hlf
  have hlf5:H5 lf=none:=by rw [aD (Ne.symm nlf)] at hlf; exact hlf
  rw [esl,show gs.length=(gs.map fa).length by rw [Qd],Ju]
  obtain ⟨fi,hfi⟩:∃ fi,fi=(gs.map fa).filter fun a=>!decide (a∈gs.map fb):=⟨_,rfl⟩
  rw [<- hfi]
  refine ⟨bp,o,es,by rw [aD nlf,aB],nf,?_⟩
  have s56:aG H5 (upd (upd (upd H5 bp (.frz o (.dK es))) lf (.lst (fi.map V.int))) bp (.dK es)):=fun b u hb=>by
   by_cases hbf:b=bp
   ·rw [hbf] at hb ⊢
    rw [aB,<- eb5]; exact hb
   ·rw [aD hbf,aD (fun z=>by rw [z,hlf5] at hb; cases hb),aD hbf]; exact hb
  have ef6:upd (upd (upd H5 bp (.frz o (.dK es))) lf (.lst (fi.map V.int))) bp (.dK es) lf=some (.lst (fi.map V.int)):=by rw [aD (Ne.symm nlf),aB]
  generalize upd (upd (upd H5 bp (.frz o (.dK es))) lf (.lst (fi.map V.int))) bp (.dK es)=H6 at s56 ef6 ⊢
  dsimp only [aV]
  have eb6:=s56 _ _ eb5
  have eg6:=s56 _ _ eg5
  have en6:=s56 _ _ en5
  have s16:=(s14.trans s45).trans s56
  refine gA false (nY (b:=false) (c:=false) (fun Q' q'=>⟨_,rfl,bp,_,rfl,eb6,_,rfl,gp,_,rfl,.inl (SqL.of eg6),rfl,false,by rw [esl,Qd]; simp,q' _ (aG.refl _)⟩) (fun _ H7 s7=>nY (b:=false) (c:=false) (fun Q' q'=>?_) (fun _ H8 s8=>fun Q' q'=>?_))) (fun hb=>by cases hb) (fun _ H7 s7=>?_)
  ·refine ⟨_,rfl,np,gs.map fb,rfl,SqL.of (s7 _ _ en6),by rw [Qd]; omega,fun sp hsp=>?_⟩
   refine ⟨sp,_,_,rfl,aB,_,rfl,gp,_,rfl,.inl (SqL.of ((aG.new hsp) _ _ (s7 _ _ eg6))),rfl,false,?_,q' _ (aG.new hsp)⟩
   rw [(yN _).mpr ndb,Qd,Qd]; simp
  ·refine ⟨_,rfl,gp,_,rfl,.inl (SqL.of (s8 _ _ (s7 _ _ eg6))),_,rfl,hands,1,rfl,rfl,_,_,rfl,rfl,false,?_,q' _ (aG.refl _)⟩
   rw [Qd]
   simp; omega
  dsimp only [cQ]
  have s17:=s16.trans s7
  have eg7:=s7 _ _ eg6
  have eb7:=s7 _ _ eb6
  have ef7:=s7 _ _ ef6
  refine ⟨_,rfl,Jk _,fun pe hpe=>?_⟩
  have s78:=aG.new (o:=.lst []) hpe
  refine ⟨.list (gs.map .int),.list [],iB.mpr ⟨gp,rfl,SqL.of (s78 _ _ eg7)⟩,(show Den K _ (.list (([]:List Int).map .int)) (.ref pe) from iB.mpr ⟨pe,rfl,SqL.of aB⟩),eF _,eF [],cV _,cV [],_,rfl,?_⟩
  generalize upd H7 pe (.lst [])=H8 at s78 ⊢
  have eg8:=s78 _ _ eg7
  have eb8:=s78 _ _ eb7
  have ef8:=s78 _ _ ef7
  have s08:=s1.trans (s17.trans s78)
  have eqe:PyData.eqv (.list (gs.map .int)) (.list [])=gs.isEmpty:=by
   cases gs with
   | nil=>rw [Xz,PyData.eqv,PyData.eqvAll]; rfl
   | cons x r=>rw [Qw,PyData.eqv,PyData.eqvAll]; rfl
  rw [eqe]
  by_cases c0:gs = []
  ·refine dZ (by rw [c0]; rfl) (k _ s08)
  refine bS (by cases gs with
   | nil=>exact absurd rfl c0
   | cons x r=>rfl) ?_
  dsimp only [cQ]
  have qne:q≠[]:=fun z=>c0 (Xp.mp (by rw [gl,z]; rfl))
  have pst:=iV p qne
  have fih:fi = [h]:=by
   rw [hfi]
   refine sO nda (pa.mem_iff.mpr (by rw [pst]; exact Qr ..)) fun x hx=>?_
   have hx':=pa.mem_iff.mp hx
   rw [pst] at hx'
   rw [Bool.not_eq_true',decide_eq_false_iff_not,pb.mem_iff]
   constructor
   ·intro hn
    rcases Qm.mp hx' with z | z
    ·exact z
    ·exact absurd ((Wf _).subset z) hn
   ·rintro rfl
    exact (Qx.mp nd).1
  rw [fih] at ef8
  refine ⟨_,rfl,lf,_,rfl,.inl (SqL.of ef8),rfl,_,rfl,mS ?_⟩
  dsimp only [cQ]
  refine ⟨_,rfl,lf,_,0,.int h,rfl,rfl,SqL.of ef8,rfl,?_⟩
  dsimp only [aV]
  refine ⟨_,rfl,gp,rfl,⟨_,SqL.of eg8⟩,qO (K:=K) (a:=gp) (xs:=gs.map V.int) (fun i σ H9=>(∃ v8,σ = [some (.ref ep),some (.ref fp),some (.int hands),some (.ref gp),some (.ref bp),some (.ref np),some (.ref lf),some (.int (zH h q i)),v8])/\H9=H8) ⟨⟨none,rfl⟩,rfl⟩ (fun i σ H9 _ z=>by rw [z.2]; exact SqL.of eg8) ?_ ?_⟩
  ·rintro i xv σ H9 hx ⟨⟨v8,rfl⟩,rfl⟩
   dsimp only [aV]
   have hi:i < q.length:=by
    have:=(Qa.mp hx).1
    rw [Qd] at this
    omega
   obtain ⟨st,hst'⟩:∃ st,q[i]?=some st:=⟨_,Qc hi⟩
   obtain ⟨w1,w2⟩:=xX p i st hst'
   have e1:zH h q i=st.2.1:=by unfold zH; rw [Jl,w1]; rfl
   have e2:zH h q (i+1)=st.2.2:=by unfold zH; rw [Jl,w2]; rfl
   have dg:gG H9 bp (kV (.inl (zH h q i))) (some (.int (zH h q (i+1)))):=.inl ⟨es,.inl _,.inl eb8,rfl,by rw [e1,e2]; exact (hal st (Qe hst')).symm⟩
   refine ⟨_,rfl,_,rfl,bp,_,rfl,dg,_,rfl,mS ?_⟩
   dsimp only [cQ]
   refine ⟨_,rfl,_,rfl,bp,_,rfl,dg,?_⟩
   exact ⟨⟨_,rfl⟩,rfl⟩
  ·rintro σ H9 ⟨⟨v8,rfl⟩,rfl⟩
   exact k _ s08
theorem aCB {xs:List V} {v:V} (h:xs[xs.length - 1]?=some v):atI xs (-1)=some v:=by
 have hl:0 < xs.length:=by
  have:=(Qa.mp h).1
  omega
 obtain ⟨ys,rfl⟩:∃ ys,xs=ys++[v]:=by
  refine ⟨xs.dropLast,?_⟩
  have hne:xs≠[]:=List.ne_nil_of_length_pos hl
  have e:=Yg hne
  rw [List.getLast_eq_getElem] at e
  obtain ⟨h1,h2⟩:=Qa.mp h
  rw [h2] at e; exact e.symm
 exact aBq ys v
structure Lk (K:PySem.W.Frag) (H:Hp) (ep dp mp:Addr) (ke:List (Key×V)) (en eh:List Int) (e1 ea:Int):Prop where
 he:H ep=some (.dK ke)
 vd:bJ ke (.inr "deal")=some (.ref dp)
 vm:bJ ke (.inr "moved")=some (.ref mp)
 hd:H dp=some (.dK (kvH en eh))
 hm:SqT K H mp [.int e1,.int ea]
theorem Lk.same {H H':Hp} {ep dp mp:Addr} {ke:List (Key×V)} {en eh:List Int} {e1 ea:Int} (h:Lk K H ep dp mp ke en eh e1 ea) (s:aG H H'):Lk K H' ep dp mp ke en eh e1 ea:=⟨s _ _ h.he,h.vd,h.vm,s _ _ h.hd,s.seqT h.hm⟩
def oE (K:PySem.W.Frag):Sp:=fun vs H Q _=>∃ (ep edp emp fp fdp fmp lp:Addr) (ke kf:List (Key×V)) (en eh:List Int) (e1 ea:Int) (D:DD) (ds:List Str),vs = [.ref ep,.ref fp,.ref lp,.int D.n]/\Lk K H ep edp emp ke en eh e1 ea/\Lk K H fp fdp fmp kf D.nums D.hs D.ml D.ma/\edp≠fdp/\H lp=some (.lst (ds.map V.str))/\ds≠[]/\ds.length<=50/\Snc en eh ea ds D/\DlM D/\D.hs.length=D.nums.length/\∀ H',aG H H'->Q (.bl true) H'
theorem jO:FnScope ["elder", "found", "deeds", "hands", "many", "last", "total", "more", "most"] ["elder", "found", "deeds", "hands"] (aH nQ):=⟨rfl,rfl,rfl,by decide +kernel,rfl,by decide +kernel,by decide +kernel⟩
set_option maxHeartbeats 1000000 in
theorem aA9 {f fG fO:Addr} {fd dG dO:FuncData} (G:Fn K mg "_law_e_moved_right" nQ ["elder", "found", "deeds", "hands"] f fd) (B:Bl mg) (GGo:Fn K mg "_law_e_goes" tY ["elder", "after"] fG dG) (OGo:FnOk P w K mg base CX0 1 fG dG ["elder", "after"] wD) (GOw:Fn K mg "_law_e_is_one_way" iT ["elder", "after", "hands"] fO dO) (OOw:FnOk P w K mg base CX0 2 fO dO ["elder", "after", "hands"] (sT)):FnOk P w K mg base CX0 3 f fd ["elder", "found", "deeds", "hands"] (oE K):=by
 refine G.fn.ok jO (fun vs H Q E h=>?_) (fun cdv A outer s H vs Q E hr h=>?_)
 ·obtain ⟨ep,edp,emp,fp,fdp,fmp,lp,ke,kf,en,eh,e1,ea,D,ds,rfl,_⟩:=h
  rfl
 ·obtain ⟨ep,edp,emp,fp,fdp,fmp,lp,ke,kf,en,eh,e1,ea,D,ds,rfl,LE,LF,ned,hlp,hne,h50,S,hM,hhl,k⟩:=h
  have hu:=eC hr
  have r2:Room 2 _:=hr
  have r1:Room 1 _:=hr.mono (by decide)
  refine ⟨_,aC (aM (i:=4) jO.nd rfl (Or.inl rfl) (aJ aO rfl B.len cG (aA (aZ GGo OGo r1 rfl (aA (aQ hu (pv 0) aP (fun _ _=>rfl)) (aA (aQ hu (pv 1) aP (fun _ _=>rfl)) aE))) aE)))
   (aC (oG (aQ hu (pv 1) aP (fun _ _=>rfl)) (mK rfl (cF (aT (i:=5) jO.nd rfl (Or.inl rfl)) (cF (aT (i:=6) jO.nd rfl (Or.inl rfl)) jS))))
   (aC (aM (i:=7) jO.nd rfl (Or.inl rfl) (bC gE (pv 6) (bE bU (aQ hu (pv 0) aP (fun _ _=>rfl)) aI (fun _ _=>rfl))))
   (aC (bA (PW.pt (dF (PW.pt (kE (aL oJ (bE bX (pv 2) (aBj yC aI) (fun _ _=>rfl)) (eU (aA aP (aA aP aE))) (by with_unfolding_all rfl)) (jQ (aL kA (pv 5) aI (aR _))))) (cW (aL lY (pv 5) (bC gE (pv 3) aI) (aR _))))) (aF (aK cO)) aN)
   (aC (bA (aL dX (aJ aO rfl B.len cG (aA (pv 2) aE)) aI (aR _)) (aF (aK (iF (eR dX (pv 5) (pv 4) (aR _)) (iF (eR dX (pv 7) (pv 4) (aR _)) (kF (aZ GOw OOw r2 rfl (aA (aQ hu (pv 0) aP (fun _ _=>rfl)) (aA (aQ hu (pv 1) aP (fun _ _=>rfl)) (aA (pv 3) aE))))))))) aN)
   (aC (aM (i:=8) jO.nd rfl (Or.inl rfl) (bC fJ aI (aJ aO rfl B.len cG (aA (cZ (own:=["word"]) (fr:=[]) (frn:=[]) (bD (aH nQ) ["elder", "found", "deeds", "hands", "many", "last", "total", "more", "most"] rfl rfl (by decide +kernel)) rfl (iS (pv 2))
    (fun _ _ _ _=>(aT (i:=0) (show (["word"]:List Str).Nodup by decide +kernel) rfl (Or.inl rfl))) (fun _ _ _ _=>qV (aL (iN (K:=K) rfl) (pv 0) (eU (aA aP (aA aP aE))) (by with_unfolding_all rfl)))
    (fun _ _ _ _=>pv 0)) aE))))
   (aF (aK (iF (eR qP (pv 5) aI (aR _)) (iF (eR qP (pv 7) (pv 4) (aR _)) (iF (eR qP (pv 7) (pv 5) (aR _)) (kF (eR zQ (pv 7) (pv 8) (aR _))))))))))))),?_⟩
  obtain ⟨hn1,hn6,hw12,hws⟩:=aS hM.bk
  have n12:D.nums.length<=12:=by rw [<- hhl,(cE hM.dl).1]; exact hw12
  have ge:∀ {H1:Hp},aG H H1->gG H1 ep (kV (.inr "deal")) (some (.ref edp)):=fun s1=>.inl ⟨ke,.inr "deal",.inl (s1 _ _ LE.he),rfl,LE.vd.symm⟩
  have gf:∀ {H1:Hp},aG H H1->gG H1 fp (kV (.inr "deal")) (some (.ref fdp)):=fun s1=>.inl ⟨kf,.inr "deal",.inl (s1 _ _ LF.he),rfl,LF.vd.symm⟩
  have gem:∀ {H1:Hp},aG H H1->gG H1 ep (kV (.inr "moved")) (some (.ref emp)):=fun s1=>.inl ⟨ke,.inr "moved",.inl (s1 _ _ LE.he),rfl,LE.vm.symm⟩
  have gfm:∀ {H1:Hp},aG H H1->gG H1 fp (kV (.inr "moved")) (some (.ref fmp)):=fun s1=>.inl ⟨kf,.inr "moved",.inl (s1 _ _ LF.he),rfl,LF.vm.symm⟩
  refine ⟨_,rfl,ep,_,rfl,ge (aG.refl _),_,rfl,fp,_,rfl,gf (aG.refl _),edp,fdp,en,eh,D.nums,D.hs,rfl,LE.hd,LF.hd,ned,hhl,hM.nd,n12,fun gp H1 s1 ng eg=>?_⟩
  refine ⟨gp,_,rfl,.inl (SqL.of eg),?_⟩
  rw [Qd]
  dsimp only [aV]
  refine ⟨_,rfl,fp,_,rfl,gfm s1,fmp,_,rfl,s1.seqT LF.hm,rfl,_,_,rfl,_,_,rfl,rfl,?_⟩
  dsimp only [aV]
  refine ⟨_,rfl,_,rfl,ep,_,rfl,gem s1,emp,_,1,.int ea,rfl,rfl,s1.seqT LE.hm,rfl,D.ma,ea,rfl,rfl,?_⟩
  dsimp only [aV]
  have pos:0 < ds.length:=Wo.mpr hne
  obtain ⟨lw,hlw⟩:∃ lw,ds[ds.length - 1]?=some lw:=⟨_,Qc (by omega)⟩
  have hat:atI (ds.map V.str) (-1)=some (.str lw):=aCB (by rw [Qd,Qi,hlw]; rfl)
  have hgl:ds.getLast?=some lw:=by rw [List.getLast?_eq_getElem?]; exact hlw
  obtain ⟨ml0,mln,mlm⟩:=S.ml hne
  have hlp1:=s1 _ _ hlp
  refine gA false (nY (b:=false) (c:=false) (fun Q' q'=>?_) (fun _ H2 s2=>fun Q' q'=>?_)) (fun hb=>by cases hb) (fun _ H2 s2=>?_)
  ·refine ⟨_,rfl,1,rfl,lp,_,-1,.str lw,rfl,rfl,SqL.of hlp1,hat,szK 2 (by decide) |> Js,fun p hp=>?_⟩
   refine ⟨p,_,rfl,.inl (SqL.of aB),rfl,rfl,_,rfl,?_⟩
   cases c:zJ lw with
   | true =>
    refine dZ (show zJ lw=true from c) ?_
    exact ⟨_,rfl,rfl,false,by rw [S.cg lw hgl c]; simp,q' _ (aG.new hp)⟩
   | false=>exact bS (show zJ lw=false from c) (q' _ (aG.new hp))
  ·exact ⟨_,rfl,_,rfl,D.n,1,rfl,rfl,_,_,rfl,rfl,false,by show V.bl (decide (D.n - 1 < D.ml))=_; rw [decide_eq_false (by omega)],q' _ (aG.refl _)⟩
  dsimp only [cQ]
  have s02:=s1.trans s2
  have hlp2:=s02 _ _ hlp
  refine ⟨_,rfl,lp,_,rfl,.inl (SqL.of hlp2),rfl,_,rfl,?_⟩
  by_cases c1:ds.length=1
  ·refine dZ (decide_eq_true (by rw [Qd,c1]; rfl)) ?_
   obtain ⟨m,OM,m1,m2,m3⟩:=S.one c1
   have ml:=OM.len
   obtain ⟨q,ws,hs,h,x,pth,nd,perm,hq⟩:=OM
   refine ⟨_,rfl,_,rfl,rfl,_,rfl,dZ (decide_eq_true (by rw [m1,ml])) ?_⟩
   refine ⟨_,rfl,_,rfl,rfl,_,rfl,dZ (decide_eq_true (by rw [m2,ml]; congr 1; omega)) ?_⟩
   exact ⟨_,rfl,ep,_,rfl,ge s02,_,rfl,fp,_,rfl,gf s02,_,rfl,edp,fdp,en,eh,D.nums,D.hs,D.n,q,ws,hs,h,x,rfl,s02 _ _ LE.hd,s02 _ _ LF.hd,ned,hhl,hM.nd,n12,pth,nd,perm,by rw [hq]; exact m3,fun H3 s3=>k _ (s02.trans s3)⟩
  refine bS (decide_eq_false (by rw [Qd]; intro z; injection z with z; omega)) ?_
  dsimp only [cQ]
  refine ⟨_,rfl,lp,rfl,⟨_,SqL.of hlp2⟩,lE (K:=K) (a:=lp) (xs:=ds.map V.str) (fun σ=>∃ v,σ = [v]) (fun i ys H4=>aG H2 H4/\ys=((ds.take i).filter oC).map V.str) (fZ (by rw [Qd]; omega)) ⟨none,rfl⟩ ⟨aG.refl _,rfl⟩ (fun i ys H4 z=>by rw [z.2,Qd]; exact Ja (Xl _ _) (by rw [Jq]; omega)) (fun i ys H4 z=>SqL.of (z.1 _ _ hlp2)) ?_ ?_⟩
  ·rintro i ys σ xv H4 hx ⟨v,rfl⟩ ⟨s4,rfl⟩ hz
   rw [Qi] at hx
   obtain ⟨wd,hwd,rfl⟩:=Qv.mp hx
   have tk:ds.take (i+1)=ds.take i++[wd]:=by rw [Xd,hwd]; rfl
   dsimp only [aV]
   refine ⟨_,rfl,szK 2 (by decide) |> Js,fun p hp=>?_⟩
   refine ⟨p,_,rfl,.inl (SqL.of aB),rfl,rfl,_,rfl,?_⟩
   cases c:oC wd with
   | true =>
    refine dZ (show oC wd=true from c) ?_
    refine ⟨_,rfl,hz,⟨_,rfl⟩,s4.trans (aG.new hp),?_⟩
    rw [tk,Jx,Jv,if_pos c,Jd]; rfl
   | false =>
    refine bS (show oC wd=false from c) ?_
    refine ⟨⟨_,rfl⟩,s4.trans (aG.new hp),?_⟩
    rw [tk,Jx,Jv,if_neg (by rw [c]; simp),List.filter_nil,Yh]
  rintro ys H4 ⟨s4,rfl⟩ lq hlq
  rw [Qd,Ju]
  refine ⟨lq,_,rfl,.inl (SqL.of aB),5,_,rfl,rfl,.inl ⟨by decide,by decide⟩,?_⟩
  have s5:=s02.trans (s4.trans (aG.new (o:=.lst ((ds.filter oC).map V.str)) hlq))
  generalize upd H4 lq (.lst ((ds.filter oC).map V.str))=H5 at s5 ⊢
  dsimp only [aV]
  have go:=S.go
  have most:=S.most
  refine ⟨_,rfl,_,_,rfl,rfl,_,rfl,dZ (decide_eq_true ml0) ?_⟩
  refine ⟨_,rfl,_,rfl,_,_,rfl,rfl,_,rfl,dZ (decide_eq_true go) ?_⟩
  refine ⟨_,rfl,_,rfl,_,_,rfl,rfl,_,rfl,dZ (decide_eq_true mlm) ?_⟩
  refine ⟨_,rfl,_,rfl,_,_,rfl,rfl,?_⟩
  rw [Qd]
  show Q (.bl (decide (D.ma - ea<=5*((ds.filter oC).length:Int)))) H5
  rw [decide_eq_true most]
  exact k _ s5
end
structure Pair (K:PySem.W.Frag) (H:Hp) (C x sp:Addr) (D:DD) (S:SD):Prop where
 dh:DlH K H C x D
 dm:DlM D
 sh:StH K H sp S
 sm:StM S
 lk:Like D S
theorem Pair.but {K:PySem.W.Frag} {H H':Hp} {C x sp t:Addr} {D:DD} {S:SD} {xs:List V} (h:Pair K H C x sp D S) (e:H t=some (.lst xs)) (b:But t H H'):Pair K H' C x sp D S:=⟨h.dh.but e b,h.dm,h.sh.but e b,h.sm,h.lk⟩
theorem aD3 {L:List Addr} (nd:L.Nodup) {i j:Nat} {a b:Addr} (hi:L[i]?=some a) (hj:L[j]?=some b) (n:i≠j):a≠b:=fun z=>by
 obtain ⟨h1,e1⟩:=Qa.mp hi
 obtain ⟨h2,e2⟩:=Qa.mp hj
 exact n ((Yb nd).mp (e1.trans (z.trans e2.symm)))
theorem StH.keep {K:PySem.W.Frag} {H H':Hp} {sp a b c:Addr} {S:SD} (h:StH K H sp S) (e:bH a b c H H') (ha:NT H a) (hb:NT H b) (hc:NT H c) (n1:sp≠a/\sp≠b/\sp≠c) (n2:S.ap≠a/\S.ap≠b/\S.ap≠c):StH K H' sp S :=
 ⟨e _ _ n1.1 n1.2.1 n1.2.2 h.st,e _ _ n2.1 n2.2.1 n2.2.2 h.able,h.tl,h.wl,fun i t l q1 q2=>e.sqT ha hb hc (h.tup i t l q1 q2),h.ne⟩
section
variable {K:PySem.W.Frag} {H H1 H2:Hp}
theorem nC {a b c d:Addr} {fs:List (Str×V)} {k:List (Key×V)} (h1:H a=some (.ins c d fs)) (h2:H b=some (.dK k)):a≠b:=fun z=>by rw [z,h2] at h1; cases h1
theorem sH.keep {dp a b c:Addr} (e3:bH a b c H H1) (ha:NT H a) (hb:NT H b) (hc:NT H c):∀ {e:Deed},sH K H dp e->sH K H1 dp e
 | .come,h=>e3.sqT ha hb hc h
 | .go,h=>e3.sqT ha hb hc h
 | .take _,h=>e3.sqT ha hb hc h
 | .put _ _,h=>⟨e3.sqT ha hb hc h.1,e3.sqT ha hb hc h.2⟩
end
theorem aDJ (S:SD) (e:Deed):aEg (S.told e) (S.told e)=true:=by cases e <;> rfl
def Md (H:Hp) (c:Addr):Prop:=(∃ C dx fs,H c=some (.ins C dx fs))∨∃ k,H c=some (.dK k)
theorem bH.far {H H':Hp} {x a b c:Addr} {u:HO} (e:bH x a b H H') (hx:Md H x) (ha:Md H a) (hb:Md H b) (hc:H c=some u) (n1:∀ C dx fs,u≠.ins C dx fs) (n2:∀ k,u≠.dK k):H' c=some u:=by
 have f:∀ y,Md H y->c≠y:=fun y hy z=>by
  rcases hy with ⟨_,_,_,h⟩ | ⟨_,h⟩
  ·rw [z,h] at hc; exact n1 _ _ _ (Option.some.inj hc).symm
  ·rw [z,h] at hc; exact n2 _ (Option.some.inj hc).symm
 exact e c u (f x hx) (f a ha) (f b hb) hc
theorem bH.lst {H H':Hp} {x a b c:Addr} {xs:List V} (e:bH x a b H H') (hx:Md H x) (ha:Md H a) (hb:Md H b) (hc:H c=some (.lst xs)):H' c=some (.lst xs):=e.far hx ha hb hc (fun _ _ _ z=>by cases z) (fun _ z=>by cases z)
theorem bH.tab {H H':Hp} {x a b c:Addr} {q:Str} (e:bH x a b H H') (hx:Md H x) (ha:Md H a) (hb:Md H b) (hc:H c=some (.tab q)):H' c=some (.tab q):=e.far hx ha hb hc (fun _ _ _ z=>by cases z) (fun _ z=>by cases z)
theorem bH.jar {K:PySem.W.Frag} {H H':Hp} {x a b t sa:Addr} {ns:List Int} {N:Nat} (e:bH x a b H H') (hx:Md H x) (ha:Md H a) (hb:Md H b) (J:Jar K H t sa ns N):Jar K H' t sa ns N:=by
 obtain ⟨⟨p,q,h1,h2,h3⟩,h4⟩:=J
 refine ⟨⟨p,q,h1,h2,e.lst hx ha hb h3⟩,?_⟩
 rcases h4 with (h | ⟨o,h⟩) | h
 ·exact .inl (.inl (e.lst hx ha hb h))
 ·exact .inl (.inr ⟨o,e.far hx ha hb h (fun _ _ _ z=>by cases z) (fun _ z=>by cases z)⟩)
 ·exact .inr h
theorem Md.nt {H:Hp} {c:Addr} (h:Md H c):NT H c:=by
 rcases h with ⟨_,_,_,h⟩ | ⟨_,h⟩
 ·exact NT.ins h
 ·exact NT.dK h
theorem bI {H:Hp} {a b:Addr} {u:HO} (h1:H a=some u) (h2:H b=none):a≠b:=fun z=>by rw [z,h2] at h1; cases h1
structure Wl (K:PySem.W.Frag) (H:Hp) (C t a:Addr) (ns:List Int) (N:Nat) (Pt Pl x sp:Addr) (D:DD) (S:SD) (ep edp emp lp:Addr) (ke:List (Key×V)) (en eh:List Int) (e1 ea:Int) (ds:List Str):Prop where
 jar:Jar K H t a ns N
 pt:H Pt=some (.tab pT)
 pl:H Pl=some (.tab oZ)
 p:Pair K H C x sp D S
 nd : [D.da,D.dh,sp,S.ap,ep,edp].Nodup
 lk:Lk K H ep edp emp ke en eh e1 ea
 hl:H lp=some (.lst (ds.map V.str))
 nl:t≠lp
 na:∀ {H':Hp} {u:HO} {M:Nat},Jar K H' t a ns M->Jar K (upd H' lp u) t a ns M
section
variable {K:PySem.W.Frag} {H H1 H2:Hp} {C t a Pt Pl x sp ep edp emp lp:Addr} {ns:List Int} {N M:Nat} {D Dn:DD} {S:SD} {ke:List (Key×V)} {en eh:List Int} {e1 ea:Int} {ds:List Str} {e:Deed}
theorem Wl.more (h:Wl K H C t a ns N Pt Pl x sp D S ep edp emp lp ke en eh e1 ea ds) (le:N<=M):Wl K H C t a ns M Pt Pl x sp D S ep edp emp lp ke en eh e1 ea ds:=⟨h.jar.more le,h.pt,h.pl,h.p,h.nd,h.lk,h.hl,h.nl,h.na⟩
theorem Wl.same (h:Wl K H C t a ns N Pt Pl x sp D S ep edp emp lp ke en eh e1 ea ds) (q:aG H H1):Wl K H1 C t a ns N Pt Pl x sp D S ep edp emp lp ke en eh e1 ea ds :=
 ⟨h.jar.same q,q _ _ h.pt,q _ _ h.pl,⟨h.p.dh.same q,h.p.dm,h.p.sh.same q,h.p.sm,h.p.lk⟩,h.nd,h.lk.same q,q _ _ h.hl,h.nl,h.na⟩
theorem Wl.but (h:Wl K H C t a ns N Pt Pl x sp D S ep edp emp lp ke en eh e1 ea ds) (b:But t H H1) (J:Jar K H1 t a ns M):Wl K H1 C t a ns M Pt Pl x sp D S ep edp emp lp ke en eh e1 ea ds:=by
 obtain ⟨xs,et⟩:=h.jar.lst
 have n:∀ {c:Addr} {u:HO},H c=some u->(∀ xs,u≠.lst xs)->H1 c=some u:=fun hc hu=>b _ _ (fun z=>by rw [z,et] at hc; exact hu _ (Option.some.inj hc).symm) hc
 exact ⟨J,n h.pt (fun _ z=>by cases z),n h.pl (fun _ z=>by cases z),h.p.but et b,h.nd,⟨n h.lk.he (fun _ z=>by cases z),h.lk.vd,h.lk.vm,n h.lk.hd (fun _ z=>by cases z),b.seqT et h.lk.hm⟩,b _ _ h.nl.symm h.hl,h.nl,h.na⟩
theorem Wl.mid (h:Wl K H C t a ns N Pt Pl x sp D S ep edp emp lp ke en eh e1 ea ds) (b:bH x D.da D.dh H H1):StH K H1 sp S/\Md H x/\Md H D.da/\Md H D.dh:=by
 have n1:=NT.ins h.p.dh.ins
 have n2:=NT.dK h.p.dh.able
 have n3:=NT.dK h.p.dh.hand
 have N:∀ {i j:Nat} {a b:Addr},[D.da,D.dh,sp,S.ap,ep,edp][i]?=some a->[D.da,D.dh,sp,S.ap,ep,edp][j]?=some b->i≠j->a≠b:=fun a b c=>aD3 h.nd a b c
 exact ⟨h.p.sh.keep b n1 n2 n3 ⟨(nC h.p.dh.ins h.p.sh.st).symm,N (i:=2) (j:=0) rfl rfl (by decide),N (i:=2) (j:=1) rfl rfl (by decide)⟩ ⟨(nC h.p.dh.ins h.p.sh.able).symm,N (i:=3) (j:=0) rfl rfl (by decide),N (i:=3) (j:=1) rfl rfl (by decide)⟩,
  .inl ⟨_,_,_,h.p.dh.ins⟩,.inr ⟨_,h.p.dh.able⟩,.inr ⟨_,h.p.dh.hand⟩⟩
theorem Wl.done (h:Wl K H C t a ns N Pt Pl x sp D S ep edp emp lp ke en eh e1 ea ds) (b:bH x D.da D.dh H H1) (da:Dn.da=D.da) (dh:Dn.dh=D.dh) (hD:DlH K H1 C x Dn) (hM:DlM Dn) (lk:Like Dn (S.step e)) (b2:bH sp S.ap S.ap H1 H2) (hS:StH K H2 sp (S.step e)) (m:xT S e):Wl K H2 C t a ns N Pt Pl x sp Dn (S.step e) ep edp emp lp ke en eh e1 ea ds:=by
 obtain ⟨h1,mx,ma,mh⟩:=h.mid b
 have n1:=NT.dK h1.st
 have n2:=NT.dK h1.able
 have ms:Md H1 sp:=.inr ⟨_,h1.st⟩
 have mp:Md H1 S.ap:=.inr ⟨_,h1.able⟩
 have N:∀ {i j:Nat} {a b:Addr},[D.da,D.dh,sp,S.ap,ep,edp][i]?=some a->[D.da,D.dh,sp,S.ap,ep,edp][j]?=some b->i≠j->a≠b:=fun a b c=>aD3 h.nd a b c
 have ea:(S.step e).ap=S.ap:=by cases e <;> rfl
 have he1:=b _ _ (nC h.p.dh.ins h.lk.he).symm (N (i:=4) (j:=0) rfl rfl (by decide)) (N (i:=4) (j:=1) rfl rfl (by decide)) h.lk.he
 have hd1:=b _ _ (nC h.p.dh.ins h.lk.hd).symm (N (i:=5) (j:=0) rfl rfl (by decide)) (N (i:=5) (j:=1) rfl rfl (by decide)) h.lk.hd
 refine ⟨b2.jar ms mp mp (b.jar mx ma mh h.jar),b2.tab ms mp mp (b.tab mx ma mh h.pt),b2.tab ms mp mp (b.tab mx ma mh h.pl),⟨hD.keep b2 n1 n2 n2 fun q hq=>?_,hM,hS,aEL h.p.sm m,lk⟩,?_,
  ⟨b2 _ _ (N (i:=4) (j:=2) rfl rfl (by decide)) (N (i:=4) (j:=3) rfl rfl (by decide)) (N (i:=4) (j:=3) rfl rfl (by decide)) he1,h.lk.vd,h.lk.vm,b2 _ _ (N (i:=5) (j:=2) rfl rfl (by decide)) (N (i:=5) (j:=3) rfl rfl (by decide)) (N (i:=5) (j:=3) rfl rfl (by decide)) hd1,b2.sqT n1 n2 n2 (b.sqT mx.nt ma.nt mh.nt h.lk.hm)⟩,
  b2.lst ms mp mp (b.lst mx ma mh h.hl),h.nl,h.na⟩
 ·rcases hq with rfl | rfl | rfl
  ·exact ⟨nC hD.ins h1.st,nC hD.ins h1.able,nC hD.ins h1.able⟩
  ·rw [da]; exact ⟨N (i:=0) (j:=2) rfl rfl (by decide),N (i:=0) (j:=3) rfl rfl (by decide),N (i:=0) (j:=3) rfl rfl (by decide)⟩
  ·rw [dh]; exact ⟨N (i:=1) (j:=2) rfl rfl (by decide),N (i:=1) (j:=3) rfl rfl (by decide),N (i:=1) (j:=3) rfl rfl (by decide)⟩
 ·rw [da,dh,ea]; exact h.nd
theorem Wl.app (h:Wl K H C t a ns N Pt Pl x sp D S ep edp emp lp ke en eh e1 ea ds) (w:Str):Wl K (upd H lp (.lst ((ds.map V.str)++[.str w]))) C t a ns N Pt Pl x sp D S ep edp emp lp ke en eh e1 ea (ds++[w]):=by
 have b:But lp H (upd H lp (.lst ((ds.map V.str)++[.str w]))):=But.at
 have n:∀ {c:Addr} {u:HO},H c=some u->(∀ xs,u≠.lst xs)->upd H lp (.lst ((ds.map V.str)++[.str w])) c=some u:=fun hc hu=>b _ _ (fun z=>by rw [z,h.hl] at hc; exact hu _ (Option.some.inj hc).symm) hc
 exact ⟨h.na h.jar,n h.pt (fun _ z=>by cases z),n h.pl (fun _ z=>by cases z),h.p.but h.hl b,h.nd,⟨n h.lk.he (fun _ z=>by cases z),h.lk.vd,h.lk.vm,n h.lk.hd (fun _ z=>by cases z),b.seqT h.hl h.lk.hm⟩,by rw [Jd]; exact aB,h.nl,h.na⟩
end
theorem aAp:¬ (Sum.inr "deal" : Key)=.inr "moved" := by decide +kernel
def aD4 (K:PySem.W.Frag):TE:=tCB (fun xs H Q=>∃ (l:Addr) (zs:List V) (es:List (Key×V)),xs = [V.ref l]/\H l=some (HO.lst zs)/\es.length=zs.length/\(∀ (i:Nat) (e:Key×V),es[i]?=some e->∃ q,zs[i]?=some (V.ref q)/\H q=some (HO.tup [kV e.fst,e.snd]))/\∀ (p:Addr),H p=none->Q (V.ref p) (upd H p (HO.dK (iJ [] es)))) (bN (aBv ["word"].length [11] (aDN K (aCS (bN (tC (V.str "deal")) (bN (tC (V.str "moved")) eZ)))) (aV 0) wS (aCR (bN (cS 0) (bN (xB (cS 1) (cS 0)) eZ)))) eZ)
def aAq (K:PySem.W.Frag) (C Pl:Addr):TS:=jR (nD (iG (oA K C Pl) [] E0 (bN (cS 1) (bN (cS 4) eZ))) (aV 11)) (jR (uK (aBe (tB (iG (kX K) [] E0 (bN (cS 11) (bN (cS 3) eZ))))) (aBh (tC (V.bl false))) cQ) (jR (uK (aBe (tB (iG (oE K) [] E0 (bN (cS 5) (bN (cS 11) (bN (cS 6) (bN (xB (cS 3) (tC (V.str "hands"))) eZ))))))) (aBh (tC (V.bl false))) cQ) (jR (nD (aD4 K) (aV 5)) (jR (zL (aEo K "dict" (fun x vs H Q=>∃ a kvs,x=V.ref a/\vs = []/\H a=some (HO.dK kvs)/\Q V.non (upd H a (HO.dK []))) (zR C "works" (kT K C) [] E0 (cS 4) eZ))) (jR (zL (aEo K "dict" (fun x vs H Q=>∃ a kvs,x=V.ref a/\vs = []/\H a=some (HO.dK kvs)/\Q V.non (upd H a (HO.dK []))) (zR C "deal" (nW K C) [] E0 (cS 4) eZ))) (nD (aCS eZ) (aV 6)))))))
def aCC (K:PySem.W.Frag) (C Pt Pl:Addr):TS:=(jR (nD (iG (wA K) [] E0 (bN (cS 1) (bN (cS 3) eZ))) (aV 9)) (jR (nD (iG (aDE K C Pt) [] E0 (bN (cS 4) (bN (cS 9) eZ))) (aV 10)) (jR (uK (tOr (pH (tOp rNe (cS 10) (iG (vZ K) [] E0 (bN (cS 3) (bN (cS 9) eZ))))) (tB (tCB (fun xs H_1 Q=>∃ x k,xs = [x,V.ty "bool"]/\KdV K H_1 x k/\Q (V.bl (decide (k=Kd.bl))) H_1) (bN (cS 10) (bN (tC (V.ty "bool")) eZ))))) (aBh (tC (V.bl false))) cQ) (jR (zL (tBM K "list" zT (cS 6) (bN (tOp (aEm K) (cS 9) (tC (V.int 0))) eZ))) (uK (tOr (pH (tOp (rI0 fun i j=>V.bl (decide (j < i))) (iG (gO K) [] E0 (bN (cS 1) (bN (tC (V.int 4)) eZ))) (tC (V.int 0)))) (pH (tOp rEq (cS 8) (tOp (rI0 fun i j=>V.int (i - j)) (cS 7) (tC (V.int 1)))))) (aAq K C Pl) cQ)))))
section
variable {K:PySem.W.Frag} {H:Hp} {C t a Pt Pl x sp ep edp emp lp:Addr} {ns:List Int} {N:Nat} {D:DD} {S:SD} {ke:List (Key×V)} {en eh:List Int} {e1 ea:Int} {ds:List Str}
theorem aBa {dp:Addr}:∀ {e:Deed},sH K H dp e->∃ xs,SqT K H dp (.str e.word::xs)
 | .come,h=>⟨_,h⟩
 | .go,h=>⟨_,h⟩
 | .take _,h=>⟨_,h⟩
 | .put _ _,h=>⟨_,h.1⟩
theorem Wl.anew {H1:Hp} {np fdp fmp l9:Addr} {kn:List (Key×V)} {M:Nat} (W:Wl K H C t a ns N Pt Pl x sp D S ep edp emp lp ke en eh e1 ea ds) (q:aG H H1) (lk:Lk K H1 np fdp fmp kn D.nums D.hs D.ml D.ma) (hf:∀ c∈[D.da,D.dh,sp,S.ap],c≠np/\c≠fdp) (nf:np≠fdp) (h9:H1 l9=none) (le:N<=M):Wl K (upd H1 l9 (.lst [])) C t a ns M Pt Pl x sp D S np fdp fmp l9 kn D.nums D.hs D.ml D.ma []:=by
 have W2:=W.same (q.trans (aG.new (o:=.lst []) h9))
 have J1:=W.jar.same q
 obtain ⟨xs,et⟩:=J1.lst
 have nt:t≠l9:=bI et h9
 refine ⟨W2.jar.more le,W2.pt,W2.pl,W2.p,?_,lk.same (aG.new h9),aB,nt,fun J=>J1.fresh h9 J nt⟩
 have nd:=W.nd
 have e6 : [D.da,D.dh,sp,S.ap,ep,edp] = [D.da,D.dh,sp,S.ap]++[ep,edp]:=rfl
 rw [e6] at nd
 have:([D.da,D.dh,sp,S.ap]++[np,fdp]).Nodup:=Jr.mpr ⟨(Jr.mp nd).1,by simp [nf],fun c hc d hd=>by
  rcases Qm.mp hd with rfl | hd
  ·exact (hf c hc).1
  ·rw [Qs.mp hd]; exact (hf c hc).2⟩
 exact this
set_option maxHeartbeats 2000000 in
theorem aDK {E:Ends} {v2 v9 v10 v11:Option V} {turn many:Int} (W:Wl K H C t a ns N Pt Pl x sp D S ep edp emp lp ke en eh e1 ea ds) (Sn:Snc en eh ea ds D) (hne:ds≠[]) (hds:ds.length<=50) (hN:N<=600000)
  (nx:∀ H' np fdp fmp l9 kn v11,Wl K H' C t a ns (N+5) Pt Pl x sp D S np fdp fmp l9 kn D.nums D.hs D.ml D.ma []->E.nx [some (.ref a),some (.ref t),v2,some (.ref sp),some (.ref x),some (.ref np),some (.ref l9),some (.int many),some (.int turn),v9,v10,v11] H') :
  aAq K C Pl E [some (.ref a),some (.ref t),v2,some (.ref sp),some (.ref x),some (.ref ep),some (.ref lp),some (.int many),some (.int turn),v9,v10,v11] H:=by
 unfold aAq
 refine ⟨_,rfl,_,rfl,t,a,ns,N,x,D,rfl,W.jar,by omega,W.p.dh,W.p.dm,W.pl,fun fp kf H1 b1 J1 nf hf ans=>?_⟩
 dsimp only [aV]
 have W1:=W.but b1 J1
 refine gA false (kU (b:=true) fun Q' q=>⟨_,rfl,_,rfl,fp,sp,kf,H,S,D,rfl,hf,ans,W1.p.lk,W1.p.dm,W1.p.dh.hl,W1.p.sh,W1.p.sm,by rw [W.p.sh.able]; exact fun z=>(by cases z),fun H2 s2=>⟨true,rfl,q _ s2⟩⟩) (fun hb=>by cases hb) (fun _ H2 s2=>?_)
 dsimp only [cQ]
 obtain ⟨_,vd,fdp,rfl,hd0,hd1⟩:=ans .deal
 obtain ⟨_,vm,fmp,rfl,hm1⟩:=ans .moved
 have LF:Lk K H1 fp fdp fmp kf D.nums D.hs D.ml D.ma:=⟨hf,vd,vm,hd1,hm1⟩
 have W2:=W1.same s2
 refine gA false (kU (b:=true) fun Q' q=>⟨_,rfl,_,rfl,_,rfl,_,rfl,sp,_,rfl,W2.p.sh.dget (k:=.inr "hands") (eM S),ep,edp,emp,fp,fdp,fmp,lp,ke,kf,en,eh,e1,ea,D,ds,by rw [W.p.lk.n]; rfl,W2.lk,LF.same s2,bI W.lk.hd hd0,W2.hl,hne,hds,Sn,W.p.dm,W.p.dh.hl,fun H3 s3=>⟨true,rfl,q _ s3⟩⟩) (fun hb=>by cases hb) (fun _ H3 s3=>?_)
 dsimp only [cQ]
 have s13:=s2.trans s3
 have LF3:=LF.same s13
 unfold aD4
 refine ⟨szK 2 (by decide) |> Js,fun p hp=>?_⟩
 have s34:=aG.new (o:=.lst [.str "deal",.str "moved"]) hp
 have ep4:upd H3 p (.lst [.str "deal",.str "moved"]) p=some (.lst [.str "deal",.str "moved"]):=aB
 generalize upd H3 p (.lst [.str "deal",.str "moved"])=H4 at s34 ep4 ⊢
 have LF4:=LF3.same s34
 obtain ⟨es,hes⟩:∃ es:List (Key×V),es = [(.inr "deal",.ref fdp),(.inr "moved",.ref fmp)]:=⟨_,rfl⟩
 have ved:∀ (j:Nat) e,es[j]?=some e->([.str "deal",.str "moved"]:List V)[j]?=some (kV e.1)/\bJ kf e.1=some e.2:=fun j e he=>by
  rw [hes] at he
  match j with
  | 0=>cases (show (((.inr "deal" : Key),V.ref fdp)=e) by simpa using he); exact ⟨rfl,vd⟩
  | 1=>cases (show (((.inr "moved" : Key),V.ref fmp)=e) by simpa using he); exact ⟨rfl,vm⟩
  | (n+2)=>simp at he
 refine ⟨p,rfl,⟨_,SqL.of ep4⟩,lE (K:=K) (a:=p) (xs:=[.str "deal",.str "moved"]) (fun σ=>∃ v,σ = [v,some (.ref fp)]) (fun i ys H5=>aG H4 H5/\ys.length=i/\∀ (j:Nat) e,j < i->es[j]?=some e->∃ q,ys[j]?=some (.ref q)/\H5 q=some (.tup [kV e.1,e.2])) (szK 2 (by decide) |> Js) ⟨none,rfl⟩ ⟨aG.refl _,rfl,fun j e z=>absurd z (Yl _)⟩ (fun i ys H5 z=>Ym z.2.1) (fun i ys H5 z=>SqL.of (z.1 _ _ ep4)) ?_ ?_⟩
 ·rintro i ys σ xv H5 hx ⟨v,rfl⟩ ⟨s5,hyl,hys⟩ hz
  have i2:i < es.length:=by rw [hes]; exact (Qa.mp hx).1
  obtain ⟨e,he⟩:∃ e,es[i]?=some e:=⟨_,Qc i2⟩
  obtain ⟨w1,w2⟩:=ved i e he
  rw [hx] at w1
  cases w1
  refine cC ?_
  refine ⟨_,rfl,_,rfl,_,rfl,fp,_,rfl,.inl ⟨kf,e.1,.inl (s5 _ _ LF4.he),rfl,w2.symm⟩,sz2 _ _,fun tp htp=>?_⟩
  refine ⟨hz,⟨_,rfl⟩,s5.trans (aG.new htp),by rw [Qh,hyl]; rfl,fun j e' hj hje=>?_⟩
  by_cases c:j < i
  ·obtain ⟨q,q1,q2⟩:=hys j e' c hje
   exact ⟨q,by rw [Ql (by omega)]; exact q1,(aG.new htp) _ _ q2⟩
  ·have:j=i:=by omega
   subst this
   rw [he] at hje
   cases hje
   exact ⟨tp,by rw [Qt (by omega),hyl,Jz]; rfl,aB⟩
 rintro ys H5 ⟨s5,hyl,hys⟩ lq hlq
 refine ⟨lq,ys,es,rfl,aB,by rw [hyl,hes]; rfl,fun i e he=>?_,fun np hnp=>?_⟩
 ·obtain ⟨q,q1,q2⟩:=hys i e (by have:=(Qa.mp he).1; rw [hes] at this; exact this) he
  exact ⟨q,q1,(aG.new hlq) _ _ q2⟩
 rw [kZ (show (es.map (·.1)).Nodup by rw [hes]; exact Qx.mpr ⟨fun z=>aAp (Qs.mp z),Qx.mpr ⟨Qp,Zl⟩⟩)]
 have s16:=((s13.trans s34).trans s5).trans (aG.new (o:=.lst ys) hlq)
 generalize upd H5 lq (.lst ys)=H6 at s16 hnp ⊢
 have s17:=s16.trans (aG.new (o:=.dK es) hnp)
 have en7:upd H6 np (.dK es) np=some (.dK es):=aB
 have LN:Lk K (upd H6 np (.dK es)) np fdp fmp es D.nums D.hs D.ml D.ma:=⟨en7,by rw [hes]; exact bO rfl,by rw [hes,bL aAp]; exact bO rfl,s17 _ _ hd1,s17.seqT hm1⟩
 have nnf:np≠fdp:=fun z=>by rw [z,s16 _ _ hd1] at hnp; cases hnp
 have hfr:∀ c∈[D.da,D.dh,sp,S.ap],c≠np/\c≠fdp:=fun c hc=>by
  have:(∃ u,H c=some u)/\∃ u,H1 c=some u:=by
   simp only [Qm,Qp,or_false] at hc
   rcases hc with rfl | rfl | rfl | rfl
   ·exact ⟨⟨_,W.p.dh.able⟩,_,W1.p.dh.able⟩
   ·exact ⟨⟨_,W.p.dh.hand⟩,_,W1.p.dh.hand⟩
   ·exact ⟨⟨_,W.p.sh.st⟩,_,W1.p.sh.st⟩
   ·exact ⟨⟨_,W.p.sh.able⟩,_,W1.p.sh.able⟩
  obtain ⟨⟨u,hu⟩,u1,hu1⟩:=this
  exact ⟨bI (s16 _ _ hu1) hnp,bI hu hd0⟩
 generalize upd H6 np (.dK es)=H7 at s17 en7 LN ⊢
 dsimp only [aV]
 have W7:=W1.same s17
 refine ⟨_,rfl,x,D.dx,_,rfl,W7.p.dh.ins,rfl,x,D,rfl,W7.p.dh,W7.p.dm,fun p5 ts5 H8 s8 n5 e5 _ _=>?_⟩
 refine ⟨.inr (.inr (.inl ⟨rfl,.inl ⟨_,e5⟩⟩)),p5,_,rfl,rfl,e5,?_⟩
 have s79:aG H7 (upd H8 p5 (.dK [])):=fun c v hc=>by
  rw [aD (fun z=>by rw [z,n5] at hc; cases hc)]
  exact s8 _ _ hc
 generalize upd H8 p5 (.dK [])=H9 at s79 ⊢
 have W9:=W7.same s79
 refine ⟨_,rfl,x,D.dx,_,rfl,W9.p.dh.ins,rfl,x,D,rfl,W9.p.dh,fun p7 n7=>?_⟩
 refine ⟨.inr (.inr (.inl ⟨rfl,.inl ⟨_,aB⟩⟩)),p7,_,rfl,rfl,aB,?_⟩
 have s9a:aG H9 (upd (upd H9 p7 (.dK (kvH D.nums D.hs))) p7 (.dK [])):=fun c v hc=>by
  have n:c≠p7:=fun z=>by rw [z,n7] at hc; cases hc
  rw [aD n,aD n]; exact hc
 generalize upd (upd H9 p7 (.dK (kvH D.nums D.hs))) p7 (.dK [])=Ha at s9a ⊢
 refine ⟨Jk _,fun l9 h9=>?_⟩
 dsimp only [aV]
 have s1a:=(s17.trans s79).trans s9a
 exact nx _ np fdp fmp l9 es _ (W1.anew s1a (LN.same (s79.trans s9a)) hfr nnf h9 (Qg _))
set_option maxHeartbeats 2000000 in
theorem aDL {E:Ends} {v2 v9 v10 v11:Option V} {turn many:Int} (W:Wl K H C t a ns N Pt Pl x sp D S ep edp emp lp ke en eh e1 ea ds) (Sn:Snc en eh ea ds D) (hds:ds.length<=45) (hN:N<=500000)
  (nx:∀ H' D' S' ep' edp' emp' lp' ke' en' eh' e1' ea' ds' v9 v10 v11,Wl K H' C t a ns (N+40) Pt Pl x sp D' S' ep' edp' emp' lp' ke' en' eh' e1' ea' ds'->Snc en' eh' ea' ds' D'->ds'.length<=ds.length+1->E.nx [some (.ref a),some (.ref t),v2,some (.ref sp),some (.ref x),some (.ref ep'),some (.ref lp'),some (.int many),some (.int turn),v9,v10,v11] H') :
  aCC K C Pt Pl E [some (.ref a),some (.ref t),v2,some (.ref sp),some (.ref x),some (.ref ep),some (.ref lp),some (.int many),some (.int turn),v9,v10,v11] H:=by
 unfold aCC
 refine ⟨_,rfl,_,rfl,t,a,ns,N,sp,S,rfl,W.jar,by omega,W.p.sh,W.p.sm,fun dp e H1 b1 J1 hE hEM=>?_⟩
 dsimp only [aV]
 have W1:=W.but b1 J1
 refine ⟨_,rfl,_,rfl,x,dp,D,S,e,rfl,W1.p.dh,W1.p.dm,W1.p.lk,hE,hEM,W1.pt,fun Dn H2 b2 da dh hDn hMn lkn did=>?_⟩
 dsimp only [aV]
 obtain ⟨st2,mx,ma,mh⟩:=W1.mid b2
 have hE2:=hE.keep b2 mx.nt ma.nt mh.nt
 obtain ⟨kd,hkd,nkd⟩:∃ kd,(∀ H',KdV K H' (S.told e) kd)/\kd≠.bl:=by
  cases e with
  | come=>exact ⟨.int,fun _=>rfl,by decide⟩
  | put t l=>exact ⟨.int,fun _=>rfl,by decide⟩
  | go=>exact ⟨.non,fun _=>rfl,by decide⟩
  | take n=>exact ⟨.non,fun _=>rfl,by decide⟩
 refine ⟨_,rfl,_,rfl,_,rfl,sp,dp,S,e,rfl,st2,W1.p.sm,hE2,hEM,fun H3 b3 hS3=>⟨aDJ S e,_,rfl,bS (by simp) ?_⟩⟩
 have n1:=NT.dK st2.st
 have n2:=NT.dK st2.able
 obtain ⟨wx,hw3⟩:=aBa (hE2.keep b3 n1 n2 n2)
 refine ⟨_,rfl,_,kd,rfl,hkd _,_,rfl,bS (decide_eq_false nkd) ?_⟩
 have W3:=W1.done b2 da dh hDn hMn lkn b3 hS3 hEM
 dsimp only [cQ]
 refine ⟨_,rfl,.inl ⟨rfl,_,SqL.of W3.hl⟩,_,rfl,dp,_,0,.str e.word,rfl,rfl,hw3,eS (j:=0) rfl,lp,_,_,rfl,rfl,W3.hl,szK _ (by rw [Qd]; omega),?_⟩
 have W4:=W3.app e.word
 have Sn4:=Sn.step W1.p.dm hMn W1.p.dh.hl did
 generalize upd H3 lp (.lst (ds.map V.str++[.str e.word]))=H4 at W4 ⊢
 have l1:(ds++[e.word]).length=ds.length+1:=by rw [Qh]; rfl
 refine ⟨_,rfl,t,a,ns,N+20,4,rfl,W4.jar,by omega,by decide,by decide,fun r H5 r0 r1 b5 J5=>?_⟩
 have W5:=W4.but b5 J5
 have look:aAq K C Pl E [some (.ref a),some (.ref t),v2,some (.ref sp),some (.ref x),some (.ref ep),some (.ref lp),some (.int many),some (.int turn),some (.ref dp),some (S.told e),v11] H5:=aDK W5 Sn4 (by simp) (by omega) (by omega) fun H' np fdp fmp l9 kn v11 W'=>nx H' _ _ np fdp fmp l9 kn _ _ _ _ [] _ _ _ (W'.more (by omega)) (Snc.start W5.p.dm) (Jk _)
 have mJ:E.nx [some (.ref a),some (.ref t),v2,some (.ref sp),some (.ref x),some (.ref ep),some (.ref lp),some (.int many),some (.int turn),some (.ref dp),some (S.told e),v11] H5:=nx _ _ _ _ _ _ _ _ _ _ _ _ _ _ _ _ (W5.more (by omega)) Sn4 (Ym l1)
 refine ⟨_,_,rfl,rfl,_,rfl,?_⟩
 by_cases c:(0:Int) < r
 ·exact dZ (decide_eq_true c) (iQ look)
 ·refine bS (decide_eq_false c) ⟨_,rfl,_,rfl,_,_,rfl,rfl,rfl,_,rfl,?_⟩
  by_cases c2:V.int turn=V.int (many - 1)
  ·exact dZ (decide_eq_true c2) look
  ·exact bS (decide_eq_false c2) mJ
def aCD (K:PySem.W.Frag) (C Pl:Addr):TS:=(jR (nD (iG (oA K C Pl) [] E0 (bN (cS 1) (bN (cS 4) eZ))) (aV 5)) (uK (tOr (pH (tOp (fun x y H_1 Q=>∃ d e,Den K H_1 d x/\Den K H_1 e y/\cR d=true/\cR e=true/\SeqAt.shaped d=true/\SeqAt.shaped e=true/\Q (V.bl !d.eqv e) H_1) (xB (cS 5) (tC (V.str "moved"))) (aCR (bN (tC (V.int 0)) (bN (tC (V.int 0)) eZ))))) (aBe (tB (iG (kX K) [] E0 (bN (cS 5) (bN (cS 3) eZ)))))) (aBh (tC (V.bl false))) cQ))
def aCE (K:PySem.W.Frag) (C Pt Pl:Addr):TS:=aE2 (aDO (bN (cS 7) eZ)) (aV 8) (aCC K C Pt Pl)
def zK (K:PySem.W.Frag) (C Pt Pl:Addr):TS:=(jR (nD (iG qJ [] E0 (bN (tOp (rI0 fun i j=>V.int (i+j)) (tC (V.int 1)) (iG (gO K) [] E0 (bN (cS 1) (bN (tC (V.int 6)) eZ)))) eZ)) (aV 3)) (jR (nD (aDP C (vX K C) [] E0 (bN (xB (cS 3) (tC (V.str "hands"))) eZ)) (aV 4)) (jR (nD (aDU [(tC (V.str "deal"),aBO),(tC (V.str "moved"),aCR (bN (tC (V.int 0)) (bN (tC (V.int 0)) eZ)))]) (aV 5)) (jR (nD (aCS eZ) (aV 6)) (jR (nD (tOp (rI0 fun i j=>V.int (i+j)) (tC (V.int 10)) (iG (gO K) [] E0 (bN (cS 1) (bN (tC (V.int 31)) eZ)))) (aV 7)) (jR (uK (pH (tOp rEq (iG (gO K) [] E0 (bN (cS 1) (bN (tC (V.int 2)) eZ))) (tC (V.int 0)))) (aCD K C Pl) cQ) (aCE K C Pt Pl)))))))
theorem uI (s:Str):∀ (en eh:List Int),bJ (kvH en eh) (.inr s)=none
 | [],_=>rfl
 | _::_,[]=>rfl
 | n::en,g::eh=>by
  show bJ (((.inl n:Key),V.int g)::kvH en eh) (.inr s)=none
  rw [bL (fun z=>by cases z)]
  exact uI s en eh
theorem xY {E:Ends} {v2 v8 v9 v10 v11:Option V} {many:Int} (W:Wl K H C t a ns N Pt Pl x sp D S ep edp emp lp ke en eh e1 ea []) (Sn:Snc en eh ea [] D) (hm:0<=many) (h40:many<=41) (hN:N<=400000)
  (nx:∀ H' w5 w6 w8 w9 w10 w11,Jar K H' t a ns (N+2000)->H' Pt=some (.tab pT)->H' Pl=some (.tab oZ)->E.nx [some (.ref a),some (.ref t),v2,some (.ref sp),some (.ref x),w5,w6,some (.int many),w8,w9,w10,w11] H') :
  aCE K C Pt Pl E [some (.ref a),some (.ref t),v2,some (.ref sp),some (.ref x),some (.ref ep),some (.ref lp),some (.int many),v8,v9,v10,v11] H:=by
 refine ⟨_,rfl,many,rfl,by omega,by omega,lA (lo:=0) (n:=many.toNat) (fun i σ H'=>∃ D S ep edp emp lp ke en eh e1 ea ds v8 v9 v10 v11,σ = [some (.ref a),some (.ref t),v2,some (.ref sp),some (.ref x),some (.ref ep),some (.ref lp),some (.int many),v8,v9,v10,v11]/\Wl K H' C t a ns (N+40*i) Pt Pl x sp D S ep edp emp lp ke en eh e1 ea ds/\Snc en eh ea ds D/\ds.length<=i)
  ⟨D,S,ep,edp,emp,lp,ke,en,eh,e1,ea,[],v8,v9,v10,v11,rfl,W,Sn,Qg _⟩ ?_ ?_⟩
 ·rintro i σ H' hi ⟨D,S,ep,edp,emp,lp,ke,en,eh,e1,ea,ds,v8,v9,v10,v11,rfl,W,Sn,hds⟩
  dsimp only [aV]
  exact aDL W Sn (by omega) (by omega) fun H2 D' S' ep' edp' emp' lp' ke' en' eh' e1' ea' ds' w9 w10 w11 W' Sn' h'=>⟨D',S',ep',edp',emp',lp',ke',en',eh',e1',ea',ds',_,w9,w10,w11,rfl,W'.more (by omega),Sn',by omega⟩
 ·rintro σ H' ⟨D,S,ep,edp,emp,lp,ke,en,eh,e1,ea,ds,v8,v9,v10,v11,rfl,W,Sn,hds⟩
  exact nx _ _ _ _ _ _ _ (W.jar.more (by omega)) W.pt W.pl
set_option maxHeartbeats 2000000 in
theorem aCF {E:Ends} {v2 v3 v4 v5 v6 v7 v8 v9 v10 v11:Option V} (J:Jar K H t a ns N) (hT:H Pt=some (.tab pT)) (hTl:H Pl=some (.tab oZ)) (hN:N<=300000)
  (nx:∀ H' w3 w4 w5 w6 w7 w8 w9 w10 w11,Jar K H' t a ns (N+3000)->H' Pt=some (.tab pT)->H' Pl=some (.tab oZ)->E.nx [some (.ref a),some (.ref t),v2,w3,w4,w5,w6,w7,w8,w9,w10,w11] H') :
  zK K C Pt Pl E [some (.ref a),some (.ref t),v2,v3,v4,v5,v6,v7,v8,v9,v10,v11] H:=by
 unfold zK
 refine ⟨_,rfl,t,a,ns,N,6,rfl,J,by omega,by decide,by decide,fun r H1 r0 r1 b1 J1=>⟨1,r,rfl,rfl,1+r,rfl,fun sp ap H2 q2 ns0 na0 nsa es2 ea2=>?_⟩⟩
 dsimp only [aV]
 obtain ⟨n,hn⟩:∃ n,n=1+r:=⟨_,rfl⟩
 rw [<- hn] at es2
 have hn1:1<=n:=by omega
 have hn6:n<=6:=by omega
 obtain ⟨_,et0⟩:=J.lst
 have hT2:=q2 _ _ (b1 _ _ (fun z=>by rw [z,et0] at hT; cases hT) hT)
 have hTl2:=q2 _ _ (b1 _ _ (fun z=>by rw [z,et0] at hTl; cases hTl) hTl)
 have J2:=J1.same q2
 clear b1 J1 hT hTl et0 J
 -- the dealing made
 refine ⟨_,rfl,sp,_,rfl,.inl ⟨_,.inr "hands",.inl es2,rfl,(eM _).symm⟩,fun x dx hx hdx ndx=>?_⟩
 refine ⟨x,dx,n,rfl,aB,hn1,hn6,fun da dh H3 b3 hda hdh hD=>⟨rfl,?_⟩⟩
 dsimp only [aV]
 have q3:aG H2 H3:=fun c u hc=>by
  have c1:c≠x:=bI hc hx
  have c2:c≠dx:=bI hc hdx
  exact b3 _ _ c1 (by rw [aD c1,aD c2]; exact hc)
 have hda2:H2 da=none:=by
  have d1:da≠x:=fun z=>by rw [z,aB] at hda; cases hda
  have d2:da≠dx:=fun z=>by rw [z,aD ndx,aB] at hda; cases hda
  rw [aD d1,aD d2] at hda; exact hda
 have hdh2:H2 dh=none:=by
  have d1:dh≠x:=fun z=>by rw [z,aB] at hdh; cases hdh
  have d2:dh≠dx:=fun z=>by rw [z,aD ndx,aB] at hdh; cases hdh
  rw [aD d1,aD d2] at hdh; exact hdh
 -- the elder look
 refine fun ep hep dp hdp=>⟨sz2 _ _,fun mp hmp=>?_⟩
 have ndp:dp≠ep:=fun z=>by rw [z,aB] at hdp; cases hdp
 have hdp3:H3 dp=none:=by rw [aD ndp] at hdp; exact hdp
 have nmd:mp≠dp:=fun z=>by rw [z,aB] at hmp; cases hmp
 have nme:mp≠ep:=fun z=>by rw [z,aD ndp.symm,aB] at hmp; cases hmp
 have hmp3:H3 mp=none:=by rw [aD nmd,aD nme] at hmp; exact hmp
 refine ⟨by rw [aD nme.symm,aD ndp.symm,aB],[(.inr "deal",.ref dp),(.inr "moved",.ref mp)],rfl,(show (2:Nat)<=15 by decide),?_⟩
 obtain ⟨ke,hke⟩:∃ ke:List (Key×V),ke = [(.inr "deal",.ref dp),(.inr "moved",.ref mp)]:=⟨_,rfl⟩
 rw [<- hke,kZ (show (ke.map (·.1)).Nodup by rw [hke]; exact Qx.mpr ⟨fun z=>aAp (Qs.mp z),Qx.mpr ⟨Qp,Zl⟩⟩)]
 dsimp only [aV]
 have q4:aG H3 (upd (upd (upd (upd H3 ep (.dK [])) dp (.dK [])) mp (.tup [.int 0,.int 0])) ep (.dK ke)):=fun c u hc=>by
  have c1:=bI hc hep
  have c2:=bI hc hdp3
  have c3:=bI hc hmp3
  rw [aD c1,aD c3,aD c2,aD c1]; exact hc
 have ee4:upd (upd (upd (upd H3 ep (.dK [])) dp (.dK [])) mp (.tup [.int 0,.int 0])) ep (.dK ke) ep=some (.dK ke):=aB
 have ed4:upd (upd (upd (upd H3 ep (.dK [])) dp (.dK [])) mp (.tup [.int 0,.int 0])) ep (.dK ke) dp=some (.dK (kvH [] [])):=by rw [aD ndp,aD nmd.symm,aB]; rfl
 have em4:upd (upd (upd (upd H3 ep (.dK [])) dp (.dK [])) mp (.tup [.int 0,.int 0])) ep (.dK ke) mp=some (.tup [.int 0,.int 0]):=by rw [aD nme,aB]
 generalize upd (upd (upd (upd H3 ep (.dK [])) dp (.dK [])) mp (.tup [.int 0,.int 0])) ep (.dK ke)=H4 at q4 ee4 ed4 em4 ⊢
 refine ⟨Jk _,fun lp hlp=>?_⟩
 dsimp only [aV]
 have q45:=aG.new (o:=.lst []) hlp
 have q25:=(q3.trans q4).trans q45
 have J4:=J2.same (q3.trans q4)
 obtain ⟨_,et4⟩:=J4.lst
 have ntl:=bI et4 hlp
 have sst:StH K H2 sp ⟨n,0,[],[],ap,[]⟩:=⟨es2,ea2,rfl,rfl,fun i t l q=>by simp at q,nsa⟩
 have ssm:StM ⟨n,0,[],[],ap,[]⟩:=⟨gQ hn1 hn6 (Jk _) fun l hl=>(Qp hl).elim,List.Pairwise.nil,fun k hk=>(Qp hk).elim,Xs _,rfl⟩
 have W5:Wl K (upd H4 lp (.lst [])) C t a ns (N+1) Pt Pl x sp (DD.begun n dx da dh) ⟨n,0,[],[],ap,[]⟩ ep dp mp lp ke [] [] 0 0 []:=by
  refine ⟨J4.same q45,q25 _ _ hT2,q25 _ _ hTl2,⟨hD.same (q4.trans q45),aDy hn1 hn6,sst.same q25,ssm,⟨rfl,rfl,rfl,rfl⟩⟩,?_,⟨q45 _ _ ee4,by rw [hke]; exact bO rfl,by rw [hke,bL aAp]; exact bO rfl,q45 _ _ ed4,SqT.of (q45 _ _ em4)⟩,aB,ntl,fun J=>J4.fresh hlp J ntl⟩
  have w1:da≠dh:=hD.ne
  have w2:da≠sp:=(bI es2 hda2).symm
  have w3:da≠ap:=(bI ea2 hda2).symm
  have w4:dh≠sp:=(bI es2 hdh2).symm
  have w5:dh≠ap:=(bI ea2 hdh2).symm
  have a3:H3 da=some (.dK (kvA [] [])):=hD.able
  have h3:H3 dh=some (.dK (kvH [] [])):=hD.hand
  have x1:=bI a3 hep
  have x2:=bI h3 hep
  have x3:=bI (q3 _ _ es2) hep
  have x4:=bI (q3 _ _ ea2) hep
  have y1:=bI a3 hdp3
  have y2:=bI h3 hdp3
  have y3:=bI (q3 _ _ es2) hdp3
  have y4:=bI (q3 _ _ ea2) hdp3
  show [da,dh,sp,ap,ep,dp].Nodup
  simp only [Qx,Qm,Qp,or_false,not_or,Zl,and_true,not_false_eq_true]
  exact ⟨⟨w1,w2,w3,x1,y1⟩,⟨w4,w5,x2,y2⟩,⟨nsa,x3,y3⟩,⟨x4,y4⟩,ndp.symm⟩
 generalize upd H4 lp (.lst [])=H5 at W5 ⊢
 clear q25 q45 q4 ee4 ed4 em4 et4 J4 hT2 hTl2 J2 q3 hda2 hdh2 hda hdh b3 hD hep hdp hmp hlp hx hdx sst
 refine ⟨_,rfl,t,a,ns,N+1,31,rfl,W5.jar,by omega,by decide,by decide,fun r6 H6 r60 r61 b6 J6=>⟨10,r6,rfl,rfl,?_⟩⟩
 dsimp only [aV]
 have W6:=W5.but b6 J6
 refine ⟨_,rfl,t,a,ns,N+1+1,2,rfl,W6.jar,by omega,by decide,by decide,fun r7 H7 r70 r71 b7 J7=>⟨rfl,_,rfl,?_⟩⟩
 have W7:=W6.but b7 J7
 by_cases c:V.int r7=V.int 0
 ·refine dZ (decide_eq_true c) ?_
  unfold aCD
  refine ⟨_,rfl,_,rfl,t,a,ns,N+1+1+1,x,_,rfl,W7.jar,by omega,W7.p.dh,W7.p.dm,W7.pl,fun fp kf H8 b8 J8 nf hf ans=>?_⟩
  dsimp only [aV]
  have W8:=W7.but b8 J8
  obtain ⟨_,vd,fdp,rfl,hd0,hd1⟩:=ans .deal
  obtain ⟨_,vm,fmp,rfl,hm1⟩:=ans .moved
  have hm1':SqT K H8 fmp (([0,0]:List Int).map V.int):=hm1
  refine gA false (nY (b:=false) (c:=false) (fun Q' q=>?_) (fun _ H9 s9=>kU (b:=true) fun Q' q=>⟨_,rfl,_,rfl,fp,sp,kf,H7,_,_,rfl,s9 _ _ hf,fun wd=>let ⟨v,h1,h2⟩:=ans wd; ⟨v,h1,h2.same s9⟩,W8.p.lk,W8.p.dm,W8.p.dh.hl,W8.p.sh.same s9,W8.p.sm,by rw [W7.p.sh.able]; exact fun z=>(by cases z),fun H2 s2=>⟨true,rfl,q _ s2⟩⟩)) (fun hb=>by cases hb) (fun _ H9 s9=>?_)
  ·refine ⟨_,rfl,fp,_,rfl,.inl ⟨kf,.inr "moved",.inl hf,rfl,vm.symm⟩,sz2 _ _,fun p hp=>?_⟩
   refine ⟨.tuple (([0,0]:List Int).map .int),.tuple (([0,0]:List Int).map .int),bR.mpr ⟨fmp,rfl,(aG.new hp).seqT hm1'⟩,bR.mpr ⟨p,rfl,SqT.of aB⟩,fX _,fX _,eK _,eK _,false,?_,q _ (aG.new hp)⟩
   rw [PySem.SeqAt.eqv_refl _ (SeqAt.canLay_of_shaped (eK _))]; rfl
  dsimp only [cQ]
  have W9:=W8.same s9
  have nff:fp≠fdp:=fun z=>by
   rw [<- z,hf] at hd1
   have e:kf=kvH (DD.begun n dx da dh).nums (DD.begun n dx da dh).hs:=by injection hd1 with e; injection e
   rw [e,uI] at vd
   cases vd
  have some7:∀ q∈[da,dh,sp,ap],∃ u,H7 q=some u:=fun q hq=>by
   simp only [Qm,Qp,or_false] at hq
   rcases hq with rfl | rfl | rfl | rfl
   ·exact ⟨_,W7.p.dh.able⟩
   ·exact ⟨_,W7.p.dh.hand⟩
   ·exact ⟨_,W7.p.sh.st⟩
   ·exact ⟨_,W7.p.sh.able⟩
  have Wn:Wl K H9 C t a ns (N+8) Pt Pl x sp (DD.begun n dx da dh) ⟨n,0,[],[],ap,[]⟩ fp fdp fmp lp kf [] [] 0 0 []:=by
   refine ⟨W9.jar,W9.pt,W9.pl,W9.p,?_,⟨s9 _ _ hf,vd,vm,s9 _ _ hd1,s9.seqT hm1⟩,W9.hl,W9.nl,W9.na⟩
   have nd:=W7.nd
   have e6 : [(DD.begun n dx da dh).da,(DD.begun n dx da dh).dh,sp,ap,ep,dp] = [da,dh,sp,ap]++[ep,dp]:=rfl
   have nd':([da,dh,sp,ap]++[ep,dp]).Nodup:=nd
   have:([da,dh,sp,ap]++[fp,fdp]).Nodup:=Jr.mpr ⟨(Jr.mp nd').1,by simp [nff],fun c hc d hd=>by
    obtain ⟨u,hu⟩:=some7 c hc
    rcases Qm.mp hd with rfl | hd
    ·exact bI hu nf
    ·rw [Qs.mp hd]; exact bI hu hd0⟩
   exact this
  exact xY Wn (Snc.start W9.p.dm) (by omega) (by omega) (by omega) fun H' w5 w6 w8 w9 w10 w11 J' p' l'=>nx _ _ _ _ _ _ _ _ _ _ (J'.more (by omega)) p' l'
 ·refine bS (decide_eq_false c) ?_
  exact xY W7 (Snc.start W7.p.dm) (by omega) (by omega) (by omega) fun H' w5 w6 w8 w9 w10 w11 J' p' l'=>nx _ _ _ _ _ _ _ _ _ _ (J'.more (by omega)) p' l'
end
theorem aCG {tA tB:TT} {σ:St} {H:Hp} {Q:Bool->Hp->Prop} (hA:∀ R:Bool->Hp->Prop,(∀ b,R b H)->tA σ H R) (hB:∀ R:Bool->Hp->Prop,(∀ b,R b H)->tB σ H R) (h:∀ b,Q b H):aCL tA tB σ H Q:=by
 refine hA _ fun b=>?_
 cases b with
 | false=>exact mS (h false)
 | true=>exact iQ (hB _ h)
section
variable {P:Program} {w:World} {K:PySem.W.Frag} {mg:Str->Option Value} {base:Heap} {C:Addr}
def aAr (K:PySem.W.Frag) (Pt Pl:Addr):Sp:=fun vs H Q _=>∃ (a:Addr) (ns:List Int),vs = [.ref a]/\SqL K H a (ns.map V.int)/\H Pt=some (.tab pT)/\H Pl=some (.tab oZ)/\∀ H',H' Pt=some (.tab pT)->H' Pl=some (.tab oZ)->Q (.bl true) H'
theorem iP:FnScope ["script", "jar", "k", "state", "dealing", "elder", "deeds", "many", "turn", "deed", "told", "found"] ["script"] (aH aB5):=⟨rfl,rfl,rfl,by decide +kernel,rfl,by decide +kernel,by decide +kernel⟩
set_option maxHeartbeats 4000000 in
theorem aES {f fS fB fI fE fD fO fT fA fN fM fW Pt Pl:Addr} {fd dS dB dI dE dD dO dT dA dN dM dW:FuncData} (G:Fn K mg "law" aB5 ["script"] f fd) (T:Dc K C) (B:Bl mg) (MK:Mk K C fI) (hmC:mg "Dealing" = some (.ref C)) (GSc:Fn K mg "_law_e_scoop" mW ["jar", "many"] fS dS) (OSc:FnOk P w K mg base CX0 2 fS dS ["jar", "many"] (gO K)) (GBe:Fn K mg "_law_e_begun" vI ["hands"] fB dB) (OBe:FnOk P w K mg base CX0 1 fB dB ["hands"] qJ)
  (GIn:Mt K C "__init__" tV ["self", "hands"] fI dI) (OIn:FnOk P w K mg base CX0 3 fI dI ["self", "hands"] (vX K C)) (GWo:Mt K C "works" jX ["self"] fW dW) (OWo:FnOk P w K mg base CX0 1 fW dW ["self"] (kT K C)) (GDe:Mt K C "deal" rQ ["self"] fE dE) (ODe:FnOk P w K mg base CX0 1 fE dE ["self"] (nW K C))
  (GDd:Fn K mg "_law_e_deed" xI ["jar", "state"] fD dD) (ODd:FnOk P w K mg base CX0 4 fD dD ["jar", "state"] (wA K)) (GDo:Fn K mg "_law_e_do" sDo ["dealing", "deed"] fO dO) (ODo:FnOk P w K mg base CX0 4 fO dO ["dealing", "deed"] (aDE K C Pt)) (GSt:Fn K mg "_law_e_step" vH ["state", "deed"] fT dT) (OSt:FnOk P w K mg base CX0 1 fT dT ["state", "deed"] (vZ K))
  (GAs:Fn K mg "_law_e_asked" vJ ["jar", "dealing"] fA dA) (OAs:FnOk P w K mg base CX0 11 fA dA ["jar", "dealing"] (oA K C Pl)) (GSd:Fn K mg "_law_e_stands" lK ["found", "state"] fN dN) (OSd:FnOk P w K mg base CX0 3 fN dN ["found", "state"] (kX K)) (GMr:Fn K mg "_law_e_moved_right" nQ ["elder", "found", "deeds", "hands"] fM dM) (OMr:FnOk P w K mg base CX0 3 fM dM ["elder", "found", "deeds", "hands"] (oE K)):FnOk P w K mg base CX0 12 f fd ["script"] (aAr K Pt Pl):=by
 refine G.fn.ok iP (fun vs H Q E h=>?_) (fun cdv A outer s H vs Q E hr h=>?_)
 ·obtain ⟨a,ns,rfl,_⟩:=h
  rfl
 ·obtain ⟨a,ns,rfl,ha,hT,hTl,k⟩:=h
  have hu:=eC hr
  have r11:Room 11 _:=hr
  have r4:Room 4 _:=hr.mono (by decide)
  have r3:Room 3 _:=hr.mono (by decide)
  have r2:Room 2 _:=hr.mono (by decide)
  have r1:Room 1 _:=hr.mono (by decide)
  have hu3:(A.deeper (PyProof.Rows.envOfC "law" (aH aB5) s.heap.objs.size f cdv)).units+3 < cLine:=by have:=r1.un; omega
  refine ⟨_,aC (aM (i:=1) iP.nd rfl (Or.inl rfl) (eU (aA (pv 0) (aA aI (aA aI aE)))))
   (aC (gD PassesOwn.never rfl (eW rfl B.range (aA aI aE)) (aT (i:=2) iP.nd rfl (Or.inl rfl)) (tb:=jR (uK (aCL (pH (tOp (rI0 fun i j=>V.bl (decide (j < i))) (cS 2) (tC (V.int 0)))) (pH (tOp (rI0 fun i j=>V.bl (decide (j<=i))) (tOp (aEl K) (cS 1) (tC (V.int 1))) (tCB (fun xs H_1 Q=>∃ p ys,xs = [V.ref p]/\(SqL K H_1 p ys∨SqT K H_1 p ys)/\Q (V.int ys.length) H_1) (bN (cS 0) eZ))))) aBf cQ) (zK K C Pt Pl)) ?body)
   (aF (aK cO))),?_⟩
  case body =>
   refine aC (bA (PW.pt (kE (aL lY (pv 2) aI (aR _)) (jQ (aL qP (bE bX (pv 1) aI (fun _ _=>rfl)) (aJ aO rfl B.len cG (aA (pv 0) aE)) (aR _))))) (aF aBg) aN)
    ?rnd
   refine aC (aM (i:=3) iP.nd rfl (Or.inl rfl) (aZ GBe OBe r1 rfl (aA (bC cY aI (aZ GSc OSc r2 rfl (aA (pv 1) (aA aI aE)))) aE)))
    (aC (aM (i:=4) iP.nd rfl (Or.inl rfl) (aCU MK OIn r4 rfl hmC GIn.bd .nil dP (aA (aQ hu (pv 3) aP (fun _ _=>rfl)) aE)))
    (aC (aM (i:=5) iP.nd rfl (Or.inl rfl) (aAa (kN aP jD (kN aP (eN (aA aI (aA aI aE))) zZ)) rfl rfl (by simp) (by decide)))
    (aC (aM (i:=6) iP.nd rfl (Or.inl rfl) (eU aE))
    (aC (aM (i:=7) iP.nd rfl (Or.inl rfl) (bC cY aI (aZ GSc OSc r2 rfl (aA (pv 1) (aA aI aE)))))
    (aC (bA (aL dX (aZ GSc OSc r2 rfl (aA (pv 1) (aA aI aE))) aI (aR _))
     (aC (aM (i:=5) iP.nd rfl (Or.inl rfl) (aZ GAs OAs r11 rfl (aA (pv 1) (aA (pv 4) aE))))
     (aF (bA (PW.pt (dF (aL (uS hr.u64) (aQ hu (pv 5) aP (fun _ _=>rfl)) (eN (aA aI (aA aI aE))) (aR _)) (cW (bY (bP (aZ GSd OSd r3 rfl (aA (pv 5) (aA (pv 3) aE)))))))) (aF (aK cO)) aN))) aN)
    (aF (gD PassesOwn.never rfl (eW rfl B.range (aA (pv 7) aE)) (aT (i:=8) iP.nd rfl (Or.inl rfl)) ?turn)))))))
   refine aC (aM (i:=9) iP.nd rfl (Or.inl rfl) (aZ GDd ODd r4 rfl (aA (pv 1) (aA (pv 3) aE))))
     (aC (aM (i:=10) iP.nd rfl (Or.inl rfl) (aZ GDo ODo r4 rfl (aA (pv 4) (aA (pv 9) aE))))
     (aC (bA (PW.pt (dF (aL kA (pv 10) (aZ GSt OSt r1 rfl (aA (pv 3) (aA (pv 9) aE))) (aR _)) (cW (bP (aJ iX rfl B.isinstance gU (aA (pv 10) (aA (cP (v:=.ty "bool") rfl B.bool vE rfl) aE))))))) (aF (aK cO)) aN)
     (aC (cX (pL PySem.F.plainAttrs_list PySem.F.slot_list_append PySem.F.type_list_append lD (pv 6) (aA (bE bU (pv 9) aI (fun _ _=>rfl)) aE)))
     (aF (bA (PW.pt (dF (aL lY (aZ GSc OSc r2 rfl (aA (pv 1) (aA aI aE))) aI (aR _)) (cW (aL dX (pv 8) (bC gE (pv 7) aI) (aR _)))))
      ?look aN)))))
   exact aC (aM (i:=11) iP.nd rfl (Or.inr rfl) (aZ GAs OAs r11 rfl (aA (pv 1) (aA (pv 4) aE))))
      (aC (bA (bY (bP (aZ GSd OSd r3 rfl (aA (pv 11) (aA (pv 3) aE))))) (aF (aK cO)) aN)
      (aC (bA (bY (bP (aZ GMr OMr r3 rfl (aA (pv 5) (aA (pv 11) (aA (pv 6) (aA (aQ hu (pv 3) aP (fun _ _=>rfl)) aE))))))) (aF (aK cO)) aN)
      (aC (aM (i:=5) iP.nd rfl (Or.inl rfl) (bV (jE (K:=K) rfl rfl hu3) rfl B.dict sE (aA (cZ (own:=["word"]) (fr:=[11]) (frn:=["found"]) (bD (aH aB5) ["script", "jar", "k", "state", "dealing", "elder", "deeds", "many", "turn", "deed", "told", "found"] rfl rfl (by decide +kernel)) rfl (iS (eU (aA aP (aA aP aE))))
       (fun _ _ _ _=>(aT (i:=0) (show (["word", "found"]:List Str).Nodup by decide +kernel) rfl (Or.inl rfl))) (fun _ _ _ _=>dQ)
       (fun _ _ _ _=>eN (aA (pv 0) (aA (aQ hu (pv 1) (pv 0) (fun _ _=>rfl)) aE)))) aE)))
      (aC (cX (oK PySem.F.plainAttrs_dict PySem.F.slot_dict_clear PySem.F.type_dict_clear tT (bZ (pv 4) T.cl GWo.me OWo r1 GWo.bd .nil dP)))
      (aC (cX (oK PySem.F.plainAttrs_dict PySem.F.slot_dict_clear PySem.F.type_dict_clear tT (bZ (pv 4) T.cl GDe.me ODe r1 GDe.bd .nil dP)))
      (aF (aM (i:=6) iP.nd rfl (Or.inl rfl) (eU aE))))))))
  refine ⟨_,rfl,szK 3 (by decide) |> Js,fun t ht=>?_⟩
  dsimp only [aV]
  have q1:=aG.new (o:=.lst [.ref a,.int 0,.int 0]) ht
  have J1:Jar K (upd H t (.lst [.ref a,.int 0,.int 0])) t a ns 0:=⟨⟨0,0,Xs _,Xs _,aB⟩,q1.seqL ha⟩
  generalize upd H t (.lst [.ref a,.int 0,.int 0])=H1 at q1 J1 ⊢
  refine ⟨_,rfl,by decide,by decide,lA (lo:=0) (n:=2) (fun i σ H2=>(∃ v2 v3 v4 v5 v6 v7 v8 v9 v10 v11,σ = [some (.ref a),some (.ref t),v2,v3,v4,v5,v6,v7,v8,v9,v10,v11])/\Jar K H2 t a ns (3000*i)/\H2 Pt=some (.tab pT)/\H2 Pl=some (.tab oZ)) ⟨⟨none,none,none,none,none,none,none,none,none,none,rfl⟩,J1,q1 _ _ hT,q1 _ _ hTl⟩ ?_ ?_⟩
  ·rintro i σ H2 hi ⟨⟨v2,v3,v4,v5,v6,v7,v8,v9,v10,v11,rfl⟩,J2,p2,l2⟩
   dsimp only [aV]
   obtain ⟨⟨pp2,q2,hp2,hN2,ht2⟩,hns2⟩:=id J2
   refine aCG (fun R hR=>⟨_,rfl,_,_,rfl,rfl,_,rfl,hR _⟩) (fun R hR=>⟨_,rfl,t,_,1,.int pp2,rfl,rfl,SqL.of ht2,rfl,_,rfl,a,_,rfl,.inl hns2,_,_,rfl,rfl,_,rfl,hR _⟩) (fun b=>?_)
   refine fF (fun _=>?_) (fun _=>?_)
   ·exact k _ p2 l2
   exact aCF J2 p2 l2 (by omega) fun H' w3 w4 w5 w6 w7 w8 w9 w10 w11 J' p' l'=>⟨⟨_,_,_,_,_,_,_,_,_,_,rfl⟩,J'.more (by omega),p',l'⟩
  ·rintro σ H2 ⟨_,J2,p2,l2⟩
   exact k _ p2 l2
end
end Ab
namespace Ab
open PySem L2 PyProof.Rows
theorem cM {K:PySem.W.Frag} {h:Heap} {mg:Str->Option Value} (X:K.In h) (G:h.Ns mainGlobals mg) {x:Str} {st:Stmt} {ps:List Str} {f:Addr} {oc:Value} {od an:Option Addr} {osl:Array (Option Value)} {kV doc pm cdv ct:Value}
  (hb:∀ (kV doc pm:Value) (an:Option Addr) (cdv ct:Value) (us:List Value),us.length=ps.length->bindArgs (PySem.W.fnOf x x (gL st) (eT st) (aH st) .none kV doc pm an cdv ct) ⟨us,[]⟩=pure (ps.zip us))
  (a:PySem.W.nsIn K mainGlobals x=some (some (.ref f))) (l:K.lookup f=some ⟨oc,od,.func (PySem.W.fnOf x x (gL st) (eT st) (aH st) .none kV doc pm an cdv ct),osl⟩) (c:PySem.W.codeIn K cdv x=true) (k:PySem.W.keepIn K (.ref f)=true) :
  ∃ f fd,Fn K mg x st ps f fd:=by
 have F:=yK (st:=st) l c k
 exact ⟨f,_,F,PySem.W.mg_of X G a,k,F.binds hb⟩
theorem aCH {K:PySem.W.Frag} {h:Heap} {mg:Str->Option Value} (X:K.In h) (G:h.Ns mainGlobals mg) {x:Str} {st:Stmt} {ps:List Str} {f:Addr} {oc:Value} {od an:Option Addr} {osl:Array (Option Value)} {kV doc pm cdv ct:Value}
  (hb:∀ (kV doc pm:Value) (an:Option Addr) (cdv ct:Value) (us:List Value),us.length=ps.length->bindArgs (PySem.W.fnOf x x (gL st) (eT st) (aH st) .none kV doc pm an cdv ct) ⟨us,[]⟩=pure (ps.zip us))
  (a:PySem.W.nsIn K mainGlobals x=some (some (.ref f))) (l:K.lookup f=some ⟨oc,od,.func (PySem.W.fnOf x x (gL st) (eT st) (aH st) .none kV doc pm an cdv ct),osl⟩) (c:PySem.W.codeIn K cdv x=true) (k:PySem.W.keepIn K (.ref f)=true) :
  ∃ f fd,Fn K mg x st ps f fd/\fd.code=cdv:=by
 have F:=yK (st:=st) l c k
 exact ⟨f,_,⟨F,PySem.W.mg_of X G a,k,F.binds hb⟩,rfl⟩
theorem aFm {K:PySem.W.Frag} {h:Heap} {mg:Str->Option Value} (X:K.In h) (G:h.Ns mainGlobals mg) {t6 t12:Tok}
  (z0:PySem.W.nsIn K mainGlobals "isinstance" = some none)
  (z1:PySem.W.nsIn K mainGlobals "int" = some none)
  (z2:PySem.W.nsIn K mainGlobals "bool" = some none)
  (z3:PySem.W.nsIn K mainGlobals "tuple" = some none)
  (z4:PySem.W.nsIn K mainGlobals "list" = some none)
  (z5:PySem.W.nsIn K mainGlobals "len" = some none)
  (z6:PySem.W.nsIn K mainGlobals "all" = some none)
  (z7:PySem.W.nsIn K mainGlobals "zip" = some none)
  (z8:PySem.W.nsIn K mainGlobals "range" = some none)
  (z9:PySem.W.nsIn K mainGlobals "sorted" = some none)
  (z10:PySem.W.nsIn K mainGlobals "set" = some none)
  (z11:PySem.W.nsIn K mainGlobals "sum" = some none)
  (z12:PySem.W.nsIn K mainGlobals "repr" = some none)
  (z13:PySem.W.nsIn K mainGlobals "enumerate" = some none)
  (z14:PySem.W.nsIn K mainGlobals "min" = some none)
  (z15:PySem.W.nsIn K mainGlobals "any" = some none)
  (z16:PySem.W.nsIn K mainGlobals "dict" = some none)
  (zA:PySem.W.nsIn K mainGlobals "MOST_HANDS" = some (some (.int 6 t6))) (zB:PySem.W.nsIn K mainGlobals "MOST_WORKS" = some (some (.int 12 t12))):Bl mg :=
 ⟨PySem.W.mg_none_of X G z0,PySem.W.mg_none_of X G z1,PySem.W.mg_none_of X G z2,PySem.W.mg_none_of X G z3,PySem.W.mg_none_of X G z4,PySem.W.mg_none_of X G z5,PySem.W.mg_none_of X G z6,PySem.W.mg_none_of X G z7,PySem.W.mg_none_of X G z8,PySem.W.mg_none_of X G z9,PySem.W.mg_none_of X G z10,PySem.W.mg_none_of X G z11,PySem.W.mg_none_of X G z12,PySem.W.mg_none_of X G z13,PySem.W.mg_none_of X G z14,PySem.W.mg_none_of X G z15,PySem.W.mg_none_of X G z16,⟨_,PySem.W.mg_of X G zA⟩,⟨_,PySem.W.mg_of X G zB⟩⟩
theorem jP {K:PySem.W.Frag} {C:Addr} {x:Str} {st:Stmt} {ps:List Str} {f:Addr} {oc:Value} {od an:Option Addr} {osl:Array (Option Value)} {kV doc pm cdv ct:Value}
  (hb:∀ (kV doc pm:Value) (an:Option Addr) (cdv ct:Value) (us:List Value),us.length=ps.length->bindArgs (PySem.W.fnOf x (("Dealing." : Str)++x) (gL st) (eT st) (aH st) .none kV doc pm an cdv ct) ⟨us,[]⟩=pure (ps.zip us))
  (a:PySem.W.findIn K (.ref C) x=some (some (.ref f))) (i:PySem.W.isFn K (.ref f)=true) (l:K.lookup f=some ⟨oc,od,.func (PySem.W.fnOf x (("Dealing." : Str)++x) (gL st) (eT st) (aH st) .none kV doc pm an cdv ct),osl⟩) (c:PySem.W.codeIn K cdv (("Dealing." : Str)++x)=true) (k:PySem.W.keepIn K (.ref f)=true) :
  ∃ f fd,Mt K C x st ps f fd:=by
 have F:=yK (st:=st) l c k
 exact ⟨f,_,F,⟨a,i,k⟩,F.binds hb⟩
theorem aFn {K:PySem.W.Frag} {h:Heap} {mg:Str->Option Value} (X:K.In h) (G:h.Ns mainGlobals mg) {C f0:Addr} (cg:PySem.W.nsIn K mainGlobals "Dealing" = some (some (.ref C))) (pg:PySem.W.plainGet K C Str.empty=true) (hd:PySem.W.hasDictIn K C=true) (po:PySem.W.plainOver K C=true) (sa:PySem.W.findIn K (.ref C) "__setattr__" = some (some (.builtin "object.__setattr__")))
  (n1:PySem.W.findIn K (.ref C) "many_hands" = some none) (n2:PySem.W.findIn K (.ref C) "able_of" = some none) (n3:PySem.W.findIn K (.ref C) "hand_of" = some none) (n4:PySem.W.findIn K (.ref C) "next_number" = some none) (n5:PySem.W.findIn K (.ref C) "moved_last" = some none) (n6:PySem.W.findIn K (.ref C) "moved_in_all" = some none)
  (m1:PySem.W.makesIn K C=true) (m2:PySem.W.findIn K (.ref C) "__init__" = some (some (.ref f0))) (m3:PySem.W.isFn K (.ref f0)=true) (m4:PySem.W.keepIn K (.ref C)=true)
  (hIn:∃ f fd,Mt K C "__init__" tV ["self", "hands"] f fd) (hBn:∃ f fd,Mt K C "book_now" pN ["self"] f fd) (hDn:∃ f fd,Mt K C "deal_now" jV ["self"] f fd) (hCm:∃ f fd,Mt K C "count_moved" jW ["self", "many"] f fd) (hPu:∃ f fd,Mt K C "put" aAV ["self", "able"] f fd) (hTa:∃ f fd,Mt K C "take" tW ["self", "number"] f fd) (hCo:∃ f fd,Mt K C "come" tX ["self"] f fd) (hGo:∃ f fd,Mt K C "go" mGo ["self"] f fd) (hWo:∃ f fd,Mt K C "works" jX ["self"] f fd) (hDe:∃ f fd,Mt K C "deal" rQ ["self"] f fd) (hLo:∃ f fd,Mt K C "loads" mV ["self"] f fd) (hLe:∃ f fd,Mt K C "levels" lI ["self"] f fd) (hMo:∃ f fd,Mt K C "moved" oS ["self"] f fd) :
  ∃ Cc,Dc K Cc/\mg "Dealing" = some (.ref Cc)/\(∃ f fd,Mk K Cc f/\Mt K Cc "__init__" tV ["self", "hands"] f fd)/\(∃ f fd,Mt K Cc "book_now" pN ["self"] f fd)/\(∃ f fd,Mt K Cc "deal_now" jV ["self"] f fd)/\(∃ f fd,Mt K Cc "count_moved" jW ["self", "many"] f fd)/\(∃ f fd,Mt K Cc "put" aAV ["self", "able"] f fd)/\(∃ f fd,Mt K Cc "take" tW ["self", "number"] f fd)/\(∃ f fd,Mt K Cc "come" tX ["self"] f fd)/\(∃ f fd,Mt K Cc "go" mGo ["self"] f fd)/\(∃ f fd,Mt K Cc "works" jX ["self"] f fd)/\(∃ f fd,Mt K Cc "deal" rQ ["self"] f fd)/\(∃ f fd,Mt K Cc "loads" mV ["self"] f fd)/\(∃ f fd,Mt K Cc "levels" lI ["self"] f fd)/\(∃ f fd,Mt K Cc "moved" oS ["self"] f fd):=by
 obtain ⟨f,fd,M⟩:=hIn
 have e:f=f0:=by
  have:=M.me.at_.symm.trans m2
  injection this with this
  injection this with this
  injection this
 subst e
 exact ⟨C,⟨⟨pg,hd,po,sa⟩,n1,n2,n3,n4,n5,n6⟩,PySem.W.mg_of X G cg,⟨f,fd,⟨m1,m2,m3,m4⟩,M⟩,hBn,hDn,hCm,hPu,hTa,hCo,hGo,hWo,hDe,hLo,hLe,hMo⟩
theorem aDM {l:PySem.W.OpenLaw} {w:World} {K:PySem.W.Frag} {mg:Str->Option Value} {fa c Pt c2 Pt2:Addr} (hfa:mg "law" = some (.ref fa)) (B:Bl mg)
  (hCl:∃ Cc,Dc K Cc/\mg "Dealing" = some (.ref Cc)/\(∃ f fd,Mk K Cc f/\Mt K Cc "__init__" tV ["self", "hands"] f fd)/\(∃ f fd,Mt K Cc "book_now" pN ["self"] f fd)/\(∃ f fd,Mt K Cc "deal_now" jV ["self"] f fd)/\(∃ f fd,Mt K Cc "count_moved" jW ["self", "many"] f fd)/\(∃ f fd,Mt K Cc "put" aAV ["self", "able"] f fd)/\(∃ f fd,Mt K Cc "take" tW ["self", "number"] f fd)/\(∃ f fd,Mt K Cc "come" tX ["self"] f fd)/\(∃ f fd,Mt K Cc "go" mGo ["self"] f fd)/\(∃ f fd,Mt K Cc "works" jX ["self"] f fd)/\(∃ f fd,Mt K Cc "deal" rQ ["self"] f fd)/\(∃ f fd,Mt K Cc "loads" mV ["self"] f fd)/\(∃ f fd,Mt K Cc "levels" lI ["self"] f fd)/\(∃ f fd,Mt K Cc "moved" oS ["self"] f fd))
  (hST:∃ f fd,Fn K mg "steps_to_least" jG ["book", "deal", "able", "measures"] f fd/\fd.code=.ref c) (hZ:∀ base:Heap,base.BuiltinsAt mg Pt->Lm K mg base c Pt)
  (hLO:∃ f fd,Fn K mg "levels_or_way" aDd ["book", "deal"] f fd/\fd.code=.ref c2) (hZ2:∀ base:Heap,base.BuiltinsAt mg Pt2->Lm K mg base c2 Pt2)
  (hW:∃ f fd,Fn K mg "is_whole" kP ["thing"] f fd)
  (hH:∃ f fd,Fn K mg "are_hands" oT ["thing"] f fd)
  (hKw:∃ f fd,Fn K mg "is_work" oU ["hands", "thing"] f fd)
  (hBP:∃ f fd,Fn K mg "is_book" rR ["thing"] f fd)
  (hDP:∃ f fd,Fn K mg "is_deal" vF ["book", "thing"] f fd)
  (hNB:∃ f fd,Fn K mg "need_book" yU ["book"] f fd)
  (hND:∃ f fd,Fn K mg "need_deal" yV ["book", "deal"] f fd)
  (hC:∃ f fd,Fn K mg "counted" iL ["hands", "deal"] f fd)
  (hL:∃ f fd,Fn K mg "loads" yW ["book", "deal"] f fd)
  (hHD:∃ f fd,Fn K mg "handing" iM ["book", "deal"] f fd)
  (hRC:∃ f fd,Fn K mg "reached" jF ["rows", "first"] f fd)
  (hWT:∃ f fd,Fn K mg "way_to" oV ["found", "last"] f fd)
  (hTK:∃ f fd,Fn K mg "steps_of_take" nN ["book", "deal", "work"] f fd)
  (hWH:∃ f fd,Fn K mg "_law_e_whirl" vG ["cell", "at"] f fd)
  (hSC:∃ f fd,Fn K mg "_law_e_scoop" mW ["jar", "many"] f fd)
  (hAB:∃ f fd,Fn K mg "_law_e_able" xH ["jar", "hands"] f fd)
  (hDD:∃ f fd,Fn K mg "_law_e_deed" xI ["jar", "state"] f fd)
  (hEP:∃ f fd,Fn K mg "_law_e_step" vH ["state", "deed"] f fd)
  (hBE:∃ f fd,Fn K mg "_law_e_begun" vI ["hands"] f fd)
  (hDO:∃ f fd,Fn K mg "_law_e_do" sDo ["dealing", "deed"] f fd)
  (hWI:∃ f fd,Fn K mg "_law_e_whole_in" gW ["some"] f fd)
  (hHP:∃ f fd,Fn K mg "_law_e_heaps" nO ["state", "where"] f fd)
  (hID:∃ f fd,Fn K mg "_law_e_is_deal" kQ ["state", "where"] f fd)
  (hAL:∃ f fd,Fn K mg "_law_e_are_levels" lJ ["state", "where", "heights"] f fd)
  (hAK:∃ f fd,Fn K mg "_law_e_ask" aDe ["dealing", "word"] f fd)
  (hAS:∃ f fd,Fn K mg "_law_e_asked" vJ ["jar", "dealing"] f fd)
  (hSD:∃ f fd,Fn K mg "_law_e_stands" lK ["found", "state"] f fd)
  (hGO:∃ f fd,Fn K mg "_law_e_goes" tY ["elder", "after"] f fd)
  (hIW:∃ f fd,Fn K mg "_law_e_is_one_way" iT ["elder", "after", "hands"] f fd)
  (hMR:∃ f fd,Fn K mg "_law_e_moved_right" nQ ["elder", "found", "deeds", "hands"] f fd)
  (hLW:∃ f fd,Fn K mg "law" aB5 ["script"] f fd)
  : ∃ fd:FuncData,(∀ (s:Shared) (v:Value),BindsTo s fd ⟨[v],[]⟩ [("script",v)])/\∀ base:Heap,K.In base->base.Ns mainGlobals mg->base.BuiltinsAt mg Pt->base.BuiltinsAt mg Pt2->FnOk l.prog w K mg base CX0 12 fa fd ["script"] (aAr K Pt Pt2):=by
 obtain ⟨fST,dST,ST,hc⟩:=hST
 obtain ⟨fLO,dLO,LO,hc2⟩:=hLO
 obtain ⟨fW,dW,W⟩:=hW
 obtain ⟨fH,dH,H⟩:=hH
 obtain ⟨fKw,dKw,Kw⟩:=hKw
 obtain ⟨fBP,dBP,BP⟩:=hBP
 obtain ⟨fDP,dDP,DP⟩:=hDP
 obtain ⟨fNB,dNB,NB⟩:=hNB
 obtain ⟨fND,dND,ND⟩:=hND
 obtain ⟨fC,dC,C⟩:=hC
 obtain ⟨fL,dL,L⟩:=hL
 obtain ⟨fHD,dHD,HD⟩:=hHD
 obtain ⟨fRC,dRC,RC⟩:=hRC
 obtain ⟨fWT,dWT,WT⟩:=hWT
 obtain ⟨fTK,dTK,TK⟩:=hTK
 obtain ⟨fWH,dWH,WH⟩:=hWH
 obtain ⟨fSC,dSC,SC⟩:=hSC
 obtain ⟨fAB,dAB,AB⟩:=hAB
 obtain ⟨fDD,dDD,DD⟩:=hDD
 obtain ⟨fEP,dEP,EP⟩:=hEP
 obtain ⟨fBE,dBE,BE⟩:=hBE
 obtain ⟨fDO,dDO,DO⟩:=hDO
 obtain ⟨fWI,dWI,WI⟩:=hWI
 obtain ⟨fHP,dHP,HP⟩:=hHP
 obtain ⟨fID,dID,ID⟩:=hID
 obtain ⟨fAL,dAL,AL⟩:=hAL
 obtain ⟨fAK,dAK,AK⟩:=hAK
 obtain ⟨fAS,dAS,AS⟩:=hAS
 obtain ⟨fSD,dSD,SD⟩:=hSD
 obtain ⟨fGO,dGO,GO⟩:=hGO
 obtain ⟨fIW,dIW,IW⟩:=hIW
 obtain ⟨fMR,dMR,MR⟩:=hMR
 obtain ⟨fLW,dLW,LW⟩:=hLW
 obtain ⟨Cc,T,hmC,⟨fIn,dIn,MK,mIn⟩,⟨fBn,dBn,mBn⟩,⟨fDn,dDn,mDn⟩,⟨fCm,dCm,mCm⟩,⟨fPu,dPu,mPu⟩,⟨fTa,dTa,mTa⟩,⟨fCo,dCo,mCo⟩,⟨fGo,dGo,mGo⟩,⟨fWo,dWo,mWo⟩,⟨fDe,dDe,mDe⟩,⟨fLo,dLo,mLo⟩,⟨fLe,dLe,mLe⟩,⟨fMo,dMo,mMo⟩⟩:=hCl
 have e:=hfa.symm.trans LW.mgx
 cases e
 have R:Pr K mg fW fH fKw fBP fNB fDP fND fL dW dH dKw dBP dNB dDP dND dL:=⟨W,H,Kw,BP,NB,DP,ND,⟨fC,dC,C⟩,L⟩
 refine ⟨dLW,fun s v=>?_,fun base _ _ hBu hBu2=>?_⟩
 ·obtain ⟨oc,od,kV,doc,pm,an,cdv,ct,osl,rfl,lk,hcd⟩:=LW.fn.ex
  exact .of_eq rfl
 ·have Z:=hZ base hBu
  have Z2:=hZ2 base hBu2
  have OW:FnOk l.prog w K mg base CX0 1 fW dW ["thing"] (lL K):=nR W B
  have OH:FnOk l.prog w K mg base CX0 2 fH dH ["thing"] (pY K):=xJ H B W
  have OKw:FnOk l.prog w K mg base CX0 2 fKw dKw ["hands", "thing"] (pZ K):=xK Kw B W
  have OC:FnOk l.prog w K mg base CX0 1 fC dC ["hands", "deal"] (jI K):=mX C B
  have OST:FnOk l.prog w K mg base CX0 2 fST dST ["book", "deal", "able", "measures"] (vT K Pt):=aCf ST hc Z B HD RC WT
  have OLO:FnOk l.prog w K mg base CX0 8 fLO dLO ["book", "deal"] (aCg K Pt2):=aEE LO hc2 Z2 B R HD RC WT
  have OTK:FnOk l.prog w K mg base CX0 2 fTK dTK ["book", "deal", "work"] (vU K):=aCh TK B C HD RC WT
  have OBn:FnOk l.prog w K mg base CX0 1 fBn dBn ["self"] (nU K Cc):=aCk mBn T B
  have ODn:FnOk l.prog w K mg base CX0 1 fDn dDn ["self"] (lU K Cc):=aCl mDn T B
  have OCm:FnOk l.prog w K mg base CX0 1 fCm dCm ["self", "many"] (lV K Cc):=aCm mCm T
  have OLo:FnOk l.prog w K mg base CX0 2 fLo dLo ["self"] (nV K Cc):=aAZ mLo T mDn ODn C OC
  have OPu:FnOk l.prog w K mg base CX0 3 fPu dPu ["self", "able"] (aCu K Cc Pt):=aEH mPu T B Kw OKw mBn OBn mDn ODn mLo OLo ST OST mCm OCm
  have OTa:FnOk l.prog w K mg base CX0 3 fTa dTa ["self", "number"] (zD K Cc):=aDu mTa T B W OW mBn OBn mDn ODn TK OTK mCm OCm
  have OCo:FnOk l.prog w K mg base CX0 2 fCo dCo ["self"] (vW K Cc):=aCq mCo T B mCm OCm
  have OGo:FnOk l.prog w K mg base CX0 2 fGo dGo ["self"] (aCr K Cc):=aEG mGo T B mCm OCm
  have OWo:FnOk l.prog w K mg base CX0 1 fWo dWo ["self"] (kT K Cc):=aA1 mWo T B
  have ODe:FnOk l.prog w K mg base CX0 1 fDe dDe ["self"] (nW K Cc):=aCp mDe T B
  have OLe:FnOk l.prog w K mg base CX0 9 fLe dLe ["self"] (pB K Cc Pt2):=zC mLe T mBn OBn mDn ODn LO OLO
  have OMo:FnOk l.prog w K mg base CX0 1 fMo dMo ["self"] (vV K Cc):=aCo mMo T
  have OIn:FnOk l.prog w K mg base CX0 3 fIn dIn ["self", "hands"] (vX K Cc):=aDz mIn T B H OH
  have OSC:FnOk l.prog w K mg base CX0 2 fSC dSC ["jar", "many"] (gO K):=aCd SC B WH
  have OAB:FnOk l.prog w K mg base CX0 3 fAB dAB ["jar", "hands"] (yZ K):=aDm AB B SC OSC
  have OBE:FnOk l.prog w K mg base CX0 1 fBE dBE ["hands"] (qJ):=aCw BE
  have OEP:FnOk l.prog w K mg base CX0 1 fEP dEP ["state", "deed"] (vZ K):=aDD EP
  have ODO:FnOk l.prog w K mg base CX0 4 fDO dDO ["dealing", "deed"] (aDE K Cc Pt):=aFj DO T mPu OPu mTa OTa mCo OCo mGo OGo
  have ODD:FnOk l.prog w K mg base CX0 4 fDD dDD ["jar", "state"] (wA K):=aDF DD B SC OSC AB OAB
  have OWI:FnOk l.prog w K mg base CX0 1 fWI dWI ["some"] (jN K):=zF WI B
  have OHP:FnOk l.prog w K mg base CX0 1 fHP dHP ["state", "where"] (nZ K):=aA3 HP B
  have OID:FnOk l.prog w K mg base CX0 2 fID dID ["state", "where"] (pE K):=zG ID B WI OWI
  have OAL:FnOk l.prog w K mg base CX0 2 fAL dAL ["state", "where", "heights"] (sK K):=aA6 AL B WI OWI HP OHP
  have OAK:FnOk l.prog w K mg base CX0 10 fAK dAK ["dealing", "word"] (aCx K Cc Pt2):=aEM AK T mWo OWo mDe ODe mLo OLo mLe OLe mMo OMo
  have OAS:FnOk l.prog w K mg base CX0 11 fAS dAS ["jar", "dealing"] (oA K Cc Pt2):=aCz AS B SC OSC AK OAK
  have OSD:FnOk l.prog w K mg base CX0 3 fSD dSD ["found", "state"] (kX K):=aA7 SD B WI OWI HP OHP ID OID AL OAL
  have OGO:FnOk l.prog w K mg base CX0 1 fGO dGO ["elder", "after"] (wD):=aDH GO B
  have OIW:FnOk l.prog w K mg base CX0 2 fIW dIW ["elder", "after", "hands"] (sT):=aA8 IW B GO OGO
  have OMR:FnOk l.prog w K mg base CX0 3 fMR dMR ["elder", "found", "deeds", "hands"] (oE K):=aA9 MR B GO OGO IW OIW
  exact aES LW T B MK hmC SC OSC BE OBE mIn OIn mWo OWo mDe ODe DD ODD DO ODO EP OEP AS OAS SD OSD MR OMR
theorem walk {l:PySem.W.OpenLaw} {q:Program} {loose:List Str} {XP:(Str->Option Value)->Heap->Prop} {YP:World->Heap->Prop} {d:DefRec} {K:Params->PySem.W.Frag} {c Pt c2 Pt2:Addr} (hn:l.most=some 63) (hdf:d.params.defaults = []) (hq:importsNone q=true)
  (hY:∀ (w:World) (h:Heap),YP w h->(K w.params).In h) (hT:∀ (w:World) (h:Heap),YP w h->h.get? Pt=some (PySem.W.tabObj #[])) (hT2:∀ (w:World) (h:Heap),YP w h->h.get? Pt2=some (PySem.W.tabObj #[])) (hne:Pt≠Pt2)
  (F:(∀ w:World,PySem.W.codeHdIn (K w.params) c Pt=true)->(∀ w:World,PySem.W.codeHdIn (K w.params) c2 Pt2=true)->∀ (w:World) (mg:Str->Option Value) (fa:Addr) (h:Heap),(K w.params).In h->h.Ns mainGlobals mg->mg d.name=some (.ref fa) ->
   ∃ fd:FuncData,(∀ (s:Shared) (u:Value),BindsTo s fd ⟨[u],[]⟩ [("script",u)])/\∀ base:Heap,(K w.params).In base->base.Ns mainGlobals mg->base.BuiltinsAt mg Pt->base.BuiltinsAt mg Pt2->FnOk l.prog w (K w.params) mg base CX0 12 fa fd ["script"] (aAr (K w.params) Pt Pt2))
  (hKP:∀ w:World,(K w.params).lookup Pt=none) (hKP2:∀ w:World,(K w.params).lookup Pt2=none) (hC:∀ w:World,PySem.W.codeHdIn (K w.params) c Pt=true) (hC2:∀ w:World,PySem.W.codeHdIn (K w.params) c2 Pt2=true) :
  PySem.W.WalkO q loose XP YP l.row.toRowW d [] (fun f vs=>PySem.call f vs) :=
 L2.aBU (n:=63) (k:=12) (x := "script") (CX:=fun _=>CX0) (sp:=fun w=>aAr (K w.params) Pt Pt2) (ts:=[(Pt,pT),(Pt2,oZ)]) hn (by decide) hdf ⟨rfl,by decide,by decide,rfl⟩ hq hY
  (fun w h Y p hp=>by
   rcases Qm.mp hp with e | e
   ·rw [e]; exact ⟨hT w h Y,hKP w,c,PySem.W.codeHd_of_K (hY w h Y) (hC w)⟩
   ·rw [Qs.mp e]; exact ⟨hT2 w h Y,hKP2 w,c2,PySem.W.codeHd_of_K (hY w h Y) (hC2 w)⟩) (by simp [hne]) (fun w mg fa h a b d=>let ⟨fd,h1,h2⟩:=F hC hC2 w mg fa h a b d; ⟨fd,h1,fun base k1 k2 k3=>h2 base k1 k2 (k3 _ (Qr ..)) (k3 _ (Qo _ (Qr ..)))⟩)
  (fun _ _ a ns _ hO hS=>⟨a,ns,rfl,hS,hO.2 _ (Qr ..),hO.2 _ (Qo _ (Qr ..)),fun H' h h2=>⟨rfl,fun p hp=>by
   rcases Qm.mp hp with e | e
   ·rw [e]; exact h
   ·rw [Qs.mp e]; exact h2⟩⟩) fun _ _ _ _ _ z=>z
end Ab
open PySem PySem.W PyProof.Rows
set_option maxRecDepth 100000 in
set_option maxHeartbeats 0 in
theorem PySem.Challenge.cw_ablehands_k40_dealings_kept_holds : PySem.Challenge.rw_ablehands_k40_dealings_kept.Holds := by
 w_on; o_law; k_head; (case hw=>w_witness2)
 k_fill
 refine' Ab.walk (l:=PySem.Challenge.rw_ablehands_k40_dealings_kept) rfl rfl (by decide +kernel) (fun w h Y=>PySem.W.km_in_of Y) (fun w h Y=>PySem.W.km_tabs_of Y _ (Qo _ (Qr ..))) (fun w h Y=>PySem.W.km_tabs_of Y _ (Qr ..)) (by decide) ?F ?KP ?KP2 ?HC ?HC2
 case F =>
  intro hC hC2 w mg fa h KX G hmg
  refine' Ab.aDM hmg ?B ?Cl ?hST ?Z ?hLO ?Z2 ?hW ?hH ?hKw ?hBP ?hDP ?hNB ?hND ?hC ?hL ?hHD ?hRC ?hWT ?hTK ?hWH ?hSC ?hAB ?hDD ?hEP ?hBE ?hDO ?hWI ?hHP ?hID ?hAL ?hAK ?hAS ?hSD ?hGO ?hIW ?hMR ?hLW
  case Z =>
   intro base hb
   exact ⟨hC w,by decide,hb⟩
  case Z2 =>
   intro base hb
   exact ⟨hC2 w,by decide,hb⟩
  case hLO =>
   refine' Ab.aCH KX G (fun _ _ _ _ _ _ us hl=>match us,hl with | [_,_],_=>rfl) ?a ?l ?c ?k
   (case a=>k_is); (case l=>k_is); (case c=>k_is); (case k=>k_is)
  case hST =>
   refine' Ab.aCH KX G (fun _ _ _ _ _ _ us hl=>match us,hl with | [_,_,_,_],_=>rfl) ?a ?l ?c ?k
   (case a=>k_is); (case l=>k_is); (case c=>k_is); (case k=>k_is)
  case Cl =>
   refine' Ab.aFn KX G ?cg ?pg ?hd ?po ?sa ?n1 ?n2 ?n3 ?n4 ?n5 ?n6 ?m1 ?m2 ?m3 ?m4 ?hIn ?hBn ?hDn ?hCm ?hPu ?hTa ?hCo ?hGo ?hWo ?hDe ?hLo ?hLe ?hMo
   (case cg=>k_is)
   (case pg=>k_is)
   (case hd=>k_is)
   (case po=>k_is)
   (case sa=>k_is)
   (case n1=>k_is)
   (case n2=>k_is)
   (case n3=>k_is)
   (case n4=>k_is)
   (case n5=>k_is)
   (case n6=>k_is)
   (case m1=>k_is)
   (case m2=>k_is)
   (case m3=>k_is)
   (case m4=>k_is)
   case hIn =>
    refine' Ab.jP (fun _ _ _ _ _ _ us hl=>match us,hl with | [_,_],_=>rfl) ?a ?i ?l ?c ?k
    (case a=>k_is); (case i=>k_is); (case l=>k_is); (case c=>k_is); (case k=>k_is)
   case hBn =>
    refine' Ab.jP (fun _ _ _ _ _ _ us hl=>match us,hl with | [_],_=>rfl) ?a ?i ?l ?c ?k
    (case a=>k_is); (case i=>k_is); (case l=>k_is); (case c=>k_is); (case k=>k_is)
   case hDn =>
    refine' Ab.jP (fun _ _ _ _ _ _ us hl=>match us,hl with | [_],_=>rfl) ?a ?i ?l ?c ?k
    (case a=>k_is); (case i=>k_is); (case l=>k_is); (case c=>k_is); (case k=>k_is)
   case hCm =>
    refine' Ab.jP (fun _ _ _ _ _ _ us hl=>match us,hl with | [_,_],_=>rfl) ?a ?i ?l ?c ?k
    (case a=>k_is); (case i=>k_is); (case l=>k_is); (case c=>k_is); (case k=>k_is)
   case hPu =>
    refine' Ab.jP (fun _ _ _ _ _ _ us hl=>match us,hl with | [_,_],_=>rfl) ?a ?i ?l ?c ?k
    (case a=>k_is); (case i=>k_is); (case l=>k_is); (case c=>k_is); (case k=>k_is)
   case hTa =>
    refine' Ab.jP (fun _ _ _ _ _ _ us hl=>match us,hl with | [_,_],_=>rfl) ?a ?i ?l ?c ?k
    (case a=>k_is); (case i=>k_is); (case l=>k_is); (case c=>k_is); (case k=>k_is)
   case hCo =>
    refine' Ab.jP (fun _ _ _ _ _ _ us hl=>match us,hl with | [_],_=>rfl) ?a ?i ?l ?c ?k
    (case a=>k_is); (case i=>k_is); (case l=>k_is); (case c=>k_is); (case k=>k_is)
   case hGo =>
    refine' Ab.jP (fun _ _ _ _ _ _ us hl=>match us,hl with | [_],_=>rfl) ?a ?i ?l ?c ?k
    (case a=>k_is); (case i=>k_is); (case l=>k_is); (case c=>k_is); (case k=>k_is)
   case hWo =>
    refine' Ab.jP (fun _ _ _ _ _ _ us hl=>match us,hl with | [_],_=>rfl) ?a ?i ?l ?c ?k
    (case a=>k_is); (case i=>k_is); (case l=>k_is); (case c=>k_is); (case k=>k_is)
   case hDe =>
    refine' Ab.jP (fun _ _ _ _ _ _ us hl=>match us,hl with | [_],_=>rfl) ?a ?i ?l ?c ?k
    (case a=>k_is); (case i=>k_is); (case l=>k_is); (case c=>k_is); (case k=>k_is)
   case hLo =>
    refine' Ab.jP (fun _ _ _ _ _ _ us hl=>match us,hl with | [_],_=>rfl) ?a ?i ?l ?c ?k
    (case a=>k_is); (case i=>k_is); (case l=>k_is); (case c=>k_is); (case k=>k_is)
   case hLe =>
    refine' Ab.jP (fun _ _ _ _ _ _ us hl=>match us,hl with | [_],_=>rfl) ?a ?i ?l ?c ?k
    (case a=>k_is); (case i=>k_is); (case l=>k_is); (case c=>k_is); (case k=>k_is)
   case hMo =>
    refine' Ab.jP (fun _ _ _ _ _ _ us hl=>match us,hl with | [_],_=>rfl) ?a ?i ?l ?c ?k
    (case a=>k_is); (case i=>k_is); (case l=>k_is); (case c=>k_is); (case k=>k_is)
  case B =>
   refine' Ab.aFm KX G ?z0 ?z1 ?z2 ?z3 ?z4 ?z5 ?z6 ?z7 ?z8 ?z9 ?z10 ?z11 ?z12 ?z13 ?z14 ?z15 ?z16 ?zA ?zB
   (case z0=>k_is)
   (case z1=>k_is)
   (case z2=>k_is)
   (case z3=>k_is)
   (case z4=>k_is)
   (case z5=>k_is)
   (case z6=>k_is)
   (case z7=>k_is)
   (case z8=>k_is)
   (case z9=>k_is)
   (case z10=>k_is)
   (case z11=>k_is)
   (case z12=>k_is)
   (case z13=>k_is)
   (case z14=>k_is)
   (case z15=>k_is)
   (case z16=>k_is)
   (case zA=>k_is)
   (case zB=>k_is)
  case hW =>
   refine' Ab.cM KX G (fun _ _ _ _ _ _ us hl=>match us,hl with | [_],_=>rfl) ?a ?l ?c ?k
   (case a=>k_is); (case l=>k_is); (case c=>k_is); (case k=>k_is)
  case hH =>
   refine' Ab.cM KX G (fun _ _ _ _ _ _ us hl=>match us,hl with | [_],_=>rfl) ?a ?l ?c ?k
   (case a=>k_is); (case l=>k_is); (case c=>k_is); (case k=>k_is)
  case hKw =>
   refine' Ab.cM KX G (fun _ _ _ _ _ _ us hl=>match us,hl with | [_,_],_=>rfl) ?a ?l ?c ?k
   (case a=>k_is); (case l=>k_is); (case c=>k_is); (case k=>k_is)
  case hBP =>
   refine' Ab.cM KX G (fun _ _ _ _ _ _ us hl=>match us,hl with | [_],_=>rfl) ?a ?l ?c ?k
   (case a=>k_is); (case l=>k_is); (case c=>k_is); (case k=>k_is)
  case hDP =>
   refine' Ab.cM KX G (fun _ _ _ _ _ _ us hl=>match us,hl with | [_,_],_=>rfl) ?a ?l ?c ?k
   (case a=>k_is); (case l=>k_is); (case c=>k_is); (case k=>k_is)
  case hNB =>
   refine' Ab.cM KX G (fun _ _ _ _ _ _ us hl=>match us,hl with | [_],_=>rfl) ?a ?l ?c ?k
   (case a=>k_is); (case l=>k_is); (case c=>k_is); (case k=>k_is)
  case hND =>
   refine' Ab.cM KX G (fun _ _ _ _ _ _ us hl=>match us,hl with | [_,_],_=>rfl) ?a ?l ?c ?k
   (case a=>k_is); (case l=>k_is); (case c=>k_is); (case k=>k_is)
  case hC =>
   refine' Ab.cM KX G (fun _ _ _ _ _ _ us hl=>match us,hl with | [_,_],_=>rfl) ?a ?l ?c ?k
   (case a=>k_is); (case l=>k_is); (case c=>k_is); (case k=>k_is)
  case hL =>
   refine' Ab.cM KX G (fun _ _ _ _ _ _ us hl=>match us,hl with | [_,_],_=>rfl) ?a ?l ?c ?k
   (case a=>k_is); (case l=>k_is); (case c=>k_is); (case k=>k_is)
  case hHD =>
   refine' Ab.cM KX G (fun _ _ _ _ _ _ us hl=>match us,hl with | [_,_],_=>rfl) ?a ?l ?c ?k
   (case a=>k_is); (case l=>k_is); (case c=>k_is); (case k=>k_is)
  case hRC =>
   refine' Ab.cM KX G (fun _ _ _ _ _ _ us hl=>match us,hl with | [_,_],_=>rfl) ?a ?l ?c ?k
   (case a=>k_is); (case l=>k_is); (case c=>k_is); (case k=>k_is)
  case hWT =>
   refine' Ab.cM KX G (fun _ _ _ _ _ _ us hl=>match us,hl with | [_,_],_=>rfl) ?a ?l ?c ?k
   (case a=>k_is); (case l=>k_is); (case c=>k_is); (case k=>k_is)
  case hTK =>
   refine' Ab.cM KX G (fun _ _ _ _ _ _ us hl=>match us,hl with | [_,_,_],_=>rfl) ?a ?l ?c ?k
   (case a=>k_is); (case l=>k_is); (case c=>k_is); (case k=>k_is)
  case hWH =>
   refine' Ab.cM KX G (fun _ _ _ _ _ _ us hl=>match us,hl with | [_,_],_=>rfl) ?a ?l ?c ?k
   (case a=>k_is); (case l=>k_is); (case c=>k_is); (case k=>k_is)
  case hSC =>
   refine' Ab.cM KX G (fun _ _ _ _ _ _ us hl=>match us,hl with | [_,_],_=>rfl) ?a ?l ?c ?k
   (case a=>k_is); (case l=>k_is); (case c=>k_is); (case k=>k_is)
  case hAB =>
   refine' Ab.cM KX G (fun _ _ _ _ _ _ us hl=>match us,hl with | [_,_],_=>rfl) ?a ?l ?c ?k
   (case a=>k_is); (case l=>k_is); (case c=>k_is); (case k=>k_is)
  case hDD =>
   refine' Ab.cM KX G (fun _ _ _ _ _ _ us hl=>match us,hl with | [_,_],_=>rfl) ?a ?l ?c ?k
   (case a=>k_is); (case l=>k_is); (case c=>k_is); (case k=>k_is)
  case hEP =>
   refine' Ab.cM KX G (fun _ _ _ _ _ _ us hl=>match us,hl with | [_,_],_=>rfl) ?a ?l ?c ?k
   (case a=>k_is); (case l=>k_is); (case c=>k_is); (case k=>k_is)
  case hBE =>
   refine' Ab.cM KX G (fun _ _ _ _ _ _ us hl=>match us,hl with | [_],_=>rfl) ?a ?l ?c ?k
   (case a=>k_is); (case l=>k_is); (case c=>k_is); (case k=>k_is)
  case hDO =>
   refine' Ab.cM KX G (fun _ _ _ _ _ _ us hl=>match us,hl with | [_,_],_=>rfl) ?a ?l ?c ?k
   (case a=>k_is); (case l=>k_is); (case c=>k_is); (case k=>k_is)
  case hWI =>
   refine' Ab.cM KX G (fun _ _ _ _ _ _ us hl=>match us,hl with | [_],_=>rfl) ?a ?l ?c ?k
   (case a=>k_is); (case l=>k_is); (case c=>k_is); (case k=>k_is)
  case hHP =>
   refine' Ab.cM KX G (fun _ _ _ _ _ _ us hl=>match us,hl with | [_,_],_=>rfl) ?a ?l ?c ?k
   (case a=>k_is); (case l=>k_is); (case c=>k_is); (case k=>k_is)
  case hID =>
   refine' Ab.cM KX G (fun _ _ _ _ _ _ us hl=>match us,hl with | [_,_],_=>rfl) ?a ?l ?c ?k
   (case a=>k_is); (case l=>k_is); (case c=>k_is); (case k=>k_is)
  case hAL =>
   refine' Ab.cM KX G (fun _ _ _ _ _ _ us hl=>match us,hl with | [_,_,_],_=>rfl) ?a ?l ?c ?k
   (case a=>k_is); (case l=>k_is); (case c=>k_is); (case k=>k_is)
  case hAK =>
   refine' Ab.cM KX G (fun _ _ _ _ _ _ us hl=>match us,hl with | [_,_],_=>rfl) ?a ?l ?c ?k
   (case a=>k_is); (case l=>k_is); (case c=>k_is); (case k=>k_is)
  case hAS =>
   refine' Ab.cM KX G (fun _ _ _ _ _ _ us hl=>match us,hl with | [_,_],_=>rfl) ?a ?l ?c ?k
   (case a=>k_is); (case l=>k_is); (case c=>k_is); (case k=>k_is)
  case hSD =>
   refine' Ab.cM KX G (fun _ _ _ _ _ _ us hl=>match us,hl with | [_,_],_=>rfl) ?a ?l ?c ?k
   (case a=>k_is); (case l=>k_is); (case c=>k_is); (case k=>k_is)
  case hGO =>
   refine' Ab.cM KX G (fun _ _ _ _ _ _ us hl=>match us,hl with | [_,_],_=>rfl) ?a ?l ?c ?k
   (case a=>k_is); (case l=>k_is); (case c=>k_is); (case k=>k_is)
  case hIW =>
   refine' Ab.cM KX G (fun _ _ _ _ _ _ us hl=>match us,hl with | [_,_,_],_=>rfl) ?a ?l ?c ?k
   (case a=>k_is); (case l=>k_is); (case c=>k_is); (case k=>k_is)
  case hMR =>
   refine' Ab.cM KX G (fun _ _ _ _ _ _ us hl=>match us,hl with | [_,_,_,_],_=>rfl) ?a ?l ?c ?k
   (case a=>k_is); (case l=>k_is); (case c=>k_is); (case k=>k_is)
  case hLW =>
   refine' Ab.cM KX G (fun _ _ _ _ _ _ us hl=>match us,hl with | [_],_=>rfl) ?a ?l ?c ?k
   (case a=>k_is); (case l=>k_is); (case c=>k_is); (case k=>k_is)
 case KP=>intro w; first | k_is | kernel_rfl
 case KP2=>intro w; first | k_is | kernel_rfl
 case HC=>intro w; kernel_rfl
 case HC2=>intro w; kernel_rfl
