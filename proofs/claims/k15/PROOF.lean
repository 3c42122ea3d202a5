import PyProof.Rows.All
import Wide.All
import OpenK.AllK
import Wide.FinOn
import PyProof.EqAt
import PyProof.EqKinds
import PyProof.TupleCall
import PyProof.Rows.TupDisplay
import PyProof.DictCompW
import PyProof.WalksMore
import PyProof.MinMaxWalk
import PyProof.DictDisplay
import PyProof.DictWalks
import Lean
import PySem.Challenge.RW_ablehands_k15_whole_counted_by_one_work
open PySem.Heap renaming get?_push_of_some -> Qa,get?_push_size -> Qh,lt_size -> Qp,get?_update_other -> Jk,size_push -> Jo,get?_update_self -> Xe
open List renaming length_map -> Qb,getElem?_eq_getElem -> Qc,getElem?_eq_some_iff -> Qd,getElem?_map -> Qe,mem_cons_self -> Qi,mem_of_getElem? -> Qj,mem_cons_of_mem -> Qk,size_toArray -> Ql,mem_cons -> Qm,length_append -> Qn,map_append -> Qo,getD_eq_getElem?_getD -> Qq,mem_singleton -> Qs,not_mem_nil -> Qt,getElem?_append_left -> Qu,mem_map -> Qv,length_take -> Qw,length_cons -> Qx,map_cons -> Qz,mem_iff_getElem? -> Jb,mem_append_right -> Jd,getElem?_append_right -> Je,mem_range -> Jf,mem_append -> Jg,take_length -> Jj,take_of_length_le -> Jm,take_succ -> Jp,length_drop -> Jq,all_eq_true -> Jr,getElem?_zip_eq_some -> Js,length_eq_zero_iff -> Jt,length_replicate -> Ju,map_map -> Jv,mem_append_left -> Jw,mem_filter -> Jy,length_range -> Jz,lookup_cons -> Xa,nodup_cons -> Xd,getElem_mem -> Xf,mem_singleton_self -> Xg,filter_append -> Xi,map_congr_left -> Xj,getElem?_range -> Xk,pairwise_cons -> Xm,getElem?_eq_none -> Xq,dropLast_concat_getLast -> Xr,find?_cons -> Xs,filter_cons_of_neg -> Xt,filter_cons_of_pos -> Xu,mem_of_mem_take -> Xv,pairwise_iff_getElem -> Xx,take_append_drop -> Xz,length_filter_le -> Za,any_eq_true -> Zc,filter_cons -> Zd,getElem?_replicate -> Ze,foldl_append -> Zf,filter_congr -> Zg,count_cons -> Zh,range_succ -> Zi,flatten_replicate_singleton -> Zj,append_nil -> Zk,nil_append -> Zl,count_append -> Zo,filterMap_cons -> Zp,any_cons -> Zq,replicate_succ -> Zr,length_pos_iff -> Zu,nodup_nil -> Zw,filterMap_map -> Zx,length -> Zy,forIn_cons -> Zz,length_nil -> Ya,ext_getElem? -> Yb,pairwise_map -> Yc,forIn_nil -> Yd,take_zero -> Ye,length_set -> Yj,set_eq_take_append_cons_drop -> Yl,map_take -> Ym,map_drop -> Yn,mem_replicate -> Yo,drop_of_length_le -> Yp,pairwise_lt_range -> Yq,filter_eq_nil_iff -> Yr,flatten_cons -> Ys,append_assoc -> Yt,getElem?_set -> Yu,getElem?_inj -> Yv,all_map -> Yy,cons_append -> Yz,perm_middle -> Wa,isEmpty_nil -> Wb,mem_flatMap -> Wc,getElem?_set_ne -> Wd,replicate_succ' -> We,mem_of_mem_drop -> Wf,foldr_cons -> Wh,toList_toArray -> Wi,length_reverse -> Wk,length_take_le -> Wl,perm_append_singleton -> Wn,perm_ext_iff_of_nodup -> Wo,map_replicate -> Wu,drop_zero -> Wv,drop_eq_getElem_cons -> Ww,count_singleton_self -> Wx,getElem?_take_of_lt -> Wz,filterMap_cons_some -> Qaa,length_erase_of_mem -> Qab,nodup_append -> Qac,getElem?_cons_zero -> Qad,getElem?_cons_succ -> Qae,getElem_map -> Qag,getElem?_set_self -> Qah,getElem_cons_drop -> Qai,of_mem_zip -> Qaj,singleton_append -> Qal,filterMap_append -> Qam,any_map -> Qan,filter_nil -> Qap,getElem?_of_mem -> Qas,pairwise_append -> Qat,count_le_length -> Qau,count_cons_self -> Qav,reverse_append -> Qay,filter_sublist -> Qaz,mergeSort_perm -> QaA,mem_filterMap -> QaB,getElem?_drop -> QaD,map_filterMap -> QaE,count_eq_zero -> QaH,map_nil -> QaK
open Nat renaming le_refl -> Qg,lt_of_lt_of_le -> Qy,ne_of_lt -> Ja,le_trans -> Jl,zero_le -> Jn,lt_irrefl -> Jx,lt_succ_of_lt -> Xb,not_lt_zero -> Xn,ne_of_gt -> Xw,le_add_right -> Zb,le_succ_of_le -> Zm,lt_succ_self -> Zv,succ_le_succ -> Yf,min_eq_right -> Yg,lt_of_le_of_lt -> Yk,le_of_lt -> Yw,lt_trans -> Yx,mod_lt -> Wg,min_eq_left -> Wj,succ_mul -> Wp,lt_or_ge -> Wr,le_of_not_lt -> Qaf,div_add_mod -> Qar,mul_le_mul -> Qaw,le_succ -> Qax,mul_assoc -> QaI,mul_comm -> QaL,sub_zero -> QaM,min_self -> QaN,zero_add -> QaP,sub_self -> QaQ
open Bool renaming false_ne_true -> Qr,false_eq_true -> Jh,and_eq_true -> Ji,eq_iff_iff -> Xc,true_and -> Zs,not_eq_true -> Yh,or_eq_true -> Qak,and_true -> QaF,not_true -> QaG,true_or -> QaO
open Int renaming toNat_natCast -> Jc,emod_lt_of_pos -> Xh,le_refl -> Xl,emod_nonneg -> Xo,zero_add -> Xp,natCast_add -> Zn,toNat_of_nonneg -> Zt,add_mul -> Yi,fdiv_eq_ediv_of_nonneg -> Wm,add_zero -> Wq,natCast_mul -> Qao,zero_mul -> Qaq,le_trans -> QaR,mul_one -> QaS
open Option renaming map_some -> Xy,isSome_iff_exists -> Wy,isSome_some -> QaC,isSome_map -> QaJ
open PySem renaming wpAny_bind -> Ra,wpAny_pure -> Rb,sizeLine_eq -> Rf,wpAny_callSpecial?_slot -> Rg,wpAny_call_entry -> Rh,wpAny_newObj_type -> Ri,wpAny_setField_rec -> Rj,wpAny_field -> Rl,wpAny_holding -> Rm,wpAny_loadPart' -> Rn,wpAny_truthy_bool -> Rq,wpAny_mono -> Rr,wpAny_attempt -> Ta,call_meets -> Tc,wpAny_seqItems -> Td,codeAny_builtin -> Tf,wpAny_fieldsOf -> Tg,wpAny_setState_of -> Th,wpAny_standAt -> Tj,wpAny_ite_split -> Tq,plainId_quiet -> Ts,wpAny_isInstance -> Tu,wpAny_typeNameOfWhole_keyiter -> Tv,wpAny_typeNameOfWhole_valiter -> Tw,wpAny_Call_Name_kw -> Tx,wpAny_passesOwn -> Ua,size_of_entries -> Ub,wpAny_pyIter_list -> Uc,wpAny_dictEntries -> Ud,mem_of_lookup -> Ue,wpAny_rule -> Uh,wpAny_letGo -> Ui,codeAny_mono -> Ul,wpAny_binaryOp_repeat_ref -> Um,wpAny_typeNameOf_keyiter -> Us,wpAny_typeNameOf_valiter -> Ut,wpAny_ite_false -> Uu,wpAny_dictEpoch -> Uv,typeIs_int -> Uw,wpAny_setField -> Uy,isSubtype_stop -> Uz,wpAny_tryCatch -> Va,wpAny_isOneOf_valiter -> Vb,wpAny_askSetting -> Vc,wpAny_pyIter_zip -> Vd,wpAny_updateSeq -> Vg,wpAny_typeOf -> Vh,wpAny_pyIter_tuple -> Vj,tupleKind_room_in1 -> Vk,wpAny_collect_seq -> Vn,wpAny_of_eq -> Vo,wpAny_pyIter_enum -> Vp,wpAny_pyIter_slot -> Vq,noFill_tuple_add -> Vs,callType_new -> Vu,wpAny_execs_nil -> Vx,codeAny_of_tree -> Vy,wpAny_isOneOf_keyiter -> Ia,wpAny_updateSeq_pair -> Ic,wpAny_newTuple -> Ie,codeAny_call_builtin -> Ig,seq_tuple_add -> Ik,evalPart_none -> Il,wpAny_handled -> Im,wpAny_onRaise -> Io,wpAny_Name -> Ir,wpAny_call -> Iu,concat_meets -> Iz,wpAny_execs_cons -> Mg,wpAny_throw -> Ml,fitsIndex_both -> Mt,wpAny_runValue -> Mu,isSubtype_type -> Mv,wpAny_letOwnedTupleGo_enum -> Mw,intKind_is -> Mx,call -> Mz,putSet_of -> Raa,seqIndex_neg -> Rab,seqSlot_of -> Rac,wpAny_isTrue_Compare1 -> Rad,builtinLookup_eq_fast -> Rae,weight_type_call_type -> Raf,wpAny_notOrdered_dict -> Rag,wpAny_loadName_local -> Rai,seqIndex_of -> Raj,wpAny_newFunctionEnv -> Rak,wpAny_alloc -> Ral,wpAny_pyIter_keyiter -> Ram,wpAny_loadName_free -> Ran,argBest_lt -> Raq,wpAny_dictSet_heap -> Rar,wpAny_assign_Name -> Ras,wpAny_sequenceKey -> Rau,wpAny_pyIter_dict -> Rav,wpAny_storeSet_of -> Rax,check_set_init_1 -> Ray,wpAny_Dict_empty -> Raz,typeLookup_type -> RaJ,wpAny_stack_any -> RaK,wpAny_specialOf -> RaL
open PySem.W renaming Frag -> Rc,mg_none_of -> Rk,nsIn -> Ro,tabObj -> Rw,fnOf -> Tn,keepIn -> Uo,kla_fn -> Ur,codeIn -> Ve,CodeHd -> Vr,mg_of -> Vt,methodObj -> Ib,codeHdIn -> Ih,OpenLaw -> Ij,cellsFrom_some -> Mh,codeHd_of_K -> Ms,WalkO -> Rah
open PySem.F renaming slot_enumerate_next -> Rp,plainAttrs_list -> Rt,slot_zip_next -> Ru,args_tuple_mul_2 -> Rv,slot_list_append -> Rx,type_list_append -> Ry,entry_tuple_mul -> Rz,slot_int_rmul -> Ti,slot_tuple_iterator_next -> To,args_enumerate_next_1 -> Tr,entry_enumerate_next -> Tt,args_tuple_add_2 -> Ug,entry_tuple_add -> Uj,args_zip_next_1 -> Uk,slot_tuple_add -> Up,entry_zip_next -> Uq,args_object_init_2 -> Vf,args_int_rmul_2 -> Vi,entry_int_rmul -> Vl,fills_int_mul -> Vm,args_tuple_iterator_next_1 -> Vv,entry_tuple_iterator_next -> Vz,typeCall_enumerate_1 -> Ii,newCall_enumerate_1 -> Ip,entry_enumerate_new -> Iq,args_object_init_3 -> Iw,plain_extend_loop -> Iy,slot_tuple_count -> Ma,called_enumerate -> Mb,slot_dict_values -> Mc,plain_list_iadd -> Md,entry_type_call -> Me,plainAttrs_dict -> Mf,typeCall_zip_2 -> Mi,typeCall_set_1 -> Mj,entry_set_init -> Mk,plain_set_new -> Mm,newCall_zip_2 -> Mn,entry_zip_new -> Mp,slot_set_iter -> Mq,slot_dict_get -> Mr,called_zip -> My
open PyProof.Rows renaming subscriptTail_builtinR -> Ux,Subscript_ -> Iv,entry_tuple_getitem -> Rao,args_tuple_getitem -> Rap,entry_list_sort -> RaI
open PySem.EqMixed renaming eq_bool_str -> RaA,eq_int_str -> RaB,eq_str_bool -> RaC,eq_str_int -> RaD,ne_bool_str -> RaE,ne_int_str -> RaF,ne_str_bool -> RaG,ne_str_int -> RaH
open PySem.EqNone renaming eq_none_none -> RaM,eq_none_bool -> RaN,eq_none_int -> RaO,eq_none_str -> RaP,eq_bool_none -> RaQ,eq_int_none -> RaR,eq_str_none -> RaS,ne_none_none -> RaT,ne_none_bool -> RaU,ne_none_int -> RaV,ne_none_str -> RaW,ne_bool_none -> RaX,ne_int_none -> RaY,ne_str_none -> RaZ
open PySem
variable {XP:(Str->Option Value)->Heap->Prop} {a b it c f C dx sl I S i1 i2 l1 l2 fW fH fK fB fNB fD fND fL fS Pt fE fFa fMh:Addr} {params:Arguments} {A:Around} {osl:Array (Option Value)} {items:Array Value} {L f1:Bool} {op:CmpOp} {e tg iter value elt kx vx:Expr} {fd fdW dW dH dK dB dNB dD dND dL fdD dE dFa dMh:FuncData} {h h' base:Heap} {lo:Int} {pins:List (Addr×Obj)} {Ws:List (List (Nat×Int×Int))} {ws:List (List Int)} {ss:List (Nat×Int×Int)} {cl:List (Str×Addr)} {ch fp qs:List Addr} {es ifs:List Expr} {l ns d U hs ms hs' lv he lw:List Int} {φ:List Int->Int} {fr:List Nat} {ds:List PyData} {body:List Stmt} {N ps loose own frn:List Str} {us bm:List Value} {M:Model} {t' i j n m ep n2 x1 mask:Nat} {st1 st2:Nat->Heap->Prop} {P1 P2:Nat->Value->Prop} {o ob:Obj} {an od:Option Addr} {hi:Option Int} {z:Option Str} {os:OsState} {pos pos' p tpos apos kpos p2 cpos p1 p3:Pos} {P prog q:Program} {B:Prop} {K:Rc} {R:Result->Shared->Prop} {scope:Scope} {s s':Shared} {st:Stmt} {name qual vn xn:Str} {kindOf:Str->Option NameKind} {mg:Str->Option Value} {T:String} {κ α β:Type} {u doc pm cdv ct oc vl vu f0:Value} {E Q:Value->Shared->Prop} {w:World} {YP:World->Heap->Prop}
namespace PySem.W.Fast
def tw10692343528769731651:=0
def tw4113421207492372747:=0
def tw16087760056414011821:=0
def tw5732078249293691326:=0
def tw9296800212021968351:=0
def tw10884352594861228619:=0
def tw10819886961552125204:=0
def tw13221931452552508932:=0
def tw6445821325937572812:=0
def tw3361518196585858400:=0
def tw3369684436693510567:=0
def tw12961828152975252128:=0
def tw9101221548969827011:=0
def tw12225895376183379720:=0
def tw12055553426032696574:=0
def tw734850767639762930:=0
def tw14984603343267417248:=0
def tw16663791158544376195:=0
def tw7061584012368696310:=0
def tw10572783629509684146:=0
def tw13370626618422502336:=0
def tw18062789654723449370:=0
def tw17370742323055311012:=0
def tw17283078839957612786:=0
def tw6921412706749249413:=0
def tw18432721810791236102:=0
def tw14826547234190514831:=0
def tw6353713836278868707:=0
def tw16246738894005493967:=0
def tw5836519910156899502:=0
def tw7827299175790520456:=0
def tw9268510837838621840:=0
def tw5378638382091201385:=0
def tw6910961762133745121:=0
def tw15823417519453864878:=0
def tw6893164266022275545:=0
def tw13296212855219468677:=0
def tw6445624670148190181:=0
def tw17376689975818055884:=0
def tw11995014174315914807:=0
def tw4481465298189216442:=0
def tw15191499792521694934:=0
def tw3128502005887863283:=0
def tw2733801239718024901:=0
def tw13228332381607392179:=0
def tw17133558740234783660:=0
def tw5560839547016330451:=0
def tw133455823178148566:=0
def tw5589207275216752029:=0
def tw18079015851021457703:=0
def tw5080887960198775641:=0
def tw1898080152752918737:=0
def tw2922157420057505050:=0
def tw3759486548029467150:=0
def tw2088343852999157038:=0
def tw15857502686905957676:=0
def tw7604738951105484760:=0
def tw12516674601292846597:=0
def tw15744451760987481285:=0
def tw15890847534641180153:=0
def tw16852582858003015775:=0
def tw781922358335946225:=0
def tw8263988319383071373:=0
def tw14983151146653780186:=0
def tw14813931478171848709:=0
def tw11400711607683574550:=0
def tw12115456545311767477:=0
def tw7367078628060868299:=0
def tw4138244154891364122:=0
def tw8633865789512424608:=0
def tw10278373611952468725:=0
def tw4382315575539671584:=0
def tw7011904538426675968:=0
def tw10001518074646701252:=0
def tw10685729846193853302:=0
def tw2732665455907944206:=0
def tw2092568780816367647:=0
def tw7578672515407109784:=0
def tw13712836510786738040:=0
def tw17192642602008017266:=0
def tw14169172911935023685:=0
def tw2126341613927681669:=0
def tw17696806254697843828:=0
def tw3906811173715554413:=0
def tw4242220709074890451:=0
def tw4655339001213222806:=0
def tw14476345270058827672:=0
def tw9344717904685228249:=0
def tw8621154903279784775:=0
def tw9445792730734423023:=0
def tw11755569060401054505:=0
def tw15753912680167069715:=0
def tw1675445431076143822:=0
def tw13171017810114334671:=0
def tw12428402649165064614:=0
def tw15165652685395501643:=0
def tw4402085806015732072:=0
def tw4697672930099601736:=0
def tw12127136694102834135:=0
def tw9230788675486833959:=0
def tw4826781085447014574:=0
def tw15691084594505032292:=0
def tw6466411018543266092:=0
def tw7073892272197031052:=0
def tw8619973747201675510:=0
def tw12981755841818039818:=0
def tw11200837888588281459:=0
def tw11803562759893043671:=0
def tw762694503413041943:=0
def tw18221355085869935069:=0
def tw13620538719113214831:=0
def tw5464279636188656945:=0
def tw457888231588707115:=0
def tw13182590520079552406:=0
def tw4368143654320885634:=0
def tw987680002458290526:=0
def tw3183471502217381616:=0
def tw5495779936343721312:=0
def tw5659898502848385952:=0
def tw15577005476121623706:=0
def tw6716988428715082615:=0
def tw17513321984346397819:=0
def tw6211779698499112208:=0
def tw1807894648426569819:=0
end PySem.W.Fast
set_option Elab.async false
set_option linter.all false
set_option maxRecDepth 100000
namespace L2
open PySem PySem.Spec PyProof.Rows
abbrev Key:=Sum Int Str
end L2
open L2
variable {its:List (List Key×Addr×Value)}
namespace L2
open PySem PySem.Spec PyProof.Rows
def uD:Key->Value->Bool
 | .inl k,v=>Value.isInt k v
 | .inr x,v=>Value.isStrOf x v
def aH8 (w:World):Key->Int
 | .inl k=>hashInt k
 | .inr x=>hashStr w x
theorem cR:∀ {k:Key} {v:Value},uD k v=true->(∃ i t,k=Sum.inl i/\v=Value.int i t)∨(∃ x t,k=Sum.inr x/\v=Value.str x t)
 | .inl i,v,h=>by
  obtain ⟨t,e⟩:=Value.isInt_shape (k:=i) (v:=v) h
  exact .inl ⟨i,t,rfl,e⟩
 | .inr x,v,h=>by
  obtain ⟨t,e⟩:=Value.isStrOf_shape (x:=x) (v:=v) h
  exact .inr ⟨x,t,rfl,e⟩
theorem aCa (i:Int) (t:Tok):uD (.inl i) (.int i t)=true:=by simp [uD,Value.isInt]
theorem aCb (x:Str) (t:Tok):uD (.inr x) (.str x t)=true:=by simp [uD,Value.isStrOf]
theorem aGt (a b:Int):decide ((Sum.inl a:Key)=Sum.inl b)=(a==b):=by
 by_cases e:a=b
 ·subst e; simp
 ·have h:¬ (Sum.inl a:Key)=Sum.inl b:=λq=>e (Sum.inl.inj q)
  rw [decide_eq_false h]
  exact (beq_eq_false_iff_ne.mpr e).symm
theorem aGu (a b:Str):decide ((Sum.inr a:Key)=Sum.inr b)=decide (a=b):=by
 by_cases e:a=b
 ·subst e; simp
 ·have h:¬ (Sum.inr a:Key)=Sum.inr b:=λq=>e (Sum.inr.inj q)
  rw [decide_eq_false h,decide_eq_false e]
theorem aGv (a:Int) (b:Str):decide ((Sum.inl a:Key)=Sum.inr b)=false:=decide_eq_false (λq=>nomatch q)
theorem aGw (a:Str) (b:Int):decide ((Sum.inr a:Key)=Sum.inl b)=false:=decide_eq_false (λq=>nomatch q)
def cA (prog:Program) (w:World):PySem.KeyKind prog w Key where
 is:=uD
 hash:=aH8 w
 inj:=λv a b ha hb=>by
  rcases cR ha with ⟨i,t,rfl,rfl⟩ | ⟨x,t,rfl,rfl⟩
  ·rcases cR hb with ⟨j,u,rfl,e⟩ | ⟨y,u,rfl,e⟩
   ·injection e with e1 _; rw [e1]
   ·exact nomatch e
  ·rcases cR hb with ⟨j,u,rfl,e⟩ | ⟨y,u,rfl,e⟩
   ·exact nomatch e
   ·injection e with e1 _; rw [e1]
 byValue:=λk v h=>by
  rcases cR h with ⟨i,t,rfl,rfl⟩ | ⟨x,t,rfl,rfl⟩ <;> rfl
 pyHash:=λhv h=>by
  rcases cR hv with ⟨i,t,rfl,rfl⟩ | ⟨x,t,rfl,rfl⟩
  ·exact wpAny_pyHash_int h
  ·exact wpAny_pyHash_str h
 eqBool:=λhu hv h=>by
  rcases cR hu with ⟨i,t,rfl,rfl⟩ | ⟨x,t,rfl,rfl⟩
  ·rcases cR hv with ⟨j,u,rfl,rfl⟩ | ⟨y,u,rfl,rfl⟩
   ·rw [aGt] at h; exact wpAny_eqBool_int h
   ·rw [aGv] at h; exact SeqAt.EqAt.int_str i t y u _ _ _ _ h
  ·rcases cR hv with ⟨j,u,rfl,rfl⟩ | ⟨y,u,rfl,rfl⟩
   ·rw [aGw] at h; exact SeqAt.EqAt.str_int x t j u _ _ _ _ h
   ·rw [aGu] at h; exact wpAny_eqBool_str h
 «strs»:=λk x t v h=>by
  rcases cR h with ⟨i,u,rfl,e⟩ | ⟨y,u,rfl,e⟩
  ·exact nomatch e
  ·injection e with e1 _
   subst e1
   cases v <;> rfl
theorem xA (prog:Program) (w:World) (i:Int) (t:Tok):(cA prog w).is (.inl i) (.int i t)=true:=aCa i t
theorem xB (prog:Program) (w:World) (x:Str) (t:Tok):(cA prog w).is (.inr x) (.str x t)=true:=aCb x t
inductive V where
 | non | bl (b:Bool) | int (i:Int) | str (x:Str) | byt (b:Array UInt8) | flt (b:UInt64) | ref (a:Addr) | ty (n:String)
 deriving DecidableEq
end L2
variable {kvs:List (List Key×V)} {xs ys vs zs:List V} {x v y:V}
namespace L2
open PySem PySem.Spec PyProof.Rows
def bS:V->Value->Prop
 | .non,u=>u=Value.none
 | .bl b,u=>u=Value.bool b
 | .int i,u=>∃ t,u=Value.int i t
 | .str x,u=>∃ t,u=Value.str x t
 | .byt b,u=>∃ t,u=Value.bytes b t
 | .flt b,u=>∃ t,u=Value.float b t
 | .ref a,u=>u=Value.ref a
 | .ty n,u=>u=Value.type n
abbrev bO:List V->List Value->Prop:=Paired bS
theorem bO.length (r:bO xs us):xs.length=us.length:=Paired.length r
theorem bO.get:∀ {xs:List V} {us:List Value} {i:Nat} {x:V},bO xs us->xs[i]?=some x->∃ u,us[i]?=some u/\bS x u
 | _,_,_,_,.nil,e=>by simp at e
 | _,_,0,_,.cons r _,e=>by simp at e; subst e; exact ⟨_,rfl,r⟩
 | _,_,i+1,x,.cons _ t,e=>by
  obtain ⟨u,h1,h2⟩:=bO.get (i:=i) (x:=x) t (by simpa using e)
  exact ⟨u,by simpa using h1,h2⟩
theorem bO.set (r:bS x u):∀ {xs:List V} {us:List Value} (i:Nat),bO xs us->bO (xs.set i x) (us.set i u)
 | _,_,_,.nil=>.nil
 | _,_,0,.cons _ t=>.cons r t
 | _,_,i+1,.cons q t=>.cons q (bO.set r i t)
theorem bO.append:∀ {xs ys:List V} {us ws:List Value},bO xs us->bO ys ws->bO (xs++ys) (us++ws)
 := by
 intro xs ys us ws h s
 induction h with
 | nil=>exact s
 | cons r t ih=>exact .cons r ih
theorem bO.take:∀ {xs:List V} {us:List Value} (n:Nat),bO xs us->bO (xs.take n) (us.take n)
 | _,_,0,_=>.nil
 | _,_,_+1,.nil=>.nil
 | _,_,n+1,.cons r t=>.cons r (bO.take n t)
theorem bO.drop:∀ {xs:List V} {us:List Value} (n:Nat),bO xs us->bO (xs.drop n) (us.drop n)
 | _,_,0,r=>r
 | _,_,_+1,.nil=>.nil
 | _,_,n+1,.cons _ t=>bO.drop n t
def nK:Option V->Option Value->Prop
 | some v,some u=>bS v u
 | none,none=>True
 | _,_=>False
def KV:List (κ×V)->List (κ×Value)->Prop:=Paired λ(p:κ×V) (q:κ×Value)=>p.1=q.1/\bS p.2 q.2
def kV:Key->V
 | .inl i=>.int i
 | .inr x=>.str x
inductive HO where
 /-- a list -/
 | lst (xs:List V)
 /-- a tuple (never changes) -/
 | tup (xs:List V)
 /-- a dict whose keys are ints and texts; one whose keys are tuples of ints and texts (the empty one is both) -/
 | dK (kvs:List (Key×V)) | dT (kvs:List (List Key×V))
 /-- a set of ints: its members,its size -/
 | set (S:Int->Bool) (n:Nat)
 /-- an instance of the class at C,its dict at dx,its attributes -/
 | ins (C dx:Addr) (fs:List (Str×V))
 /-- the dict of the instance at x -/
 | own (x:Addr)
 /-- the dict of an exception -/
 | xd (fs:List (Str×V))
 /-- a bound method,f of x -/
 | met (f x:Addr)
 /-- a range object lo,lo+1,.. below hi -/
 | rng (lo hi:Int)
 /-- a thing that is known to the object (the script; a dict while a loop walks it): read,never written while it is so -/
 | frz (o:Obj) (u:HO)
 /-- a code object's table -/
 | tbl (ps:Array Value)
 /-- a code object's table,all of whose codes have the name q; they are tracked as its own -/
 | tab (q:Str)
 /-- any other thing,by what is true of its one object (a def of one's own: aIr a S n:=HO.ext λh=>..) -/
 | ext (φ:Heap->Prop)
abbrev Hp:=Addr->Option HO
end L2
variable {H H' H1 H2 H0:Hp} {Qf:Hp->List V->Prop}
namespace L2
open PySem PySem.Spec PyProof.Rows
def upd (H:Hp) (a:Addr) (o:HO):Hp:=λb=>if b=a then some o else H b
theorem aB {o:HO}:upd H a o a=some o:=by unfold upd; rw [if_pos rfl]
theorem aF {o:HO} (h:b≠a):upd H a o b=H b:=by unfold upd; rw [if_neg h]
theorem aEW {o u:HO}:upd (upd H a o) a u=upd H a u:=by
 funext b; unfold upd; split <;> rfl
theorem aF7 {o u:HO} (h:H a=some o) (h':H b=some u) (d:o≠u):a≠b:=by
 intro e; subst e; rw [h] at h'; exact d (Option.some.inj h')
theorem gJ {o:HO} (h:H a=some o) (h':H b=none):a≠b:=by
 intro e; subst e; rw [h] at h'; cases h'
section
variable (P:Program) (w:World)
def bL (H:Hp) (h:Heap) (a:Addr):HO->Prop
 | .lst xs=>xs.length<=sizeLine/\∃ (its:List Value) (n:Nat),bO xs its/\h.get? a=some { cls:=.type "list",data:=.seq its.toArray n }
 | .tup xs=>xs.length<=sizeLine/\∃ (its:List Value) (n:Nat),bO xs its/\h.get? a=some { cls:=.type "tuple",data:=.seq its.toArray n }
 | .dK kvs=>kvs.length<=sizeLine/\(a==sysModules)=false/\∃ vs,KV kvs vs/\h.DictOf (cA P w) a vs
 | .dT kvs => kvs.length <= sizeLine /\ (a == sysModules) = false /\ ∃ xs : List (List Key × Addr × Value),
     Paired (λ(p:List Key×V) (q:List Key×Addr×Value)=>p.1=q.1/\H q.2.1=some (.tup (p.1.map kV))/\bS p.2 q.2.2) kvs xs /\
     ∃ o es ep,h.get? a=some o/\o.ExactDict/\o.data=.dict es ep/\es.toList=xs.map (entryOfKey (tupleKind (cA P w)))/\(xs.map (·.1)).Nodup
 | .set S n=>h.SetOf (intKind P w) a S n
 | .ins C dx fs => H dx = some (.own a) /\ fs.length <= 1000 /\ dx ≠ a /\ h.get? a = some (PySem.W.instObj C dx) /\
     ∃ mA,h.Ns1 dx mA/\(∀ f,nK (fs.lookup f) (mA f))/\PySem.Within mA (fs.map (·.1))
 | .own _=>∃ o,h.get? a=some o
 | .xd fs=>∃ mA,h.Ns1 a mA/\∀ f,nK (fs.lookup f) (mA f)
 | .rng lo hi=>∃ t u v,h.get? a=some { cls:=.type "range",data:=.fields #[.int lo t,.int hi u,.int 1 v] }
 | .frz o u=>h.get? a=some o/\bL H h a u
 | .tbl ps=>h.get? a=some { cls:=.none,data:=.fields ps }
 | .tab q=>∃ ps:Array Value,h.get? a=some { cls:=.none,data:=.fields ps }/\TriplesOk ps.toList/\∀ (pos:Pos) (cv:Value),codeAmong pos ps.toList=some cv->∃ (c:Addr) (o:Obj) (vs:Array Value) (t:Tok),cv=.ref c/\H c=some (.own a)/\h.get? c=some o/\o.data=.fields vs/\vs[1]?=some (.str q t)
 | .met f x=>h.get? a=some (Ib (.ref f) (.ref x))
 | .ext φ=>φ h/\(∃ o,h.get? a=some o)/\∀ h1 h2:Heap,φ h1->(∀ o,h1.get? a=some o->h2.get? a=some o)->φ h2
def HOk (H:Hp) (h:Heap):Prop:=∀ a o,H a=some o->bL P w H h a o
end
section
variable {o:HO}
theorem bL.lt (x:bL P w H h a o):a < h.objs.size:=by
 cases o with
 | lst xs=>obtain ⟨_,_,_,_,e⟩:=x; exact Qp e
 | tup xs=>obtain ⟨_,_,_,_,e⟩:=x; exact Qp e
 | dK kvs=>obtain ⟨_,_,_,_,o,_,_,e,_⟩:=x; exact Qp e
 | dT kvs=>obtain ⟨_,_,_,_,o,_,_,e,_⟩:=x; exact Qp e
 | set S n=>obtain ⟨o,_,_,_,e,_⟩:=x; exact Qp e
 | ins C dx fs=>obtain ⟨_,_,_,e,_⟩:=x; exact Qp e
 | own y=>obtain ⟨_,e⟩:=x; exact Qp e
 | xd fs=>obtain ⟨_,⟨_,_,_,e,_⟩,_⟩:=x; exact Qp e
 | rng lo hi=>obtain ⟨_,_,_,e⟩:=x; exact Qp e
 | frz ob u=>obtain ⟨e,_⟩:=x; exact Qp e
 | tbl ps=>exact Qp (show h.get? a=some _ from x)
 | tab q=>obtain ⟨_,e,_⟩:=x; exact Qp e
 | met f y=>exact Qp (show h.get? a=some _ from x)
 | ext φ=>obtain ⟨_,⟨_,e⟩,_⟩:=x; exact Qp e
theorem Paired.mapP {F G:α->β->Prop}:∀ {l1x:List α} {l2x:List β},Paired F l1x l2x->(∀ a b,F a b->G a b)->Paired G l1x l2x
 := by
 intro l1x l2x h f
 induction h with
 | nil=>exact .nil
 | cons r t ih=>exact .cons (f _ _ r) ih
theorem bL.stay (x:bL P w H h a o) (k:∀ b u,(b=a∨H b=some (.own a))->h.get? b=some u->h'.get? b=some u)
  (ho:∀ b,H b=some (.own a)->H' b=some (.own a)) (ht:∀ b xs,H b=some (.tup xs)->H' b=some (.tup xs)):bL P w H' h' a o:=by
 induction o with
 | lst xs=>obtain ⟨z,its,n,r,e⟩:=x; exact ⟨z,its,n,r,k _ _ (.inl rfl) e⟩
 | tup xs=>obtain ⟨z,its,n,r,e⟩:=x; exact ⟨z,its,n,r,k _ _ (.inl rfl) e⟩
 | dK kvs=>obtain ⟨z,y,vs,r,ob,es,ep,e,c⟩:=x; exact ⟨z,y,vs,r,ob,es,ep,k _ _ (.inl rfl) e,c⟩
 | dT kvs =>
  obtain ⟨z,y,xs,r,ob,es,ep,e,c⟩:=x
  exact ⟨z,y,xs,Paired.mapP r λp q z=>⟨z.1,ht _ _ z.2.1,z.2.2⟩,ob,es,ep,k _ _ (.inl rfl) e,c⟩
 | set S n=>obtain ⟨ob,es,ep,t,e,c⟩:=x; exact ⟨ob,es,ep,t,k _ _ (.inl rfl) e,c⟩
 | ins C dx fs =>
  obtain ⟨d,z,ne,e,mA,⟨od,es,ep,e2,c⟩,r⟩:=x
  exact ⟨ho _ d,z,ne,k _ _ (.inl rfl) e,mA,⟨od,es,ep,k _ _ (.inr d) e2,c⟩,r⟩
 | own y=>obtain ⟨ob,e⟩:=x; exact ⟨ob,k _ _ (.inl rfl) e⟩
 | xd fs=>obtain ⟨mA,⟨od,es,ep,e,c⟩,r⟩:=x; exact ⟨mA,⟨od,es,ep,k _ _ (.inl rfl) e,c⟩,r⟩
 | rng lo hi=>obtain ⟨t,u,v,e⟩:=x; exact ⟨t,u,v,k _ _ (.inl rfl) e⟩
 | frz ob u ih=>obtain ⟨e,q⟩:=x; exact ⟨k _ _ (.inl rfl) e,ih q⟩
 | tbl ps =>
  have e:h.get? a=some { cls:=.none,data:=.fields ps }:=x
  show h'.get? a=some { cls:=.none,data:=.fields ps }
  exact k a _ (.inl rfl) e
 | tab q =>
  obtain ⟨ps,e,z,r⟩:=x
  refine ⟨ps,k _ _ (.inl rfl) e,z,λpos cv q=>?_⟩
  obtain ⟨c,o,vs,t,r1,r2,r3,r4⟩:=r pos cv q
  exact ⟨c,o,vs,t,r1,ho _ r2,k _ _ (.inr r2) r3,r4⟩
 | met f y =>
  have e:h.get? a=some (Ib (.ref f) (.ref y)):=x
  show h'.get? a=some (Ib (.ref f) (.ref y))
  exact k a _ (.inl rfl) e
 | ext φ=>obtain ⟨p,⟨o,e⟩,st⟩:=x; exact ⟨st _ _ p λo q=>k _ _ (.inl rfl) q,⟨o,k _ _ (.inl rfl) e⟩,st⟩
theorem HOk.lt (x:HOk P w H h) (e:H a=some o):a < h.objs.size:=(x a o e).lt
theorem HOk.fresh (x:HOk P w H h) (e:h.objs.size<=a):H a=none:=by
 cases q:H a with
 | none=>rfl
 | some u=>exact absurd (Qy (x.lt q) e) (Jx _)
theorem HOk.kept (x:HOk P w H h) (k:∀ b u,h.get? b=some u->h'.get? b=some u):HOk P w H h':=λa o e =>
 (x a o e).stay (λb u _ q=>k b u q) (λ_ q=>q) λ_ _ q=>q
theorem HOk.laid (x:HOk P w H h) (k:∀ b u,h.get? b=some u->h'.get? b=some u) (hp:h.objs.size<=a) (new:bL P w (upd H a o) h' a o):HOk P w (upd H a o) h':=λb u e=>by
 have hn:=x.fresh hp
 by_cases hb:b=a
 ·subst hb; rw [aB] at e; cases e; exact new
 ·rw [aF hb] at e
  exact (x b u e).stay (λc v _ q=>k c v q) (λc q=>by rw [aF (gJ q hn)]; exact q) λc xs q=>by rw [aF (gJ q hn)]; exact q
end
def Rd (H:Hp) (a:Addr) (u:HO):Prop:=H a=some u∨∃ o,H a=some (.frz o u)
theorem Rd.ok {u:HO} (r:Rd H a u) (x:HOk P w H h):bL P w H h a u:=by
 rcases r with r | ⟨o,r⟩
 ·exact x a u r
 ·obtain ⟨_,q⟩:=x a _ r
  exact q
def Mut:Option HO->Prop
 | some (.lst _)=>True
 | some (.dK _)=>True
 | some (.dT _)=>True
 | some (.set _ _)=>True
 | some (.ins _ _ _)=>True
 | some (.ext _)=>True
 | some (.tab _)=>True
 | _=>False
section
variable {x e:Addr} {o':HO}
theorem HOk.write (ok:HOk P w H h) (mu:Mut (H x)) (he:e=x∨H e=some (.own x)) (k:∀ b u,b≠e->h.get? b=some u->h'.get? b=some u) (heo:∃ u,h'.get? e=some u)
  (new:bL P w (upd H x o') h' x o'):HOk P w (upd H x o') h':=λb u q=>by
 have nown:∀ c y,H c=some (.own y)->c≠x:=λc y r z=>by subst z; rw [r] at mu; exact mu
 have ntup:∀ c xs,H c=some (.tup xs)->c≠x:=λc xs r z=>by subst z; rw [r] at mu; exact mu
 by_cases hb:b=x
 ·subst hb; rw [aB] at q; cases q; exact new
 ·rw [aF hb] at q
  by_cases hbe:b=e
  ·have q':H b=some (.own x):=by
    rcases he with z | z
    ·exact absurd (hbe.trans z) hb
    ·rw [hbe]; exact z
   rw [q] at q'; cases q'
   obtain ⟨v,hv⟩:=heo
   exact ⟨v,by rw [hbe]; exact hv⟩
  ·refine (ok b u q).stay (λc v hc r=>k c v ?_ r) (λc r=>by rw [aF (nown c b r)]; exact r) λc xs r=>by rw [aF (ntup c xs r)]; exact r
   rcases hc with rfl | hc
   ·exact hbe
   ·rintro rfl
    rcases he with z | z
    ·exact nown c b hc z
    ·rw [hc] at z; cases z; exact hb rfl
end
structure Un (fs ex:List Addr) (H H':Hp) (h h':Heap):Prop where
 keep:∀ b o,h.get? b=some o->H b=none->b∉fs->b∉ex->h'.get? b=some o
 slot:∀ b o,h.get? b=some o->H b=none->b∈fs->b∉ex->∃ sl,h'.get? b=some { o with slots:=sl }
 free:∀ b o,h.get? b=some o->H b=none->b∉ex->H' b=none
 there:∀ b o,h.get? b=some o->b∉ex->∃ o',h'.get? b=some o'
 tups:∀ b xs,H b=some (.tup xs)->H' b=some (.tup xs)
 frzs:∀ b o u,H b=some (.frz o u)->H' b=some (.frz o u)
 tbls:∀ b ps,H b=some (.tbl ps)->∃ more,H' b=some (.tbl (ps++more))
section
variable {fs fs' ex ex':List Addr} {h1 h2:Heap} {x e:Addr} {o:HO}
theorem Un.any (u:Un fs ex H H1 h h1) (q:h.get? b=some ob) (n:H b=none) (hx:b∉ex):∃ sl,h1.get? b=some { ob with slots:=sl }:=by
 by_cases hb:b∈fs
 ·exact u.slot b ob q n hb hx
 ·exact ⟨ob.slots,u.keep b ob q n hb hx⟩
theorem Un.kept (k:∀ b u,h.get? b=some u->h'.get? b=some u):Un fs ex H H h h' :=
 ⟨λb ob q _ _ _=>k b ob q,λb ob q _ _ _=>⟨ob.slots,k b ob q⟩,λ_ _ _ n _=>n,λb ob q _=>⟨ob,k b ob q⟩,λ_ _ q=>q,λ_ _ _ q=>q,λ_ ps q=>⟨#[],by rw [q]; simp⟩⟩
theorem Un.refl:Un fs ex H H h h:=Un.kept λ_ _ q=>q
theorem Un.laid (k:∀ b u,h.get? b=some u->h'.get? b=some u) (hp:h.objs.size<=a) (hn:H a=none):Un fs ex H (upd H a o) h h' where
 keep:=λb u q _ _ _=>k b u q
 slot:=λb u q _ _ _=>⟨u.slots,k b u q⟩
 free:=λb u q n _=>by rw [aF (Ja (Qy (Qp q) hp))]; exact n
 there:=λb u q _=>⟨u,k b u q⟩
 tups:=λb xs q=>by rw [aF (gJ q hn)]; exact q
 frzs:=λb u xs q=>by rw [aF (gJ q hn)]; exact q
 tbls:=λb ps q=>⟨#[],by rw [aF (gJ q hn),q]; simp⟩
theorem Un.write (mu:Mut (H x)) (he:e=x∨H e=some (.own x)) (k:∀ b u,b≠e->h.get? b=some u->h'.get? b=some u) (heo:∃ u,h'.get? e=some u):Un fs ex H (upd H x o) h h':=by
 have hx:∀ b,H b=none->b≠x:=λb n z=>by subst z; rw [n] at mu; exact mu
 have hb:∀ b,H b=none->b≠e:=λb n z=>by
  subst z
  rcases he with r | r
  ·exact hx b n r
  ·rw [n] at r; cases r
 have hm:∀ b u,H b=some u->¬ Mut (some u)->b≠x:=λb u q nm z=>by subst z; rw [q] at mu; exact nm mu
 refine ⟨λb u q n _ _=>k b u (hb b n) q,λb u q n _ _=>⟨u.slots,k b u (hb b n) q⟩,λb u q n _=>by rw [aF (hx b n)]; exact n,λb u q _=>?_,
  λb xs q=>by rw [aF (hm b _ q λz=>z)]; exact q,λb u xs q=>by rw [aF (hm b _ q λz=>z)]; exact q,λb ps q=>⟨#[],by rw [aF (hm b _ q λz=>z),q]; simp⟩⟩
 by_cases hbe:b=e
 ·subst hbe; exact heo
 ·exact ⟨u,k b u hbe q⟩
end
def trk (h:Heap) (H:Hp):List Addr:=(List.range h.objs.size).filter λa=>(H a).isSome
def tL (h:Heap) (H:Hp):Heap:=PySem.W.hideAll h (trk h H)
theorem aCc (h:Heap) (H:Hp):(tL h H).objs.size=h.objs.size:=PySem.W.hideAll_size _ _
theorem aDb (e:h.get? b=some o) (n:H b=none):(tL h H).get? b=some o :=
 PySem.W.hideAll_get _ e λhm=>by
  have q:(H b).isSome=true:=(Jy.mp hm).2
  rw [n] at q; simp at q
theorem aEX (e:(tL h H).get? b=some o):h.get? b=some o/\H b=none:=by
 have e':h.get? b=some o:=PySem.W.of_hideAll (trk h H) e
 refine ⟨e',?_⟩
 cases q:H b with
 | none=>rfl
 | some x =>
  have hm:b∈trk h H:=Jy.mpr ⟨Jf.mpr (Qp e'),by simp [q]⟩
  have z:(tL h H).get? b=none:=PySem.W.hideAll_none (trk h H) hm
  rw [z] at e; cases e
def aEY (g h:Heap) (L:Addr):List (Addr×Obj):=(List.range h.objs.size).filterMap λa=>if a=L∨(g.get? a).isSome=true then none else (h.get? a).map λo=>(a,o)
def iW (g h:Heap) (L d:Addr):List (Addr×Obj):=(aEY g h L).filter λp=>decide (p.1≠d)
structure Mod (K:Rc) (mg:Str->Option Value) (base:Heap):Prop where
 kin:K.In base
 glob:base.Ns mainGlobals mg
 blt:∃ mb,base.Ns builtinsNs mb/\∀ x:Str,x ≠ "__name__" -> mb x=bootBuiltins x
 nolimit:base.NoLimit
 mods:∃ mm,base.Ns sysModules mm
structure Cx where
 prog:Program
 w:World
 K:Rc
 mg:Str->Option Value
 base:Heap
 A:Around
 N:List Str
 s0x:Shared
 H0x:Hp
 env:Env
 outer:List Env
 stack:List Env
 ex:List Addr
 fn:Str->Bool
 calm:Bool
 pn:List (Addr×Obj)
 xe:Value->Shared->Prop
end L2
variable {X Y:Cx}
namespace L2
open PySem PySem.Spec PyProof.Rows
def frs (l:List Env):List Addr:=l.filterMap (·.frame)
abbrev Cx.fs (X:Cx):List Addr:=frs X.outer
def Vis (sc:Scope) (x:Str):Prop:=sc.names.lookup x=some .local∨sc.names.lookup x=some .cell∨sc.names.lookup x=some .free
def Loc (sc:Scope) (x:Str):Prop:=sc.names.lookup x=some .local∨sc.names.lookup x=some .cell
def aHj (env:Env) (h:Heap) (m:Str->Option Value) (x:Str) (u:Value):Prop :=
 (env.kindOf x=some .local/\m x=some u)∨((env.kindOf x=some .cell∨env.kindOf x=some .free)/\∃ c,env.cells.lookup x=some c/\h.IsCell c (some u))
structure Cx.Ok (X:Cx):Prop where
 mod:Mod X.K X.mg X.base
 kind:X.env.scope.kind=.function
 glob:X.env.globals=mainGlobals
 blt:X.env.builtins=builtinsNs
 above:X.s0x.heap.objs.size<=X.env.locals
 inj:∀ x y c,X.env.cells.lookup x=some c->X.env.cells.lookup y=some c->x=y
 has:∀ x,(X.env.kindOf x=some .cell∨X.env.kindOf x=some .free)->∃ c,X.env.cells.lookup x=some c
 cab:∀ x c,X.fn x=true->X.env.cells.lookup x=some c->X.s0x.heap.objs.size<=c
 hd:X.calm=true->X.A.handled=none
 frames:X.A.frames=some X.stack
 stk:X.stack=X.outer∨(X.stack=X.env::X.outer/\X.env.frame=some X.env.locals)
 exf:∀ b∈X.ex,b≠X.env.locals/\∀ x c,X.env.cells.lookup x=some c->c≠b
 bs:∀ b o,X.base.get? b=some o->X.s0x.heap.get? b=some o/\X.H0x b=none
 bsz:X.base.objs.size<=X.s0x.heap.objs.size
 noex:∀ b o,X.base.get? b=some o->b∉X.ex
 exfs:∀ b∈X.ex,b∉X.fs
 funs:X.s0x.heap.FunFrames X.base X.outer
 frf:∀ b∈X.fs,X.H0x b=none
structure Inv (X:Cx) (pins:List (Addr×Obj)) (σ:List (Option V)) (H:Hp) (s:Shared):Prop where
 ok:X.Ok
 os:s.os=X.s0x.os
 bare:AllBare s.gens
 base:Un X.fs X.ex X.H0x H X.s0x.heap s.heap
 loc:∃ m,s.heap.Ns X.env.locals m/\∀ (i:Nat) (x:Str) (v:V),X.N[i]?=some x->σ[i]?=some (some v)->Vis X.env.scope x->∃ u,bS v u/\aHj X.env s.heap m x u
 cell:∀ x c,X.env.cells.lookup x=some c->∃ v,s.heap.IsCell c v
 free:H X.env.locals=none
 freeC:∀ x c,X.env.cells.lookup x=some c->H c=none
 pin:∀ p∈X.pn++pins,s.heap.get? p.1=some p.2/\H p.1=none/\p.1≠X.env.locals/\p.1∉X.fs/\∀ v,p.2.data≠.cell v
 hok:HOk X.prog X.w H s.heap
 len:σ.length=X.N.length
section
variable {σ:List (Option V)}
theorem Cx.Ok.nofr (ok:X.Ok) (e:X.base.get? b=some o):b∉X.fs:=λhb=>by
 have:=(ok.funs.mem hb).1
 rw [e] at this; cases this
theorem Inv.bs (I:Inv X pins σ H s):∀ b o,X.base.get? b=some o->s.heap.get? b=some o/\H b=none:=λb o e =>
 ⟨I.base.keep b o (I.ok.bs b o e).1 (I.ok.bs b o e).2 (I.ok.nofr e) (I.ok.noex b o e),I.base.free b o (I.ok.bs b o e).1 (I.ok.bs b o e).2 (I.ok.noex b o e)⟩
theorem Inv.bk (I:Inv X pins σ H s):∀ b o,X.base.get? b=some o->s.heap.get? b=some o:=λb o e=>(I.bs b o e).1
theorem Inv.mod (I:Inv X pins σ H s):Mod X.K X.mg X.base:=I.ok.mod
theorem Inv.kIn (I:Inv X pins σ H s):X.K.In s.heap:=I.ok.mod.kin.keeps I.bk
theorem Inv.nolimit (I:Inv X pins σ H s):s.heap.NoLimit:=I.ok.mod.nolimit.keeps I.bk
theorem Inv.lt (I:Inv X pins σ H s):X.env.locals < s.heap.objs.size:=let ⟨_,hn,_⟩:=I.loc; hn.lt
theorem Inv.sz (I:Inv X pins σ H s):X.s0x.heap.objs.size<=s.heap.objs.size:=Jl I.ok.above (Yw I.lt)
theorem Inv.nofs (I:Inv X pins σ H s) (h:s.heap.objs.size<=a):a∉X.fs:=λhb=>by
 obtain ⟨_,o,ho,_⟩:=I.ok.funs.mem hb
 exact absurd (Qy (Qp ho) (Jl I.sz h)) (Jx _)
theorem Inv.cne (I:Inv X pins σ H s):∀ x c,X.env.cells.lookup x=some c->c≠X.env.locals:=λx c e z=>by
 obtain ⟨v,o,ho,hd⟩:=I.cell x c e
 obtain ⟨m,⟨o',es,ep,ho',hd',_⟩,_⟩:=I.loc
 rw [z,ho'] at ho; cases ho; rw [hd'] at hd; cases hd
theorem Inv.funs (I:Inv X pins σ H s):s.heap.FunFrames X.base X.outer:=by
 have all:∀ (l:List Env),(∀ b∈frs l,b∈X.fs)->X.s0x.heap.FunFrames X.base l->s.heap.FunFrames X.base l:=by
  intro l
  induction l with
  | nil=>intro _ _; trivial
  | cons env r ih =>
   intro hs hl
   obtain ⟨hk,⟨L,o,hf,hn,ho,hd⟩,hr⟩:=hl
   have hL:L∈X.fs:=hs L (by unfold frs; rw [Zp,hf]; exact Qi)
   obtain ⟨sl,e⟩:=I.base.slot L o ho (I.ok.frf L hL) hL λz=>I.ok.exfs L z hL
   exact ⟨hk,⟨L,_,hf,hn,e,hd⟩,ih (λb hb=>hs b (by unfold frs; rw [Zp,hf]; exact Qk _ hb)) hr⟩
 exact all X.outer (λ_ hb=>hb) I.ok.funs
theorem Inv.stack (I:Inv X pins σ H s):s.heap.FunFrames X.base X.stack:=by
 rcases I.ok.stk with e | ⟨e,hf⟩
 ·rw [e]; exact I.funs
 ·rw [e]
  obtain ⟨m,hn,_⟩:=I.loc
  refine .cons (by rw [I.ok.kind]; decide) hf hn ?_ I.funs
  exact Heap.get?_none_of_le (Jl I.ok.bsz I.ok.above)
theorem Inv.stkSub (I:Inv X pins σ H s):∀ b∈frs X.stack,b∈X.env.locals::X.fs:=λb hb=>by
 rcases I.ok.stk with e | ⟨e,hf⟩
 ·rw [e] at hb; exact Qk _ hb
 ·rw [e] at hb
  unfold frs at hb
  rw [Zp,hf] at hb
  exact hb
theorem Inv.stkFree (I:Inv X pins σ H s):∀ b∈frs X.stack,H b=none:=λb hb=>by
 rcases Qm.mp (I.stkSub b hb) with e | hb
 ·rw [e]; exact I.free
 ·obtain ⟨_,o,ho,_⟩:=I.ok.funs.mem hb
  exact I.base.free b o ho (I.ok.frf b hb) λz=>I.ok.exfs b z hb
theorem Inv.step {g':Array GenState} {d':Drawn} (I:Inv X pins σ H s) (hch:∀ b∈ch,(b∈X.ex∨X.s0x.heap.objs.size<=b)/\b≠X.env.locals/\(∀ x c,X.env.cells.lookup x=some c->c≠b)/\∀ p∈X.pn++pins,p.1≠b) (keep:∀ b o,b≠X.env.locals->b∉X.fs->b∉ch->s.heap.get? b=some o->H b=none->h'.get? b=some o) (slot:∀ b o,b≠X.env.locals->b∈X.fs->b∉ch->s.heap.get? b=some o->H b=none->∃ sl,h'.get? b=some { o with slots:=sl }) (free:∀ b o,b∉ch->s.heap.get? b=some o->H b=none->H' b=none) (there:∀ b o,b∉ch->s.heap.get? b=some o->∃ o',h'.get? b=some o') (tups:∀ b xs,H b=some (.tup xs)->H' b=some (.tup xs)) (frzs:∀ b o u,H b=some (.frz o u)->H' b=some (.frz o u)) (tbls:∀ b ps,H b=some (.tbl ps)->∃ more,H' b=some (.tbl (ps++more))) (ns:∀ m,s.heap.Ns X.env.locals m->h'.Ns X.env.locals m) (hok:HOk X.prog X.w H' h') (hg:AllBare g') :
  Inv X pins σ H' { s with heap:=h',gens:=g',drawn:=d',toks:=t' }:=by
 have neL:∀ b o,X.s0x.heap.get? b=some o->b≠X.env.locals:=λb o e=>Ja (Qy (Qp e) I.ok.above)
 have neC:∀ b o,X.s0x.heap.get? b=some o->b∉X.ex->b∉ch:=λb o e hx hb=>by
  rcases (hch b hb).1 with z | z
  ·exact hx z
  ·exact absurd (Qy (Qp e) z) (Jx _)
 have cellK:∀ x c,X.env.cells.lookup x=some c->∀ v,s.heap.IsCell c v->h'.IsCell c v:=λx c e v ⟨o,ho,hd⟩=>by
  have nch:c∉ch:=λz=>(hch c z).2.2.1 x c e rfl
  by_cases hc:c∈X.fs
  ·obtain ⟨sl,q⟩:=slot c o (I.cne x c e) hc nch ho (I.freeC x c e)
   exact ⟨_,q,hd⟩
  ·exact ⟨o,keep c o (I.cne x c e) hc nch ho (I.freeC x c e),hd⟩
 refine ⟨I.ok,I.os,hg,⟨λb o e n hb hx=>?_,λb o e n hb hx=>?_,λb o e n hx=>?_,λb o e hx=>?_,λb xs e=>tups b xs (I.base.tups b xs e),λb o xs e=>frzs b o xs (I.base.frzs b o xs e),λb ps e=>?_⟩,?_,λx c e=>?_,?_,λx c e=>?_,λp hp=>?_,hok,I.len⟩
 ·exact keep b o (neL b o e) hb (neC b o e hx) (I.base.keep b o e n hb hx) (I.base.free b o e n hx)
 ·obtain ⟨sl,e1⟩:=I.base.slot b o e n hb hx
  obtain ⟨sl',e2⟩:=slot b _ (neL b o e) hb (neC b o e hx) e1 (I.base.free b o e n hx)
  exact ⟨sl',e2⟩
 ·obtain ⟨o',e1⟩:=I.base.there b o e hx
  exact free b o' (neC b o e hx) e1 (I.base.free b o e n hx)
 ·obtain ⟨o',e1⟩:=I.base.there b o e hx
  exact there b o' (neC b o e hx) e1
 ·obtain ⟨m1,e1⟩:=I.base.tbls b ps e
  obtain ⟨m2,e2⟩:=tbls b _ e1
  exact ⟨m1++m2,by rw [e2,Array.append_assoc]⟩
 ·obtain ⟨m,hn,hl⟩:=I.loc
  refine ⟨m,ns m hn,λi x v e1 e2 e3=>?_⟩
  obtain ⟨u,r,l⟩:=hl i x v e1 e2 e3
  refine ⟨u,r,?_⟩
  rcases l with l | ⟨k,c,e,z⟩
  ·exact .inl l
  ·exact .inr ⟨k,c,e,cellK x c e _ z⟩
 ·obtain ⟨v,z⟩:=I.cell x c e
  exact ⟨v,cellK x c e v z⟩
 ·obtain ⟨m,⟨o,_,_,ho,_⟩,_⟩:=I.loc
  exact free _ o (λz=>(hch _ z).2.1 rfl) ho I.free
 ·obtain ⟨v,o,ho,hd⟩:=I.cell x c e
  exact free c o (λz=>(hch c z).2.2.1 x c e rfl) ho (I.freeC x c e)
 ·obtain ⟨e,n,ne,nf,d⟩:=I.pin p hp
  have nch:p.1∉ch:=λz=>(hch p.1 z).2.2.2 p hp rfl
  exact ⟨keep p.1 p.2 ne nf nch e n,free p.1 p.2 nch e n,ne,nf,d⟩
theorem Inv.un (I:Inv X pins σ H s) (u:Un X.fs [] H H' s.heap h') (hok:HOk X.prog X.w H' h'):Inv X pins σ H' { s with heap:=h',toks:=t' }:=by
 obtain ⟨m,⟨o,es,ep,ho,r⟩,_⟩:=id I.loc
 obtain ⟨sl,hL⟩:=u.any ho I.free (by simp)
 exact I.step (g':=s.gens) (d':=s.drawn) (ch:=[]) (λ_ z=>nomatch z) (λb o _ hb _ e n=>u.keep b o e n hb (by simp)) (λb o _ hb _ e n=>u.slot b o e n hb (by simp)) (λb o _ e n=>u.free b o e n (by simp)) (λb o _ e=>u.there b o e (by simp)) u.tups u.frzs u.tbls (λm' hm=>by
  obtain ⟨o',es',ep',ho',r'⟩:=hm
  rw [ho] at ho'; cases ho'
  exact ⟨_,es',ep',hL,r'⟩) hok I.bare
theorem Inv.call {g':Array GenState} {d':Drawn} (I:Inv X pins σ H s) (u:Un (frs X.stack) ch H H' s.heap h') (hok:HOk X.prog X.w H' h') (hg:AllBare g') (hch:∀ b∈ch,(b∈X.ex∨X.s0x.heap.objs.size<=b)/\b≠X.env.locals/\(∀ x c,X.env.cells.lookup x=some c->c≠b)/\∀ p∈X.pn++pins,p.1≠b) :
  Inv X pins σ H' { s with heap:=h',gens:=g',drawn:=d',toks:=t' }:=by
 obtain ⟨m,⟨o,es,ep,ho,r⟩,_⟩:=id I.loc
 obtain ⟨sl,hL⟩:=u.any ho I.free λz=>(hch _ z).2.1 rfl
 exact I.step (ch:=ch) hch (λb o hL hb hc e n=>u.keep b o e n (λz=>(Qm.mp (I.stkSub b z)).elim hL hb) hc) (λb o _ _ hc e n=>u.any e n hc) (λb o hc e n=>u.free b o e n hc) (λb o hc e=>u.there b o e hc) u.tups u.frzs u.tbls (λm' hm=>by
  obtain ⟨o',es',ep',ho',r'⟩:=hm
  rw [ho] at ho'; cases ho'
  exact ⟨_,es',ep',hL,r'⟩) hok hg
theorem Inv.turned (I:Inv X pins σ H s) (k:∀ b o,b≠it->s.heap.get? b=some o->h'.get? b=some o) (hn:H it=none) (hL:it≠X.env.locals) (h1:it∈X.ex∨X.s0x.heap.objs.size<=it) (h2:∀ x c,X.env.cells.lookup x=some c->c≠it) (h3:∀ p∈X.pn++pins,p.1≠it):Inv X pins σ H { s with heap:=h',toks:=t' }:=by
 have nit:∀ b u,H b=some u->b≠it:=λb u e z=>by rw [z,hn] at e; cases e
 refine I.step (g':=s.gens) (d':=s.drawn) (ch:=[it]) (λb hb=>?_) (λb o _ _ hc e _=>k b o (λz=>hc (by simp [z])) e) (λb o _ _ hc e _=>⟨o.slots,k b o (λz=>hc (by simp [z])) e⟩) (λ_ _ _ _ n=>n)
  (λb o hc e=>⟨o,k b o (λz=>hc (by simp [z])) e⟩) (λ_ _ e=>e) (λ_ _ _ e=>e) (λb ps e=>⟨#[],by rw [e]; simp⟩) (λm hm=>?_) (λb u e=>?_) I.bare
 ·have e:b=it:=by simpa using hb
  subst e
  exact ⟨h1,hL,h2,h3⟩
 ·obtain ⟨o,es,ep,ho,r⟩:=hm
  exact ⟨o,es,ep,k _ o (Ne.symm hL) ho,r⟩
 ·refine (I.hok b u e).stay (λc v hc q=>k c v ?_ q) (λ_ q=>q) λ_ _ q=>q
  rcases hc with z | z
  ·rw [z]; exact nit b u e
  ·exact nit c _ z
theorem Inv.tok (I:Inv X pins σ H s) (t:Nat):Inv X pins σ H { s with toks:=t }:=I.un (h':=s.heap) (t':=t) Un.refl I.hok
theorem Inv.kept (I:Inv X pins σ H s) (k:∀ b u,s.heap.get? b=some u->h'.get? b=some u):Inv X pins σ H { s with heap:=h',toks:=t' }:=I.un (Un.kept k) (I.hok.kept k)
theorem Inv.laid {o:HO} (I:Inv X pins σ H s) (k:∀ b u,s.heap.get? b=some u->h'.get? b=some u) (hp:s.heap.objs.size<=a) (new:bL X.prog X.w (upd H a o) h' a o) :
  Inv X pins σ (upd H a o) { s with heap:=h',toks:=t' }:=I.un (Un.laid k hp (I.hok.fresh hp)) (I.hok.laid k hp new)
theorem Inv.write {x e:Addr} {o:HO} (I:Inv X pins σ H s) (mu:Mut (H x)) (he:e=x∨H e=some (.own x)) (k:∀ b u,b≠e->s.heap.get? b=some u->h'.get? b=some u) (heo:∃ u,h'.get? e=some u) (new:bL X.prog X.w (upd H x o) h' x o):Inv X pins σ (upd H x o) { s with heap:=h',toks:=t' }:=I.un (Un.write mu he k heo) (I.hok.write mu he k heo new)
theorem Inv.pins_of {pins':List (Addr×Obj)} (I:Inv X pins σ H s) (h:∀ p∈pins',s.heap.get? p.1=some p.2/\H p.1=none/\p.1≠X.env.locals/\p.1∉X.fs/\∀ v,p.2.data≠.cell v):Inv X pins' σ H s :=
 ⟨I.ok,I.os,I.bare,I.base,I.loc,I.cell,I.free,I.freeC,λp hp=>(Jg.mp hp).elim (λz=>I.pin p (Jw _ z)) (h p),I.hok,I.len⟩
theorem xC (hN:N.Nodup) {x:Str} (a:N[i]?=some x) (b:N[j]?=some x):i=j:=by
 obtain ⟨h1,e1⟩:=Qd.mp a
 obtain ⟨h2,e2⟩:=Qd.mp b
 exact (List.getElem_inj hN).mp (e1.trans e2.symm)
theorem uE {x:Str} {Q:Unit->Shared->Prop} (I:Inv X pins σ H s) (hN:X.N.Nodup) (hi:X.N[i]?=some x) (hx:Loc X.env.scope x) (r:bS v u) (h:∀ s',Inv X pins (σ.set i (some v)) H s'->(∃ a,Heap.SameBut a s.heap s'.heap/\(a=X.env.locals∨X.env.cells.lookup x=some a))->Q () s') (hf:X.fn x=true∨X.env.scope.names.lookup x=some .local:=by first | exact .inl rfl | exact .inr rfl | assumption):wpAny M A (storeName X.env x u) Q E s:=by
 obtain ⟨m,hn,hl⟩:=id I.loc
 have hcls:(X.env.scope.kind==.class || (X.env.scope.kind==.module && X.env.locals !=X.env.globals))=false:=by rw [I.ok.kind]; rfl
 have hiσ:i < σ.length:=by rw [I.len]; exact (Qd.mp hi).1
 have cne:=I.cne
 have tracked:∀ {a:Addr} {h':Heap},(∃ o,s.heap.get? a=some o/\H a=none)->Heap.SameBut a s.heap h'->HOk X.prog X.w H h':=λ{a h'} ha hs b ob e=>by
  obtain ⟨_,_,hfree⟩:=ha
  refine (I.hok b ob e).stay (λc w' hc q=>(hs.2 c ?_).trans q) (λ_ q=>q) λ_ _ q=>q
  rintro rfl
  rcases hc with rfl | hc
  ·rw [hfree] at e; cases e
  ·rw [hfree] at hc; cases hc
 rcases hx with hk | hk
 ·refine wpAny_storeName_local hk hn (λh' hn' hs=>?_) hcls
  obtain ⟨oL,_,_,hoL,_⟩:=id hn
  refine h _ ⟨I.ok,I.os,I.bare,⟨λb o e n hb hx=>?_,λb o e n hb hx=>?_,I.base.free,λb o e hx=>?_,I.base.tups,I.base.frzs,I.base.tbls⟩,⟨_,hn',λj y v' e1 e2 e3=>?_⟩,λy c e=>?_,I.free,I.freeC,λp hp=>?_,tracked ⟨oL,hoL,I.free⟩ hs,by simpa using I.len⟩ ⟨_,hs,.inl rfl⟩
  ·exact (hs.2 b (Ja (Qy (Qp e) I.ok.above))).trans (I.base.keep b o e n hb hx)
  ·obtain ⟨sl,e1⟩:=I.base.slot b o e n hb hx
   exact ⟨sl,(hs.2 b (Ja (Qy (Qp e) I.ok.above))).trans e1⟩
  ·obtain ⟨o',e1⟩:=I.base.there b o e hx
   exact ⟨o',(hs.2 b (Ja (Qy (Qp e) I.ok.above))).trans e1⟩
  ·by_cases hj:j=i
   ·subst hj
    rw [hi] at e1; cases e1
    rw [Qah hiσ] at e2
    cases e2
    exact ⟨u,r,.inl ⟨hk,by simp⟩⟩
   ·rw [Wd (Ne.symm hj)] at e2
    obtain ⟨u',r',q⟩:=hl j y v' e1 e2 e3
    refine ⟨u',r',?_⟩
    rcases q with ⟨k,e⟩ | ⟨k,c,e,z⟩
    ·refine .inl ⟨k,?_⟩
     have:y≠x:=λe=>hj (xC hN e1 (e ▸ hi))
     simp [this,e]
    ·exact .inr ⟨k,c,e,z.sameBut hs (cne y c e)⟩
  ·obtain ⟨w',z⟩:=I.cell y c e
   exact ⟨w',z.sameBut hs (cne y c e)⟩
  ·obtain ⟨e,n,ne,nf,d⟩:=I.pin p hp
   exact ⟨(hs.2 p.1 ne).trans e,n,ne,nf,d⟩
 ·have hfn:X.fn x=true:=by
   rcases hf with z | z
   ·exact z
   ·rw [z] at hk; cases hk
  obtain ⟨c,hc⟩:=I.ok.has x (.inl hk)
  obtain ⟨w',z⟩:=I.cell x c hc
  refine wpAny_storeName_cell I.ok.kind hk hc z (λh' hc' hs=>?_)
  obtain ⟨oc,hoc,hocd⟩:=id z
  refine h { s with heap:=h' } ⟨I.ok,I.os,I.bare,⟨λb o e n hb hx=>?_,λb o e n hb hx=>?_,I.base.free,λb o e hx=>?_,I.base.tups,I.base.frzs,I.base.tbls⟩,⟨m,hn.sameBut hs (Ne.symm (cne x c hc)),λj y v' e1 e2 e3=>?_⟩,λy c' e=>?_,I.free,I.freeC,λp hp=>?_,tracked ⟨oc,hoc,I.freeC x c hc⟩ hs,by simpa using I.len⟩ ⟨c,hs,.inr hc⟩
  ·exact (hs.2 b (Ja (Qy (Qp e) (I.ok.cab x c hfn hc)))).trans (I.base.keep b o e n hb hx)
  ·obtain ⟨sl,e1⟩:=I.base.slot b o e n hb hx
   exact ⟨sl,(hs.2 b (Ja (Qy (Qp e) (I.ok.cab x c hfn hc)))).trans e1⟩
  ·obtain ⟨o',e1⟩:=I.base.there b o e hx
   exact ⟨o',(hs.2 b (Ja (Qy (Qp e) (I.ok.cab x c hfn hc)))).trans e1⟩
  ·by_cases hj:j=i
   ·subst hj
    rw [hi] at e1; cases e1
    rw [Qah hiσ] at e2
    cases e2
    exact ⟨u,r,.inr ⟨.inl hk,c,hc,hc'⟩⟩
   ·rw [Wd (Ne.symm hj)] at e2
    obtain ⟨u',r',q⟩:=hl j y v' e1 e2 e3
    refine ⟨u',r',?_⟩
    rcases q with q | ⟨k,c',e,z'⟩
    ·exact .inl q
    ·refine .inr ⟨k,c',e,z'.sameBut hs ?_⟩
     rintro rfl
     exact hj (xC hN e1 (I.ok.inj _ _ _ e hc ▸ hi))
  ·by_cases hcc:c'=c
   ·subst hcc; exact ⟨_,hc'⟩
   ·obtain ⟨w2,z2⟩:=I.cell y c' e
    exact ⟨w2,z2.sameBut hs hcc⟩
  ·obtain ⟨e,n,ne,nf,d⟩:=I.pin p hp
   refine ⟨(hs.2 p.1 ?_).trans e,n,ne,nf,d⟩
   intro q
   rw [q,hoc] at e
   have q':oc=p.2:=Option.some.inj e
   exact d w' (by rw [<- q']; exact hocd)
theorem xD {x:Str} {Q:Unit->Shared->Prop} (I:Inv X pins σ H s) (hN:X.N.Nodup) (hi:X.N[i]?=some x) (hx:Loc X.env.scope x) (r:bS v u) (h:∀ s',Inv X pins (σ.set i (some v)) H s'->Q () s') (hf:X.fn x=true∨X.env.scope.names.lookup x=some .local:=by first | exact .inl rfl | exact .inr rfl | assumption):wpAny M A (storeName X.env x u) Q E s :=
 uE I hN hi hx r (λs' I' _=>h s' I') hf
theorem Inv.call' (I:Inv X pins σ H s) (ho:s'.os=s.os) (u:Un (frs X.stack) ch H H' s.heap s'.heap) (hok:HOk X.prog X.w H' s'.heap) (hg:AllBare s'.gens) (hch:∀ b∈ch,(b∈X.ex∨X.s0x.heap.objs.size<=b)/\b≠X.env.locals/\(∀ x c,X.env.cells.lookup x=some c->c≠b)/\∀ p∈X.pn++pins,p.1≠b):Inv X pins σ H' s':=by
 obtain ⟨h',g',d',t',o'⟩:=s'
 have e:o'=s.os:=ho
 subst e
 exact I.call (g':=g') (t':=t') (d':=d') u hok hg hch
end
abbrev XK:=Value->Option Addr->Hp->Prop
abbrev St:=List (Option V)
abbrev VK:=V->Hp->Prop
abbrev TE:=St->Hp->VK->Prop
end L2
variable {ta te to tl tk tv ts td:TE}
namespace L2
open PySem PySem.Spec PyProof.Rows
abbrev TT:=St->Hp->(Bool->Hp->Prop)->Prop
end L2
variable {tt:TT}
namespace L2
open PySem PySem.Spec PyProof.Rows
abbrev TA:=St->Hp->(List V->Hp->Prop)->Prop
end L2
variable {tr:TA}
namespace L2
open PySem PySem.Spec PyProof.Rows
structure Ends where
 nx:St->Hp->Prop
 rt:VK
 bk:St->Hp->Prop:=λ_ _=>False
 ct:St->Hp->Prop:=λ_ _=>False
end L2
variable {D:Ends}
namespace L2
open PySem PySem.Spec PyProof.Rows
abbrev TS:=Ends->St->Hp->Prop
end L2
variable {tb:TS}
namespace L2
open PySem PySem.Spec PyProof.Rows
def EP (X:Cx) (pins:List (Addr×Obj)) (σ:St) (Q:VK) (u:Value) (s':Shared):Prop:=∃ v H',Inv X pins σ H' s'/\bS v u/\Q v H'
def TP (X:Cx) (pins:List (Addr×Obj)) (σ:St) (Q:Bool->Hp->Prop) (b:Bool) (s':Shared):Prop:=∃ H',Inv X pins σ H' s'/\Q b H'
def AP (X:Cx) (pins:List (Addr×Obj)) (σ:St) (Q:List V->Hp->Prop) (us:List Value) (s':Shared):Prop:=∃ vs H',Inv X pins σ H' s'/\bO vs us/\Q vs H'
def SP (X:Cx) (pins:List (Addr×Obj)) (D:Ends) (f:Flow) (s':Shared):Prop :=
 match f with
 | .next=>∃ σ' H',Inv X pins σ' H' s'/\D.nx σ' H'
 | .brk=>∃ σ' H',Inv X pins σ' H' s'/\D.bk σ' H'
 | .cont=>∃ σ' H',Inv X pins σ' H' s'/\D.ct σ' H'
 | .ret u=>∃ v σ' H',Inv X pins σ' H' s'/\bS v u/\D.rt v H'
def PE (X:Cx) (e:Expr) (t:TE):Prop :=
 ∀ (pins:List (Addr×Obj)) (s:Shared) (σ:St) (H:Hp) (Q:VK),Inv X pins σ H s->t σ H Q->wpAny (model X.prog X.w) X.A (eval e X.env) (EP X pins σ Q) X.xe s
def PT (X:Cx) (e:Expr) (t:TT):Prop :=
 ∀ (pins:List (Addr×Obj)) (s:Shared) (σ:St) (H:Hp) (Q:Bool->Hp->Prop),Inv X pins σ H s->t σ H Q->wpAny (model X.prog X.w) X.A (isTrue e X.env (eval e X.env)) (TP X pins σ Q) X.xe s
def PW (X:Cx) (e:Expr) (t:TT):Prop :=
 ∀ (whole:Sem Value) (pins:List (Addr×Obj)) (s:Shared) (σ:St) (H:Hp) (Q:Bool->Hp->Prop),Inv X pins σ H s->t σ H Q->wpAny (model X.prog X.w) X.A (isTrue e X.env whole) (TP X pins σ Q) X.xe s
theorem PW.pt {t:TT} (h:PW X e t):PT X e t:=h _
def PA (X:Cx) (es:List Expr) (t:TA):Prop :=
 ∀ (pos:Pos) (pins:List (Addr×Obj)) (s:Shared) (σ:St) (H:Hp) (Q:List V->Hp->Prop),Inv X pins σ H s->t σ H Q->wpAny (model X.prog X.w) X.A (spliced (backTo pos (starEach es X.env))) (AP X pins σ Q) X.xe s
def PS (X:Cx) (st:Stmt) (t:TS):Prop :=
 ∀ (pins:List (Addr×Obj)) (s:Shared) (σ:St) (H:Hp) (D:Ends),Inv X pins σ H s->t D σ H->wpAny (model X.prog X.w) X.A (exec st X.env) (SP X pins D) X.xe s
def PSs (X:Cx) (st:List Stmt) (t:TS):Prop :=
 ∀ (pins:List (Addr×Obj)) (s:Shared) (σ:St) (H:Hp) (D:Ends),Inv X pins σ H s->t D σ H->wpAny (model X.prog X.w) X.A (execs st X.env) (SP X pins D) X.xe s
theorem thn {t:Sem α} {Q Q':α->Shared->Prop} (h:wpAny M A t Q E s) (hQ:∀ a s,Q a s->Q' a s):wpAny M A t Q' E s:=Rr h hQ λ_ _ x=>x
section
def aCd (i:Nat):TE:=λσ H Q=>∃ v,σ[i]?=some (some v)/\Q v H
abbrev tC (v:V):TE:=λ_ H Q=>Q v H
theorem aGx {x:Str} (hN:X.N[i]?=some x) (hv:Vis X.env.scope x) (hd:(x==("__debug__" : Str))=false:=by decide) (hcd:(x==("__classdict__" : Str))=false:=by decide):PE X (.Name x pos) (aCd i):=by
 intro pins s σ H Q I h
 obtain ⟨v,e,h⟩:=h
 obtain ⟨m,hn,hl⟩:=I.loc
 obtain ⟨u,r,l⟩:=hl i x v hN e hv
 have fin:EP X pins σ Q u s:=⟨v,H,I,r,h⟩
 rcases l with ⟨hk,hm⟩ | ⟨hk,c,hc,hcell⟩
 ·exact Ir (Rai I.ok.kind hk hn hm fin) hd
 ·rcases hk with hk | hk
  ·exact Ir (wpAny_loadName_cell I.ok.kind hk hc hcell fin) hd
  ·exact Ir (Ran I.ok.kind hk hc hcell fin hcd) hd
theorem aG {i j pos}:PE X (.Constant (.int i) j pos) (tC (.int i)):=λ_ _ _ H _ I h=>wpAny_Constant_int ⟨.int i,H,I.tok _,⟨_,rfl⟩,h⟩
theorem eY {b j pos}:PE X (.Constant (.bool b) j pos) (tC (.bl b)):=λ_ _ _ H _ I h=>Constant_bool ⟨.bl b,H,I,rfl,h⟩
theorem aGy {j pos}:PE X (.Constant .none j pos) (tC .non):=λ_ _ _ H _ I h=>Constant_none ⟨.non,H,I,rfl,h⟩
theorem aAg {x j pos}:PE X (.Constant (.str x) j pos) (tC (.str x)):=λ_ _ _ H _ I h=>Calls.Constant_str ⟨.str x,H,I.tok _,⟨_,rfl⟩,h⟩
def Gl (X:Cx) (x:Str):Prop:=X.env.kindOf x=some .globalImplicit
theorem aA7 {σ:St} {x:Str} (I:Inv X pins σ H s) (hg:Gl X x) (hm:X.mg x=some u) (h:Q u s) (hd:(x==("__debug__" : Str))=false:=by decide):wpAny (model X.prog X.w) X.A (eval (.Name x pos) X.env) Q E s :=
 Calls.Name_function_global I.ok.kind hg (Calls.loadGlobal_global (by rw [I.ok.glob]; exact I.mod.glob.keeps I.bk) hm h) hd
theorem iL {σ:St} {x:Str} (I:Inv X pins σ H s) (hg:Gl X x) (hm:X.mg x=none) (hv:bootBuiltins x=some u) (h:Q u s) (hn:x ≠ "__name__" := by decide) (hd:(x==("__debug__" : Str))=false:=by decide):wpAny (model X.prog X.w) X.A (eval (.Name x pos) X.env) Q E s:=by
 obtain ⟨mb,h1,h2⟩:=I.mod.blt
 exact Calls.Name_function_global I.ok.kind hg (Calls.loadGlobal_builtin (by rw [I.ok.glob]; exact I.mod.glob.keeps I.bk) hm (by rw [I.ok.blt]; exact h1.keeps I.bk) ((h2 x hn).trans hv) h) hd
theorem aA8 {x:Str} (hg:Gl X x) (hm:X.mg x=some u) (r:bS v u) (hd:(x==("__debug__" : Str))=false:=by decide):PE X (.Name x pos) (tC v) :=
 λ_ _ _ H _ I h=>aA7 I hg hm ⟨v,H,I,r,h⟩ hd
theorem iY {x:Str} (hg:Gl X x) (hm:X.mg x=none) (hv:bootBuiltins x=some u) (r:bS v u) (hn:x ≠ "__name__" := by decide) (hd:(x==("__debug__" : Str))=false:=by decide):PE X (.Name x pos) (tC v) :=
 λ_ _ _ H _ I h=>iL I hg hm hv ⟨v,H,I,r,h⟩ hn hd
variable {a b:Expr} {tb:TE}
def PC (X:Cx) (op:CmpOp) (a b:Expr) (t:TE):Prop :=
 ∀ (pins:List (Addr×Obj)) (s:Shared) (σ:St) (H:Hp) (Q:VK),Inv X pins σ H s->t σ H Q ->
  wpAny (model X.prog X.w) X.A (eval a X.env) (λv s1x=>wpAny (model X.prog X.w) X.A (eval b X.env) (λu s2x=>wpAny (model X.prog X.w) X.A (compareOp op v u) (EP X pins σ Q) X.xe s2x) X.xe s1x) X.xe s
theorem aDc (b:Expr) (h:op≠.In) (h2:op≠.NotIn):behindInMarks op b=false:=by
 have e1:(op==CmpOp.In)=false:=by cases op <;> first | rfl | exact absurd rfl h
 have e2:(op==CmpOp.NotIn)=false:=by cases op <;> first | rfl | exact absurd rfl h2
 cases b <;> simp [behindInMarks,e1,e2]
def aHk (ta:TE):TE:=λσ H Q=>ta σ H λx H1=>Q (.bl (!decide (x=.non))) H1
theorem bS.none_iff {v:Value} (r:bS x v):(v==Value.none)=decide (x=.non):=by
 cases x with
 | non=>cases r; rfl
 | bl _=>cases r; rfl
 | int _=>obtain ⟨t,rfl⟩:=r; rfl
 | str _=>obtain ⟨t,rfl⟩:=r; rfl
 | byt _=>obtain ⟨t,rfl⟩:=r; rfl
 | flt _=>obtain ⟨t,rfl⟩:=r; rfl
 | ref _=>cases r; rfl
 | ty _=>cases r; rfl
theorem aEZ {j pos'} (ha:PE X a ta):PC X .IsNot a (.Constant .none j pos') (aHk ta):=by
 intro pins s σ H Q I h
 refine thn (ha pins s σ H _ I h) λv s1 hx9=>?_
 obtain ⟨x,H1,I1,r1,q1⟩:=hx9
 exact Constant_none (isnot_none_gen ⟨.bl _,H1,I1,by rw [r1.none_iff]; rfl,q1⟩)
def tB (t:TE):TT:=λσ H Q=>t σ H λx H1=>∃ c,x=.bl c/\Q c H1
theorem aDd {t:TE} (h:PC X op a b t) (h1:behindInMarks op b=false:=by first | exact aDc _ (by decide) (by decide) | rfl):PT X (.Compare a [op] [b] pos) (tB t):=by
 intro pins s σ H Q I hw
 refine Rad (thn (h pins s σ H _ I hw) λv s1 h1=>thn h1 λu s2 h2=>thn h2 λc s3 hx9=>?_) h1
 obtain ⟨x,H1,I1,r1,q1⟩:=hx9
 obtain ⟨d,rfl,q⟩:=q1
 cases r1
 exact Rq ⟨H1,I1,q⟩
theorem eE {t:TE} (h:PE X e t) (he:∀ whole,isTrue e X.env whole=(do let v<-whole; standAt e.pos; holding [v] (truthy v)):=by intro _; rfl):PT X e (tB t):=by
 intro pins s σ H Q I hw
 refine isTrue_plain (thn (h pins s σ H _ I hw) λv s1 hx9=>?_) (he _)
 obtain ⟨x,H1,I1,r1,q1⟩:=hx9
 obtain ⟨d,rfl,q⟩:=q1
 cases r1
 exact Rq ⟨H1,I1,q⟩
variable {tA tB':TT} {iW:List Expr}
def aH9 (t u:TT):TT:=λσ H Q=>t σ H λc H1=>if c=true then u σ H1 Q else Q false H1
def tOr (t u:TT):TT:=λσ H Q=>t σ H λc H1=>if c=true then Q true H1 else u σ H1 Q
def aIa (t:TT):TT:=λσ H Q=>t σ H λc H1=>Q (!c) H1
theorem aA9 (ha:PT X a tA):PW X (.BoolOp .And [a] pos) tA:=by
 intro wh pins s σ H Q I h
 refine isTrue_and (thn (ha pins s σ H Q I h) λc s1 e=>?_)
 cases c with
 | true=>exact isTrue_and_nil e
 | false=>exact e
theorem jD (ha:PT X a tA):PW X (.BoolOp .Or [a] pos) tA:=by
 intro wh pins s σ H Q I h
 refine isTrue_or (thn (ha pins s σ H Q I h) λc s1 e=>?_)
 cases c with
 | false=>exact isTrue_or_nil e
 | true=>exact e
theorem aDe (ha:PT X a tA) (hb:PW X (.BoolOp .And (b::iW) pos) tB'):PW X (.BoolOp .And (a::b::iW) pos) (aH9 tA tB'):=by
 intro wh pins s σ H Q I h
 refine isTrue_and (thn (ha pins s σ H _ I h) λc s1 hx9=>?_)
 obtain ⟨H1,I1,q1⟩:=hx9
 cases c with
 | true=>exact hb wh pins s1 σ H1 Q I1 q1
 | false=>exact ⟨H1,I1,q1⟩
theorem kT (ha:PT X a tA) (hb:PW X (.BoolOp .Or (b::iW) pos) tB'):PW X (.BoolOp .Or (a::b::iW) pos) (tOr tA tB'):=by
 intro wh pins s σ H Q I h
 refine isTrue_or (thn (ha pins s σ H _ I h) λc s1 hx9=>?_)
 obtain ⟨H1,I1,q1⟩:=hx9
 cases c with
 | true=>exact ⟨H1,I1,q1⟩
 | false=>exact hb wh pins s1 σ H1 Q I1 q1
theorem eQ (ha:PT X a tA):PT X (.UnaryOp .Not a pos) (aIa tA):=by
 intro pins s σ H Q I h
 exact isTrue_not (ha pins s σ H (λc H1=>Q (!c) H1) I h)
def aHl (ta tb:TE):TE:=λσ H Q=>ta σ H λx H1=>∃ c,x=.bl c/\if c=true then tb σ H1 Q else Q (.bl false) H1
def aIb (ta tb:TE):TE:=λσ H Q=>ta σ H λx H1=>∃ c,x=.bl c/\if c=true then Q (.bl true) H1 else tb σ H1 Q
def aHm (ta:TE):TE:=λσ H Q=>ta σ H λx H1=>∃ c,x=.bl c/\Q (.bl (!c)) H1
theorem kU {op} {t:TE} (h:PE X a t):PE X (.BoolOp op [a] pos) t:=λpins s σ H Q I hw=>BoolOp_one (h pins s σ H Q I hw)
theorem kW (ha:PE X a ta) (hb:PE X (.BoolOp .And (b::iW) pos) tb):PE X (.BoolOp .And (a::b::iW) pos) (aHl ta tb):=by
 intro pins s σ H Q I h
 refine BoolOp_and (thn (ha pins s σ H _ I h) λv s1 hx9=>?_)
 obtain ⟨x,H1,I1,r1,q1⟩:=hx9
 obtain ⟨c,rfl,q1⟩:=q1
 cases r1
 refine Rq ?_
 cases c with
 | true=>exact hb pins s1 σ H1 Q I1 q1
 | false=>exact ⟨.bl false,H1,I1,rfl,q1⟩
theorem aHn (ha:PE X a ta) (hb:PE X (.BoolOp .Or (b::iW) pos) tb):PE X (.BoolOp .Or (a::b::iW) pos) (aIb ta tb):=by
 intro pins s σ H Q I h
 refine BoolOp_or (thn (ha pins s σ H _ I h) λv s1 hx9=>?_)
 obtain ⟨x,H1,I1,r1,q1⟩:=hx9
 obtain ⟨c,rfl,q1⟩:=q1
 cases r1
 refine Rq ?_
 cases c with
 | false=>exact hb pins s1 σ H1 Q I1 q1
 | true=>exact ⟨.bl true,H1,I1,rfl,q1⟩
theorem aGz (ha:PE X a ta):PE X (.UnaryOp .Not a pos) (aHm ta):=by
 intro pins s σ H Q I h
 refine UnaryOp_ (thn (ha pins s σ H _ I h) λv s1 hx9=>?_)
 obtain ⟨x,H1,I1,r1,q1⟩:=hx9
 obtain ⟨c,rfl,q1⟩:=q1
 cases r1
 exact not_of (Rq ⟨.bl (!c),H1,I1,rfl,q1⟩)
def tIf (t:TT) (ta tb:TE):TE:=λσ H Q=>t σ H λc H1=>if c=true then ta σ H1 Q else tb σ H1 Q
theorem aDf {c:Expr} (hc:PT X c tA) (ha:PE X a ta) (hb:PE X b tb):PE X (.IfExp c a b pos) (tIf tA ta tb):=by
 intro pins s σ H Q I h
 refine wpAny_IfExp (thn (hc pins s σ H _ I h) λd s1 hx9=>?_)
 obtain ⟨H1,I1,q1⟩:=hx9
 cases d with
 | true=>exact ha pins s1 σ H1 Q I1 q1
 | false=>exact hb pins s1 σ H1 Q I1 q1
end
def SqL (K:Rc) (H:Hp) (a:Addr) (xs:List V):Prop :=
 Rd H a (.lst xs) ∨
  ∃ (o:Obj) (its:Array Value) (n:Nat),K.lookup a=some o/\o.cls=.type "list" /\ o.dict=none/\o.data=.seq its n/\its.size<=sizeLine/\bO xs its.toList
def SqT (K:Rc) (H:Hp) (a:Addr) (xs:List V):Prop :=
 Rd H a (.tup xs) ∨
  ∃ (o:Obj) (its:Array Value) (n:Nat),K.lookup a=some o/\o.cls=.type "tuple" /\ o.dict=none/\o.data=.seq its n/\its.size<=sizeLine/\bO xs its.toList
def aIc:Value->Option V
 | .none=>some .non
 | .bool b=>some (.bl b)
 | .int i _=>some (.int i)
 | .str x _=>some (.str x)
 | .bytes b _=>some (.byt b)
 | .float b _=>some (.flt b)
 | .ref a=>some (.ref a)
 | .type n=>some (.ty n)
 | _=>none
theorem bS.abs (r:bS x u):aIc u=some x:=by
 cases x with
 | non=>cases r; rfl
 | bl _=>cases r; rfl
 | int _=>obtain ⟨t,rfl⟩:=r; rfl
 | str _=>obtain ⟨t,rfl⟩:=r; rfl
 | byt _=>obtain ⟨t,rfl⟩:=r; rfl
 | flt _=>obtain ⟨t,rfl⟩:=r; rfl
 | ref _=>cases r; rfl
 | ty _=>cases r; rfl
theorem bS.inj (r:bS x u) (q:bS y u):x=y:=Option.some.inj (r.abs.symm.trans q.abs)
theorem bO.inj:∀ {xs ys:List V} {us:List Value},bO xs us->bO ys us->xs=ys
 := by
 intro xs ys us h
 induction h generalizing ys with
 | nil=>intro q; cases q; rfl
 | cons r t ih=>intro q; cases q with | cons r' t'=>rw [r.inj r',ih t']
section
variable {σ:St}
theorem SqL.of (h:H a=some (.lst xs)):SqL K H a xs:=.inl (.inl h)
theorem SqT.of (h:H a=some (.tup xs)):SqT K H a xs:=.inl (.inl h)
theorem Inv.list (I:Inv X pins σ H s) (h:SqL X.K H a xs):∃ its:List Value,bO xs its/\PlainL s.heap a its.toArray/\xs.length<=sizeLine:=by
 rcases h with h | ⟨o,its,n,hk,hc,hd,hs,hz,r⟩
 ·obtain ⟨z,its,n,r,e⟩:=h.ok I.hok
  exact ⟨its,r,⟨_,n,e,rfl,rfl,rfl⟩,z⟩
 ·refine ⟨its.toList,r,⟨o,n,I.kIn a o hk,hc,hd,by simpa using hs⟩,?_⟩
  have e:=r.length
  simp only [Array.length_toList] at e
  omega
theorem Inv.tuple (I:Inv X pins σ H s) (h:SqT X.K H a xs):∃ its:List Value,bO xs its/\IsTup s.heap a its.toArray/\xs.length<=sizeLine:=by
 rcases h with h | ⟨o,its,n,hk,hc,_,hs,hz,r⟩
 ·obtain ⟨z,its,n,r,p⟩:=h.ok I.hok
  exact ⟨its,r,⟨_,p,rfl,n,rfl⟩,z⟩
 ·refine ⟨its.toList,r,⟨o,I.kIn a o hk,hc,n,by simpa using hs⟩,?_⟩
  have e:=r.length
  simp only [Array.length_toList] at e
  omega
theorem Inv.list_inj (I:Inv X pins σ H s) (h:SqL X.K H a xs) (h':SqL X.K H a ys):xs=ys:=by
 obtain ⟨its,r,⟨o,n,e,_,_,d⟩,_⟩:=I.list h
 obtain ⟨its',r',⟨o',n',e',_,_,d'⟩,_⟩:=I.list h'
 rw [e] at e'; cases e'
 rw [d] at d'
 injection d' with d1 _
 have:its=its':=by simpa using congrArg Array.toList d1
 subst this
 exact r.inj r'
theorem Inv.tuple_inj (I:Inv X pins σ H s) (h:SqT X.K H a xs) (h':SqT X.K H a ys):xs=ys:=by
 obtain ⟨its,r,⟨o,e,_,n,d⟩,_⟩:=I.tuple h
 obtain ⟨its',r',⟨o',e',_,n',d'⟩,_⟩:=I.tuple h'
 rw [e] at e'; cases e'
 rw [d] at d'
 injection d' with d1 _
 have:its=its':=by simpa using congrArg Array.toList d1
 subst this
 exact r.inj r'
abbrev Cx.wish (X:Cx) (E:Value->Shared->Prop):Cx:={ X with xe:=E }
abbrev Cx.nox (X:Cx):Cx:=X.wish λ_ _=>False
theorem Cx.Ok.wish (ok:X.Ok) (E:Value->Shared->Prop):(X.wish E).Ok :=
 ⟨ok.mod,ok.kind,ok.glob,ok.blt,ok.above,ok.inj,ok.has,ok.cab,ok.hd,ok.frames,ok.stk,ok.exf,ok.bs,ok.bsz,ok.noex,ok.exfs,ok.funs,ok.frf⟩
theorem Cx.Ok.unwish (ok:(X.wish E).Ok):X.Ok :=
 ⟨ok.mod,ok.kind,ok.glob,ok.blt,ok.above,ok.inj,ok.has,ok.cab,ok.hd,ok.frames,ok.stk,ok.exf,ok.bs,ok.bsz,ok.noex,ok.exfs,ok.funs,ok.frf⟩
theorem Inv.wish (I:Inv X pins σ H s) (E:Value->Shared->Prop):Inv (X.wish E) pins σ H s:=⟨I.ok.wish E,I.os,I.bare,I.base,I.loc,I.cell,I.free,I.freeC,I.pin,I.hok,I.len⟩
theorem Inv.unwish (I:Inv (X.wish E) pins σ H s):Inv X pins σ H s:=⟨I.ok.unwish,I.os,I.bare,I.base,I.loc,I.cell,I.free,I.freeC,I.pin,I.hok,I.len⟩
theorem SP.unwish {f:Flow} (h:SP (X.wish E) pins D f s'):SP X pins D f s':=by
 cases f with
 | next=>obtain ⟨σ',H',I,q⟩:=h; exact ⟨σ',H',I.unwish,q⟩
 | brk=>obtain ⟨σ',H',I,q⟩:=h; exact ⟨σ',H',I.unwish,q⟩
 | cont=>obtain ⟨σ',H',I,q⟩:=h; exact ⟨σ',H',I.unwish,q⟩
 | ret u=>obtain ⟨v,σ',H',I,r,q⟩:=h; exact ⟨v,σ',H',I.unwish,r,q⟩
theorem PSs.nox {st:List Stmt} {t:TS} (h:PSs X.nox st t):PSs X st t:=λpins s σ H D I hw =>
 Rr (h pins s σ H D (I.wish _) hw) (λ_ _ q=>q.unwish) λ_ _ z=>False.elim z
end
section
variable {iW:List Stmt} {t u:TS}
def aBa:TS:=λD σ H=>D.nx σ H
def aId (t u:TS):TS:=λD σ H=>t { D with nx:=u D } σ H
theorem bI:PSs X [] aBa:=λ_ _ σ H _ I h=>Vx ⟨σ,H,I,h⟩
theorem aD (h1:PS X st t) (h2:PSs X iW u):PSs X (st::iW) (aId t u):=by
 intro pins s σ H D I h
 refine Mg (thn (h1 pins s σ H { D with nx:=u D } I h) λf s1 q=>?_)
 cases f with
 | next =>
  obtain ⟨σ',H',I',q⟩:=q
  exact h2 pins s1 σ' H' D I' q
 | ret v=>exact q
 | brk=>exact q
 | cont=>exact q
theorem aI (h1:PS X st t):PSs X [st] t:=by
 intro pins s σ H D I h
 refine Mg (thn (h1 pins s σ H D I h) λf s1 q=>?_)
 cases f with
 | next=>exact Vx q
 | ret v=>exact q
 | brk=>exact q
 | cont=>exact q
theorem Inv.quiet {σ:St} (I:Inv X pins σ H s):interactive X.env=false:=by simp [interactive,I.ok.kind]
def aHo (te:TE):TS:=λD σ H=>te σ H λ_ H1=>D.nx σ H1
theorem eT (he:PE X e te) (hs:swapsWith e none pos.line X.env=pure false:=by rfl):PS X (.Expr e pos) (aHo te):=by
 intro pins s σ H D I h
 refine wpAny_Expr_any (thn (he pins s σ H _ I h) λv s1 hx9=>?_) I.quiet hs
 obtain ⟨x,H1,I1,r1,q1⟩:=hx9
 exact ⟨σ,H1,I1,q1⟩
def aIe (te:TE):TS:=λD σ H=>te σ H D.rt
theorem aW (he:PE X e te):PS X (.Return (some e) pos) (aIe te):=by
 intro pins s σ H D I h
 refine wpAny_Return_some (thn (he pins s σ H _ I h) λv s1 hx9=>?_)
 obtain ⟨x,H1,I1,r1,q1⟩:=hx9
 exact ⟨x,σ,H1,I1,r1,q1⟩
def aIf (c:TT) (t u:TS):TS:=λD σ H=>c σ H λb H1=>if b=true then t D σ H1 else u D σ H1
theorem cG {c:Expr} {a b:List Stmt} {tc:TT} (hc:PT X c tc) (ha:PSs X a t) (hb:PSs X b u):PS X (.If c a b pos) (aIf tc t u):=by
 intro pins s σ H D I h
 refine wpAny_If (thn (hc pins s σ H _ I h) λd s1 hx9=>?_)
 obtain ⟨H1,I1,q1⟩:=hx9
 cases d with
 | true=>exact ha pins s1 σ H1 D I1 q1
 | false=>exact hb pins s1 σ H1 D I1 q1
def aGA:TS:=λ_ _ _=>False
theorem oW {sts:List Stmt}:PSs X sts aGA:=λ_ _ _ _ _ _ h=>h.elim
end
abbrev TG:=V->St->Hp->(St->Hp->Prop)->Prop
end L2
variable {g:TG}
namespace L2
open PySem PySem.Spec PyProof.Rows
abbrev TGs:=List V->St->Hp->(St->Hp->Prop)->Prop
def PG (X:Cx) (target:Expr) (t:TG):Prop :=
 ∀ (pins:List (Addr×Obj)) (s:Shared) (σ:St) (H:Hp) (v:V) (u:Value) (Q:St->Hp->Prop),Inv X pins σ H s->bS v u->t v σ H Q ->
  wpAny (model X.prog X.w) X.A (assign target X.env u) (λ_ s'=>∃ σ' H',Inv X pins σ' H' s'/\Q σ' H') X.xe s
def PGs (X:Cx) (ts:List Expr) (t:TGs):Prop :=
 ∀ (pins:List (Addr×Obj)) (s:Shared) (σ:St) (H:Hp) (vs:List V) (us:List Value) (Q:St->Hp->Prop),Inv X pins σ H s->bO vs us->t vs σ H Q ->
  wpAny (model X.prog X.w) X.A (assignInOrder ((assignEach ts X.env).map (·.2)) us) (λ_ s'=>∃ σ' H',Inv X pins σ' H' s'/\Q σ' H') X.xe s
abbrev aGB:=V->V->V->Hp->(Hp->Prop)->Prop
def aHp (X:Cx) (t:aGB):Prop :=
 ∀ (pins:List (Addr×Obj)) (s:Shared) (σ:St) (H:Hp) (o i v:V) (ov iv u:Value) (Q:Hp->Prop),Inv X pins σ H s->bS o ov->bS i iv->bS v u->t o i v H Q ->
  wpAny (model X.prog X.w) X.A (setItem ov iv u) (λ_ s'=>∃ H',Inv X pins σ H' s'/\Q H') X.xe s
def cO (i:Nat):TG:=λv σ H Q=>Q (σ.set i (some v)) H
theorem aJ {x:Str} (hN:X.N.Nodup) (hi:X.N[i]?=some x) (hx:Loc X.env.scope x) (hf:X.fn x=true∨X.env.scope.names.lookup x=some .local:=by first | exact .inl rfl | exact .inr rfl | assumption):PG X (.Name x pos) (cO i):=by
 intro pins s σ H v u Q I r h
 exact Ras (xD I hN hi hx r (λs' I'=>⟨_,H,I',h⟩) hf)
def aIg:TGs:=λvs σ H Q=>vs = []/\Q σ H
def aHq (t:TG) (u:TGs):TGs:=λvs σ H Q=>∃ v r,vs=v::r/\t v σ H λσ' H'=>u r σ' H' Q
theorem dP:PGs X [] aIg:=by
 intro pins s σ H vs us Q I r h
 obtain ⟨e,h⟩:=h
 subst e
 cases r
 exact assignInOrder_nil ⟨σ,H,I,h⟩
theorem aZ {t:TG} {u:TGs} (h1:PG X e t) (h2:PGs X es u) (hs:(assignEach (e::es) X.env).map (·.2)=assign e X.env::(assignEach es X.env).map (·.2):=by rfl):PGs X (e::es) (aHq t u):=by
 intro pins s σ H vs us Q I r h
 obtain ⟨v,vr,e1,h⟩:=h
 subst e1
 cases r with
 | cons r rr =>
  rw [hs]
  refine assignInOrder_cons (thn (h1 pins s σ H _ _ _ I r h) λ_ s1 hx9=>?_)
  obtain ⟨σ1,H1,I1,q1⟩:=hx9
  exact h2 pins s1 σ1 H1 _ _ Q I1 rr q1
def aHr (K:Rc) (n:Nat) (t:TGs):TG:=λv σ H Q=>∃ a xs,v=.ref a/\SqT K H a xs/\xs.length=n/\t xs σ H Q
theorem fX {k:Nat} {t:TGs} (hc:X.calm=true) (h:PGs X es t) (hn:(assignEach es X.env).length=n:=by rfl) (hst:(assignEach es X.env).findIdx? (·.1)=none:=by rfl):PG X (.Tuple es k pos) (aHr X.K n t):=by
 intro pins s σ H v u Q I r hw
 obtain ⟨a,xs,e1,hq,hl,hw⟩:=hw
 subst e1
 cases r
 obtain ⟨its,rv,ht,hz⟩:=I.tuple hq
 refine assign_Tuple_tuple (I.ok.hd hc) ht (by simp [hn,<- hl,rv.length]) hst λh' hx=>?_
 have I1:Inv X pins σ H { s with heap:=h' }:=I.kept (t':=s.toks) λb o e=>hx b o (Ja (Qp e)) e
 exact h pins _ σ H xs _ Q I1 (by simpa using rv) hw
def aIh (to ti:TE) (t:aGB):TG:=λv σ H Q=>to σ H λo H1=>ti σ H1 λi H2=>t o i v H2 λH3=>Q σ H3
theorem vL {o i:Expr} {ti:TE} {t:aGB} (ho:PE X o to) (hi:PE X i ti) (hs:aHp X t) (ha:∀ v,assign (.Subscript o i pos) X.env v=(do
   let ov<-holding [v] (eval o X.env)
   let iv<-holding [v,ov] (eval i X.env)
   standAt pos
   holding [v,ov,iv] (setItem ov iv v)
   release [v,ov,iv] []):=by intro _; rfl):PG X (.Subscript o i pos) (aIh to ti t):=by
 intro pins s σ H v u Q I r h
 rw [ha]
 refine Ra (Rm (thn (ho pins s σ H _ I h) λov s1 hx9=>?_))
 obtain ⟨x,H1,I1,r1,q1⟩:=hx9
 refine Ra (Rm (thn (hi pins s1 σ H1 _ I1 q1) λiv s2 hx9=>?_))
 obtain ⟨y,H2,I2,r2,q2⟩:=hx9
 refine Ra (Tj (Ra (Rm (thn (hs pins s2 σ H2 x y v ov iv u _ I2 r1 r2 r q2) λ_ s3 hx9=>?_))))
 obtain ⟨H3,I3,q3⟩:=hx9
 exact wpAny_release ⟨σ,H3,I3,q3⟩
def aE0 (te:TE) (g:TG):TS:=λD σ H=>te σ H λx H1=>g x σ H1 D.nx
theorem iM (he:PE X e te) (hg:PG X tg g) (hs:swapsWithSole [tg] e pos.line X.env=pure false:=by rfl) (hw:swappedStores [tg] e X.env=pure none:=by rfl) (h1:(assignEach [tg] X.env).map (·.2) = [assign tg X.env]:=by rfl):PS X (.Assign [tg] e pos) (aE0 te g):=by
 intro pins s σ H D I h
 refine wpAny_Assign_stores (thn (he pins s σ H _ I h) λv s1 hx9=>?_) hs hw
 obtain ⟨x,H1,I1,r1,q1⟩:=hx9
 rw [h1]
 exact thn (hg pins s1 σ H1 x v _ I1 r1 q1) λ_ s2 q=>q
theorem aL {x:Str} (hN:X.N.Nodup) (hi:X.N[i]?=some x) (hx:Loc X.env.scope x) (he:PE X e te) (hs:swapsWith e (some (.Name x pos')) pos.line X.env=pure false:=by rfl) (hf:X.fn x=true∨X.env.scope.names.lookup x=some .local:=by first | exact .inl rfl | exact .inr rfl | assumption) :
  PS X (.Assign [.Name x pos'] e pos) (aE0 te (cO i)):=by
 intro pins s σ H D I h
 refine wpAny_Assign_Name (thn (he pins s σ H _ I h) λv s1 hx9=>?_) hs
 obtain ⟨y,H1,I1,r1,q1⟩:=hx9
 exact xD I1 hN hi hx r1 (λs2 I2=>⟨_,H1,I2,q1⟩) hf
def aGC (c:TT) (tb:TS):TS:=λD σ H=>∃ W:Nat->St->Hp->Prop,(∃ m,W m σ H)/\∀ m σ H,W m σ H ->
 c σ H λb H1=>if b=true then ∃ N:St->Hp->Prop,(∀ σ' H',N σ' H'->∃ m',m' < m/\W m' σ' H')/\tb { D with nx:=N,ct:=N,bk:=D.nx } σ H1 else D.nx σ H1
theorem rA {c:Expr} {tc:TT} (hp:PassesOwn (model X.prog X.w) X.A X.env X.xe) (hc:PT X c tc) (hb:PSs X body tb):PS X (.While c body [] pos) (aGC tc tb):=by
 intro pins s σ H D I h
 obtain ⟨W,⟨m0,w0⟩,turn⟩:=h
 refine wpAny_While (codeAny_whileLoop (λn s'=>∃ σ' H',Inv X pins σ' H' s'/\W n σ' H') ?_ m0 ⟨σ,H,I,w0⟩)
 rintro n s1 ⟨σ1,H1,I1,w1⟩
 refine Ua hp (thn (hc pins s1 σ1 H1 _ I1 (turn n σ1 H1 w1)) λb s2 hx9=>?_)
 obtain ⟨H2,I2,q2⟩:=hx9
 cases b with
 | true =>
  obtain ⟨N,hN,q2⟩:=q2
  rw [if_pos rfl]
  refine Ua hp (thn (hb pins s2 σ1 H2 _ I2 q2) λf s3 q3=>?_)
  cases f with
  | next =>
   obtain ⟨σ3,H3,I3,n3⟩:=q3
   obtain ⟨m',hm,w3⟩:=hN σ3 H3 n3
   exact ⟨m',hm,σ3,H3,I3,w3⟩
  | cont =>
   obtain ⟨σ3,H3,I3,n3⟩:=q3
   obtain ⟨m',hm,w3⟩:=hN σ3 H3 n3
   exact ⟨m',hm,σ3,H3,I3,w3⟩
  | brk=>exact q3
  | ret v=>exact q3
 | false =>
  rw [if_neg Qr]
  exact Vx ⟨σ1,H2,I2,q2⟩
structure It where
 go:Nat->Hp->Prop
 yld:Nat->Hp->V->Hp->Prop
 stop:Nat->Hp->Prop
end L2
variable {J:It}
namespace L2
open PySem PySem.Spec PyProof.Rows
def qE (X:Cx) (pins:List (Addr×Obj)) (H:Hp) (b:Addr):Prop :=
 H b=none/\b≠X.env.locals/\b∉X.fs/\(b∈X.ex∨X.s0x.heap.objs.size<=b)/\(∀ x c,X.env.cells.lookup x=some c->c≠b)/\∀ p∈X.pn++pins,p.1≠b
theorem Inv.fpOk {σ:St} (I:Inv X pins σ H s) (hb:s.heap.objs.size<=b) (hn:H' b=none):qE X pins H' b:=by
 refine ⟨hn,Xw (Qy I.lt hb),I.nofs hb,.inr (Jl I.sz hb),λx c e z=>?_,λp hp z=>?_⟩
 ·obtain ⟨v,q⟩:=I.cell x c e
  exact absurd (Qy q.lt (by rw [z]; exact hb)) (Jx _)
 ·exact absurd (Qy (Qp (I.pin p hp).1) (by rw [z]; exact hb)) (Jx _)
structure Turn (P:Program) (w:World) (K:Rc) (tg:Expr) (J:It) (fp:List Addr) (it:Addr) (tn:Nat->Heap->Prop):Prop where
 mem:it∈fp
 obj:∀ i h,tn i h->∀ b∈fp,∃ o,h.get? b=some o/\∀ v,o.data≠.cell v
 keep:∀ i h h',tn i h->(∀ b∈fp,∀ o,h.get? b=some o->h'.get? b=some o)->tn i h'
 item:∀ (X:Cx),X.prog=P->X.w=w->X.K=K->X.calm=true->∀ (i:Nat) (pins:List (Addr×Obj)) (s:Shared) (σ:St) (H:Hp) (E:Value->Shared->Prop),Inv X pins σ H s->(∀ b∈fp,qE X pins H b)->tn i s.heap->J.go i H ->
  wpAny (model P w) X.A (pyNext (.ref it)) (λr s1=>∃ u,r=some u /\
   wpAny (model P w) X.A (letOwnedTupleGo tg (.ref it) u) (λ_ s2=>∃ x H',Inv X pins σ H' s2/\bS x u/\J.yld i H x H'/\tn (i+1) s2.heap/\∀ b∈fp,H' b=none) E s1) E s
 done:∀ (X:Cx),X.prog=P->X.w=w->X.K=K->X.calm=true->∀ (i:Nat) (pins:List (Addr×Obj)) (s:Shared) (σ:St) (H:Hp) (E:Value->Shared->Prop),Inv X pins σ H s->(∀ b∈fp,qE X pins H b)->tn i s.heap->J.stop i H ->
  wpAny (model P w) X.A (pyNext (.ref it)) (λr s1=>r=none/\Inv X pins σ H s1) E s
 self:∀ (A:Around) (i:Nat) (s:Shared) (Q:Value->Shared->Prop) (E:Value->Shared->Prop),tn i s.heap->Q (.ref it) s->wpAny (model P w) A (pyIter (.ref it)) Q E s
abbrev TI:=St->Hp->(It->Hp->Prop)->Prop
def PIE (X:Cx) (pins:List (Addr×Obj)) (σ:St) (tg:Expr) (R:It->Hp->Prop) (itv:Value) (s2:Shared):Prop :=
 ∃ (it:Addr) (fp:List Addr) (tn:Nat->Heap->Prop) (J:It) (H':Hp),itv=.ref it/\Inv X pins σ H' s2/\Turn X.prog X.w X.K tg J fp it tn/\tn 0 s2.heap/\(∀ b∈fp,qE X pins H' b)/\R J H'
def PI (X:Cx) (tg iter:Expr) (wi:TI):Prop :=
 ∀ (pins:List (Addr×Obj)) (s:Shared) (σ:St) (H:Hp) (R:It->Hp->Prop),Inv X pins σ H s->wi σ H R ->
  wpAny (model X.prog X.w) X.A (eval iter X.env) (λv s1=>wpAny (model X.prog X.w) X.A (pyIter v) (PIE X pins σ tg R) X.xe s1) X.xe s
theorem xE {n:String} {vs:Array Value} {Q:Unit->Shared->Prop} (ho:s.heap.get? it=some o) (hc:o.cls=.type n) (hd:o.data=.fields vs) (hn : ["enumerate", "zip", "dict_itemiterator", "dict_reverseitemiterator", "odict_iterator", "itertools.zip_longest", "itertools.pairwise"].contains n=false) (hQ:Q () s):wpAny M A (letOwnedTupleGo tg (.ref it) u) Q E s:=by
 unfold letOwnedTupleGo
 cases tg <;> first
  | exact Rb hQ
  | (cases u <;> first
    | exact Rb hQ
    | (refine Ra (wpAny_load ho ?_)
       rw [hc,hd]
       show wpAny M A (if (["enumerate", "zip", "dict_itemiterator", "dict_reverseitemiterator", "odict_iterator", "itertools.zip_longest", "itertools.pairwise"].contains n && vs[0]?==some (rawInt _))=true then _ else _) Q E s
       rw [if_neg (by intro h; rw [hn,Bool.false_and] at h; cases h)]
       exact Rb hQ))
def Itl (K:Rc) (a:Addr):It :=
 ⟨λi H=>∃ xs x,SqL K H a xs/\xs[i]?=some x,λi H x H'=>H'=H/\∀ xs,SqL K H a xs->xs[i]?=some x,λi H=>∃ xs,SqL K H a xs/\xs.length<=i⟩
def Itt (K:Rc) (a:Addr):It :=
 ⟨λi H=>∃ xs x,SqT K H a xs/\xs[i]?=some x,λi H x H'=>H'=H/\∀ xs,SqT K H a xs->xs[i]?=some x,λi H=>∃ xs,SqT K H a xs/\xs.length<=i⟩
def Itr (lo:Int) (n:Nat):It:=⟨λi _=>i < n,λi H x H'=>H'=H/\x=.int (lo+i),λi _=>n<=i⟩
theorem aCe (a it:Addr):Turn P w K tg (Itl K a) [it] it (λi h=>h.IsListIter it a i) where
 mem:=by simp
 obj:=λi h st b hb=>by
  have e:b=it:=by simpa using hb
  subst e
  obtain ⟨o,e,c,d⟩:=st
  exact ⟨o,e,λv z=>by rw [d] at z; cases z⟩
 keep:=λi h h' st k=>st.at λo e=>k it (by simp) o e
 item:=by
  intro X hP hw hK hc i pins s σ H E I hf st hg
  subst hP hw hK
  obtain ⟨xs,x,hq,hx⟩:=hg
  obtain ⟨its,rv,p,hz⟩:=I.list hq
  obtain ⟨u,hu,ru⟩:=rv.get hx
  obtain ⟨f0,f1,f2,f3,f4,f5⟩:=hf it (by simp)
  refine wpAny_pyNext_list_item st p.isList (x:=u) (by simpa using hu) λh' st' sb=>?_
  have I1:Inv X pins σ H { s with heap:=h' }:=I.turned (t':=s.toks) (λb o hb e=>(sb.2 b hb).trans e) f0 f1 f3 f4 f5
  obtain ⟨o,e,c,d⟩:=id st'
  exact ⟨u,rfl,xE (s:={ s with heap:=h' }) e c d (by decide) ⟨x,H,I1,ru,⟨rfl,λys hy=>by rw [I.list_inj hy hq]; exact hx⟩,st',λb hb=>(hf b hb).1⟩⟩
 done:=by
  intro X hP hw hK hc i pins s σ H E I hf st hg
  subst hP hw hK
  obtain ⟨xs,hq,hx⟩:=hg
  obtain ⟨its,rv,p,hz⟩:=I.list hq
  obtain ⟨f0,f1,f2,f3,f4,f5⟩:=hf it (by simp)
  have hl:=rv.length
  exact wpAny_pyNext_list_end (I.ok.hd hc) st p.isList (by simp; omega) λh' eb=>⟨rfl,I.turned (t':=s.toks) (λb o hb e=>eb b o hb e) f0 f1 f3 f4 f5⟩
 self:=λ_ _ _ _ _ st h=>wpAny_pyIter_listiter st h
theorem aAh (a it:Addr):Turn P w K tg (Itt K a) [it] it (λi h=>h.IsTupleIter it a i) where
 mem:=by simp
 obj:=λi h st b hb=>by
  have e:b=it:=by simpa using hb
  subst e
  obtain ⟨o,e,c,d⟩:=st
  exact ⟨o,e,λv z=>by rw [d] at z; cases z⟩
 keep:=λi h h' st k=>st.at λo e=>k it (by simp) o e
 item:=by
  intro X hP hw hK hc i pins s σ H E I hf st hg
  subst hP hw hK
  obtain ⟨xs,x,hq,hx⟩:=hg
  obtain ⟨its,rv,p,hz⟩:=I.tuple hq
  obtain ⟨u,hu,ru⟩:=rv.get hx
  obtain ⟨f0,f1,f2,f3,f4,f5⟩:=hf it (by simp)
  refine wpAny_pyNext_tuple_item st (show s.heap.IsTuple a its.toArray from p) (x:=u) (by simpa using hu) λh' st' sb=>?_
  have I1:Inv X pins σ H { s with heap:=h' }:=I.turned (t':=s.toks) (λb o hb e=>(sb.2 b hb).trans e) f0 f1 f3 f4 f5
  obtain ⟨o,e,c,d⟩:=id st'
  exact ⟨u,rfl,xE (s:={ s with heap:=h' }) e c d (by decide) ⟨x,H,I1,ru,⟨rfl,λys hy=>by rw [I.tuple_inj hy hq]; exact hx⟩,st',λb hb=>(hf b hb).1⟩⟩
 done:=by
  intro X hP hw hK hc i pins s σ H E I hf st hg
  subst hP hw hK
  obtain ⟨xs,hq,hx⟩:=hg
  obtain ⟨its,rv,p,hz⟩:=I.tuple hq
  obtain ⟨f0,f1,f2,f3,f4,f5⟩:=hf it (by simp)
  have hl:=rv.length
  exact wpAny_pyNext_tuple_end (I.ok.hd hc) st (show s.heap.IsTuple a its.toArray from p) (by simp; omega) λh' eb=>⟨rfl,I.turned (t':=s.toks) (λb o hb e=>eb b o hb e) f0 f1 f3 f4 f5⟩
 self:=λ_ _ _ _ _ st h=>wpAny_pyIter_tupleiter st h
theorem aAi (it:Addr) (lo:Int) (n:Nat):Turn P w K tg (Itr lo n) [it] it (λi h=>IsRangeIter h it (lo+(i:Nat)*1) ((n:Int) - (i:Nat)) 1) where
 mem:=by simp
 obj:=λi h st b hb=>by
  have e:b=it:=by simpa using hb
  subst e
  exact ⟨_,st,λv z=>by
   have z':Data.fields _=Data.cell v:=z
   cases z'⟩
 keep:=λi h h' st k=>k it (by simp) _ st
 item:=by
  intro X hP hw hK hc i pins s σ H E I hf st hg
  subst hP hw hK
  obtain ⟨f0,f1,f2,f3,f4,f5⟩:=hf it (by simp)
  have W:=Walks.range (prog:=X.prog) (w:=X.w) (I.ok.hd hc) it lo 1 n
  refine W.item i s _ _ hg st λv h' tk hv st' kk=>?_
  obtain ⟨t,rfl⟩:=hv
  have I1:Inv X pins σ H { s with heap:=h',toks:=tk }:=I.turned (λb o hb e=>kk b o (by simpa using hb) e) f0 f1 f3 f4 f5
  refine ⟨_,rfl,xE (s:={ s with heap:=h',toks:=tk }) (n := "range_iterator") st' rfl rfl (by decide) ⟨.int (lo+i),H,I1,⟨t,?_⟩,⟨rfl,rfl⟩,st',λb hb=>(hf b hb).1⟩⟩
  rw [QaS]
 done:=by
  intro X hP hw hK hc i pins s σ H E I hf st hg
  subst hP hw hK
  obtain ⟨f0,f1,f2,f3,f4,f5⟩:=hf it (by simp)
  exact wpAny_pyNext_range_end (I.ok.hd hc) st (by have:n<=i:=hg; omega) λh' eb=>⟨rfl,I.turned (t':=s.toks) (λb o hb e=>eb b o hb e) f0 f1 f3 f4 f5⟩
 self:=λ_ _ _ _ _ st h=>wpAny_pyIter_rangeiter st h
def aHs (K:Rc) (tl:TE):TI:=λσ H R=>tl σ H λx H1=>∃ a,x=.ref a/\(∃ xs,SqL K H1 a xs)/\R (Itl K a) H1
def aHt (K:Rc) (tl:TE):TI:=λσ H R=>tl σ H λx H1=>∃ a,x=.ref a/\(∃ xs,SqT K H1 a xs)/\R (Itt K a) H1
theorem jX {l:Expr} (hl:PE X l tl):PI X tg l (aHs X.K tl):=by
 intro pins s σ H R I h
 refine thn (hl pins s σ H _ I h) λv s1 hx9=>?_
 obtain ⟨x,H1,I1,r1,q1⟩:=hx9
 obtain ⟨a,e,⟨xs,hq⟩,q⟩:=q1
 subst e
 cases r1
 obtain ⟨its,rv,p,hz⟩:=I1.list hq
 refine Uc p.isList ?_
 refine ⟨s1.heap.objs.size,[s1.heap.objs.size],_,_,H1,rfl,I1.kept (t':=s1.toks) λb o e=>Qa _ e,aCe a _,⟨_,Qh _ rfl,rfl,rfl⟩,λb hb=>?_,q⟩
 have e:b=s1.heap.objs.size:=by simpa using hb
 subst e
 exact I1.fpOk (Qg _) (I1.hok.fresh (Qg _))
theorem fY {l:Expr} (hl:PE X l tl):PI X tg l (aHt X.K tl):=by
 intro pins s σ H R I h
 refine thn (hl pins s σ H _ I h) λv s1 hx9=>?_
 obtain ⟨x,H1,I1,r1,q1⟩:=hx9
 obtain ⟨a,e,⟨xs,hq⟩,q⟩:=q1
 subst e
 cases r1
 obtain ⟨its,rv,p,hz⟩:=I1.tuple hq
 refine Vj (show s1.heap.IsTuple a its.toArray from p) ?_
 refine ⟨s1.heap.objs.size,[s1.heap.objs.size],_,_,H1,rfl,I1.kept (t':=s1.toks) λb o e=>Qa _ e,aAh a _,⟨_,Qh _ rfl,rfl,rfl⟩,λb hb=>?_,q⟩
 have e:b=s1.heap.objs.size:=by simpa using hb
 subst e
 exact I1.fpOk (Qg _) (I1.hok.fresh (Qg _))
theorem aDg {σ:St} {R:It->Hp->Prop} {hi:Int} {t u v:Tok} {tk:Nat} (I:Inv X pins σ H s) (h1:-(2^62)<=lo) (h2:lo < 2^62) (h3:-(2^62)<=hi) (h4:hi < 2^62) (q:R (Itr lo (hi - lo).toNat) H):wpAny (model X.prog X.w) X.A (pyIter (.ref s.heap.objs.size)) (PIE X pins σ tg R) E { s with heap:=s.heap.push { cls:=.type "range",data:=.fields #[.int lo t,.int hi u,.int 1 v] },toks:=tk }:=by
 refine wpAny_pyIter_range (IsRange.new ..) (small_one h1 h2 h3 h4) ?_
 have I1:Inv X pins σ H { s with heap:=s.heap.push { cls:=.type "range",data:=.fields #[.int lo t,.int hi u,.int 1 v] },toks:=tk }:=I.kept λb o e=>Qa _ e
 refine ⟨(s.heap.push { cls:=.type "range",data:=.fields #[.int lo t,.int hi u,.int 1 v] }).objs.size,[(s.heap.push { cls:=.type "range",data:=.fields #[.int lo t,.int hi u,.int 1 v] }).objs.size],_,_,H,rfl,
  I1.kept (t':=tk) λb o e=>Qa _ e,aAi _ lo (hi - lo).toNat,?_,λb hb=>?_,q⟩
 ·have e1:lo+((0:Nat):Int)*1=lo:=by simp
  have e2:(((hi - lo).toNat:Nat):Int) - ((0:Nat):Int)=Builtin.Range.rangeSize lo hi 1:=by rw [rangeSize_one]; split <;> omega
  show IsRangeIter _ _ (lo+((0:Nat):Int)*1) ((((hi - lo).toNat:Nat):Int) - ((0:Nat):Int)) 1
  rw [e1,e2]
  exact Qh _ rfl
 ·have e:b=(s.heap.push { cls:=.type "range",data:=.fields #[.int lo t,.int hi u,.int 1 v] }).objs.size:=by simpa using hb
  subst e
  exact I1.fpOk (Qg _) (I1.hok.fresh (Qg _))
def aHu (ta:TA):TI:=λσ H R=>ta σ H λvs H1=>∃ j:Int,vs = [.int j]/\-(2^62)<=j/\j < 2^62/\R (Itr 0 j.toNat) H1
theorem cC {a:Expr} {ta:TA} (hg:Gl X "range") (hm:X.mg "range" = none) (ha:PA X [a] ta) (hs:starEach [a] X.env = [(false,eval a X.env)]:=by rfl):PI X tg (.Call (.Name "range" p) [a] [] pos) (aHu ta):=by
 intro pins s σ H R I h
 refine Call_ (iL I hg hm boot_range (PyProof.Rows.callWith_type1 (thn (ha pos pins s σ H _ I h) λus s1 hx9=>?_) hs rfl))
 obtain ⟨vs,H1,I1,r1,q1⟩:=hx9
 obtain ⟨j,e,q1,q2,q⟩:=q1
 subst e
 cases r1 with
 | cons r rr =>
  cases rr
  obtain ⟨t,rfl⟩:=r
  exact call_range_1 (aDg I1 (by omega) (by omega) q1 q2 (by simpa using q))
def aIi (wi:TI) (g:TG) (tb:TS):TS:=λD σ H=>wi σ H λJ H1=>∃ W:Nat->Nat->St->Hp->Prop,(∃ m,W 0 m σ H1)/\∀ i m σ H,W i m σ H ->
 (J.stop i H/\D.nx σ H)∨(J.go i H/\∃ N:St->Hp->Prop,(∀ σ' H',N σ' H'->∃ m',m' < m/\W (i+1) m' σ' H')/\∀ x H',J.yld i H x H'->g x σ H' λσ2 H2=>tb { D with nx:=N,ct:=N,bk:=D.nx } σ2 H2)
def oX (fp:List Addr) (h:Heap):List (Addr×Obj):=fp.filterMap λb=>(h.get? b).map λo=>(b,o)
theorem nC (hb:b∈fp) (e:h.get? b=some o):(b,o)∈oX fp h:=QaB.mpr ⟨b,hb,by rw [e]; rfl⟩
theorem uF {p:Addr×Obj} (hp:p∈oX fp h):p.1∈fp/\h.get? p.1=some p.2:=by
 obtain ⟨b,hb,e⟩:=QaB.mp hp
 cases q:h.get? b with
 | none=>rw [q] at e; cases e
 | some o =>
  rw [q] at e
  have e':(b,o)=p:=Option.some.inj e
  subst e'
  exact ⟨hb,q⟩
theorem Inv.pinned {σ:St} (I:Inv X pins σ H s) (hf:∀ b∈fp,qE X pins H b) (ho:∀ b∈fp,∃ o,s.heap.get? b=some o/\∀ v,o.data≠.cell v):Inv X (pins++oX fp s.heap) σ H s :=
 I.pins_of λp hp=>(Jg.mp hp).elim (λz=>I.pin p (Jd _ z)) λz=>by
  obtain ⟨hb,e⟩:=uF z
  obtain ⟨f0,f1,f2,_⟩:=hf p.1 hb
  obtain ⟨o,e',d⟩:=ho p.1 hb
  rw [e] at e'; cases e'
  exact ⟨e,f0,f1,f2,d⟩
theorem Inv.unpinned {pl:List (Addr×Obj)} {σ:St} (I:Inv X (pins++pl) σ H s):Inv X pins σ H s:=I.pins_of λp hp=>I.pin p (Jd _ (Jw _ hp))
theorem eC {wi:TI} (hp:PassesOwn (model X.prog X.w) X.A X.env X.xe) (hc:X.calm=true) (hi:PI X tg iter wi) (hg:PG X tg g) (hb:PSs X body tb) (hs:∀ x,foldedSetIterable iter X.env x=pure x:=by intro _; rfl):PS X (.For tg iter body [] pos) (aIi wi g tb):=by
 intro pins s σ H D I h
 refine wpAny_For (thn (hi pins s σ H _ I h) λv s1 h1=>thn h1 λitv s2 h2=>?_) hs
 obtain ⟨it,fp,tn,J,H2,e,I2,T,st2,f2,W,⟨m0,w0⟩,turn⟩:=h2
 subst e
 -- what stays true of the iterator's objects through the loop
 have stat:∀ {H':Hp},(∀ b∈fp,H' b=none)->∀ b∈fp,qE X pins H' b:=λhn b hb=>⟨hn b hb,(f2 b hb).2⟩
 refine codeAny_forLoop_any (λn s'=>∃ i σ' H',Inv X pins σ' H' s'/\tn i s'.heap/\(∀ b∈fp,H' b=none)/\W i n σ' H') ?_ m0 ⟨0,σ,H2,I2,st2,λb hb=>(f2 b hb).1,w0⟩
 rintro n s3 ⟨i,σ3,H3,I3,st3,fr3,w3⟩
 rcases turn i n σ3 H3 w3 with ⟨stop,qn⟩ | ⟨go,N,hN,step⟩
 ·refine Ua hp (thn (T.done X rfl rfl rfl hc i pins s3 σ3 H3 X.xe I3 (stat fr3) st3 stop) λr s4 hx9=>?_)
  obtain ⟨hr,I4⟩:=hx9
  subst hr
  exact Vx ⟨σ3,H3,I4,qn⟩
 ·refine Ua hp (thn (T.item X rfl rfl rfl hc i pins s3 σ3 H3 X.xe I3 (stat fr3) st3 go) λr s4 hx9=>?_)
  obtain ⟨u,hr,h4⟩:=hx9
  subst hr
  refine Ua hp (thn h4 λ_ s5 hx9=>?_)
  obtain ⟨x,H5,I5,r5,y5,st5,fr5⟩:=hx9
  have I5':=I5.pinned (stat fr5) (T.obj _ _ st5)
  refine Ua hp (thn (hg _ s5 σ3 H5 x u _ I5' r5 (step x H5 y5)) λ_ s6 hx9=>?_)
  obtain ⟨σ6,H6,I6,q6⟩:=hx9
  refine Ua hp (thn (hb _ s6 σ6 H6 _ I6 q6) λf s7 q7=>?_)
  have again:∀ {σ7:St} {H7:Hp},Inv X (pins++oX fp s5.heap) σ7 H7 s7->N σ7 H7->∃ m,m < n/\∃ i σ' H',Inv X pins σ' H' s7/\tn i s7.heap/\(∀ b∈fp,H' b=none)/\W i m σ' H':=λ{σ7 H7} I7 n7=>by
   obtain ⟨m',hm,w7⟩:=hN σ7 H7 n7
   refine ⟨m',hm,i+1,σ7,H7,I7.unpinned,T.keep _ _ _ st5 λb hb o e=>(I7.pin (b,o) (Jd _ (Jd _ (nC hb e)))).1,λb hb=>?_,w7⟩
   obtain ⟨o,e,d⟩:=T.obj _ _ st5 b hb
   exact (I7.pin (b,o) (Jd _ (Jd _ (nC hb e)))).2.1
  cases f with
  | next=>obtain ⟨σ7,H7,I7,n7⟩:=q7; exact again I7 n7
  | cont=>obtain ⟨σ7,H7,I7,n7⟩:=q7; exact again I7 n7
  | brk=>obtain ⟨σ7,H7,I7,q7⟩:=q7; exact ⟨σ7,H7,I7.unpinned,q7⟩
  | ret v=>obtain ⟨x7,σ7,H7,I7,r7,q7⟩:=q7; exact ⟨x7,σ7,H7,I7.unpinned,r7,q7⟩
theorem xF {σ:St} (Pv:Nat->St->Hp->Prop) (h0:Pv 0 σ H) (hl:∀ i σ H,i<=xs.length->Pv i σ H->SqL K H a xs) (hs:∀ i x σ H,xs[i]?=some x->Pv i σ H->g x σ H λσ2 H2=>tb { D with nx:=Pv (i+1),ct:=Pv (i+1),bk:=D.nx } σ2 H2) (hd:∀ σ H,Pv xs.length σ H->D.nx σ H) :
  ∃ W:Nat->Nat->St->Hp->Prop,(∃ m,W 0 m σ H)/\∀ i m σ H,W i m σ H ->
   ((Itl K a).stop i H/\D.nx σ H)∨((Itl K a).go i H/\∃ N:St->Hp->Prop,(∀ σ' H',N σ' H'->∃ m',m' < m/\W (i+1) m' σ' H')/\∀ x H',(Itl K a).yld i H x H'->g x σ H' λσ2 H2=>tb { D with nx:=N,ct:=N,bk:=D.nx } σ2 H2):=by
 refine ⟨λi m σ H=>m=xs.length - i/\i<=xs.length/\Pv i σ H,⟨xs.length,by simp,Jn _,h0⟩,?_⟩
 rintro i m σ H ⟨rfl,hi,p⟩
 have q:=hl i σ H hi p
 by_cases hlt:i < xs.length
 ·refine .inr ⟨⟨xs,xs[i],q,by simp [hlt]⟩,Pv (i+1),λσ' H' p'=>⟨xs.length - (i+1),by omega,rfl,hlt,p'⟩,λx H' y=>?_⟩
  obtain ⟨e,y⟩:=y
  subst e
  exact hs i x σ _ (y xs q) p
 ·have e:i=xs.length:=by omega
  subst e
  exact .inl ⟨⟨xs,q,Qg _⟩,hd σ H p⟩
theorem qI {σ:St} (Pv:Nat->St->Hp->Prop) (h0:Pv 0 σ H) (hl:∀ i σ H,i<=xs.length->Pv i σ H->SqT K H a xs) (hs:∀ i x σ H,xs[i]?=some x->Pv i σ H->g x σ H λσ2 H2=>tb { D with nx:=Pv (i+1),ct:=Pv (i+1),bk:=D.nx } σ2 H2) (hd:∀ σ H,Pv xs.length σ H->D.nx σ H) :
  ∃ W:Nat->Nat->St->Hp->Prop,(∃ m,W 0 m σ H)/\∀ i m σ H,W i m σ H ->
   ((Itt K a).stop i H/\D.nx σ H)∨((Itt K a).go i H/\∃ N:St->Hp->Prop,(∀ σ' H',N σ' H'->∃ m',m' < m/\W (i+1) m' σ' H')/\∀ x H',(Itt K a).yld i H x H'->g x σ H' λσ2 H2=>tb { D with nx:=N,ct:=N,bk:=D.nx } σ2 H2):=by
 refine ⟨λi m σ H=>m=xs.length - i/\i<=xs.length/\Pv i σ H,⟨xs.length,by simp,Jn _,h0⟩,?_⟩
 rintro i m σ H ⟨rfl,hi,p⟩
 have q:=hl i σ H hi p
 by_cases hlt:i < xs.length
 ·refine .inr ⟨⟨xs,xs[i],q,by simp [hlt]⟩,Pv (i+1),λσ' H' p'=>⟨xs.length - (i+1),by omega,rfl,hlt,p'⟩,λx H' y=>?_⟩
  obtain ⟨e,y⟩:=y
  subst e
  exact hs i x σ _ (y xs q) p
 ·have e:i=xs.length:=by omega
  subst e
  exact .inl ⟨⟨xs,q,Qg _⟩,hd σ H p⟩
theorem eU {σ:St} (Pv:Nat->St->Hp->Prop) (h0:Pv 0 σ H) (hs:∀ i σ H,i < n->Pv i σ H->g (.int (lo+i)) σ H λσ2 H2=>tb { D with nx:=Pv (i+1),ct:=Pv (i+1),bk:=D.nx } σ2 H2) (hd:∀ σ H,Pv n σ H->D.nx σ H) :
  ∃ W:Nat->Nat->St->Hp->Prop,(∃ m,W 0 m σ H)/\∀ i m σ H,W i m σ H ->
   ((Itr lo n).stop i H/\D.nx σ H)∨((Itr lo n).go i H/\∃ N:St->Hp->Prop,(∀ σ' H',N σ' H'->∃ m',m' < m/\W (i+1) m' σ' H')/\∀ x H',(Itr lo n).yld i H x H'->g x σ H' λσ2 H2=>tb { D with nx:=N,ct:=N,bk:=D.nx } σ2 H2):=by
 refine ⟨λi m σ H=>m=n - i/\i<=n/\Pv i σ H,⟨n,by simp,Jn _,h0⟩,?_⟩
 rintro i m σ H ⟨rfl,hi,p⟩
 by_cases hlt:i < n
 ·refine .inr ⟨hlt,Pv (i+1),λσ' H' p'=>⟨n - (i+1),by omega,rfl,hlt,p'⟩,λx H' y=>?_⟩
  obtain ⟨e,y⟩:=y
  subst e y
  exact hs i σ _ hlt p
 ·have e:i=n:=by omega
  subst e
  exact .inl ⟨Qg _,hd σ H p⟩
abbrev R2:=V->V->Hp->VK->Prop
end L2
variable {r:R2}
namespace L2
open PySem PySem.Spec PyProof.Rows
def OpR (X:Cx) (f:Value->Value->Sem Value) (r:R2):Prop :=
 ∀ (pins:List (Addr×Obj)) (s:Shared) (σ:St) (H:Hp) (x y:V) (v u:Value) (Q:VK),Inv X pins σ H s->bS x v->bS y u->r x y H Q ->
  wpAny (model X.prog X.w) X.A (f v u) (EP X pins σ Q) X.xe s
def UnR (X:Cx) (f:Value->Sem Value) (r:V->Hp->VK->Prop):Prop :=
 ∀ (pins:List (Addr×Obj)) (s:Shared) (σ:St) (H:Hp) (x:V) (v:Value) (Q:VK),Inv X pins σ H s->bS x v->r x H Q ->
  wpAny (model X.prog X.w) X.A (f v) (EP X pins σ Q) X.xe s
def dF (X:Cx) (f:Value) (r:List V->Hp->VK->Prop):Prop :=
 ∀ (pins:List (Addr×Obj)) (s:Shared) (σ:St) (H:Hp) (xs:List V) (us:List Value) (Q:VK),Inv X pins σ H s->bO xs us->r xs H Q ->
  wpAny (model X.prog X.w) X.A (call f us) (EP X pins σ Q) X.xe s
def aIj (X:Cx) (r:V->Hp->(Bool->Hp->Prop)->Prop):Prop :=
 ∀ (pins:List (Addr×Obj)) (s:Shared) (σ:St) (H:Hp) (x:V) (v:Value) (Q:Bool->Hp->Prop),Inv X pins σ H s->bS x v->r x H Q ->
  wpAny (model X.prog X.w) X.A (truthy v) (TP X pins σ Q) X.xe s
def tOp (r:R2) (ta tb:TE):TE:=λσ H Q=>ta σ H λx H1=>tb σ H1 λy H2=>r x y H2 Q
def tUn (r:V->Hp->VK->Prop) (ta:TE):TE:=λσ H Q=>ta σ H λx H1=>r x H1 Q
def rI (C:Int->Int->Prop) (g:Int->Int->V):R2:=λx y H Q=>∃ i j,x=.int i/\y=.int j/\C i j/\Q (g i j) H
def rI0 (g:Int->Int->V):R2:=λx y H Q=>∃ i j,x=.int i/\y=.int j/\Q (g i j) H
def rU (g:Int->V):V->Hp->VK->Prop:=λx H Q=>∃ i,x=.int i/\Q (g i) H
section
variable {a b c:Expr} {tb tc:TE}
theorem aGD (ha:PE X a ta) (hb:PE X b tb) {σ:St} {R:V->V->Hp->Prop} (I:Inv X pins σ H s) (h:ta σ H λx H1=>tb σ H1 λy H2=>R x y H2) {f:Value->Value->Sem Value} (hf:∀ v u s2 x y H2,Inv X pins σ H2 s2->bS x v->bS y u->R x y H2->wpAny (model X.prog X.w) X.A (f v u) Q X.xe s2) :
  wpAny (model X.prog X.w) X.A (eval a X.env) (λv s1x=>wpAny (model X.prog X.w) X.A (eval b X.env) (λu s2x=>wpAny (model X.prog X.w) X.A (f v u) Q X.xe s2x) X.xe s1x) X.xe s:=by
 refine thn (ha pins s σ H _ I h) λv s1 hx9=>?_
 obtain ⟨x,H1,I1,r1,q1⟩:=hx9
 refine thn (hb pins s1 σ H1 _ I1 q1) λu s2 hx9=>?_
 obtain ⟨y,H2,I2,r2,q2⟩:=hx9
 exact hf v u s2 x y H2 I2 r1 r2 q2
theorem aY {op:Operator} (ho:OpR X (binaryOp op) r) (ha:PE X a ta) (hb:PE X b tb):PE X (.BinOp a op b pos) (tOp r ta tb):=by
 intro pins s σ H Q I h
 exact wpAny_BinOp (aGD ha hb I h λv u s2 x y H2 I2 rx ry q=>ho pins s2 σ H2 x y v u Q I2 rx ry q)
theorem aF8 {op:UnaryOp} {r:V->Hp->VK->Prop} (ho:UnR X (unaryOp op) r) (ha:PE X a ta):PE X (.UnaryOp op a pos) (tUn r ta):=by
 intro pins s σ H Q I h
 refine UnaryOp_ (thn (ha pins s σ H _ I h) λv s1 hx9=>?_)
 obtain ⟨x,H1,I1,r1,q1⟩:=hx9
 exact ho pins s1 σ H1 x v Q I1 r1 q1
theorem opI {f:Value->Value->Sem Value} {C:Int->Int->Prop} {g:Int->Int->Int}
  (rule:∀ (i j:Int) (t u:Tok) (s:Shared) (Q:Value->Shared->Prop) (E:Value->Shared->Prop),C i j->Q (.int (g i j) s.toks) { s with toks:=s.toks+1 }->wpAny (model X.prog X.w) X.A (f (.int i t) (.int j u)) Q E s) :
  OpR X f (rI C λi j=>.int (g i j)):=by
 intro pins s σ H x y v u Q I rx ry h
 obtain ⟨i,j,rfl,rfl,hc,q⟩:=h
 obtain ⟨t,rfl⟩:=rx
 obtain ⟨t',rfl⟩:=ry
 exact rule i j t t' s _ _ hc ⟨.int (g i j),H,I.tok _,⟨_,rfl⟩,q⟩
theorem aHv {f:Value->Value->Sem Value} {g:Int->Int->Int}
  (rule:∀ (i j:Int) (t u:Tok) (s:Shared) (Q:Value->Shared->Prop) (E:Value->Shared->Prop),Q (.int (g i j) s.toks) { s with toks:=s.toks+1 }->wpAny (model X.prog X.w) X.A (f (.int i t) (.int j u)) Q E s) :
  OpR X f (rI0 λi j=>.int (g i j)):=by
 intro pins s σ H x y v u Q I rx ry h
 obtain ⟨i,j,rfl,rfl,q⟩:=h
 obtain ⟨t,rfl⟩:=rx
 obtain ⟨t',rfl⟩:=ry
 exact rule i j t t' s _ _ ⟨.int (g i j),H,I.tok _,⟨_,rfl⟩,q⟩
theorem aE1 {f:Value->Value->Sem Value} {g:Int->Int->Bool}
  (rule:∀ (i j:Int) (t u:Tok) (s:Shared) (Q:Value->Shared->Prop) (E:Value->Shared->Prop),Q (.bool (g i j)) s->wpAny (model X.prog X.w) X.A (f (.int i t) (.int j u)) Q E s) :
  OpR X f (rI0 λi j=>.bl (g i j)):=by
 intro pins s σ H x y v u Q I rx ry h
 obtain ⟨i,j,rfl,rfl,q⟩:=h
 obtain ⟨t,rfl⟩:=rx
 obtain ⟨t',rfl⟩:=ry
 exact rule i j t t' s _ _ ⟨.bl (g i j),H,I,rfl,q⟩
def aIk (i j:Int):Prop:=0 < j/\j < 1073741824
def aIl (i j:Int):Prop:=0<=j/\j<=1000000/\i.natAbs < 2^64
def aGE (i j:Int):Prop:=(-(2^64) < i/\i < 2^64)∨(-(2^64) < j/\j < 2^64)
theorem aGE.ok {i j:Int} (h:aGE i j):IntMulOk i j:=by
 rcases h with ⟨h1,h2⟩ | ⟨h1,h2⟩
 ·exact .of_left (intBits_le_64 h1 h2)
 ·exact .of_right (intBits_le_64 h1 h2)
theorem bY:OpR X (binaryOp .Add) (rI0 λi j=>.int (i+j)):=aHv λ_ _ _ _ _ _ _ q=>add_int q
theorem aAj:OpR X (binaryOp .Sub) (rI0 λi j=>.int (i - j)):=aHv λ_ _ _ _ _ _ _ q=>sub_int q
theorem hX:OpR X (binaryOp .Mult) (rI aGE λi j=>.int (i*j)):=opI λ_ _ _ _ _ _ _ hc q=>mul_int q hc.ok
theorem qJ:OpR X (binaryOp .FloorDiv) (rI aIk λi j=>.int (i / j)):=opI λi j _ _ _ _ _ hc q=>by
 have h1:(0:Int) < j:=hc.1
 have h2:j < 1073741824:=hc.2
 exact floordiv_int (by omega) (by rw [Wm i (by omega)]; exact q) (.inl (PyProof.noPylong_small (by omega)))
theorem jE:OpR X (binaryOp .Mod) (rI (λ_ j=>0 < j) λi j=>.int (i % j)):=opI λi j _ _ _ _ _ hc q=>by
 have h1:(0:Int) < j:=hc
 exact mod_int' (by omega) (by rw [Int.fmod_eq_emod_of_nonneg i (by omega)]; exact q)
theorem aGF:OpR X (binaryOp .Pow) (rI aIl λi j=>.int (i^j.toNat)):=opI λ_ _ _ _ _ _ _ hc q=>pow_int_small hc.1 hc.2.1 hc.2.2 q
theorem unI {f:Value->Sem Value} {g:Int->Int}
  (rule:∀ (i:Int) (t:Tok) (s:Shared) (Q:Value->Shared->Prop) (E:Value->Shared->Prop),Q (.int (g i) s.toks) { s with toks:=s.toks+1 }->wpAny (model X.prog X.w) X.A (f (.int i t)) Q E s) :
  UnR X f (rU λi=>.int (g i)):=by
 intro pins s σ H x v Q I rx h
 obtain ⟨i,rfl,q⟩:=h
 obtain ⟨t,rfl⟩:=rx
 exact rule i t s _ _ ⟨.int (g i),H,I.tok _,⟨_,rfl⟩,q⟩
theorem aDh:UnR X (unaryOp .USub) (rU λi=>.int (-i)):=unI λ_ _ _ _ _ q=>neg_int q
def aHw:V->V->Bool
 | .non,.non=>true | .non,.int _=>true | .int _,.non=>true | .non,.bl _=>true | .bl _,.non=>true | .non,.str _=>true | .str _,.non=>true
 | .int _,.int _=>true | .bl _,.bl _=>true | .str _,.str _=>true | .byt _,.byt _=>true
 | .int _,.str _=>true | .str _,.int _=>true | .bl _,.str _=>true | .str _,.bl _=>true
 | _,_=>false
def rEq:R2:=λx y H Q=>aHw x y=true/\Q (.bl (decide (x=y))) H
def rNe:R2:=λx y H Q=>aHw x y=true/\Q (.bl (!decide (x=y))) H
theorem aBb {i j:Int}:decide (V.int i=V.int j)=(i==j):=by
 rw [Xc]
 simp
theorem aDi {i j:Bool}:decide (V.bl i=V.bl j)=(i==j):=by
 rw [Xc]
 simp
theorem aBc {i j:Str}:decide (V.str i=V.str j)=(i==j):=by
 rw [Xc]
 simp
theorem aBd {i j:Array UInt8}:decide (V.byt i=V.byt j)=(i.toList==j.toList):=by
 rw [Xc]
 cases i
 cases j
 simp
theorem bZ {σ:St} {Q:VK} {k k':Bool} (I:Inv X pins σ H s) (q:Q (.bl k) H) (e:k=k'):EP X pins σ Q (.bool k') s:=by
 subst e
 exact ⟨.bl k,H,I,rfl,q⟩
theorem gH:OpR X (compareOp .Eq) rEq:=by
 intro pins s σ H x y v u Q I rx ry h
 obtain ⟨hs,q⟩:=h
 cases x with
 | non =>
  cases rx
  cases y with
  | non=>cases ry; exact RaM (bZ I q (by simp))
  | bl j=>cases ry; exact RaN (bZ I q (by simp))
  | int j=>obtain ⟨t',rfl⟩:=ry; exact RaO (bZ I q (by simp))
  | str j=>obtain ⟨t',rfl⟩:=ry; exact RaP (bZ I q (by simp))
  | _=>exact absurd (show false=true from hs) Qr
 | bl i =>
  cases rx
  cases y with
  | non=>cases ry; exact RaQ (bZ I q (by simp))
  | bl j=>cases ry; exact eq_bool (bZ I q aDi)
  | str j=>obtain ⟨t',rfl⟩:=ry; exact RaA (bZ I q (by simp))
  | _=>exact absurd (show false=true from hs) Qr
 | int i =>
  obtain ⟨t,rfl⟩:=rx
  cases y with
  | non=>cases ry; exact RaR (bZ I q (by simp))
  | int j=>obtain ⟨t',rfl⟩:=ry; exact eq_int (bZ I q aBb)
  | str j=>obtain ⟨t',rfl⟩:=ry; exact RaB (bZ I q (by simp))
  | _=>exact absurd (show false=true from hs) Qr
 | str i =>
  obtain ⟨t,rfl⟩:=rx
  cases y with
  | non=>cases ry; exact RaS (bZ I q (by simp))
  | bl j=>cases ry; exact RaC (bZ I q (by simp))
  | int j=>obtain ⟨t',rfl⟩:=ry; exact RaD (bZ I q (by simp))
  | str j=>obtain ⟨t',rfl⟩:=ry; exact eq_str (bZ I q aBc)
  | _=>exact absurd (show false=true from hs) Qr
 | byt i =>
  obtain ⟨t,rfl⟩:=rx
  cases y with
  | byt j=>obtain ⟨t',rfl⟩:=ry; exact PySem.W.eq_bytes (bZ I q aBd)
  | _=>exact absurd (show false=true from hs) Qr
 | _=>cases y <;> exact absurd (show false=true from hs) Qr
theorem rB:OpR X (compareOp .NotEq) rNe:=by
 intro pins s σ H x y v u Q I rx ry h
 obtain ⟨hs,q⟩:=h
 cases x with
 | non =>
  cases rx
  cases y with
  | non=>cases ry; exact RaT (bZ I q (by simp))
  | bl j=>cases ry; exact RaU (bZ I q (by simp))
  | int j=>obtain ⟨t',rfl⟩:=ry; exact RaV (bZ I q (by simp))
  | str j=>obtain ⟨t',rfl⟩:=ry; exact RaW (bZ I q (by simp))
  | _=>exact absurd (show false=true from hs) Qr
 | bl i =>
  cases rx
  cases y with
  | non=>cases ry; exact RaX (bZ I q (by simp))
  | bl j=>cases ry; exact ne_bool (bZ I q (congrArg not aDi))
  | str j=>obtain ⟨t',rfl⟩:=ry; exact RaE (bZ I q (by simp))
  | _=>exact absurd (show false=true from hs) Qr
 | int i =>
  obtain ⟨t,rfl⟩:=rx
  cases y with
  | non=>cases ry; exact RaY (bZ I q (by simp))
  | int j=>obtain ⟨t',rfl⟩:=ry; exact ne_int (bZ I q (congrArg not aBb))
  | str j=>obtain ⟨t',rfl⟩:=ry; exact RaF (bZ I q (by simp))
  | _=>exact absurd (show false=true from hs) Qr
 | str i =>
  obtain ⟨t,rfl⟩:=rx
  cases y with
  | non=>cases ry; exact RaZ (bZ I q (by simp))
  | bl j=>cases ry; exact RaG (bZ I q (by simp))
  | int j=>obtain ⟨t',rfl⟩:=ry; exact RaH (bZ I q (by simp))
  | str j=>obtain ⟨t',rfl⟩:=ry; exact ne_str (bZ I q (congrArg not aBc))
  | _=>exact absurd (show false=true from hs) Qr
 | byt i =>
  obtain ⟨t,rfl⟩:=rx
  cases y with
  | byt j=>obtain ⟨t',rfl⟩:=ry; exact PySem.W.ne_bytes (bZ I q (congrArg not aBd))
  | _=>exact absurd (show false=true from hs) Qr
 | _=>cases y <;> exact absurd (show false=true from hs) Qr
theorem xG:OpR X (compareOp .Lt) (rI0 λi j=>.bl (decide (i < j))):=aE1 λ_ _ _ _ _ _ _ q=>lt_int q
theorem xH:OpR X (compareOp .LtE) (rI0 λi j=>.bl (decide (i<=j))):=aE1 λ_ _ _ _ _ _ _ q=>le_int q
theorem aBe:OpR X (compareOp .Gt) (rI0 λi j=>.bl (decide (j < i))):=aE1 λ_ _ _ _ _ _ _ q=>gt_int q
theorem aBf:OpR X (compareOp .GtE) (rI0 λi j=>.bl (decide (j<=i))):=aE1 λ_ _ _ _ _ _ _ q=>ge_int q
theorem bE (b:Expr) (h:op≠.In:=by decide) (h2:op≠.NotIn:=by decide):behindInMarks op b=false:=by
 have e1:(op==CmpOp.In)=false:=by cases op <;> first | rfl | exact absurd rfl h
 have e2:(op==CmpOp.NotIn)=false:=by cases op <;> first | rfl | exact absurd rfl h2
 cases b <;> simp [behindInMarks,e1,e2]
theorem cP (ho:OpR X (compareOp op) r) (ha:PE X a ta) (hb:PE X b tb) (hm:behindInMarks op b=false):PE X (.Compare a [op] [b] pos) (tOp r ta tb):=by
 intro pins s σ H Q I h
 exact wpAny_Compare1 (aGD ha hb I h λv u s2 x y H2 I2 rx ry q=>ho pins s2 σ H2 x y v u Q I2 rx ry q) hm
def aF9 (t:TE):TT:=λσ H Q=>t σ H λx H'=>∃ k,x=.bl k/\Q k H'
theorem bJ (ho:OpR X (compareOp op) r) (ha:PE X a ta) (hb:PE X b tb) (hm:behindInMarks op b=false):PT X (.Compare a [op] [b] pos) (aF9 (tOp r ta tb)):=by
 intro pins s σ H Q I h
 refine Rad (thn (ha pins s σ H _ I h) λv s1 ⟨x,H1,I1,r1,q1⟩=>thn (hb pins s1 σ H1 _ I1 q1) λu s2 ⟨y,H2,I2,r2,q2⟩ =>
  thn (ho pins s2 σ H2 x y v u _ I2 r1 r2 q2) λc s3 ⟨z,H3,I3,r3,k,e,q3⟩=>?_) hm
 subst e
 cases r3
 exact Rq ⟨H3,I3,q3⟩
def aDj (r r':R2) (ta tb tc:TE):TE:=λσ H Q=>ta σ H λx H1=>tb σ H1 λy H2=>r x y H2 λz H3=>∃ k,z=.bl k /\
 (if k=true then tc σ H3 λw' H4=>r' y w' H4 Q else Q (.bl false) H3)
theorem aDk {op':CmpOp} {r':R2} (ho:OpR X (compareOp op) r) (ho':OpR X (compareOp op') r') (ha:PE X a ta) (hb:PE X b tb) (hc:PE X c tc) (hm:lastMarks [op,op'] [b,c]=false:=by with_unfolding_all rfl):PE X (.Compare a [op,op'] [b,c] pos) (aDj r r' ta tb tc):=by
 intro pins s σ H Q I h
 refine Compare_chain (thn (ha pins s σ H _ I h) λv s1 ⟨x,H1,I1,r1,q1⟩=>chain_link (thn (hb pins s1 σ H1 _ I1 q1) λu s2 ⟨y,H2,I2,r2,q2⟩ =>
  thn (ho pins s2 σ H2 x y v u _ I2 r1 r2 q2) λd s3 ⟨z,H3,I3,r3,k,e,q3⟩=>?_)) hm
 subst e
 cases r3
 refine Rq ?_
 cases k with
 | false=>exact ite_ff ⟨.bl false,H3,I3,rfl,q3⟩
 | true=>exact ite_tt (chain_last (thn (hc pins s3 σ H3 _ I3 q3) λw' s4 ⟨z',H4,I4,r4,q4⟩=>ho' pins s4 σ H4 y z' u w' Q I4 r2 r4 q4))
theorem aDl {op':CmpOp} {r':R2} (ho:OpR X (compareOp op) r) (ho':OpR X (compareOp op') r') (ha:PE X a ta) (hb:PE X b tb) (hc:PE X c tc) (hm:lastMarks [op,op'] [b,c]=false:=by with_unfolding_all rfl):PT X (.Compare a [op,op'] [b,c] pos) (aF9 (aDj r r' ta tb tc)):=by
 intro pins s σ H Q I h
 refine isTrue_chain (thn (ha pins s σ H _ I h) λv s1 ⟨x,H1,I1,r1,q1⟩=>test_link (thn (hb pins s1 σ H1 _ I1 q1) λu s2 ⟨y,H2,I2,r2,q2⟩ =>
  thn (ho pins s2 σ H2 x y v u _ I2 r1 r2 q2) λd s3 ⟨z,H3,I3,r3,k,e,q3⟩=>?_)) hm
 subst e
 cases r3
 refine Rq ?_
 cases k with
 | false =>
  obtain ⟨k',e',q'⟩:=q3
  cases e'
  exact ite_ff ⟨H3,I3,q'⟩
 | true =>
  refine ite_tt (test_last (thn (hc pins s3 σ H3 _ I3 q3) λw' s4 ⟨z',H4,I4,r4,q4⟩=>thn (ho' pins s4 σ H4 y z' u w' _ I4 r2 r4 q4) λd' s5 hx9=>?_))
  obtain ⟨z2,H5,I5,r5,k2,e2,q5⟩:=hx9
  subst e2
  cases r5
  exact Rq ⟨H5,I5,q5⟩
def aHx (K:Rc) (x:V) (H:Hp) (k:Bool):Prop :=
 match x with
 | .non=>k=false
 | .bl b=>k=b
 | .int i=>k=(i !=0)
 | .str y=>y.length<=sizeLine/\k=((y.length:Int) !=0)
 | .byt y=>y.size<=sizeLine/\k=((y.size:Int) !=0)
 | .ref p=>(∃ xs,SqL K H p xs/\k=!xs.isEmpty)∨(∃ xs,SqT K H p xs/\k=!xs.isEmpty)∨∃ kvs,H p=some (.dK kvs)/\k=!kvs.isEmpty
 | _=>False
theorem aAk {kvs:List (κ×V)} {vs:List (κ×Value)} (r:KV kvs vs):(!vs.isEmpty)=!kvs.isEmpty:=by
 cases r <;> rfl
theorem rC {its:List Value} (r:bO xs its):(!its.toArray.isEmpty)=!xs.isEmpty:=by
 cases r <;> simp
theorem rD:(sizeLine:Nat) < 2^63:=by rw [Rf]; decide
theorem aGG:aIj X (λx H Q=>∃ k,aHx X.K x H k/\Q k H):=by
 intro pins s σ H x v Q I rx h
 obtain ⟨k,e,q⟩:=h
 have hl:=rD
 have hs:sizeLine=16777216:=Rf
 cases x with
 | non =>
  cases rx
  have e':k=false:=e
  subst e'
  exact truthy_none ⟨H,I,q⟩
 | bl b =>
  cases rx
  have e':k=b:=e
  subst e'
  exact Rq ⟨H,I,q⟩
 | int i =>
  obtain ⟨t,rfl⟩:=rx
  have e':k=(i !=0):=e
  subst e'
  exact PySem.P.truthy_int ⟨H,I,q⟩
 | str y =>
  obtain ⟨t,rfl⟩:=rx
  obtain ⟨hy,e'⟩:y.length<=sizeLine/\k=((y.length:Int) !=0):=e
  subst e'
  exact PySem.P.truthy_str (by omega) ⟨H,I.tok _,q⟩
 | byt y =>
  obtain ⟨t,rfl⟩:=rx
  obtain ⟨hy,e'⟩:y.size<=sizeLine/\k=((y.size:Int) !=0):=e
  subst e'
  exact PySem.W.truthy_bytes (by omega) ⟨H,I.tok _,q⟩
 | ref p =>
  cases rx
  have e':(∃ xs,SqL X.K H p xs/\k=!xs.isEmpty)∨(∃ xs,SqT X.K H p xs/\k=!xs.isEmpty)∨∃ kvs,H p=some (.dK kvs)/\k=!kvs.isEmpty:=e
  rcases e' with ⟨xs,hx,e'⟩ | ⟨xs,hx,e'⟩ | ⟨kvs,hx,e'⟩
  ·subst e'
   obtain ⟨its,r,pl,hz⟩:=I.list hx
   have hlen:=r.length
   exact wpAny_truthy_list pl.isList (by simp only [Ql]; omega) ⟨H,I.tok _,by rw [rC r]; exact q⟩
  ·subst e'
   obtain ⟨its,r,pl,hz⟩:=I.tuple hx
   have hlen:=r.length
   exact truthy_tuple pl (by simp only [Ql]; omega) ⟨H,I.tok _,by rw [rC r]; exact q⟩
  ·subst e'
   obtain ⟨hz,hS,vs,r,m⟩:kvs.length<=sizeLine/\(p==sysModules)=false/\∃ vs,KV kvs vs/\s.heap.DictOf (cA X.prog X.w) p vs:=I.hok p _ hx
   have hlen:kvs.length=vs.length:=Paired.length r
   exact wpAny_truthy_dict hS m (by omega) ⟨H,I.tok _,by rw [aAk r]; exact q⟩
 | _=>exact (show False from e).elim
theorem aDm (ha:PE X a ta) (he:∀ whole,isTrue a X.env whole=(do let v<-whole; standAt a.pos; holding [v] (truthy v))) :
  PT X a (λσ H Q=>ta σ H λx H'=>∃ k,aHx X.K x H' k/\Q k H'):=by
 intro pins s σ H Q I h
 refine isTrue_plain (thn (ha pins s σ H _ I h) λv s1 hx9=>?_) (he _)
 obtain ⟨x,H1,I1,r1,q1⟩:=hx9
 exact aGG pins s1 σ H1 x v Q I1 r1 q1
theorem eX (r:bO [x] us):∃ u,us = [u]/\bS x u:=by
 cases r with
 | cons r1 r2=>cases r2; exact ⟨_,rfl,r1⟩
theorem nM (r:bO [x,y] us):∃ u w',us = [u,w']/\bS x u/\bS y w':=by
 cases r with
 | cons r1 r2 =>
  cases r2 with
  | cons r3 r4=>cases r4; exact ⟨_,_,rfl,r1,r3⟩
theorem uG (hc:X.calm=true):dF X (.builtin "max") (λxs H Q=>∃ i j,xs = [.int i,.int j]/\Q (.int (if j > i then j else i)) H):=by
 intro pins s σ H xs us Q I r h
 obtain ⟨i,j,rfl,q⟩:=h
 obtain ⟨u,w',rfl,⟨t,rfl⟩,⟨t',rfl⟩⟩:=nM r
 refine max_two_ints (I.ok.hd hc) λh' tk k=>⟨_,H,I.kept k,?_,q⟩
 by_cases hj:j > i
 ·rw [if_pos hj,if_pos hj]; exact ⟨_,rfl⟩
 ·rw [if_neg hj,if_neg hj]; exact ⟨_,rfl⟩
theorem aCf:dF X (.type "int") (λxs H Q=>(∃ i,xs = [.int i]/\Q (.int i) H)∨∃ k,xs = [.bl k]/\Q (.int (if k then 1 else 0)) H):=by
 intro pins s σ H xs us Q I r h
 rcases h with ⟨i,rfl,q⟩ | ⟨k,rfl,q⟩
 ·obtain ⟨u,rfl,t,rfl⟩:=eX r
  exact call_int_int ⟨.int i,H,I,⟨_,rfl⟩,q⟩
 ·obtain ⟨u,rfl,r1⟩:=eX r
  cases r1
  exact call_int_bool ⟨.int (if k then 1 else 0),H,I.tok _,⟨_,rfl⟩,q⟩
end
section
variable {x:Addr} {mA:Str->Option Value} {v:Value}
end
theorem nK.some_of {o:Option Value} (r:nK (some v) o):∃ u,o=some u/\bS v u:=by
 cases o with
 | none=>exact (show False from r).elim
 | some u=>exact ⟨u,rfl,r⟩
theorem nK.none_of {o:Option Value} (r:nK none o):o=none:=by
 cases o with
 | none=>rfl
 | some u=>exact (show False from r).elim
section
variable {fs fs':List (Str×V)}
end
section
variable {σ:St} {fs:List (Str×V)} {f:Str}
end
section
variable {o:Expr} {f:Str}
end
section
variable {σ:St} {c:Value} {b:Bool}
end
structure Room (k:Nat) (A:Around):Prop where
 hd:A.handled=none
 dp:A.depth+3*k+5 < recursionLimit
 un:A.units+16*k+200 < cLine
 gd:A.guards=some []
theorem Room.mono {k:Nat} (r:Room k A) (h:j<=k):Room j A:=⟨r.hd,by have:=r.dp; omega,by have:=r.un; omega,r.gd⟩
theorem Room.deeper {k:Nat} (r:Room (k+1) A) (env:Env):Room k (A.deeper env) :=
 ⟨r.hd,by have:=r.dp; show A.depth+1+3*k+5 < _; omega,by have:=r.un; show A.units+3+16*k+200 < _; omega,r.gd⟩
theorem Room.in1 {k:Nat} (r:Room (k+1) A):Room k A.in1 :=
 ⟨r.hd,by have:=r.dp; show A.depth+3*k+5 < _; omega,by have:=r.un; show A.units+1+16*k+200 < _; omega,r.gd⟩
theorem Room.depth {k:Nat} (r:Room k A):A.depth < recursionLimit:=by have:=r.dp; omega
theorem Room.units {k:Nat} (r:Room k A):A.units+64 < cLine:=by have:=r.un; omega
abbrev aCg:TA:=λ_ H Q=>Q [] H
abbrev uH (ta:TE) (tr:TA):TA:=λσ H Q=>ta σ H λx H1=>tr σ H1 λxs H2=>Q (x::xs) H2
section
variable {t:TA}
theorem aC:PA X [] aCg:=λ_ _ _ _ H Q I h=>Calls.spliced_nil ⟨[],H,I,.nil,h⟩
theorem aA (ha:PE X e te) (hr:PA X es t) (hs:starEach (e::es) X.env=(false,eval e X.env)::starEach es X.env:=by rfl):PA X (e::es) (uH te t):=by
 intro pos pins s σ H Q I h
 rw [hs]
 show wpAny _ _ (spliced ((false,eval e X.env)::backTo pos (starEach es X.env))) _ _ s
 refine Calls.spliced_cons (thn (ha pins s σ H _ I h) λu s1 hx9=>?_)
 obtain ⟨x,H1,I1,r1,q1⟩:=hx9
 refine thn (hr pos pins s1 σ H1 _ I1 q1) λus s2 hx9=>?_
 obtain ⟨xs,H2,I2,r2,q2⟩:=hx9
 exact ⟨x::xs,H2,I2,.cons r1 r2,q2⟩
def aHy (t:TA):TE:=λσ H Q=>t σ H λxs H1=>xs.length<=sizeLine/\∀ p,H1 p=none->Q (.ref p) (upd H1 p (.tup xs))
def aIm (t:TA):TE:=λσ H Q=>t σ H λxs H1=>xs.length<=sizeLine/\∀ p,H1 p=none->Q (.ref p) (upd H1 p (.lst xs))
theorem dI {x1} (h:PA X es t):PE X (.Tuple es x1 pos) (aHy t):=by
 intro pins s σ H Q I hq
 refine wpAny_Tuple_spliced (thn (h pos pins s σ H _ I hq) λus s1 ⟨xs,H1,I1,r,z,q⟩=>⟨by rw [<- r.length]; exact z,?_⟩)
 have hf:H1 s1.heap.objs.size=none:=I1.hok.fresh (Qg _)
 refine ⟨.ref s1.heap.objs.size,upd H1 s1.heap.objs.size (.tup xs),I1.laid (t':=s1.toks) (λb u e=>Qa _ e) (Qg _) ?_,rfl,q _ hf⟩
 exact ⟨z,us,0,r,Qh _ rfl⟩
theorem fO (h:PA X es t):PE X (.List es pos) (aIm t):=by
 intro pins s σ H Q I hq
 refine wpAny_List_spliced (thn (h pos pins s σ H _ I hq) λus s1 ⟨xs,H1,I1,r,z,q⟩=>⟨by rw [<- r.length]; exact z,?_⟩)
 have hf:H1 s1.heap.objs.size=none:=I1.hok.fresh (Qg _)
 refine ⟨.ref s1.heap.objs.size,upd H1 s1.heap.objs.size (.lst xs),I1.laid (t':=s1.toks) (λb u e=>Qa _ e) (Qg _) ?_,rfl,q _ hf⟩
 exact ⟨z,us,0,r,Qh _ rfl⟩
end
abbrev Sp:=List V->Hp->VK->XK->Prop
end L2
variable {sp:Sp}
namespace L2
open PySem PySem.Spec PyProof.Rows
abbrev CXT:=List Env->Hp->Shared->XK->Value->Shared->Prop
end L2
variable {CX:CXT}
namespace L2
open PySem PySem.Spec PyProof.Rows
structure Env0 (P:Program) (w:World) (K:Rc) (mg:Str->Option Value) (base:Heap) (A:Around) (outer:List Env) (s:Shared) (H:Hp):Prop where
 frames:A.frames=some outer
 mod:Mod K mg base
 bs:∀ b o,base.get? b=some o->s.heap.get? b=some o/\H b=none
 bsz:base.objs.size<=s.heap.objs.size
 funs:s.heap.FunFrames base outer
 frf:∀ b∈frs outer,H b=none
 hok:HOk P w H s.heap
 bare:AllBare s.gens
def CE (outer:List Env) (P:Program) (w:World) (H:Hp) (s:Shared) (Q:VK) (u:Value) (s':Shared):Prop :=
 ∃ v H',s'.os=s.os/\AllBare s'.gens/\Un (frs outer) [] H H' s.heap s'.heap/\HOk P w H' s'.heap/\bS v u/\Q v H'
def CR (CX:CXT) (outer:List Env) (P:Program) (w:World) (H:Hp) (s:Shared) (Q:VK) (E:XK) (r:Result) (s':Shared):Prop :=
 match r with
 | .ok (.ret u)=>CE outer P w H s Q u s'
 | .ok _=>False
 | .error e=>CX outer H s E e s'
structure FnOk (P:Program) (w:World) (K:Rc) (mg:Str->Option Value) (base:Heap) (CX:CXT) (k:Nat) (f:Addr) (fd:FuncData) (ps:List Str) (sp:Sp):Prop where
 len:∀ vs H Q E,sp vs H Q E->vs.length=ps.length
 run:∀ (A:Around) (outer:List Env) (s:Shared) (H:Hp) (args:Args) (us:List Value) (vs:List V) (Q:VK) (E:XK),Room k A->Env0 P w K mg base A outer s H->BindsTo s fd args (ps.zip us)->bO vs us->sp vs H Q E ->
  codeAny (model P w) A (.call (.ref f) args) (CR CX outer P w H s Q E) s
section
variable {σ:St}
theorem Inv.env0 (I:Inv X pins σ H s):Env0 X.prog X.w X.K X.mg X.base X.A X.stack s H :=
 ⟨I.ok.frames,I.ok.mod,I.bs,Jl I.ok.bsz I.sz,I.stack,I.stkFree,I.hok,I.bare⟩
theorem Inv.after {Q:VK} (I:Inv X pins σ H s) (h:CE X.stack X.prog X.w H s Q u s'):EP X pins σ Q u s':=by
 obtain ⟨v,H',os,bare,un,hok,r,q⟩:=h
 obtain ⟨hh,g,d,t,os'⟩:=s'
 obtain rfl:os'=s.os:=os
 exact ⟨v,H',I.call (h':=hh) (g':=g) (d':=d) (t':=t) (ch:=[]) un hok bare (λb z=>absurd z (by simp)),r,q⟩
end
def aGa (sp:Sp) (dvs:List V) (E:XK) (t:TA):TE:=λσ H Q=>t σ H λvs H1=>sp (vs++dvs) H1 Q E
def uI (K:Rc) (fd:FuncData) (ps:List Str) (ds:List Value):Prop :=
 ∀ (s:Shared) (us:List Value),K.In s.heap->(us++ds).length=ps.length->BindsTo s fd ⟨us,[]⟩ (ps.zip (us++ds))
theorem uI.all (h:∀ us:List Value,us.length=ps.length->bindArgs fd ⟨us,[]⟩=pure (ps.zip us)):uI K fd ps []:=λs us _ hl=>by
 rw [Zk] at hl ⊢
 exact .of_eq (h us hl)
def aAl (CX:CXT) (X:Cx) (E:XK):Prop:=∀ (pins:List (Addr×Obj)) (σ:St) (H:Hp) (s:Shared) (e:Value) (s':Shared),Inv X pins σ H s->CX X.stack H s E e s'->X.xe e s'
section
variable {k:Nat} {dvs:List V} {ds:List Value} {E:XK} {x m:Str} {o:Expr} {t:TA}
theorem aGH {σ:St} {Q:VK} (F:FnOk X.prog X.w X.K X.mg X.base CX k f fd ps sp) (hr:Room k X.A) (hb:uI X.K fd ps ds) (hd:bO dvs ds) (hx:aAl CX X E) (I:Inv X pins σ H s) (r:bO vs us) (h:sp (vs++dvs) H Q E):wpAny (model X.prog X.w) X.A (call (.ref f) us) (EP X pins σ Q) X.xe s:=by
 have r2:bO (vs++dvs) (us++ds):=r.append hd
 have hl:(us++ds).length=ps.length:=by rw [<- r2.length]; exact F.len _ _ _ _ h
 refine Iu (Ul (F.run X.A X.stack s H ⟨us,[]⟩ (us++ds) (vs++dvs) Q E hr I.env0 (hb s us I.kIn hl) r2 h) λr s' hq=>?_)
 cases r with
 | error e=>exact hx pins σ H s e s' I hq
 | ok fl =>
  cases fl with
  | ret u=>exact I.after hq
  | next=>exact False.elim hq
  | brk=>exact False.elim hq
  | cont=>exact False.elim hq
theorem aE2 (F:FnOk X.prog X.w X.K X.mg X.base CX k f fd ps sp) (hr:Room k X.A) (hg:Gl X x) (hm:X.mg x=some (.ref f)) (hk:Uo X.K (.ref f)=true) (hb:uI X.K fd ps ds) (hd:bO dvs ds) (hx:aAl CX X E)
  (ha:PA X (e::es) t) (hdb:(x==("__debug__" : Str))=false:=by decide) (he:starEach (e::es) X.env=(false,eval e X.env)::starEach es X.env:=by rfl) (hpl:(backTo pos (starEach es X.env)).any (·.1)=false:=by rfl) :
  PE X (.Call (.Name x p) (e::es) [] pos) (aGa sp dvs E t):=by
 intro pins s σ H Q I h
 refine Tx (aA7 I hg hm ?_ hdb)
 refine PySem.W.callWith_K (h₀:=X.base) I.ok.mod.kin hk (thn (ha pos pins s σ H _ I h) λus s1 ⟨vs,H1,I1,r,q⟩=>⟨I1.kIn,?_⟩) he hpl
 exact aGH F hr hb hd hx I1 r q
end
def PK (X:Cx) (kws:List Keyword) (t:TA):Prop :=
 ∀ (pos:Pos) (pins:List (Addr×Obj)) (s:Shared) (σ:St) (H:Hp) (Q:List V->Hp->Prop),Inv X pins σ H s->t σ H Q->wpAny (model X.prog X.w) X.A (evalAll ((backToKw pos (keywordEach kws X.env)).map (·.2))) (AP X pins σ Q) X.xe s
section
variable {k:Nat} {ks:List Str} {E:XK} {x m:Str} {o:Expr} {kws:List Keyword} {t tk:TA} {nm:Option Str}
theorem aGI:PK X [] aCg:=λ_ _ _ _ H Q I h=>wpAny_evalAll_nil ⟨[],H,I,.nil,h⟩
theorem aE3 (ha:PE X e te) (hr:PK X kws t):PK X (⟨nm,e,kpos⟩::kws) (uH te t):=by
 intro pos pins s σ H Q I h
 show wpAny _ _ (evalAll ((do let v<-eval e X.env; standAt pos; pure v)::(backToKw pos (keywordEach kws X.env)).map (·.2))) _ _ s
 refine wpAny_evalAll_cons (Ra (thn (ha pins s σ H _ I h) λu s1 ⟨x,H1,I1,r1,q1⟩=>Ra (Tj (Rb ?_))))
 refine thn (hr pos pins s1 σ H1 _ I1 q1) λus s2 hx9=>?_
 obtain ⟨xs,H2,I2,r2,q2⟩:=hx9
 exact ⟨x::xs,H2,I2,.cons r1 r2,q2⟩
variable {g:List Value->List Value->List Value} {gV:List V->List V->List V}
end
structure FnScope (N P:List Str) (sc:Scope):Prop where
 kind:sc.kind=.function
 co:sc.isCoroutine=false
 gen:sc.isGenerator=false
 nd:N.Nodup
 pre:N.take P.length=P
 par:∀ x∈P,sc.names.lookup x=some .local∨sc.names.lookup x=some .cell
 nofree:∀ y∈sc.names,y.2≠.free
theorem uJ {x:Str}:∀ {binds:List (Str×Value)} {m:Str->Option Value},(∀ v,(x,v)∉binds)->bindL kindOf binds m x=m x
 | [],_,_=>rfl
 | (n,v)::r,m,h=>by
  unfold bindL
  rw [uJ λw hw=>h w (Qk _ hw)]
  split
  ·have:x≠n:=by rintro rfl; exact h v Qi
   simp [this]
  ·rfl
theorem uK {x:Str}:∀ {binds:List (Str×Value)} {m:Str->Option Value},(∀ v,(x,v)∉binds)->bindC kindOf binds m x=m x
 | [],_,_=>rfl
 | (n,v)::r,m,h=>by
  unfold bindC
  rw [uK λw hw=>h w (Qk _ hw)]
  split
  ·rfl
  ·have:x≠n:=by rintro rfl; exact h v Qi
   simp [this]
theorem uL {x:Str} {v:Value}:∀ {P:List Str} {vs:List Value} {i:Nat} {m:Str->Option Value},P.Nodup->P[i]?=some x->vs[i]?=some v->kindOf x=some .local ->
  bindL kindOf (P.zip vs) m x=some v
 | [],_,_,_,_,h,_,_=>by simp at h
 | _::_,[],_,_,_,_,h,_=>by simp at h
 | p::P,w::vs,0,m,nd,h1,h2,hk=>by
  simp at h1 h2; subst h1; subst h2
  show bindL kindOf ((p,w)::P.zip vs) m p=_
  unfold bindL
  rw [uJ λv hv=>(Xd.mp nd).1 (Qaj hv).1,if_pos hk]
  simp
 | p::P,w::vs,i+1,m,nd,h1,h2,hk=>by
  show bindL kindOf ((p,w)::P.zip vs) m x=_
  unfold bindL
  exact uL (i:=i) (Xd.mp nd).2 (by simpa using h1) (by simpa using h2) hk
theorem uM {x:Str} {v:Value}:∀ {P:List Str} {vs:List Value} {i:Nat} {m:Str->Option Value},P.Nodup->P[i]?=some x->vs[i]?=some v->kindOf x≠some .local ->
  bindC kindOf (P.zip vs) m x=some v
 | [],_,_,_,_,h,_,_=>by simp at h
 | _::_,[],_,_,_,_,h,_=>by simp at h
 | p::P,w::vs,0,m,nd,h1,h2,hk=>by
  simp at h1 h2; subst h1; subst h2
  show bindC kindOf ((p,w)::P.zip vs) m p=_
  unfold bindC
  rw [uK λv hv=>(Xd.mp nd).1 (Qaj hv).1,if_neg hk]
  simp
 | p::P,w::vs,i+1,m,nd,h1,h2,hk=>by
  show bindC kindOf ((p,w)::P.zip vs) m x=_
  unfold bindC
  exact uM (i:=i) (Xd.mp nd).2 (by simpa using h1) (by simpa using h2) hk
def start (N:List Str) (vs:List V):St:=vs.map some++List.replicate (N.length - vs.length) none
def aAm (CX:CXT) (P:Program) (w:World) (K:Rc) (mg:Str->Option Value) (base:Heap) (N:List Str) (qual:Str) (scope:Scope) (f:Addr) (cd:Value) (A:Around) (outer:List Env) (s:Shared) (H:Hp) (E:XK):Cx where
 prog:=P
 w:=w
 K:=K
 mg:=mg
 base:=base
 A:=A.deeper (envOfC qual scope s.heap.objs.size f cd)
 N:=N
 s0x:=s
 H0x:=H
 env:=envOfC qual scope s.heap.objs.size f cd
 outer:=outer
 stack:=envOfC qual scope s.heap.objs.size f cd::outer
 ex:=[]
 calm:=true
 fn:=λ_=>true
 pn:=[]
 xe:=λe s'=>wpAny (model P w) (A.deeper (envOfC qual scope s.heap.objs.size f cd)) (leaving (envOfC qual scope s.heap.objs.size f cd) e) (λ_ s''=>CX outer H s E e s'') (λe' s''=>CX outer H s E e' s'') s'
theorem xI {sc:Scope} {x:Str} (h:sc.names.lookup x=some .cell):∃ c,(cellsFrom n sc.names []).lookup x=some c:=by
 have q:=Mh sc.names n [] (.inl h)
 exact Wy.mp q
theorem aCh {cd:Value} {outer:List Env} {s1:Shared} {E:XK} (S:FnScope N ps scope) (hd:A.handled=none) (e0:Env0 P w K mg base A outer s H) (hl:vs.length=ps.length) (r:bO vs us) (x:InCallC s s.heap.objs.size (bindL (envOfC qual scope s.heap.objs.size f cd).kindOf (ps.zip us) λ_=>none) (cellsFrom (s.heap.objs.size+1) scope.names []) (bindC (envOfC qual scope s.heap.objs.size f cd).kindOf (ps.zip us) λ_=>none) s1) :
  Inv (aAm CX P w K mg base N qual scope f cd A outer s H E) [] (start N vs) H s1:=by
 have hpl:ps.length<=N.length:=by have:=congrArg Zy S.pre; rw [Qw] at this; omega
 obtain ⟨h1,tk,rfl,hk⟩:=x.done
 have noA:∀ b:Addr,b∉(aAm CX P w K mg base N qual scope f cd A outer s H E).ex:=λb z=>absurd (show b∈([]:List Addr) from z) (by simp)
 refine ⟨⟨e0.mod,S.kind,rfl,rfl,Qg _,λy z c h1 h2=>?_,λy hy=>?_,λy c _ h=>?_,λ_=>hd,Around.frames_deeper e0.frames,.inr ⟨rfl,rfl⟩,λb z=>absurd z (noA b),e0.bs,e0.bsz,λb _ _=>noA b,λb z=>absurd z (noA b),e0.funs,e0.frf⟩,
  rfl,e0.bare,Un.kept hk,⟨_,x.toInCall.ns,λi y v h1 h2 h3=>?_⟩,λy c h=>⟨_,x.cell y c h⟩,e0.hok.fresh (Qg _),λy c h=>?_,λp hp=>absurd (show p∈([]:List (Addr×Obj)) from hp) (by simp),e0.hok.kept hk,?_⟩
 ·exact name_of_addr x.apart (Ue h1) (Ue h2)
 ·have hy:scope.names.lookup y=some .cell∨scope.names.lookup y=some .free:=hy
  rcases hy with hy | hy
  ·exact xI hy
  ·exact absurd rfl (S.nofree _ (Ue hy))
 ·exact Yw (x.above y c (Ue h))
 ·have hi:i < vs.length:=by
   unfold start at h2
   by_cases hi:i < vs.length
   ·exact hi
   ·rw [Je (by simpa using hi)] at h2
    rw [Ze] at h2
    split at h2 <;> cases h2
  have ha:vs[i]?=some v:=by
   unfold start at h2
   rw [Qu (by simpa using hi),Qe] at h2
   cases e:vs[i]? with
   | none=>rw [e] at h2; cases h2
   | some a=>rw [e] at h2; cases h2; rfl
  obtain ⟨u,hu,rv⟩:=r.get ha
  have hp:ps[i]?=some y:=by
   rw [<- S.pre,Wz (by omega)]; exact h1
  have ndP:ps.Nodup:=by rw [<- S.pre]; exact S.nd.sublist (List.take_sublist _ _)
  refine ⟨u,rv,?_⟩
  rcases S.par y (Qj hp) with k | k
  ·exact .inl ⟨k,uL ndP hp hu k⟩
  ·obtain ⟨c,e⟩:=xI (n:=s.heap.objs.size+1) k
   refine .inr ⟨.inl k,c,e,?_⟩
   have q:=x.cell y c e
   rw [uM ndP hp hu (by show scope.names.lookup y≠_; rw [k]; decide)] at q
   exact q
 ·exact e0.hok.fresh (Yw (x.above y c (Ue h)))
 ·unfold start
  show _=N.length
  rw [Qn,Qb,Ju]
  omega
theorem aGb {k:Nat} {dV kV:Value} (lk:K.lookup f=some ⟨oc,od,.func (Tn name qual params body scope dV kV doc pm an cdv ct),osl⟩) (hcd:Ve K cdv qual=true) (S:FnScope N ps scope) (len:∀ vs H Q E,sp vs H Q E->vs.length=ps.length) (hbody:∀ (A:Around) (outer:List Env) (s:Shared) (H:Hp) (vs:List V) (Q:VK) (E:XK),Room k (A.deeper (envOfC qual scope s.heap.objs.size f cdv))->sp vs H Q E ->
   ∃ t,PSs (aAm CX P w K mg base N qual scope f cdv A outer s H E) body t/\t { nx:=λ_ H'=>Q .non H',rt:=Q } (start N vs) H) :
  FnOk P w K mg base CX (k+1) f (Tn name qual params body scope dV kV doc pm an cdv ct) ps sp:=by
 refine ⟨len,λA outer s H args us vs Q E hr e0 hb r hsp=>?_⟩
 have hl:=len _ _ _ _ hsp
 have KX:K.In s.heap:=e0.mod.kin.keeps λb o e=>(e0.bs b o e).1
 have lim:s.heap.NoLimit:=e0.mod.nolimit.keeps λb o e=>(e0.bs b o e).1
 have hkind:∀ y∈ps.zip us,scope.names.lookup y.1=some .local∨(scope.names.lookup y.1=some .cell/\((cellsFrom (s.heap.objs.size+1) scope.names []).lookup y.1).isSome=true):=λ⟨n,v⟩ hy=>by
  rcases S.par n (Qaj hy).1 with q | q
  ·exact .inl q
  ·exact .inr ⟨q,Mh _ _ _ (.inl q)⟩
 refine codeAny_call_function hr.depth (KX _ _ lk) rfl S.co S.gen rfl (PySem.W.codeRec_of KX hcd) (hb _ _ _ _ ?_)
 refine wpAny_newFunctionEnv_cells S.kind hkind λenv he s1 x=>?_
 subst he
 refine ⟨lim.keeps x.toInCall.keep,codeAny_func ?_⟩
 obtain ⟨t,ht,hq⟩:=hbody A outer s H vs Q E (hr.deeper _) hsp
 have I:Inv (aAm CX P w K mg base N qual scope f cdv A outer s H E) [] (start N vs) H s1:=aCh S hr.hd e0 hl r x
 refine Rr (ht [] s1 (start N vs) H _ I hq) (λfl s' hs=>?_) λe s' hs=>hs
 have fin:∀ {σ':St} {H':Hp} {v:V} {u:Value},Inv (aAm CX P w K mg base N qual scope f cdv A outer s H E) [] σ' H' s'->bS v u->Q v H'->CE outer P w H s Q u s' :=
  λ{σ' H' v u} J rv q=>⟨v,H',J.os,J.bare,J.base,J.hok,rv,q⟩
 cases fl with
 | ret u =>
  obtain ⟨v,σ',H',J,rv,q⟩:=hs
  exact fin J rv q
 | next =>
  obtain ⟨σ',H',J,q⟩:=hs
  exact fin (v:=V.non) (u:=Value.none) J rfl q
 | brk =>
  obtain ⟨_,_,_,q⟩:=hs
  exact False.elim q
 | cont =>
  obtain ⟨_,_,_,q⟩:=hs
  exact False.elim q
section
variable {x:Str} {t:TA} {id:String} {r:List V->Hp->VK->Prop}
def tCB (r:List V->Hp->VK->Prop) (t:TA):TE:=λσ H Q=>t σ H λvs H1=>r vs H1 Q
theorem aP (hc:dF X (.builtin id) r) (hg:Gl X x) (hm:X.mg x=none) (hv:bootBuiltins x=some (.builtin id)) (ha:PA X (e::es) t) (hn:x ≠ "__name__" := by decide) (hdb:(x==("__debug__" : Str))=false:=by decide)
  (he:starEach (e::es) X.env=(false,eval e X.env)::starEach es X.env:=by rfl) (hpl:(backTo pos (starEach es X.env)).any (·.1)=false:=by rfl):PE X (.Call (.Name x p) (e::es) [] pos) (tCB r t):=by
 intro pins s σ H Q I h
 refine Tx (iL I hg hm hv ?_ hn hdb)
 refine PyProof.Rows.callWith_builtin1 (thn (ha pos pins s σ H _ I h) λus s1 hx9=>?_) he hpl
 obtain ⟨vs,H1,I1,r1,q1⟩:=hx9
 exact hc pins s1 σ H1 vs us Q I1 r1 q1
theorem bK (hc:dF X (.type T) r) (hg:Gl X x) (hm:X.mg x=none) (hv:bootBuiltins x=some (.type T)) (ha:PA X (e::es) t) (hn:x ≠ "__name__" := by decide) (hdb:(x==("__debug__" : Str))=false:=by decide)
  (he:starEach (e::es) X.env=(false,eval e X.env)::starEach es X.env:=by rfl) (hpl:(backTo pos (starEach es X.env)).any (·.1)=false:=by rfl):PE X (.Call (.Name x p) (e::es) [] pos) (tCB r t):=by
 intro pins s σ H Q I h
 refine Tx (iL I hg hm hv ?_ hn hdb)
 refine PyProof.Rows.callWith_type1 (thn (ha pos pins s σ H _ I h) λus s1 hx9=>?_) he hpl
 obtain ⟨vs,H1,I1,r1,q1⟩:=hx9
 exact hc pins s1 σ H1 vs us Q I1 r1 q1
end
end L2
namespace HT
open PySem PyProof.Rows
section
open PySem.SeqAt
open PySem.AutoSeq1 (wpAny_loadPart')
open PySem.MeetsSeq PySem.MeetsSeq2 PySem.MeetsSeq3
end
theorem cat_tup {t:Addr} {vs ws:List Value} (ht:IsTup s.heap t vs.toArray) (hb:IsTup s.heap b ws.toArray) (hv:vs≠[]) (h1:ws = []->Q (.ref t) s) (h2:ws≠[]->Q (.ref s.heap.objs.size) { s with heap:=s.heap.push { cls:=.type "tuple",data:=.seq (vs++ws).toArray } }) (hsz:vs.length+ws.length<=sizeLine):wpAny (model prog w) A (binaryOp .Add (.ref t) (.ref b)) Q E s:=by
 obtain ⟨⟨cls,dd,data,sl⟩,ho,hc,n,hd⟩:=id ht
 obtain ⟨⟨cls2,dd2,data2,sl2⟩,ho2,hc2,n2,hd2⟩:=id hb
 simp only at hc hd hc2 hd2
 subst hc hd hc2 hd2
 have e:vs.toArray++ws.toArray=(vs++ws).toArray:=by simp
 by_cases hw:ws = []
 ·exact Iz ⟨_,ho,rfl⟩ ⟨_,ho2,rfl⟩ Vs Ik Up Uj (Ug _ _)
   (tuple_addW1 t b vs.toArray ws.toArray n n2 dd dd2 sl sl2 (by simpa using hv) (by simp [hw])) ⟨ho,ho2,h1 hw⟩
 ·refine Iz ⟨_,ho,rfl⟩ ⟨_,ho2,rfl⟩ Vs Ik Up Uj (Ug _ _)
   (tuple_addW2 t b vs.toArray ws.toArray n n2 dd dd2 sl sl2 (by simpa using hv) (by simpa using hw) (by rw [Ql,Ql]; exact hsz)) ⟨ho,ho2,?_⟩
  rw [e]
  exact h2 hw
def sIx (n d:Nat):Option Int->Nat
 | none=>d
 | some v=>if v < 0 then (v+(n:Int)).toNat else min v.toNat n
theorem sIx_none (n d:Nat):sIx n d none=d:=rfl
theorem sIx_nat (n d k:Nat):sIx n d (some (k:Int))=min k n:=by
 show (if (k:Int) < 0 then ((k:Int)+(n:Int)).toNat else min (k:Int).toNat n)=min k n
 rw [if_neg (by omega),Jc]
theorem aGJ (n d:Nat) (hd:d<=n) (o:Option Int):sIx n d o<=n:=by
 cases o with
 | none=>exact hd
 | some v =>
  show (if v < 0 then (v+(n:Int)).toNat else min v.toNat n)<=n
  by_cases hv:v < 0
  ·rw [if_pos hv]; omega
  ·rw [if_neg hv]; exact Nat.min_le_right _ _
theorem aBg (v:Int) (n d:Nat):(if v < 0 then max (v+(n:Int)) 0 else min v (n:Int))=((sIx n d (some v):Nat):Int):=by
 show (if v < 0 then max (v+(n:Int)) 0 else min v (n:Int))=(((if v < 0 then (v+(n:Int)).toNat else min v.toNat n):Nat):Int)
 by_cases hv:v < 0
 ·simp only [if_pos hv]; omega
 ·simp only [if_neg hv]; omega
theorem aAn (lo hi:Option Int) (n:Nat):Builtin.Slice.sliceAdjust lo hi 1 (n:Int)=(((sIx n 0 lo:Nat):Int),((sIx n n hi:Nat):Int)):=by
 have h1:¬ ((1:Int) < 0):=by omega
 unfold Builtin.Slice.sliceAdjust
 simp only [h1,if_false]
 refine Prod.ext ?_ ?_
 ·cases lo with
  | none=>rfl
  | some v=>exact aBg v n 0
 ·cases hi with
  | none=>rfl
  | some v=>exact aBg v n n
theorem aAo (i j:Nat):Builtin.Slice.slicePlaces (i:Int) (j:Int) 1=j - i:=by
 unfold Builtin.Slice.slicePlaces
 have h1:(1:Int) > 0:=by omega
 simp only [h1,if_true,Int.ediv_one]
 split <;> omega
theorem rE {v:Value} {o:Option Int} {Q:Option Int->Shared->Prop} (p:IsPart v o) (h:Q o s):wpAny (model prog w) A (Builtin.Slice.slicePartIndex v) Q E s:=by
 cases p with
 | none=>exact slicePart_none h
 | int i t=>exact slicePart_int h
theorem sliceApplied_gen {lo:Option Int} {Q:Int×Int×Nat->Shared->Prop} (hs:s.heap.IsSliceOf sl vl vu .none) (pl:IsPart vl lo) (pu:IsPart vu hi) (h:Q (((sIx n 0 lo:Nat):Int),1,sIx n n hi - sIx n 0 lo) s):wpAny (model prog w) A (Builtin.Slice.sliceApplied (.ref sl) (pure (n:Int))) Q E s:=by
 obtain ⟨os,hos,hcs,hds⟩:=id hs
 unfold Builtin.Slice.sliceApplied Builtin.Slice.sliceFields
 refine Ra (Ra (Rl hos hds (x:=vl) rfl (Ra (Rl hos hds (x:=vu) rfl (Ra (Rl hos hds (x:=.none) rfl (Rb ?_)))))))
 refine Ra (slicePart_none ?_)
 show wpAny _ _ (if ((1:Int)==0)=true then _ else _) _ _ s
 rw [if_neg (by decide)]
 refine Ra (rE pl (Ra (rE pu (Ra (Rb ?_)))))
 show wpAny _ _ (match Builtin.Slice.sliceAdjust lo hi 1 (n:Int) with | (lo,hi)=>pure (lo,(1:Int),Builtin.Slice.slicePlaces lo hi 1)) _ _ s
 rw [aAn lo hi n]
 show wpAny _ _ (pure (((sIx n 0 lo:Nat):Int),(1:Int),Builtin.Slice.slicePlaces ((sIx n 0 lo:Nat):Int) ((sIx n n hi:Nat):Int) 1)) _ _ s
 rw [aAo]
 exact Rb h
theorem pick_gen (xs:Array Value) (i k:Nat):((List.range k).filterMap λ(m:Nat)=>xs[((i:Int)+(m:Int)*1).toNat]?).toArray=((xs.toList.drop i).take k).toArray:=by
 have e:(λ(m:Nat)=>xs[((i:Int)+(m:Int)*1).toNat]?)=λm=>xs[i+m]?:=by
  funext m
  have:((i:Int)+(m:Int)*1).toNat=i+m:=by omega
  rw [this]
 rw [e]
 have:=pick_run xs i k
 rw [Zx] at this
 have e2:((λx=>xs[x]?) ∘ λx=>i+x)=λm=>xs[i+m]?:=rfl
 rw [e2] at this
 rw [this]
theorem getItem_tuple_cut {t:Addr} {lo:Option Int} (ht:IsTup s.heap t items) (hs:s.heap.IsSliceOf sl vl vu .none) (pl:IsPart vl lo) (pu:IsPart vu hi) (hw:¬ (sIx items.size 0 lo=0/\sIx items.size items.size hi=items.size)) (h:Q (.ref s.heap.objs.size) { s with heap:=s.heap.push { cls:=.type "tuple",data:=.seq ((items.toList.drop (sIx items.size 0 lo)).take (sIx items.size items.size hi - sIx items.size 0 lo)).toArray } }) (hsz:items.size<=sizeLine):wpAny (model prog w) A (getItem (.ref t) (.ref sl)) Q E s:=by
 have htake:sizeOk (.seq ((items.toList.drop (sIx items.size 0 lo)).take (sIx items.size items.size hi - sIx items.size 0 lo)).toArray):=by
  show ((items.toList.drop (sIx items.size 0 lo)).take (sIx items.size items.size hi - sIx items.size 0 lo)).toArray.size<=sizeLine
  rw [Ql,Qw,Jq,Array.length_toList]
  omega
 have hj:sIx items.size items.size hi<=items.size:=aGJ _ _ (Qg _) hi
 obtain ⟨os,hos,hcs,hds⟩:=id hs
 have hTs:s.TypeIs (.ref sl) "slice" := ⟨os,hos,hcs⟩
 unfold getItem
 try with_reducible refine Rm ?_
 first | refine Ra (Rb ?_) | skip
 refine Ra (Rau ht.typeIs (by decide) ?_)
 refine Ra (Rg (name:=Str.ofString "__getitem__") ht.typeIs PyProof.Rows.slot_tuple_getitem
  (Rh PyProof.Rows.slot_tuple_getitem ht.typeIs Rao ?_ (Rap _ _)))
 show wpAny _ _ (Builtin.Tuple.tupleItemsOf (.ref t) >>= _) _ _ s
 refine Ra (tupleItemsOf_ ht ?_)
 refine Ra (Vh hTs ?_)
 rw [if_pos (by decide)]
 refine Ra (sliceApplied_gen hs pl pu ?_)
 have hno:¬ ((((sIx items.size 0 lo:Nat):Int)==0 && (1:Int)==1 && (sIx items.size items.size hi - sIx items.size 0 lo)==items.size)=true):=by
  intro q
  rw [Ji,Ji] at q
  have q1:((sIx items.size 0 lo:Nat):Int)=0:=eq_of_beq q.1.1
  have q2:sIx items.size items.size hi - sIx items.size 0 lo=items.size:=eq_of_beq q.2
  exact hw ⟨by omega,by omega⟩
 show wpAny _ _ (if (((sIx items.size 0 lo:Nat):Int)==0 && (1:Int)==1 && (sIx items.size items.size hi - sIx items.size 0 lo)==items.size)=true then _ else _) _ _ s
 rw [if_neg hno,pick_gen]
 first
  | exact Ra (m:=Builtin.Tuple.tupleExact _) (Ri (Rb ⟨_,rfl,Rb h⟩) htake)
  | exact Ra (m:=Builtin.Tuple.tupleExact _) (Ri (Ra (Rb (Rb ⟨_,rfl,Rb h⟩))) htake)
  | exact Ra (Ra (m:=Builtin.Tuple.tupleExact _) (Ri (Rb (Rb ⟨_,rfl,Rb h⟩)) htake))
  | exact Ra (Ra (m:=Builtin.Tuple.tupleExact _) (Ri (Rb ⟨_,rfl,Rb h⟩) htake))
end HT
namespace L2
open PySem PySem.Spec PyProof.Rows
abbrev TO:=St->Hp->(Option Int->Hp->Prop)->Prop
def PO (X:Cx) (e:Option Expr) (t:TO):Prop :=
 ∀ (pins:List (Addr×Obj)) (s:Shared) (σ:St) (H:Hp) (Q:Option Int->Hp->Prop),Inv X pins σ H s->t σ H Q ->
  wpAny (model X.prog X.w) X.A (evalPart e X.env) (λu s'=>∃ o H',Inv X pins σ H' s'/\IsPart u o/\Q o H') X.xe s
def vM:TO:=λ_ H Q=>Q none H
def aDn (t:TE):TO:=λσ H Q=>t σ H λx H1=>∃ i,x=.int i/\Q (some i) H1
theorem gK:∀ {us:List Value},bO (ns.map V.int) us->IntsAre us ns:=by
 induction ns with
 | nil=>intro us r; rw [QaK] at r; cases r; exact .nil
 | cons n ns ih =>
  intro us r
  rw [Qz] at r
  cases r with
  | cons r1 r2 =>
   obtain ⟨t,e⟩:=r1
   subst e
   exact .cons n t (ih r2)
section
variable {lo hi:Option Expr} {tl th:TO}
theorem iZ:PO X none vM:=by
 intro pins s σ H Q I h
 rw [Il]
 exact Rb ⟨none,H,I,.none,h⟩
theorem gT (h:PE X e te):PO X (some e) (aDn te):=by
 intro pins s σ H Q I hw
 rw [evalPart_some]
 refine thn (h pins s σ H _ I hw) λu s1 hx9=>?_
 obtain ⟨x,H1,I1,r1,q1⟩:=hx9
 obtain ⟨i,rfl,q⟩:=q1
 obtain ⟨t,rfl⟩:=r1
 exact ⟨some i,H1,I1,.int i t,q⟩
def SlR (X:Cx) (r:V->Option Int->Option Int->Hp->VK->Prop):Prop :=
 ∀ (pins:List (Addr×Obj)) (s:Shared) (σ:St) (H:Hp) (x:V) (v vl vu:Value) (lo hi:Option Int) (sl:Addr) (Q:VK),Inv X pins σ H s->bS x v->s.heap.IsSliceOf sl vl vu .none->IsPart vl lo->IsPart vu hi->r x lo hi H Q ->
  ∃ T id,typeLookup (.type T) "__getitem__" = pure (some (.builtin id))/\s.TypeIs v T/\wpAny (model X.prog X.w) X.A (getItem v (.ref sl)) (EP X pins σ Q) X.xe s
def tSl (r:V->Option Int->Option Int->Hp->VK->Prop) (te:TE) (tl th:TO):TE:=λσ H Q=>te σ H λx H1=>tl σ H1 λl H2=>th σ H2 λu H3=>r x l u H3 Q
theorem fZ {r:V->Option Int->Option Int->Hp->VK->Prop} (hr:SlR X r) (he:PE X e te) (hl:PO X lo tl) (hu:PO X hi th):PE X (.Subscript e (.Slice lo hi none p2) pos) (tSl r te tl th):=by
 intro pins s σ H Q I h
 refine Iv (thn (he pins s σ H _ I h) λv s1 hx9=>?_)
 obtain ⟨x,H1,I1,r1,q1⟩:=hx9
 refine wpAny_Slice (thn (hl pins s1 σ H1 _ I1 q1) λvl s2 ⟨l,H2,I2,pl,q2⟩=>thn (hu pins s2 σ H2 _ I2 q2) λvu s3 hx9=>?_)
 obtain ⟨u,H3,I3,pu,q3⟩:=hx9
 rw [Il]
 refine Rb ?_
 have I4:Inv X pins σ H3 { s3 with heap:=s3.heap.push { cls:=.type "slice",data:=.fields #[vl,vu,.none] } }:=I3.kept (t':=s3.toks) λb ob q=>Qa _ q
 obtain ⟨T,id,hT,ht,hg⟩:=hr pins { s3 with heap:=s3.heap.push { cls:=.type "slice",data:=.fields #[vl,vu,.none] } } σ H3 x v vl vu l u s3.heap.objs.size Q I4 r1 (Heap.IsSliceOf.new ..) pl pu q3
 show wpAny (model X.prog X.w) X.A (subscriptTail e (.Slice lo hi none p2) v (.ref s3.heap.objs.size)) (EP X pins σ Q) X.xe { s3 with heap:=s3.heap.push { cls:=.type "slice",data:=.fields #[vl,vu,.none] } }
 exact tail_any (ops:=[.ref s3.heap.objs.size,v]) ht hT hg (by with_unfolding_all rfl)
def nN (xs:List V) (lo hi:Option Int):List V:=(xs.drop (HT.sIx xs.length 0 lo)).take (HT.sIx xs.length xs.length hi - HT.sIx xs.length 0 lo)
theorem xJ (xs:List V) (lo hi:Option Int):(nN xs lo hi).length<=xs.length:=by
 unfold nN
 rw [Qw,Jq]
 exact Jl (Nat.min_le_right _ _) (Nat.sub_le _ _)
def aIn (K:Rc):V->Option Int->Option Int->Hp->VK->Prop:=λx lo hi H Q=>∃ a xs,x=.ref a/\SqT K H a xs /\
 ¬ (HT.sIx xs.length 0 lo=0/\HT.sIx xs.length xs.length hi=xs.length)/\∀ p,H p=none->Q (.ref p) (upd H p (.tup (nN xs lo hi)))
theorem aGK:SlR X (aIn X.K):=by
 intro pins s σ H x v vl vu lo hi sl Q I rx hs pl pu h
 obtain ⟨a,xs,rfl,hx,hw,q⟩:=h
 cases rx
 obtain ⟨its,r,ht,hz⟩:=I.tuple hx
 have hlen:its.toArray.size=xs.length:=by rw [Ql]; exact r.length.symm
 refine ⟨"tuple",_,PyProof.Rows.slot_tuple_getitem.lookup,ht.typeIs,?_⟩
 refine HT.getItem_tuple_cut ht hs pl pu (by rw [hlen]; exact hw) ?_ (by rw [hlen]; exact hz)
 rw [hlen]
 refine ⟨.ref s.heap.objs.size,_,I.laid (t':=s.toks) (o:=.tup (nN xs lo hi)) (λb ob q=>Qa _ q) (Qg _) ?_,rfl,q _ (I.hok.fresh (Qg _))⟩
 exact ⟨Jl (xJ xs lo hi) hz,_,0,(r.drop (HT.sIx xs.length 0 lo)).take (HT.sIx xs.length xs.length hi - HT.sIx xs.length 0 lo),Qh _ rfl⟩
def aHz (K:Rc):R2:=λx y H Q=>∃ a b xs ys,x=.ref a/\y=.ref b/\SqT K H a xs/\SqT K H b ys/\xs≠[]/\xs.length+ys.length<=sizeLine /\
 (ys = []->Q (.ref a) H)/\(ys≠[]->∀ p,H p=none->Q (.ref p) (upd H p (.tup (xs++ys))))
theorem bO.nil_iff (r:bO xs us):us = []↔xs = []:=by
 cases r with
 | nil=>simp
 | cons _ _=>simp
theorem aBh:OpR X (binaryOp .Add) (aHz X.K):=by
 intro pins s σ H x y v u Q I rx ry h
 obtain ⟨a,b,xs,ys,rfl,rfl,ha,hb,hx,hz,q1,q2⟩:=h
 cases rx
 cases ry
 obtain ⟨its,r1,p1,_⟩:=I.tuple ha
 obtain ⟨its2,r2,p2,_⟩:=I.tuple hb
 refine HT.cat_tup p1 p2 (λz=>hx (r1.nil_iff.mp z)) (λz=>⟨.ref a,H,I,rfl,q1 (r2.nil_iff.mp z)⟩) (λz=>?_) (by rw [<- r1.length,<- r2.length]; exact hz)
 refine ⟨.ref s.heap.objs.size,_,I.laid (t':=s.toks) (o:=.tup (xs++ys)) (λb ob q=>Qa _ q) (Qg _) ?_,rfl,q2 (λw=>z (r2.nil_iff.mpr w)) _ (I.hok.fresh (Qg _))⟩
 exact ⟨by rw [Qn]; exact hz,_,0,r1.append r2,Qh _ rfl⟩
end
def ixN (n:Nat) (i:Int):Option Nat:=if 0<=i then (if i < n then some i.toNat else none) else if -(n:Int)<=i then some (i+n).toNat else none
def atI (xs:List α) (i:Int):Option α:=(ixN xs.length i).bind λj=>xs[j]?
theorem aBi {i:Int} (h:ixN n i=some j):seqIndex? i n=some j/\j < n/\-(n:Int)<=i/\i < n:=by
 unfold ixN at h
 by_cases h0:0<=i
 ·rw [if_pos h0] at h
  by_cases h1:i < n
  ·rw [if_pos h1] at h
   have e:i.toNat=j:=Option.some.inj h
   exact ⟨by rw [Raj h0 h1,e],by omega,by omega,h1⟩
  ·rw [if_neg h1] at h; cases h
 ·rw [if_neg h0] at h
  by_cases h1:-(n:Int)<=i
  ·rw [if_pos h1] at h
   have e:(i+n).toNat=j:=Option.some.inj h
   exact ⟨by rw [Rab (by omega) h1,e],by omega,h1,by omega⟩
  ·rw [if_neg h1] at h; cases h
theorem aBj {xs:List α} {i:Int} {v:α} (h:atI xs i=some v):∃ j,seqIndex? i xs.length=some j/\xs[j]?=some v/\j < xs.length/\-(xs.length:Int)<=i/\i < xs.length:=by
 unfold atI at h
 cases e:ixN xs.length i with
 | none=>rw [e] at h; cases h
 | some j =>
  rw [e] at h
  obtain ⟨h1,h2,h3,h4⟩:=aBi e
  exact ⟨j,h1,h,h2,h3,h4⟩
theorem cH {xs:List α} {v:α} (h:xs[j]?=some v):atI xs (j:Int)=some v:=by
 have hj:j < xs.length:=(Qd.mp h).1
 have e:ixN xs.length (j:Int)=some j:=by
  unfold ixN
  rw [if_pos (by omega),if_pos (by omega)]; simp
 unfold atI; rw [e]; exact h
def aE4 (b:Expr):Prop:=∀ o i,subscripted b false o i=operate [o,i] (getItem o i)
def IxR (X:Cx) (r:R2):Prop :=
 ∀ (value slice:Expr) (pins:List (Addr×Obj)) (s:Shared) (σ:St) (H:Hp) (x y:V) (v u:Value) (Q:VK),Inv X pins σ H s->bS x v->bS y u->r x y H Q ->
  subscripted slice false v u=operate [v,u] (getItem v u)->wpAny (model X.prog X.w) X.A (subscriptTail value slice v u) (EP X pins σ Q) X.xe s
def MtR (X:Cx) (id:String) (r:V->List V->Hp->VK->Prop):Prop :=
 ∀ (pins:List (Addr×Obj)) (s:Shared) (σ:St) (H:Hp) (x:V) (xs:List V) (v:Value) (us:List Value) (Q:VK),Inv X pins σ H s->bS x v->bO xs us->r x xs H Q ->
  wpAny (model X.prog X.w) X.A (call (.builtin id) (v::us)) (EP X pins σ Q) X.xe s
section
variable {a b:Expr} {tb:TE}
theorem bA (hr:IxR X r) (ha:PE X a ta) (hb:PE X b tb) (hs:aE4 b):PE X (.Subscript a b pos) (tOp r ta tb):=by
 intro pins s σ H Q I h
 exact Iv (aGD ha hb I h λv u s2 x y H2 I2 rx ry q=>hr a b pins s2 σ H2 x y v u Q I2 rx ry q (hs _ _))
def aHA (K:Rc):R2:=λx y H Q=>∃ p xs i v,x=.ref p/\y=.int i/\SqL K H p xs/\atI xs i=some v/\Q v H
def aHB (K:Rc):R2:=λx y H Q=>∃ p xs i v,x=.ref p/\y=.int i/\SqT K H p xs/\atI xs i=some v/\Q v H
theorem cY:IxR X (aHA X.K):=by
 intro value slice pins s σ H x y v u Q I rx ry h hs
 obtain ⟨p,xs,i,z,rfl,rfl,hq,he,q⟩:=h
 cases rx
 obtain ⟨t,rfl⟩:=ry
 obtain ⟨its,r,pl,hz⟩:=I.list hq
 obtain ⟨j,h1,h2,h3,h4,h5⟩:=aBj he
 obtain ⟨w,ew,rw'⟩:=r.get h2
 have hl:=r.length
 have hn:=rD
 have fin:EP X pins σ Q w s:=⟨z,H,I,rw',q⟩
 by_cases h0:0<=i
 ·have hj:i.toNat=j:=by
   rw [Raj h0 h5] at h1
   exact Option.some.inj h1
  exact item_listR pl.isList h0 (by omega) (by rw [hj]; simpa using ew) fin hs
 ·have hj:(i+(its.toArray.size:Int)).toNat=j:=by
   rw [Rab (by omega) h4] at h1
   rw [Ql,<- hl]
   exact Option.some.inj h1
  exact Ux (x:=w) pl.isList.typeIs slot_list_getitem.lookup
   (wpAny_getItem_list_neg (Q:=λr s'=>r=w/\EP X pins σ Q r s') pl.isList (by omega) (by rw [Ql] <;> omega) (by omega) (by rw [hj]; simpa using ew) ⟨rfl,fin⟩) hs
theorem bT:IxR X (aHB X.K):=by
 intro value slice pins s σ H x y v u Q I rx ry h hs
 obtain ⟨p,xs,i,z,rfl,rfl,hq,he,q⟩:=h
 cases rx
 obtain ⟨t,rfl⟩:=ry
 obtain ⟨its,r,pl,hz⟩:=I.tuple hq
 obtain ⟨j,h1,h2,h3,h4,h5⟩:=aBj he
 obtain ⟨w,ew,rw'⟩:=r.get h2
 have hl:=r.length
 have hn:=rD
 have fin:EP X pins σ Q w s:=⟨z,H,I,rw',q⟩
 exact Ux (x:=w) pl.typeIs slot_tuple_getitem.lookup
  (getItem_tuple (j:=j) (Q:=λr s'=>r=w/\EP X pins σ Q r s') pl (by omega) (by omega) (by rw [Ql,<- hl]; exact h1) (by simpa using ew) ⟨rfl,fin⟩) hs
theorem aAp (its:List Value) (n j:Nat) (u:Value):Obj.mapSeq (·.setIfInBounds j u) { cls:=.type "list",data:=.seq its.toArray n }={ cls:=.type "list",data:=.seq (its.set j u).toArray n }:=by
 simp [Obj.mapSeq]
theorem Inv.lst {σ:St} {p:Addr} (I:Inv X pins σ H s) (h:H p=some (.lst xs)) :
  ∃ (its:List Value) (n:Nat),bO xs its/\s.heap.get? p=some { cls:=.type "list",data:=.seq its.toArray n }/\xs.length<=sizeLine:=by
 obtain ⟨z,its,n,r,e⟩:=I.hok p _ h
 exact ⟨its,n,r,e,z⟩
theorem Inv.lstUpd {σ:St} {p:Addr} {its its':List Value} {n':Nat} {f:Obj->Obj} (I:Inv X pins σ H s) (h:H p=some (.lst xs)) (ho:s.heap.get? p=some { cls:=.type "list",data:=.seq its.toArray n }) (hf:f { cls:=.type "list",data:=.seq its.toArray n }={ cls:=.type "list",data:=.seq its'.toArray n' }) (r:bO ys its') (hz:ys.length<=sizeLine) (t:Nat) :
  Inv X pins σ (upd H p (.lst ys)) { s with heap:=s.heap.update p f,toks:=t }:=by
 have e:(s.heap.update p f).get? p=some { cls:=.type "list",data:=.seq its'.toArray n' }:=by
  rw [Xe f ho (by rw [hf] <;> rfl),hf]
 refine I.write (x:=p) (e:=p) (by rw [h]; trivial) (.inl rfl) (λb u hb q=>(Jk _ _ (Ne.symm hb)).trans q) ⟨_,e⟩ ?_
 exact ⟨hz,its',n',r,e⟩
def aHC:V->V->V->Hp->(Hp->Prop)->Prop:=λo i v H Q=>∃ p xs k j,o=.ref p/\i=.int k/\H p=some (.lst xs)/\ixN xs.length k=some j/\Q (upd H p (.lst (xs.set j v)))
theorem nO:aHp X aHC:=by
 intro pins s σ H o i v ov iv u Q I ro ri rv h
 obtain ⟨p,xs,k,j,rfl,rfl,hp,hj,q⟩:=h
 cases ro
 obtain ⟨t,rfl⟩:=ri
 obtain ⟨its,n,r,ho,hz⟩:=I.lst hp
 obtain ⟨h1,h2,h3,h4⟩:=aBi hj
 have hl:=r.length
 have hn:=rD
 have I':Inv X pins σ (upd H p (.lst (xs.set j v))) { s with heap:=s.heap.update p (Obj.mapSeq (·.setIfInBounds j u)) } :=
  I.lstUpd hp ho (aAp its n j u) (r.set rv j) (by rw [Yj]; exact hz) s.toks
 by_cases h0:0<=k
 ·have hk:k.toNat=j:=by
   rw [Raj h0 h4] at h1
   exact Option.some.inj h1
  exact PySem.W.ki_setAt ho h0 (by omega) (by rw [Ql,<- hl]; exact h4) (by rw [hk]; exact ⟨_,I',q⟩)
 ·have hk:(k+(its.toArray.size:Int)).toNat=j:=by
   rw [Rab (by omega) h3] at h1
   rw [Ql,<- hl]
   exact Option.some.inj h1
  exact PySem.W.ki_setBack ho (by omega) (by rw [Ql,<- hl]; exact h3) (by omega) (by rw [hk]; exact ⟨_,I',q⟩)
def nQ:V->Bool
 | .non=>true
 | .bl _=>true
 | .int _=>true
 | .str _=>true
 | _=>false
def eqV:V->V->Bool
 | .non,.non=>true
 | .bl a,.bl b=>a==b
 | .bl a,.int b=>(if a then 1 else 0)==b
 | .int a,.bl b=>a==(if b then 1 else 0)
 | .int a,.int b=>a==b
 | .str a,.str b=>a==b
 | _,_=>false
theorem aGL {v:Value} (ry:bS y u) (rx:bS x v) (fy:nQ y=true) (fx:nQ x=true):SeqAt.EqAt A s u v (eqV y x):=by
 cases y with
 | non =>
  cases ry
  cases x with
  | non=>cases rx; exact SeqAt.EqAt.same _
  | bl b=>cases rx; exact SeqAt.EqAt.none_bool b
  | int b=>obtain ⟨t,rfl⟩:=rx; exact SeqAt.EqAt.none_int b t
  | str b=>obtain ⟨t,rfl⟩:=rx; exact SeqAt.EqAt.none_str b t
  | _=>exact absurd (show false=true from fx) Qr
 | bl a =>
  cases ry
  cases x with
  | non=>cases rx; exact SeqAt.EqAt.bool_none a
  | bl b=>cases rx; exact SeqAt.EqAt.bool_bool a b
  | int b=>obtain ⟨t,rfl⟩:=rx; exact SeqAt.EqAt.bool_int a b t
  | str b=>obtain ⟨t,rfl⟩:=rx; exact SeqAt.EqAt.bool_str a b t
  | _=>exact absurd (show false=true from fx) Qr
 | int a =>
  obtain ⟨t',rfl⟩:=ry
  cases x with
  | non=>cases rx; exact SeqAt.EqAt.int_none a t'
  | bl b=>cases rx; exact SeqAt.EqAt.int_bool a t' b
  | int b=>obtain ⟨t,rfl⟩:=rx; exact SeqAt.EqAt.int_int a t' b t
  | str b=>obtain ⟨t,rfl⟩:=rx; exact SeqAt.EqAt.int_str a t' b t
  | _=>exact absurd (show false=true from fx) Qr
 | str a =>
  obtain ⟨t',rfl⟩:=ry
  cases x with
  | non=>cases rx; exact SeqAt.EqAt.str_none a t'
  | bl b=>cases rx; exact SeqAt.EqAt.str_bool a t' b
  | int b=>obtain ⟨t,rfl⟩:=rx; exact SeqAt.EqAt.str_int a t' b t
  | str b=>obtain ⟨t,rfl⟩:=rx; exact SeqAt.EqAt.str_str a t' b t
  | _=>exact absurd (show false=true from fx) Qr
 | _=>exact absurd (show false=true from fy) Qr
def eqU (x:V) (u:Value):Bool:=match u with
 | .none=>eqV .non x
 | .bool b=>eqV (.bl b) x
 | .int i _=>eqV (.int i) x
 | .str z _=>eqV (.str z) x
 | _=>false
theorem aDo (r:bS y u) (f:nQ y=true):eqU x u=eqV y x:=by
 cases y with
 | non=>cases r; rfl
 | bl b=>cases r; rfl
 | int i=>obtain ⟨t,rfl⟩:=r; rfl
 | str z=>obtain ⟨t,rfl⟩:=r; rfl
 | _=>exact absurd (show false=true from f) Qr
theorem qK:∀ {xs:List V} {us:List Value},bO xs us->xs.all nQ=true->us.any (eqU x)=xs.any λy=>eqV y x
 := by
 intro xs us h
 induction h with
 | nil=>intro _; rfl
 | cons r t ih =>
  intro f
  rw [List.all_cons,Ji] at f
  rw [Zq,Zq,aDo r f.1,ih f.2]
theorem kX {v:Value} (rx:bS x v) (fx:nQ x=true):∀ {xs:List V} {us:List Value},bO xs us->xs.all nQ=true->∀ u∈us,SeqAt.EqAt A s u v (eqU x u)
 | _,_,.nil,_=>λu hu=>by cases hu
 | y::xs,u::us,.cons r t,f=>λu' hu=>by
  rw [List.all_cons,Ji] at f
  rcases Qm.mp hu with rfl | hu
  ·rw [aDo r f.1]; exact aGL r rx f.1 fx
  ·exact kX rx fx t f.2 u' hu
def inV (x:V) (xs:List V):Bool:=xs.any λy=>eqV y x
def rIn (K:Rc) (neg:Bool):R2:=λx y H Q=>∃ p xs,y=.ref p/\(SqL K H p xs∨SqT K H p xs)/\nQ x=true/\xs.all nQ=true/\Q (.bl (if neg then !inV x xs else inV x xs)) H
theorem uN:OpR X (compareOp .In) (rIn X.K false):=by
 intro pins s σ H x y v u Q I rx ry h
 obtain ⟨p,xs,rfl,hq,fx,fs,q⟩:=h
 cases ry
 rcases hq with hq | hq
 ·obtain ⟨its,r,pl,hz⟩:=I.list hq
  refine SeqAt.in_listAt (eqU x) pl.isList (λw hw=>kX rx fx r fs w (by simpa using hw)) ⟨.bl _,H,I,rfl,?_⟩
  rw [show its.toArray.any (eqU x)=its.any (eqU x) by simp,qK r fs]
  exact q
 ·obtain ⟨its,r,pl,hz⟩:=I.tuple hq
  refine SeqAt.in_tupleAt (eqU x) pl (λw hw=>kX rx fx r fs w (by simpa using hw)) ⟨.bl _,H,I,rfl,?_⟩
  rw [show its.toArray.any (eqU x)=its.any (eqU x) by simp,qK r fs]
  exact q
theorem vN:OpR X (compareOp .NotIn) (rIn X.K true):=by
 intro pins s σ H x y v u Q I rx ry h
 obtain ⟨p,xs,rfl,hq,fx,fs,q⟩:=h
 cases ry
 rcases hq with hq | hq
 ·obtain ⟨its,r,pl,hz⟩:=I.list hq
  refine SeqAt.notIn_listAt (eqU x) pl.isList (λw hw=>kX rx fx r fs w (by simpa using hw)) ⟨.bl _,H,I,rfl,?_⟩
  rw [show its.toArray.any (eqU x)=its.any (eqU x) by simp,qK r fs]
  exact q
 ·obtain ⟨its,r,pl,hz⟩:=I.tuple hq
  refine SeqAt.notIn_tupleAt (eqU x) pl (λw hw=>kX rx fx r fs w (by simpa using hw)) ⟨.bl _,H,I,rfl,?_⟩
  rw [show its.toArray.any (eqU x)=its.any (eqU x) by simp,qK r fs]
  exact q
theorem bC:dF X (.builtin "len") (λxs H Q=>∃ p ys,xs = [.ref p]/\(SqL X.K H p ys∨SqT X.K H p ys)/\Q (.int ys.length) H):=by
 intro pins s σ H xs us Q I r h
 obtain ⟨p,ys,rfl,hq,q⟩:=h
 obtain ⟨u,rfl,rx⟩:=eX r
 cases rx
 have hn:=rD
 rcases hq with hq | hq
 ·obtain ⟨its,r',pl,hz⟩:=I.list hq
  have hlen:=r'.length
  exact Calls.call_len_list pl.isList (by simp only [Ql] <;> omega) ⟨.int ys.length,H,I.tok _,⟨s.toks+1,by rw [Ql,hlen]⟩,q⟩
 ·obtain ⟨its,r',pl,hz⟩:=I.tuple hq
  have hlen:=r'.length
  exact len_tuple pl (by simp only [Ql] <;> omega) ⟨.int ys.length,H,I.tok _,⟨s.toks+1,by rw [Ql,hlen]⟩,q⟩
theorem nR:dF X (.type "list") (λxs H Q=>∃ p ys,xs = [.ref p]/\(SqL X.K H p ys∨SqT X.K H p ys)/\∀ l,H l=none->Q (.ref l) (upd H l (.lst ys))):=by
 intro pins s σ H xs us Q I r h
 obtain ⟨p,ys,rfl,hq,q⟩:=h
 obtain ⟨u,rfl,rx⟩:=eX r
 cases rx
 have fin:∀ (its:List Value),bO ys its->ys.length<=sizeLine->∀ (h':Heap) (c':Nat),(∀ b o',s.heap.get? b=some o'->h'.get? b=some o') ->
   h'.get? s.heap.objs.size=some { cls:=.type "list",dict:=none,data:=.seq its.toArray c',slots:=#[] }->EP X pins σ Q (.ref s.heap.objs.size) { s with heap:=h' }:=λits r' hz h' c' kp e =>
  ⟨.ref s.heap.objs.size,_,I.laid (t':=s.toks) kp (Qg _) (show bL X.prog X.w _ h' _ (.lst ys) from ⟨hz,its,c',r',e⟩),rfl,q _ (I.hok.fresh (Qg _))⟩
 rcases hq with hq | hq
 ·obtain ⟨its,r',pl,hz⟩:=I.list hq
  have hlen:=r'.length
  obtain ⟨o,ho,hc,n,hd⟩:=pl.isList
  exact call_list_seq p (.inl rfl) ho hc hd (λh' c' kp e=>fin its r' hz h' c' kp e) (by simp only [Ql] <;> omega)
 ·obtain ⟨its,r',pl,hz⟩:=I.tuple hq
  have hlen:=r'.length
  obtain ⟨o,ho,hc,n,hd⟩:=pl
  exact call_list_seq p (.inr rfl) ho hc hd (λh' c' kp e=>fin its r' hz h' c' kp e) (by simp only [Ql] <;> omega)
theorem bQ:dF X (.type "tuple") (λxs H Q=>∃ p ys,xs = [.ref p]/\((SqL X.K H p ys/\∀ l,H l=none->Q (.ref l) (upd H l (.tup ys)))∨(SqT X.K H p ys/\Q (.ref p) H))):=by
 intro pins s σ H xs us Q I r h
 obtain ⟨p,ys,rfl,h⟩:=h
 obtain ⟨u,rfl,rx⟩:=eX r
 cases rx
 rcases h with ⟨hq,q⟩ | ⟨hq,q⟩
 ·obtain ⟨its,r',pl,hz⟩:=I.list hq
  have hlen:=r'.length
  refine call_tuple_list pl.isList (λh' kp=>?_) (by simp only [Ql] <;> omega)
  have I1:Inv X pins σ H { s with heap:=h' }:=I.kept (t':=s.toks) kp
  have I2:Inv X pins σ (upd H h'.objs.size (.tup ys)) { s with heap:=h'.push { cls:=.type "tuple",data:=.seq its.toArray } } :=
   I1.laid (t':=s.toks) (λb o e=>Qa _ e) (Qg _) (show bL X.prog X.w _ _ _ (.tup ys) from ⟨hz,its,0,r',Qh _ rfl⟩)
  exact ⟨.ref h'.objs.size,_,I2,rfl,q _ (I1.hok.fresh (Qg _))⟩
 ·obtain ⟨its,r',pl,hz⟩:=I.tuple hq
  exact call_tuple_same pl ⟨.ref p,H,I,rfl,q⟩
def tyV (K:Rc) (T:String) (x:V) (H:Hp):Prop:=match x with
 | .str _=>T = "str"
 | .int _=>T = "int"
 | .ref p => (T = "list" /\ ∃ xs, SqL K H p xs) ∨ (T = "tuple" /\ ∃ xs, SqT K H p xs) ∨
     (T = "dict" /\ ((∃ kvs,H p=some (.dK kvs))∨∃ kvs,H p=some (.dT kvs)))∨(T = "set" /\ ∃ S n,H p=some (.set S n))
 | _=>False
theorem aDp {σ:St} {v:Value} (I:Inv X pins σ H s) (r:bS x v) (ty:tyV X.K T x H) :
  s.TypeIs v T/\∀ a,v=.ref a->∃ ob,s.heap.get? a=some ob/\ob.dict=none:=by
 cases x with
 | str z =>
  obtain ⟨t,rfl⟩:=r
  cases (show T = "str" from ty)
  exact ⟨typeIs_str s z t,λ_ e=>nomatch e⟩
 | int i =>
  obtain ⟨t,rfl⟩:=r
  cases (show T = "int" from ty)
  exact ⟨Uw s i t,λ_ e=>nomatch e⟩
 | ref p =>
  cases r
  rcases ty with ⟨rfl,xs,hq⟩ | ⟨rfl,xs,hq⟩ | ⟨rfl,hk⟩ | ⟨rfl,S,n,hk⟩
  ·obtain ⟨its,_,pl,_⟩:=I.list hq
   refine ⟨pl.isList.typeIs,λa e=>?_⟩
   cases e
   obtain ⟨o,n,e,c,hd,_⟩:=pl
   exact ⟨o,e,hd⟩
  ·obtain ⟨o,e,hc,hd⟩:∃ o,s.heap.get? p=some o/\o.cls=.type "tuple" /\ o.dict=none:=by
    rcases hq with hq | ⟨o,_,_,hk,hc,hd,_⟩
    ·obtain ⟨_,its,n,_,e⟩:=hq.ok I.hok
     exact ⟨_,e,rfl,rfl⟩
    ·exact ⟨o,I.kIn p o hk,hc,hd⟩
   refine ⟨⟨o,e,hc⟩,λa e2=>?_⟩
   cases e2
   exact ⟨o,e,hd⟩
  ·have z:∃ o,s.heap.get? p=some o/\o.ExactDict:=by
    rcases hk with ⟨kvs,hk⟩ | ⟨kvs,hk⟩
    ·obtain ⟨_,_,_,_,o,_,_,e,ex,_⟩:=I.hok p _ hk
     exact ⟨o,e,ex⟩
    ·obtain ⟨_,_,_,_,o,_,_,e,ex,_⟩:=I.hok p _ hk
     exact ⟨o,e,ex⟩
   obtain ⟨o,e,ex⟩:=z
   refine ⟨⟨o,e,ex.1⟩,λa e2=>?_⟩
   cases e2
   exact ⟨o,e,ex.2.1⟩
  ·obtain ⟨o,_,_,_,e,ex,_⟩:=I.hok p _ hk
   refine ⟨⟨o,e,ex.1⟩,λa e2=>?_⟩
   cases e2
   exact ⟨o,e,ex.2.1⟩
 | _=>exact False.elim ty
def tBM (K:Rc) (T:String) (r:V->List V->Hp->VK->Prop) (to:TE) (t:TA):TE:=λσ H Q=>to σ H λx H1=>tyV K T x H1/\t σ H1 λxs H2=>r x xs H2 Q
variable {o:Expr} {t:TA} {id:String} {r:V->List V->Hp->VK->Prop}
theorem kY (pa:PlainAttrs T) (slot:Slot T name id) (hty:typeOf (.builtin id)=pure (.type "method_descriptor")) (hm:MtR X id r) (ho:PE X o to) (ha:PA X (e::es) t)
  (hbase:attributeBase o name X.env (eval o X.env)=eval o X.env:=by rfl)
  (hfew:((backTo cpos (starEach (e::es) X.env)).all (λx=>!x.1) && (backToKw cpos (keywordEach [] X.env)).all (λx=>x.1.isSome)
   && decide ((e::es).length+([]:List Keyword).length+(if ([]:List Keyword).isEmpty then 0 else 1) < 30))=true:=by rfl)
  (hline:(apos.endLine==cpos.line)=true:=by rfl) (hs:starEach (e::es) X.env=(false,eval e X.env)::starEach es X.env:=by rfl) (hplain:(backTo cpos (starEach es X.env)).any (·.1)=false:=by rfl) :
  PE X (.Call (.Attribute o name apos) (e::es) [] cpos) (tBM X.K T r to t):=by
 intro pins s σ H Q I h
 refine wpAny_Call_method_late hbase hfew hline rfl (thn (ho pins s σ H _ I h) λv s1 hx9=>?_)
 obtain ⟨x,H1,I1,r1,ty,q1⟩:=hx9
 obtain ⟨h1,h2⟩:=aDp I1 r1 ty
 refine ⟨T,id,pa,slot,hty,h1,h2,?_⟩
 have hA:=ha cpos pins s1 σ H1 _ I1 q1
 rw [hs] at hA ⊢
 refine Calls.callWith_builtin (by show (false || (backTo cpos (starEach es X.env)).any (·.1))=false; rw [hplain] <;> rfl) (Calls.evalArgs_plain ?_)
 refine thn hA λus s2 hx9=>?_
 obtain ⟨vs,H2,I2,r2,q2⟩:=hx9
 exact hm pins s2 σ H2 x vs v us Q I2 r1 r2 q2
/- xs.append(e),list.index on a module's tuple .. are MtR facts of 06m -/
end
def MtM (X:Cx) (id:String) (r:V->List V->Hp->VK->Prop):Prop :=
 ∀ (pins:List (Addr×Obj)) (s:Shared) (σ:St) (H:Hp) (x:V) (xs:List V) (v:Value) (us:List Value) (Q:VK),Inv X pins σ H s->bS x v->bO xs us->r x xs H Q ->
  wpAny (model X.prog X.w) X.A (call (.builtin id) (v::us)) (EP X pins σ Q) X.xe s
theorem bO.one (r:bO [x] us):∃ u,us = [u]/\bS x u:=eX r
theorem bO.two (r:bO [x,y] us):∃ u v,us = [u,v]/\bS x u/\bS y v:=nM r
theorem bO.eraseIdx:∀ {xs:List V} {us:List Value} (i:Nat),bO xs us->bO (xs.eraseIdx i) (us.eraseIdx i)
 | _,_,_,.nil=>.nil
 | _,_,0,.cons _ t=>t
 | _,_,i+1,.cons r t=>.cons r (bO.eraseIdx i t)
theorem bO.reverse (h:bO xs us):bO xs.reverse us.reverse:=by
 induction h with
 | nil=>exact .nil
 | cons r t ih=>rw [List.reverse_cons,List.reverse_cons]; exact bO.append ih (.cons r .nil)
theorem bO.rep (h:bO xs us):∀ k:Nat,bO (List.replicate k xs).flatten (List.replicate k us).flatten
 | 0=>.nil
 | k+1=>by
  rw [Zr,Zr,Ys,Ys]
  exact bO.append h (bO.rep h k)
theorem uO:∀ (l:List α) (i:Nat),(l.eraseIdx i).length<=l.length
 | [],_=>Qg _
 | _::_,0=>Qax _
 | _::r,i+1=>Yf (uO r i)
theorem jJ (its:List Value):∀ (k:Nat) (acc:List Value),
  List.foldl (λx1 x2=>x1++x2) acc.toArray (List.replicate k its.toArray)=(acc++(List.replicate k its).flatten).toArray
 | 0,acc=>by simp
 | k+1,acc=>by
  have e:acc.toArray++its.toArray=(acc++its).toArray:=by simp
  have e2:(acc++its)++(List.replicate k its).flatten=acc++(List.replicate (k+1) its).flatten:=by
   rw [Zr,Ys,Yt]
  rw [<- e2,<- jJ its k (acc++its),<- e,Zr,List.foldl_cons]
section
variable {σ:St} {l:Addr}
theorem Inv.lset {its its':List Value} {f:Array Value->Array Value} (I:Inv X pins σ H s) (hH:H l=some (.lst xs)) (e:s.heap.get? l=some { cls:=.type "list",data:=.seq its.toArray n }) (hf:f its.toArray=its'.toArray) (hv:bO ys its') (hz:ys.length<=sizeLine) :
  Inv X pins σ (upd H l (.lst ys)) { s with heap:=s.heap.update l (Obj.mapSeq f),toks:=t' }:=by
 have q:=PySem.IsL.update e f
 rw [hf] at q
 refine I.write (x:=l) (e:=l) (by rw [hH]; exact trivial) (.inl rfl) (λb' u hb hu=>(Jk s.heap (Obj.mapSeq f) (Ne.symm hb)).trans hu) ⟨_,q⟩ ?_
 exact ⟨hz,its',_,hv,q⟩
theorem Inv.lnew {its:List Value} (I:Inv X pins σ H s) (hv:bO ys its) (hz:ys.length<=sizeLine) :
  Inv X pins σ (upd H s.heap.objs.size (.lst ys)) { s with heap:=s.heap.push { cls:=.type "list",data:=.seq its.toArray },toks:=t' } :=
 I.laid (λ_ _ q=>Qa _ q) (Qg _) ⟨hz,its,0,hv,Qh _ rfl⟩
theorem Inv.fresh (I:Inv X pins σ H s):H s.heap.objs.size=none:=I.hok.fresh (Qg _)
theorem Inv.lstM (I:Inv X pins σ H s) (hH:H l=some (.lst xs)):xs.length<=sizeLine/\∃ (its:List Value) (n:Nat),bO xs its/\xs.length=its.length/\s.heap.get? l=some { cls:=.type "list",data:=.seq its.toArray n }:=by
 obtain ⟨z,its,n,r,e⟩:=I.hok l _ hH
 exact ⟨z,its,n,r,r.length,e⟩
theorem aDq (h:n<=sizeLine):Builtin.List.listTooLong n=false:=by
 unfold Builtin.List.listTooLong
 exact decide_eq_false (by omega)
end
def aE5:V->List V->Hp->VK->Prop:=λx vs H Q=>∃ l xs y,x=.ref l/\vs = [y]/\H l=some (.lst xs)/\xs.length < sizeLine/\Q .non (upd H l (.lst (xs++[y])))
theorem gL:MtM X "list.append" aE5:=by
 intro pins s σ H x vs v us Q I rx rv h
 obtain ⟨l,xs,y,rfl,rfl,hH,hz,q⟩:=h
 cases rx
 obtain ⟨u,rfl,ru⟩:=rv.one
 obtain ⟨z,its,n,r,hl,e⟩:=I.lstM hH
 refine Tc F.slot_list_append ⟨_,e,rfl⟩ F.entry_list_append (F.args_list_append_2 _ _) (PySem.list_append l its.toArray n u (by rw [Ql]; omega)) ⟨e,?_⟩
 refine ⟨.non,_,I.lset (its':=its++[u]) hH e (by simp) (r.append (.cons ru .nil)) ?_,rfl,q⟩
 rw [Qn,List.length_singleton]
 omega
def aGM:V->List V->Hp->VK->Prop:=λx vs H Q=>∃ l xs i k y,x=.ref l/\vs = [.int i]/\H l=some (.lst xs)/\-(2^63)<=i/\i < 2^63/\seqIndex? i xs.length=some k/\xs[k]?=some y/\Q y (upd H l (.lst (xs.eraseIdx k)))
theorem aDr:MtM X "list.pop" aGM:=by
 intro pins s σ H x vs v us Q I rx rv h
 obtain ⟨l,xs,i,k,y,rfl,rfl,hH,h1,h2,hk,hy,q⟩:=h
 cases rx
 obtain ⟨u,rfl,ru⟩:=rv.one
 obtain ⟨t,rfl⟩:=ru
 obtain ⟨z,its,n,r,hl,e⟩:=I.lstM hH
 obtain ⟨w,hw,rw'⟩:=r.get hy
 refine Tc F.slot_list_pop ⟨_,e,rfl⟩ F.entry_list_pop (F.args_list_pop_2 _ _)
  (MeetsSeq.list_pop_at l its.toArray n i t k w (Mt h1 h2) (by rw [Ql,<- hl]; exact hk) (by rw [<- Array.getElem?_toList]; exact hw) (by rw [Ql]; omega)) ⟨e,?_⟩
 refine ⟨y,_,I.lset (its':=its.eraseIdx k) hH e ?_ (r.eraseIdx k) ?_,rw',q⟩
 ·show its.toArray.eraseIdxIfInBounds k=(its.eraseIdx k).toArray
  rw [List.eraseIdxIfInBounds_toArray]
 ·have:=uO xs k
  omega
def aIo:R2:=λx y H Q=>∃ l b xs zs,x=.ref l/\y=.ref b/\H l=some (.lst xs)/\H b=some (.lst zs)/\xs.length+zs.length<=sizeLine/\∀ p,H p=none->Q (.ref p) (upd H p (.lst (xs++zs)))
theorem aGN:OpR X (binaryOp .Add) aIo:=by
 intro pins s σ H x y v u Q I rx ry h
 obtain ⟨l,b,xs,zs,rfl,rfl,hH,hB,hz,q⟩:=h
 cases rx
 cases ry
 obtain ⟨z,its,n,r,hl,e⟩:=I.lstM hH
 obtain ⟨z2,its2,n2,r2,hl2,e2⟩:=I.lstM hB
 refine PySem.P.add_list e e2 ?_ (by rw [Ql,Ql]; omega)
 have ea:its.toArray++its2.toArray=(its++its2).toArray:=by simp
 rw [ea]
 exact ⟨.ref _,_,I.lnew (t':=s.toks) (r.append r2) (by rw [Qn]; omega),rfl,q _ I.fresh⟩
def aIp:R2:=λx y H Q=>∃ l k xs,x=.ref l/\y=.int k/\H l=some (.lst xs)/\-(2^63)<=k/\k < 2^63/\xs.length*k.toNat<=sizeLine /\
 ∀ p,H p=none->Q (.ref p) (upd H p (.lst (List.replicate k.toNat xs).flatten))
theorem qL (xs:List α) (k:Nat):(List.replicate k xs).flatten.length=k*xs.length:=by
 induction k with
 | zero=>simp
 | succ k ih=>rw [Zr,Ys,Qn,ih,Wp,Nat.add_comm]
theorem aGO:OpR X (binaryOp .Mult) aIp:=by
 intro pins s σ H x y v u Q I rx ry h
 obtain ⟨l,k,xs,rfl,rfl,hH,h1,h2,hz,q⟩:=h
 cases rx
 obtain ⟨t,rfl⟩:=ry
 obtain ⟨z,its,n,r,hl,e⟩:=I.lstM hH
 have hlen:its.toArray.size*k.toNat<=sizeLine:=by rw [Ql,<- hl]; exact hz
 have hcap:¬ its.toArray.size*k.toNat > (2^63 - 1) / 8:=by
  have:(sizeLine:Nat)<=(2^63 - 1) / 8:=by decide
  omega
 have hfit:¬ (!Builtin.List.listFitsIndex k)=true:=by
  rw [Mt h1 h2]
  exact Qr
 have hlong:¬ Builtin.List.listTooLong (its.toArray.size*k.toNat)=true:=by
  rw [aDq hlen]
  exact Qr
 have hnew:List.foldl (λx1 x2=>x1++x2) #[] (List.replicate (if its.toArray.isEmpty=true then 0 else k.toNat) its.toArray)=(List.replicate k.toNat its).flatten.toArray:=by
  have f0:∀ m:Nat,List.foldl (λx1 x2=>x1++x2) #[] (List.replicate m its.toArray)=(List.replicate m its).flatten.toArray:=λm=>by
   have:=jJ its m []
   rw [Zl] at this
   exact this
  rw [f0]
  cases its with
  | nil=>simp
  | cons a r'=>rw [if_neg (by simp)]
 refine Um (T := "list") (U := "int") (by decide) ⟨_,e,rfl⟩ (λs'=>Uw s' k t) noFill_list_mul F.fills_int_mul F.slot_int_rmul repeat_list F.slot_int_index.lookup
  (Tc F.slot_int_rmul (Uw s k t) F.entry_int_rmul (F.args_int_rmul_2 _ _) (int___rmul___int_list k t l its.toArray n)
   ⟨e,rfl,⟨_,e,rfl⟩,Tc F.slot_list_mul ⟨_,e,rfl⟩ F.entry_list_mul (F.args_list_mul_2 _ _) (AutoListH.list___mul___list_int_3 l its.toArray n k t hfit hcap hlong) ⟨e,?_⟩⟩)
 rw [hnew]
 exact ⟨.ref _,_,I.lnew (t':=s.toks) (r.rep k.toNat) (by rw [qL,QaL]; exact hz),rfl,q _ I.fresh⟩
end L2
namespace Att
open PySem PySem.W PySem.Calls PyProof.Rows
theorem qF {P:Params}:∀ (ns:List Int) (vs:List Value),WellAll P h vs (ns.map WData.int)->IntsAre vs ns:=by
 intro ns
 induction ns with
 | nil =>
  intro vs w
  rw [QaK] at w
  cases w
  exact .nil
 | cons n ns ih =>
  intro vs w
  rw [Qz] at w
  cases w with
  | cons a b =>
   cases a
   exact .cons _ _ (ih _ b)
theorem aCi {l:OpenLaw} (hn:l.most=some n) {P:Params} {args:List WData} {vals:List Value} (hpre:l.row.toRowW.claim.pre args=true) (hwl:WellAll P h vals args) :
  ∃ a vs ns,vals = [Value.ref a]/\args = [WData.list (ns.map WData.int)]/\h.get? a=some { cls:=.type "list",data:=.seq vs.toArray }/\IntsAre vs ns/\ns.length<=n:=by
 have hsh:WShape.hasAll [] args [.list .int]=true:=(pre_splitW hpre).1
 have hc:l.pre.holds [] { args:=args }=true:=(pre_splitW hpre).2
 obtain ⟨d,r,rfl,h1,h2⟩:=hasAllW_cons hsh
 obtain rfl:=hasAllW_nil h2
 obtain ⟨xs,rfl,h3⟩:=hasW_list h1
 obtain ⟨ns,rfl⟩:=items_int h3
 have hlen:ns.length<=n:=by
  unfold OpenLaw.pre at hc
  have h4:(WTm.not (.lt (.lit (.int (n:Int))) (.len (.arg 0)))).holds [] { args:=[.list (ns.map .int)] }=true:=by
   have h4:=(holds_andW hc).1
   rw [hn] at h4
   exact h4
  have h5:=condW_of h4 (w_not (w_lt w_lit (w_len_list (w_arg rfl))))
  rw [Qb] at h5
  refine Qaf λq=>?_
  have q':(n:Int) < ((ns.length:Nat):Int):=by omega
  first
   | (rw [decide_eq_true q'] at h5; exact absurd h5 (by decide))
   | (simp at h5; omega)
 cases hwl with
 | cons w1 w2 =>
  cases w2
  cases w1 with
  | list ho hall=>exact ⟨_,_,ns,rfl,rfl,ho,qF ns _ hall,hlen⟩
theorem aCj (l:OpenLaw) (args:List WData):l.row.toRowW.claim.post args (.bool true) args=true :=
 postW_of (r:=l.row.toRowW) (X:=(true==true))
  (show WShape.has [] (.bool true) .bool=true by first | rfl | decide | simp [WShape.has,WShape.arms,WShape.armsAll])
  (show (WTm.eq .res (.lit (.bool true))).value [] { args:=args,res:=some (.bool true),after:=args }=some (.bool (true==true)) from w_eq_bool (w_res rfl) w_lit) rfl
theorem attach_call {l:OpenLaw} {d:DefRec} (hn:l.most=some n) (hdf:d.params.defaults = []) (call:∀ (w:World) (s0x s1x:Shared) (mg mb:Str->Option Value) (fa:Addr) (o:Obj) (pm cd doc:Value) (a:Addr) (vs:List Value) (ns:List Int),
   Ground q loose [] XP w s0x mg mb s1x.heap->YP w s1x.heap ->
   s1x.heap.get? fa=some o->o.data=.func (docDef d.name d.params d.body d.scope pm cd doc)->s1x.heap.CodeRec cd d.name->mg d.name=some (.ref fa) ->
   s1x.heap.get? a=some { cls:=.type "list",data:=.seq vs.toArray }->IntsAre vs ns->ns.length<=n->s1x.gens = #[] ->
   codeAny (model l.prog w) callerA (.call (.ref fa) ⟨[.ref a],[]⟩) (λr s'=>r=.ok (.ret (.bool true))/\OldK s1x.heap s'.heap/\s'.os=s1x.os/\AllBare s'.gens) s1x) :
  WalkO q loose XP YP l.row.toRowW d [] (λf vs=>Mz f vs):=by
 intro w s0x s1x mg mb G Y fa o pm cd doc dV kV ho hd hcd hD hmg hg args vals as hpre hlay hrd hwl hlo
 obtain rfl:dV=.none:=Dflts.none hD hdf
 obtain rfl:kV=.none:=Dflts.noKw hD
 obtain ⟨a,vs,ns,rfl,rfl,hobj,hints,hlen⟩:=aCi hn hpre hwl
 refine enter_call (Ul (call w s0x s1x mg mb fa o pm cd doc a vs ns G Y ho (fd_plain hd) hcd hmg hobj hints hlen hg) λr s' hq=>?_)
 obtain ⟨rfl,h2,h3,h4⟩:=hq
 exact ⟨.inl ⟨.bool true,.bool true,[],rfl,λ_=>rfl,.bool true,aCj l _,λ_=>⟨List.Pairwise.nil,λ_ hm=>(nomatch hm)⟩⟩,h2,h3,h4⟩
section
variable {K:Frag}
end
end Att
namespace L2
open PySem PySem.Spec PyProof.Rows
theorem jK:∀ {vs:List Value} {ns:List Int},IntsAre vs ns->bO (ns.map V.int) vs
 := by
 intro vs ns h
 induction h with
 | nil=>exact .nil
 | cons n t h ih=>exact .cons ⟨t,rfl⟩ ih
def jA (s:Stmt):Arguments:=match s with
 | .FunctionDef _ a _ _ _ _ _ _ _ _=>a
 | _=>{ posonlyargs:=[],args:=[],vararg:=none,kwonlyargs:=[],kw_defaults:=[],kwarg:=none,defaults:=[] }
def eV (s:Stmt):List Stmt:=match s with
 | .FunctionDef _ _ b _ _ _ _ _ _ _=>b
 | _=>[]
def aH (s:Stmt):Scope:=match s with
 | .FunctionDef _ _ _ _ _ _ sc _ _ _=>sc
 | _=>{ kind:=.function,names:=[],isGenerator:=false,isCoroutine:=false }
abbrev CX0:CXT:=λ_ _ _ _ _ _=>False
abbrev E0:XK:=λ_ _ _=>False
theorem aHD:aAl CX0 X E0:=λ_ _ _ _ _ _ _ h=>h.elim
structure Fun (K:Rc) (x qual:Str) (st:Stmt) (f:Addr) (fd:FuncData):Prop where
 ex:∃ (oc:Value) (od:Option Addr) (kV doc pm:Value) (an:Option Addr) (cdv ct:Value) (osl:Array (Option Value)),
  fd=Tn x qual (jA st) (eV st) (aH st) .none kV doc pm an cdv ct/\K.lookup f=some ⟨oc,od,.func fd,osl⟩/\Ve K cdv qual=true
 kp:Uo K (.ref f)=true
theorem Fun.ok {x:Str} {k:Nat} (F:Fun K x qual st f fd) (S:FnScope N ps (aH st)) (len:∀ vs H Q E,sp vs H Q E->vs.length=ps.length) (hbody:∀ (cdv:Value) (A:Around) (outer:List Env) (s:Shared) (H:Hp) (vs:List V) (Q:VK) (E:XK),Room k (A.deeper (envOfC qual (aH st) s.heap.objs.size f cdv))->sp vs H Q E ->
   ∃ t,PSs (aAm CX0 P w K mg base N qual (aH st) f cdv A outer s H E).nox (eV st) t/\t { nx:=λ_ H'=>Q .non H',rt:=Q } (start N vs) H):FnOk P w K mg base CX0 (k+1) f fd ps sp:=by
 obtain ⟨oc,od,kV,doc,pm,an,cdv,ct,osl,rfl,lk,hcd⟩:=F.ex
 refine aGb lk hcd S len λA outer s H vs Q E hr hsp=>?_
 obtain ⟨t,h,q⟩:=hbody cdv A outer s H vs Q E hr hsp
 exact ⟨t,h.nox,q⟩
theorem Fun.binds {x:Str} (F:Fun K x qual st f fd) (h:∀ (kV doc pm:Value) (an:Option Addr) (cdv ct:Value) (us:List Value),us.length=ps.length->bindArgs (Tn x qual (jA st) (eV st) (aH st) .none kV doc pm an cdv ct) ⟨us,[]⟩=pure (ps.zip us)):uI K fd ps []:=by
 obtain ⟨oc,od,kV,doc,pm,an,cdv,ct,osl,rfl,lk,hcd⟩:=F.ex
 exact .all (h kV doc pm an cdv ct)
theorem aDs {x:Str} {kV:Value} (l:K.lookup f=some ⟨oc,od,.func (Tn x qual (jA st) (eV st) (aH st) .none kV doc pm an cdv ct),osl⟩) (c:Ve K cdv qual=true) (k:Uo K (.ref f)=true):Fun K x qual st f (Tn x qual (jA st) (eV st) (aH st) .none kV doc pm an cdv ct):=⟨⟨oc,od,kV,doc,pm,an,cdv,ct,osl,rfl,l,c⟩,k⟩
theorem kO {k:Nat} (hr:Room k A):A.units+1 < cLine:=Yk (Nat.add_le_add_left (by decide:1<=64) _) hr.units
theorem pv (i:Nat) {x:Str} (hN:X.N[i]?=some x:=by rfl) (hv:Vis X.env.scope x:=by first | exact Or.inl rfl | exact Or.inr (Or.inl rfl) | exact Or.inr (Or.inr rfl)) (hd:(x==("__debug__" : Str))=false:=by decide) (hcd:(x==("__classdict__" : Str))=false:=by decide):PE X (.Name x pos) (aCd i):=aGx hN hv hd hcd
theorem gF {A:Prop} (h:B):if false=true then A else B:=by
 rw [if_neg Qr]
 exact h
theorem iN {A:Prop} (h:A):if true=true then A else B:=by
 rw [if_pos rfl]
 exact h
theorem dJ {c A:Prop} [Decidable c] (h1:c->A) (h2:¬ c->B):if c then A else B:=by
 by_cases h:c
 ·rw [if_pos h]
  exact h1 h
 ·rw [if_neg h]
  exact h2 h
def aE (H H':Hp):Prop:=∀ b o,H b=some o->H' b=some o
theorem aE.refl (H:Hp):aE H H:=λ_ _ h=>h
theorem aE.trans (a:aE H H1) (b:aE H1 H2):aE H H2:=λc o h=>b c o (a c o h)
theorem aE.free (e:aE H H') {l:Addr} (h:H' l=Option.none):H l=Option.none:=by
 cases q:H l with
 | none=>rfl
 | some o =>
  rw [e l o q] at h
  cases h
def eP (env:Env):List (Str×NameKind)->List (Str×Addr)->List (Str×Addr)
 | [],acc=>acc
 | (n,k)::r,acc=>if k==.free then (match env.cells.lookup n with | some c=>eP env r ((n,c)::acc) | none=>eP env r acc) else eP env r acc
theorem xK {env:Env}:∀ (names:List (Str×NameKind)) (acc:List (Str×Addr)),(∀ y∈names,y.2=.free->∃ c,env.cells.lookup y.1=some c) ->
  (forIn names acc λ(x:Str×NameKind) (r:List (Str×Addr))=>(match x with
   | (name,kind)=>if (kind==NameKind.free)=true then (do let a<-cellOf env name; pure (ForInStep.yield ((name,a)::r))) else pure (ForInStep.yield r):Sem (ForInStep (List (Str×Addr)))))=(pure (eP env names acc):Sem _)
 | [],acc,_=>rfl
 | (n,k)::r,acc,h=>by
  have ih:=λacc=>xK r acc λy hy=>h y (Qk _ hy)
  rw [Zz]
  by_cases hk:(k==NameKind.free)=true
  ·obtain ⟨c,hc⟩:=h (n,k) Qi (by simpa using hk)
   have e1:eP env ((n,k)::r) acc=eP env r ((n,c)::acc):=by
    show (if k==.free then _ else _)=_
    rw [if_pos hk]; simp only at hc; rw [hc]
   simp only at hc
   rw [e1,<- ih]
   simp only [hk,if_true,cellOf,hc]
   rfl
  ·have e1:eP env ((n,k)::r) acc=eP env r acc:=by
    show (if k==.free then _ else _)=_
    rw [if_neg hk]
   rw [e1,<- ih]
   simp only [hk,if_false]
   rfl
theorem aDt {env:Env} (h:∀ y∈scope.names,y.2=.free->∃ c,env.cells.lookup y.1=some c):closureFor scope env=pure (eP env scope.names []):=by
 unfold closureFor
 have e:=xK scope.names [] h
 show (forIn scope.names [] _ >>= _)=_
 exact (congrArg (λz=>z >>= λr=>pure r) e).trans rfl
theorem kZ {env:Env}:∀ (names:List (Str×NameKind)) (acc:List (Str×Addr)) (n:Str) (c:Addr),(n,c)∈eP env names acc->(n,c)∈acc∨env.cells.lookup n=some c
 | [],_,_,_,h=>.inl h
 | (m,k)::r,acc,n,c,h=>by
  by_cases hk:(k==NameKind.free)=true
  ·rw [show eP env ((m,k)::r) acc=(match env.cells.lookup m with | some c=>eP env r ((m,c)::acc) | none=>eP env r acc) from if_pos hk] at h
   cases e:env.cells.lookup m with
   | none=>rw [e] at h; exact kZ r acc n c h
   | some d =>
    rw [e] at h
    rcases kZ r _ n c h with q | q
    ·rcases Qm.mp q with q | q
     ·cases q; exact .inr e
     ·exact .inl q
    ·exact .inr q
  ·rw [show eP env ((m,k)::r) acc=eP env r acc from if_neg hk] at h
   exact kZ r acc n c h
theorem lA {env:Env}:∀ (names:List (Str×NameKind)) (acc:List (Str×Addr)) (n:Str),((∃ c,(n,c)∈acc)∨((n,NameKind.free)∈names/\∃ c,env.cells.lookup n=some c))->∃ c,(n,c)∈eP env names acc
 | [],_,_,h=>by
  rcases h with h | ⟨h,_⟩
  ·exact h
  ·cases h
 | (m,k)::r,acc,n,h=>by
  by_cases hk:(k==NameKind.free)=true
  ·rw [show eP env ((m,k)::r) acc=(match env.cells.lookup m with | some c=>eP env r ((m,c)::acc) | none=>eP env r acc) from if_pos hk]
   cases e:env.cells.lookup m with
   | none =>
    refine lA r acc n ?_
    rcases h with h | ⟨h,c,hc⟩
    ·exact .inl h
    ·rcases Qm.mp h with h | h
     ·cases h; rw [e] at hc; cases hc
     ·exact .inr ⟨h,c,hc⟩
   | some d =>
    refine lA r _ n ?_
    rcases h with ⟨c,h⟩ | ⟨h,c,hc⟩
    ·exact .inl ⟨c,Qk _ h⟩
    ·rcases Qm.mp h with h | h
     ·cases h; exact .inl ⟨d,Qi⟩
     ·exact .inr ⟨h,c,hc⟩
  ·rw [show eP env ((m,k)::r) acc=eP env r acc from if_neg hk]
   refine lA r acc n ?_
   rcases h with h | ⟨h,c,hc⟩
   ·exact .inl h
   ·rcases Qm.mp h with h | h
    ·cases h; exact absurd rfl hk
    ·exact .inr ⟨h,c,hc⟩
theorem jB:∀ {l:List (Str×β)} {a:Str} {b:β},l.lookup a=some b->(a,b)∈l:=PySem.mem_of_lookup_some
theorem lB:∀ {l:List (Str×β)} {a:Str} {b:β},(a,b)∈l->∃ c,l.lookup a=some c
 | (k,v)::l,a,b,h=>by
  rw [Xa]
  by_cases e:(a==k)=true
  ·rw [e]; exact ⟨v,rfl⟩
  ·have e':(a==k)=false:=by simpa using e
   rw [e']
   rcases Qm.mp h with h | h
   ·cases h; simp at e
   ·exact lB h
theorem iO {env:Env} (x:Str):∀ (names:List (Str×NameKind)),
  (names.map λ(n,k)=>if (k==NameKind.free && env.scope.kind==.function && env.kindOf n==some .cell) then (n,NameKind.cell) else (n,k)).lookup x =
   (names.lookup x).map λk=>if (k==NameKind.free && env.scope.kind==.function && env.kindOf x==some .cell) then NameKind.cell else k
 | []=>rfl
 | (n,k)::r=>by
  have ih:=iO (env:=env) x r
  rw [Qz]
  by_cases e:(x==n)=true
  ·have en:x=n:=by simpa using e
   subst en
   dsimp only
   by_cases c:(k==NameKind.free && env.scope.kind==.function && env.kindOf x==some .cell)=true
   ·rw [if_pos c,Xa,Xa,e]
    simp only [Xy,c,if_true]
   ·rw [if_neg c,Xa,Xa,e]
    simp only [Xy,c]
    rfl
  ·have e':(x==n)=false:=by simpa using e
   dsimp only
   by_cases c:(k==NameKind.free && env.scope.kind==.function && env.kindOf n==some .cell)=true
   ·rw [if_pos c,Xa,Xa,e']; exact ih
   ·rw [if_neg c,Xa,Xa,e']; exact ih
def zc (z:Option Str) (C:Addr):List (Str×Addr):=match z with
 | none=>[]
 | some x=>[(x,C+1)]
section
variable {x:Str}
theorem jY (h:(zc z C++cl).lookup x=some c):(z=some x/\c=C+1)∨(z≠some x/\cl.lookup x=some c):=by
 cases z with
 | none=>exact .inr ⟨λq=>(by cases q),h⟩
 | some z0 =>
  have h:((z0,C+1)::cl).lookup x=some c:=h
  rw [Xa] at h
  cases e:x==z0 with
  | true=>rw [e] at h; exact .inl ⟨by rw [show x=z0 by simpa using e],(Option.some.inj h).symm⟩
  | false=>rw [e] at h; exact .inr ⟨λq=>(by cases q; simp at e),h⟩
theorem aGc (h:z≠some x):(zc z C++cl).lookup x=cl.lookup x:=by
 cases z with
 | none=>rfl
 | some z0 =>
  show ((z0,C+1)::cl).lookup x=_
  rw [Xa,show (x==z0)=false by simpa using λq=>h (by rw [q])]
theorem aHE:(zc (some x) C++cl).lookup x=some (C+1):=by
 show ((x,C+1)::cl).lookup x=_
 rw [Xa,show (x==x)=true by simp]
end
def bP (X:Cx) (scope:Scope) (z:Option Str) (N:List Str) (C:Addr) (s0:Shared) (H0:Hp) (fp:List Addr):Cx where
 prog:=X.prog
 w:=X.w
 K:=X.K
 mg:=X.mg
 base:=X.base
 A:=X.A
 N:=N
 s0x:=s0
 H0x:=H0
 env:={ compEnvC scope (eP X.env scope.names []) C X.env with cells:=zc z C++eP X.env scope.names [] }
 outer:=X.stack
 stack:=X.stack
 ex:=fp
 fn:=λy=>z==some y
 calm:=X.calm
 pn:=[]
 xe:=λ_ _=>False
def jL (sc scope:Scope) (z:Option Str) (own:List Str) (frn:List Str):Bool :=
 scope.kind==.function && scope.names.all (λy=>y.2 !=.cell || z==some y.1) && scope.names.all (λy=>y.2 !=.local || scope.names.lookup y.1==some .local) &&
 scope.names.all (λy=>y.2 !=.free || sc.names.lookup y.1==some .cell || sc.names.lookup y.1==some .free) && decide (own++frn).Nodup &&
 frn.all (λx=>scope.names.lookup x==some .free) && scope.names.all (λy=>y.2 !=.free || z !=some y.1)
def blk (own:Nat) (fr:List Nat) (σ:St):St:=List.replicate own none++fr.map λj=>(σ[j]?).join
structure CompOk (X:Cx) (scope:Scope) (z:Option Str) (own:List Str) (fr:List Nat) (frn:List Str):Prop where
 ck:jL X.env.scope scope z own frn=true
 ix:∀ (k:Nat) (x:Str),frn[k]?=some x->∃ j:Nat,fr[k]?=some j/\X.N[j]?=some x
 len:fr.length=frn.length
 cf:∀ z0,z=some z0->(∀ (n:Nat) (cl:List (Str×Addr)),cellsFrom n scope.names cl=(z0,n)::cl)/\∀ h:Heap,pushCells h scope.names=h.push { cls:=.type "cell",data:=.cell none }
theorem CompOk.parts (S:CompOk X scope z own fr frn):scope.kind=.function/\(∀ y∈scope.names,y.2=.cell->z=some y.1)/\(∀ y∈scope.names,y.2=.local->scope.names.lookup y.1=some .local) /\
  (∀ y∈scope.names,y.2=.free->X.env.scope.names.lookup y.1=some .cell∨X.env.scope.names.lookup y.1=some .free)/\(own++frn).Nodup/\(∀ x∈frn,scope.names.lookup x=some .free)/\∀ y∈scope.names,y.2=.free->z≠some y.1:=by
 have h:=S.ck
 unfold jL at h
 simp only [Ji,Jr,decide_eq_true_eq,Qak,bne_iff_ne,ne_eq,beq_iff_eq] at h
 obtain ⟨⟨⟨⟨⟨⟨h1,h2⟩,h3⟩,h4⟩,h5⟩,h7⟩,h9⟩:=h
 exact ⟨h1,λy hy e=>(h2 y hy).resolve_left λq=>q e,λy hy e=>(h3 y hy).resolve_left λq=>q e,λy hy e=>by
  rcases h4 y hy with (q | q) | q
  ·exact absurd e q
  ·exact .inl q
  ·exact .inr q,h5,h7,λy hy e=>(h9 y hy).resolve_left λq=>q e⟩
theorem CompOk.env (S:CompOk X scope z own fr frn) {Q:Env->Shared->Prop} (h:∀ h1x tk,h1x.Ns s.heap.objs.size (λ_=>none)->(∀ b o,s.heap.get? b=some o->h1x.get? b=some o)->(z≠none->h1x.IsCell (s.heap.objs.size+1) none)->Q (newEnv scope s.heap.objs.size X.env.globals (zc z s.heap.objs.size++eP X.env scope.names []) X.env.qual none .none (some X.env) builtinsNs) { s with heap:=h1x,toks:=tk }) :
  wpAny M A (newFunctionEnv scope X.env.globals (eP X.env scope.names []) [] X.env.qual none .none (some X.env)) Q E s:=by
 obtain ⟨p1,p2,_⟩:=S.parts
 cases z with
 | none=>exact Rak (λy hy e=>by cases p2 y hy e) (by intro y hy; simp at hy) (λh1x hns hsb=>h h1x _ hns (λb o e=>hsb.extBut b o (Ja (Qp e)) (Qa _ e)) λq=>absurd rfl q) p1
 | some z0 =>
  obtain ⟨cf,pc⟩:=S.cf z0 rfl
  simp only [newFunctionEnv,QaC,if_true]
  refine Ra (Ral ?_)
  refine Ra (wpAny_layCells _ (λname kind cells=>by cases hkc:kind==NameKind.cell <;> simp [hkc]) _ _ _ _ ?_)
  rw [cf,pc,show ({ s with heap:=s.heap.push { cls:=.type "dict",data:=.dict #[] } }:Shared).heap.objs.size=s.heap.objs.size+1 from Jo ..]
  rw [Yd]
  refine Ra (Rb (Rb (h _ s.toks ((Heap.Ns.new s.heap (.type "dict")).push _) (λb o e=>Qa _ (Qa _ e)) λ_=>⟨{ cls:=.type "cell",data:=.cell none },by
   have e:=Qh (s.heap.push { cls:=.type "dict",data:=.dict #[] }) (o:={ cls:=.type "cell",data:=.cell none }) rfl
   rw [Jo] at e
   exact e,rfl⟩)))
theorem CompOk.blen (S:CompOk X scope z own fr frn) (σ:St):(blk own.length fr σ).length=(own++frn).length:=by
 unfold blk
 rw [Qn,Qn,Ju,Qb,S.len]
theorem aDu {σ:St} {h1:Heap} {tk:Nat} {D:Addr} {oD:Obj} {m:Str->Option Value} (I:Inv X pins σ H s) (S:CompOk X scope z own fr frn) (hfp:∀ b∈fp,qE X pins H b) (hlt:∀ b∈fp,b < s.heap.objs.size) (hC:s.heap.objs.size<=C) (hn:h1.Ns C m) (hk:∀ b o,s.heap.get? b=some o->h1.get? b=some o) (hD:s.heap.objs.size<=D) (hDC:D≠C) (hoD:h1.get? D=some oD) (hdD:∀ v,oD.data≠.cell v) (hcl:z≠none->h1.IsCell (C+1) none) :
  Inv (bP X scope z (own++frn) C s H fp) [(D,oD)] (blk own.length fr σ) H { s with heap:=h1,toks:=tk }:=by
 obtain ⟨p1,p2,p3,p4,p5,p7,p9⟩:=S.parts
 have below:∀ b,b < s.heap.objs.size->b≠C:=λb hb z=>Jx _ (Qy (z ▸ hb) hC)
 have clsub:∀ x c,(eP X.env scope.names []).lookup x=some c->X.env.cells.lookup x=some c:=λx c e=>by
  rcases kZ _ _ _ _ (jB e) with q | q
  ·cases q
  ·exact q
 have clt:∀ x c,X.env.cells.lookup x=some c->c < s.heap.objs.size:=λx c e=>by
  obtain ⟨v,q⟩:=I.cell x c e
  exact q.lt
 have nstk:∀ b∈fp,b∉frs X.stack:=λb hb z=>by
  obtain ⟨_,f1,f2,_⟩:=hfp b hb
  rcases Qm.mp (I.stkSub b z) with e | e
  ·exact f1 e
  ·exact f2 e
 have Dfs:D∉frs X.stack:=λz=>by
  have q:=I.stkSub D z
  rcases Qm.mp q with e | e
  ·exact Jx _ (Qy (e ▸ I.lt:D < _) hD)
  ·exact I.nofs hD e
 refine ⟨⟨I.ok.mod,p1,I.ok.glob,I.ok.blt,hC,λx y c e1 e2=>?inj,λx hx=>?has,λx c e e2=>?cab,I.ok.hd,I.ok.frames,.inl rfl,λb hb=>?exf,I.bs,Jl I.ok.bsz I.sz,λb o e hb=>?noex,nstk,I.stack,I.stkFree⟩,
  rfl,I.bare,Un.kept hk,⟨m,hn,λi x v e1 e2 e3=>?loc⟩,λx c e=>?cell,I.hok.fresh hC,λx c e=>?freeC,λp hp=>?pin,I.hok.kept hk,S.blen σ⟩
 case inj =>
  have e1':(zc z C++eP X.env scope.names []).lookup x=some c:=e1
  have e2':(zc z C++eP X.env scope.names []).lookup y=some c:=e2
  rcases jY e1' with ⟨r1,rfl⟩ | ⟨n1,q1⟩ <;> rcases jY e2' with ⟨r2,e⟩ | ⟨n2,q2⟩
  ·exact Option.some.inj (r1.symm.trans r2)
  ·exact absurd (clt _ _ (clsub _ _ q2)) (Nat.not_lt.mpr (Zm hC))
  ·subst e
   exact absurd (clt _ _ (clsub _ _ q1)) (Nat.not_lt.mpr (Zm hC))
  ·exact I.ok.inj x y c (clsub x c q1) (clsub y c q2)
 case has =>
  have hx':(relabel scope X.env).names.lookup x=some .cell∨(relabel scope X.env).names.lookup x=some .free:=hx
  show ∃ c,(zc z C++eP X.env scope.names []).lookup x=some c
  by_cases hz:z=some x
  ·rw [hz,aHE]
   exact ⟨_,rfl⟩
  ·rw [aGc hz]
   have hl:(relabel scope X.env).names.lookup x=_:=iO (env:=X.env) x scope.names
   rw [hl] at hx'
   cases e:scope.names.lookup x with
   | none =>
    rw [e] at hx'
    rcases hx' with z | z <;> cases z
   | some k =>
    have hmem:=jB e
    have hkf:k=.free:=by
     rw [e] at hx'
     simp only [Xy,Option.some.injEq] at hx'
     by_cases c:(k==NameKind.free && X.env.scope.kind==.function && X.env.kindOf x==some .cell)=true
     ·simp only [Ji,beq_iff_eq] at c
      exact c.1.1
     ·rw [if_neg c] at hx'
      rcases hx' with z | z
      ·exact absurd (p2 _ hmem z) hz
      ·exact z
    subst hkf
    obtain ⟨c,hc⟩:=I.ok.has x (p4 _ hmem rfl)
    obtain ⟨c',hc'⟩:=lA (env:=X.env) scope.names [] x (.inr ⟨hmem,c,hc⟩)
    exact lB hc'
 case cab =>
  have e':(z==some x)=true:=e
  have e2':(zc z C++eP X.env scope.names []).lookup x=some c:=e2
  rcases jY e2' with ⟨_,rfl⟩ | ⟨n1,_⟩
  ·exact Zm hC
  ·exact absurd (by simpa using e') n1
 case exf =>
  refine ⟨below b (hlt b hb),λx c e=>?_⟩
  have e':(zc z C++eP X.env scope.names []).lookup x=some c:=e
  rcases jY e' with ⟨_,rfl⟩ | ⟨_,q⟩
  ·exact λz=>Jx _ (Qy (hlt b hb) (by rw [<- z]; exact Zm hC))
  ·exact (hfp b hb).2.2.2.2.1 x c (clsub x c q)
 case noex =>
  rcases (hfp b hb).2.2.2.1 with z | z
  ·exact I.ok.noex b o e z
  ·exact absurd (Qy (Qp (I.ok.bs b o e).1) z) (Jx _)
 case loc =>
  show ∃ u,bS v u/\aHj _ _ _ x u
  have e1':(own++frn)[i]?=some x:=e1
  have e2':(blk own.length fr σ)[i]?=some (some v):=e2
  unfold blk at e2'
  by_cases hi:i < own.length
  ·rw [Qu (by simpa using hi),Ze] at e2'
   rw [if_pos hi] at e2'
   cases e2'
  ·rw [Je (by simpa using hi)] at e2'
   rw [Je (by omega)] at e1'
   rw [Ju,Qe] at e2'
   obtain ⟨j,hj1,hj2⟩:=S.ix _ _ e1'
   rw [hj1] at e2'
   simp only [Xy,Option.some.injEq] at e2'
   have hσ:σ[j]?=some (some v):=by
    cases q:σ[j]? with
    | none=>rw [q] at e2'; cases e2'
    | some w=>rw [q] at e2'; exact congrArg some e2'
   have hfree:=p7 x (Qj e1')
   have hmem:=jB hfree
   have hxz:z≠some x:=p9 _ hmem rfl
   have kx:=p4 _ hmem rfl
   have vis:Vis X.env.scope x:=by
    rcases kx with z | z
    ·exact .inr (.inl z)
    ·exact .inr (.inr z)
   obtain ⟨m0,hn0,hl0⟩:=I.loc
   obtain ⟨u,ru,lk⟩:=hl0 j x v hj2 hσ vis
   refine ⟨u,ru,.inr ⟨?_,?_⟩⟩
   ·show (relabel scope X.env).names.lookup x=some .cell∨(relabel scope X.env).names.lookup x=some .free
    have hl:(relabel scope X.env).names.lookup x=_:=iO (env:=X.env) x scope.names
    rw [hl,hfree]
    simp only [Xy,Option.some.injEq]
    by_cases c:(NameKind.free==NameKind.free && X.env.scope.kind==.function && X.env.kindOf x==some .cell)=true
    ·rw [if_pos c]; exact .inl rfl
    ·rw [if_neg c]; exact .inr rfl
   ·rcases lk with ⟨kl,_⟩ | ⟨_,c,hc,hcell⟩
    ·have kl':X.env.scope.names.lookup x=some .local:=kl
     rcases kx with z | z <;> (have z':X.env.scope.names.lookup x=_:=z; rw [kl'] at z'; cases z')
    ·obtain ⟨c',hc'⟩:=lA (env:=X.env) scope.names [] x (.inr ⟨hmem,c,hc⟩)
     obtain ⟨c2,hc2⟩:=lB hc'
     have ec:c2=c:=by
      have:=clsub x c2 hc2
      rw [hc] at this
      exact (Option.some.inj this).symm
     subst ec
     obtain ⟨oc,ho,hd⟩:=hcell
     exact ⟨c2,(aGc hxz).trans hc2,oc,hk _ _ ho,hd⟩
 case cell =>
  have e':(zc z C++eP X.env scope.names []).lookup x=some c:=e
  rcases jY e' with ⟨_,rfl⟩ | ⟨_,q⟩
  ·exact ⟨none,hcl λq=>by simp_all⟩
  ·obtain ⟨v,o,ho,hd⟩:=I.cell x c (clsub x c q)
   exact ⟨v,o,hk _ _ ho,hd⟩
 case freeC =>
  have e':(zc z C++eP X.env scope.names []).lookup x=some c:=e
  rcases jY e' with ⟨_,rfl⟩ | ⟨_,q⟩
  ·exact I.hok.fresh (Zm hC)
  ·exact I.freeC x c (clsub x c q)
 case pin =>
  have hp':p∈([]:List (Addr×Obj))++[(D,oD)]:=hp
  simp only [Zl,Qs] at hp'
  subst hp'
  exact ⟨hoD,I.hok.fresh hD,hDC,Dfs,hdD⟩
structure LoopOk (P:Program) (w:World) (A:Around) (e:Expr) (d:Nat) (tg iter:Expr) (ifs:List Expr) (bd:Env->Addr->Sem Unit):Prop where
 und:∀ (it:Value) (D:Addr) (env:Env),A.under (.compLoop e d it (.ref D) env)=A/\(model P w).den (.compLoop e d it (.ref D) env)=(compTurn e d it (.ref D) env).onRaise (λx=>do noteFrame x env; theTreesLotGoes x)
 turn:∀ (it:Value) (D:Addr) (env:Env),compTurn e d it (.ref D) env=(do
   standAt iter.pos
   match<-pyNext it with
   | none=>pure (.done .next)
   | some v =>
    letOwnedTupleGo tg it v
    assign tg env v
    let mut ok:=true
    for c in ifs do
     if ok then ok<-isTrue c env (eval c env)
    if ok then bd env D
    again (.compLoop e d it (.ref D) env))
 start:∀ {R:Result->Shared->Prop} {s:Shared} {it acc:Value} {env:Env},codeAny (model P w) A (.compLoop e d it acc env) R s->wpAny (model P w) A (pyIter it) (λit' s'=>codeAny (model P w) A (.compLoop e d it' acc env) R s') (notedBy (model P w) A env λx s'=>R (.error x) s') s->codeAny (model P w) A (.compStart e d it acc env) R s
structure AccOk {α:Type} (P:Program) (w:World) (A:Around) (na:Sem Value) (a0:α) (Ok:Addr->α->Heap->Prop):Prop where
 new:∃ o0:Obj,(∀ v,o0.data≠.cell v)/\o0.isFreed=false/\(∀ (h:Heap) D,h.get? D=some o0->Ok D a0 h)/\∀ {Q:Value->Shared->Prop} {E:Value->Shared->Prop} {s:Shared},Q (.ref s.heap.objs.size) { s with heap:=s.heap.push o0 }->wpAny (model P w) A na Q E s
 keep:∀ {D:Addr} {a:α} {h h':Heap},Ok D a h->(∀ o,h.get? D=some o->h'.get? D=some o)->Ok D a h'
 obj:∀ {D:Addr} {a:α} {h:Heap},Ok D a h->∃ o,h.get? D=some o/\∀ v,o.data≠.cell v
theorem xL {bd:Env->Addr->Sem Unit} {d:Nat} {D:Addr} {target:Expr} {it:Value} {env:Env} (LO:LoopOk prog w A e d target iter ifs bd) (I:Nat->Shared->Prop) (turn:∀ n s,I n s->wpAny (model prog w) A (pyNext it) (λr s1x=>match r with
   | none=>R (.ok .next) s1x
   | some v=>wpAny (model prog w) A (letOwnedTupleGo target it v) (λ_ s1'=>wpAny (model prog w) A (assign target env v) (λ_ s2x =>
     wpAny (model prog w) A (forIn ifs true λc r=>if r=true then do let ok<-isTrue c env (eval c env); pure (ForInStep.yield ok) else pure (ForInStep.yield r)) (λok s3x =>
      if ok=true then wpAny (model prog w) A (bd env D) (λ_ s5x=>∃ m,m < n/\I m s5x) (λ_ _=>False) s3x
      else ∃ m,m < n/\I m s3x) (λ_ _=>False) s2x) (λ_ _=>False) s1') (λ_ _=>False) s1x) (λ_ _=>False) s) (n:Nat) (h:I n s) :
  codeAny (model prog w) A (.compLoop e d it (.ref D) env) R s:=by
 refine codeAny_loop rfl I (λn s hI=>?_) n h
 rw [(LO.und it D env).1,(LO.und it D env).2]
 refine wpAny_noted ?_
 rw [LO.turn]
 refine Ra (Tj (Ra (Rr (turn n s hI) (λr s1x h1x=>?_) λ_ _ h'=>h'.elim)))
 cases r with
 | none=>exact Rb h1x
 | some v =>
  refine Ra (Rr h1x (λ_ s1' h1'x=>?_) λ_ _ h'=>h'.elim)
  refine Ra (Rr h1'x (λ_ s2x h2x=>Ra (Rr h2x (λok s3x h3x=>?_) λ_ _ h'=>h'.elim)) λ_ _ h'=>h'.elim)
  cases ok with
  | false=>exact Rb ⟨rfl,h3x⟩
  | true=>exact Ra (Rr h3x (λ_ s5x h5x=>Rb ⟨rfl,h5x⟩) λ_ _ h'=>h'.elim)
def PF (X:Cx) (ifs:List Expr) (t:TT):Prop :=
 ∀ (pins:List (Addr×Obj)) (s:Shared) (σ:St) (H:Hp) (Q:Bool->Hp->Prop),Inv X pins σ H s->t σ H Q ->
  wpAny (model X.prog X.w) X.A (forIn ifs true λc r=>if r=true then do let ok<-isTrue c X.env (eval c X.env); pure (ForInStep.yield ok) else pure (ForInStep.yield r)) (TP X pins σ Q) X.xe s
def vO:TT:=λ_ H Q=>Q true H
theorem dM:PF X [] vO:=λ_ _ _ H _ I h=>wpAny_tests_nil ⟨H,I,h⟩
theorem oY {c:Expr} {t:TT} (h:PT X c t):PF X [c] t:=λpins s σ H Q I hq=>wpAny_tests_one (h pins s σ H Q I hq)
def Wlk (J:It) (a0:α) (σ0:St) (H1:Hp) (q:α->St->Hp->Prop) (g:TG) (tt:TT) (tb:α->St->Hp->(α->St->Hp->Prop)->Prop):Prop:=∃ W:Nat->Nat->α->St->Hp->Prop,(∃ m,W 0 m a0 σ0 H1)/\∀ i m a σ' H,W i m a σ' H->(J.stop i H/\q a σ' H) ∨
 (J.go i H/\∃ N:α->St->Hp->Prop,(∀ a' σ2 H2,N a' σ2 H2->∃ m',m' < m/\W (i+1) m' a' σ2 H2)/\∀ x H',J.yld i H x H'->g x σ' H' λσ2 H2=>tt σ2 H2 λb H3=>if b=true then tb a σ2 H3 N else N a σ2 H3)
def tbL (te:TE) (ys:List V) (σ:St) (H:Hp) (R:List V->St->Hp->Prop):Prop:=te σ H λy H4=>ys.length < sizeLine/\R (ys++[y]) σ H4
def aGd (own:Nat) (fr:List Nat) (wi:TI) (g:TG) (tt:TT) (te:TE):TE:=λσ H Q=>wi σ H λJ H1=>Wlk J [] (blk own fr σ) H1 (λys _ H=>∀ p,H p=none->Q (.ref p) (upd H p (.lst ys))) g tt (tbL te)
structure Dpl (Y:Cx) (D:Addr) (ps:List (Addr×Obj)):Prop where
 L:D≠Y.env.locals
 ex:D∈Y.ex∨Y.s0x.heap.objs.size<=D
 c:∀ x c,Y.env.cells.lookup x=some c->c≠D
 pn:∀ p∈Y.pn,p.1≠D
 fs:D∉Y.fs
 ps:∀ p∈ps,p.1≠D
section
variable {d:Nat} {gs:List Comprehension} {wi:TI} {na:Sem Value} {bd:Env->Addr->Sem Unit} {a0:α} {Ok:Addr->α->Heap->Prop} {tb:α->St->Hp->(α->St->Hp->Prop)->Prop} {ps:List (Addr×Obj)} {σ:St} {D:Addr}
theorem Inv.trackG {u:HO} (I:Inv X pins σ H s) (hn:H D=none) (hL:D≠X.env.locals)
  (h1:X.s0x.heap.objs.size<=D) (h2:∀ x c,X.env.cells.lookup x=some c->c≠D) (h3:∀ p∈X.pn++pins,p.1≠D) (hu:bL X.prog X.w (upd H D u) s.heap D u):Inv X pins σ (upd H D u) s:=by
 have ne:∀ b u,H b=some u->b≠D:=λb u e z=>by rw [z,hn] at e; cases e
 refine I.step (g':=s.gens) (d':=s.drawn) (t':=s.toks) (h':=s.heap) (ch:=[D]) (λb hb=>?_) (λb o _ _ _ e _=>e) (λb o _ _ _ e _=>⟨o.slots,e⟩) (λb o hc _ n=>?_) (λb o _ e=>⟨o,e⟩)
  (λb xs e=>by rw [aF (ne b _ e)]; exact e) (λb o u e=>by rw [aF (ne b _ e)]; exact e) (λb ps e=>⟨#[],by rw [aF (ne b _ e),e]; simp⟩) (λ_ h=>h) (λb u e=>?_) I.bare
 ·have e:b=D:=by simpa using hb
  subst e
  exact ⟨.inr h1,hL,h2,h3⟩
 ·rw [aF (by simpa using hc)]; exact n
 ·by_cases hb:b=D
  ·subst hb
   rw [aB] at e; cases e
   exact hu
  ·rw [aF hb] at e
   exact (I.hok b u e).stay (λc v _ q=>q) (λc q=>by rw [aF (ne c _ q)]; exact q) λc xs q=>by rw [aF (ne c _ q)]; exact q
theorem Dpl.put {t:Nat} {a:α} (dn:Dpl Y D ps) (AO:AccOk Y.prog Y.w Y.A na a0 Ok) (I:Inv Y ((D,o)::ps) σ H s) (sb:Heap.SameBut D s.heap h') (ok:Ok D a h'):∃ o',Inv Y ((D,o')::ps) σ H { s with heap:=h',toks:=t }:=by
 have hD:=(I.pin (D,o) (Jd _ (Qi ..))).2.1
 have I':Inv Y [] σ H s:=I.pins_of λp hp=>by cases hp
 have I11:=I'.turned (t':=t) (it:=D) (λb o hb e=>(sb.2 b hb).trans e) hD dn.L dn.ex dn.c (λp hp=>by rw [Zk] at hp; exact dn.pn p hp)
 obtain ⟨o',e',c'⟩:=AO.obj ok
 refine ⟨o',I11.pins_of λp hp=>?_⟩
 rcases Qm.mp hp with h | h
 ·subst h
  exact ⟨e',hD,dn.L,dn.fs,c'⟩
 ·obtain ⟨a1,a2,a3,a4,a5⟩:=I.pin p (Jd _ (Qk _ h))
  exact ⟨(sb.2 p.1 (dn.ps p h)).trans a1,a2,a3,a4,a5⟩
def lC (Y:Cx) (bd:Env->Addr->Sem Unit) (Ok:Addr->α->Heap->Prop) (tb:α->St->Hp->(α->St->Hp->Prop)->Prop):Prop:=∀ ps s σ H D o a R,Dpl Y D ps->Inv Y ((D,o)::ps) σ H s->Ok D a s.heap->tb a σ H R->wpAny (model Y.prog Y.w) Y.A (bd Y.env D) (λ_ s'=>∃ σ' H' a' o',Inv Y ((D,o')::ps) σ' H' s'/\Ok D a' s'.heap/\R a' σ' H') Y.xe s
theorem AccOk.stay {a:α} {σ':St} (AO:AccOk Y.prog Y.w Y.A na a0 Ok) (I:Inv Y ((D,o)::ps) σ H s) (I':Inv Y ((D,o)::ps) σ' H' s') (pl:Ok D a s.heap):Ok D a s'.heap :=
 AO.keep pl λ_ e=>(I'.pin (D,o) (Jd _ (Qi ..))).1.trans ((I.pin (D,o) (Jd _ (Qi ..))).1.symm.trans e)
theorem aCk {tn:Nat->Heap->Prop} {a:α} {F:α->St->Hp->Prop} (LO:LoopOk Y.prog Y.w Y.A e d tg iter ifs bd) (AO:AccOk Y.prog Y.w Y.A na a0 Ok) (hx:∀ v s',¬ Y.xe v s') (hc:Y.calm=true) (T:Turn Y.prog Y.w Y.K tg J fp it tn) (hg:PG Y tg g) (ht:PF Y ifs tt) (hb:lC Y bd Ok tb) (dn:Dpl Y D ps) (I0:Inv Y ((D,o)::ps) σ H s) (pl0:Ok D a s.heap) (st0:tn 0 s.heap) (f0:∀ b∈fp,qE Y ((D,o)::ps) H b) (w:Wlk J a σ H F g tt tb) (hR:∀ (s':Shared) (σ':St) (H':Hp) (a':α) (o':Obj),Inv Y ((D,o')::ps) σ' H' s'->Ok D a' s'.heap->F a' σ' H'->R (.ok .next) s') :
  codeAny (model Y.prog Y.w) Y.A (.compStart e d (.ref it) (.ref D) Y.env) R s:=by
 obtain ⟨W,⟨m0,w0⟩,turn⟩:=w
 have stat:∀ {H':Hp} {o':Obj},(∀ b∈fp,H' b=none)->∀ b∈fp,qE Y ((D,o')::ps) H' b:=λ{H' o'} hn b hb=>by
  obtain ⟨_,q1,q2,q3,q4,q5⟩:=f0 b hb
  refine ⟨hn b hb,q1,q2,q3,q4,λp hp=>?_⟩
  rcases Jg.mp hp with h | h
  ·exact q5 p (Jw _ h)
  ·rcases Qm.mp h with h | h
   ·rw [h]; exact q5 (D,o) (Jd _ (Qi ..))
   ·exact q5 p (Jd _ (Qk _ h))
 have loop:codeAny (model Y.prog Y.w) Y.A (.compLoop e d (.ref it) (.ref D) Y.env) R s:=by
  refine xL LO (λn s'=>∃ i σ' H' a o,Inv Y ((D,o)::ps) σ' H' s'/\Ok D a s'.heap/\tn i s'.heap/\(∀ b∈fp,H' b=none)/\W i n a σ' H') ?_ m0 ⟨0,σ,H,a,o,I0,pl0,st0,λb hb=>(f0 b hb).1,w0⟩
  rintro n s5 ⟨i,σ5,H5,ys,o,I5,pl5,st5,fr5,w5⟩
  rcases turn i n ys σ5 H5 w5 with ⟨stop,qn⟩ | ⟨go,N,hN,step⟩
  ·refine Rr (T.done Y rfl rfl rfl hc i _ s5 σ5 H5 (λ_ _=>False) I5 (stat fr5) st5 stop) (λr s6 hx9=>?_) λ_ _ z=>z
   obtain ⟨hr,I6⟩:=hx9
   subst hr
   exact hR s6 σ5 H5 ys o I6 (AO.stay I5 I6 pl5) qn
  ·refine Rr (T.item Y rfl rfl rfl hc i _ s5 σ5 H5 (λ_ _=>False) I5 (stat fr5) st5 go) (λr s6 hx9=>?_) λ_ _ z=>z
   obtain ⟨u,hr,h6⟩:=hx9
   subst hr
   refine Rr h6 (λ_ s7 hx9=>?_) λ_ _ z=>z
   obtain ⟨x,H7,I7,r7,y7,st7,fr7⟩:=hx9
   have I7':=I7.pinned (stat fr7) (T.obj _ _ st7)
   refine Rr (hg _ s7 σ5 H7 x u _ I7' r7 (step x H7 y7)) (λ_ s8 hx9=>?_) λv s' z=>hx v s' z
   obtain ⟨σ8,H8,I8,q8⟩:=hx9
   refine Rr (ht _ s8 σ8 H8 _ I8 q8) (λb s9 hx9=>?_) λv s' z=>hx v s' z
   obtain ⟨H9,I9,q9⟩:=hx9
   have pl9:Ok D ys s9.heap:=AO.stay I5 (I9.unpinned:Inv Y ((D,o)::ps) σ8 H9 s9) pl5
   have fin:∀ {s':Shared} {σ':St} {H':Hp} {o':Obj} {a':α},Inv Y ((D,o')::(ps++oX fp s7.heap)) σ' H' s'->Ok D a' s'.heap->N a' σ' H'->∃ m,m < n/\∃ i σ' H' a o,Inv Y ((D,o)::ps) σ' H' s'/\Ok D a s'.heap/\tn i s'.heap/\(∀ b∈fp,H' b=none)/\W i m a σ' H':=λ{s' σ' H' o' a'} I' ok q=>by
    obtain ⟨m',hm,w'⟩:=hN a' σ' H' q
    have pin:=λb (hb:b∈fp) o e=>I'.pin (b,o) (Jd _ (Qk _ (Jd _ (nC hb e))))
    refine ⟨m',hm,i+1,σ',H',a',o',I'.pins_of λp hp=>I'.pin p (Jd _ ?_),ok,T.keep _ _ _ st7 λb hb o e=>(pin b hb o e).1,λb hb=>?_,w'⟩
    ·rcases Qm.mp hp with h | h
     ·exact h ▸ Qi ..
     ·exact Qk _ (Jw _ h)
    ·obtain ⟨o,e,_⟩:=T.obj _ _ st7 b hb
     exact (pin b hb o e).2.1
   cases b with
   | false =>
    rw [if_neg Qr] at q9
    rw [if_neg Qr]
    exact fin I9 pl9 q9
   | true =>
    rw [if_pos rfl] at q9
    rw [if_pos rfl]
    refine Rr (hb (ps++oX fp s7.heap) s9 σ8 H9 D o ys _ ⟨dn.L,dn.ex,dn.c,dn.pn,dn.fs,λp hp=>?_⟩ I9 pl9 q9) (λ_ s11 hx9=>?_) λv s' z=>hx v s' z
    ·rcases Jg.mp hp with h | h
     ·exact dn.ps p h
     ·exact λq=>(f0 p.1 (uF h).1).2.2.2.2.2 (D,_) (Jd _ (Qi ..)) q.symm
    ·obtain ⟨σ',H',a',o',I',ok,q⟩:=hx9
     exact fin I' ok q
 exact LO.start loop (T.self Y.A 0 _ _ _ st0 loop)
theorem aAq {s2:Shared} {tn:Nat->Heap->Prop} {RR:Value->Addr->Result->Shared->Prop} {Q:α->Hp->Prop} (S:CompOk X scope z own fr frn) (LO:LoopOk X.prog X.w X.A e 0 tg iter ifs bd) (AO:AccOk X.prog X.w X.A na a0 Ok) (hc:X.calm=true) (I2:Inv X pins σ H2 s2) (T:Turn X.prog X.w X.K tg J fp it tn) (st2:tn 0 s2.heap) (f2:∀ b∈fp,qE X pins H2 b) (hg:∀ C s0 H0 fp,PG (bP X scope z (own++frn) C s0 H0 fp) tg g) (ht:∀ C s0 H0 fp,PF (bP X scope z (own++frn) C s0 H0 fp) ifs tt) (hb:∀ C s0 H0 fp,lC (bP X scope z (own++frn) C s0 H0 fp) bd Ok tb) (w:Wlk J a0 (blk own.length fr σ) H2 (λa _ H=>Q a H) g tt tb) (hRR:∀ (C D:Addr) (s':Shared) (H':Hp) (ys:α) (m:Str->Option Value),s2.heap.objs.size<=C->s2.heap.objs.size<=D->D≠C->s'.heap.Ns C m->H' C=none->H' D=none->Ok D ys s'.heap->Inv X pins σ H' s'->Q ys H'->RR (.ref D) C (.ok .next) s') :
  wpAny (model X.prog X.w) X.A na (λacc s3x=>wpAny (model X.prog X.w) X.A (newFunctionEnv scope X.env.globals (eP X.env scope.names []) [] X.env.qual none .none (some X.env)) (λcenv s4x =>
   codeAny (model X.prog X.w) X.A (.compStart e 0 (.ref it) acc { cenv with scope:=relabel scope X.env }) (RR acc cenv.locals) s4x) E s3x) E s2:=by
 obtain ⟨o0,n0,f0,k0,nw⟩:=AO.new
 refine nw (S.env λh1x tk hns1x ol hcell=>?_)
 dsimp only at hns1x ol hcell ⊢
 generalize hH2:s2.heap.push o0=HD at hns1x ol hcell ⊢
 have hCs:HD.objs.size=s2.heap.objs.size+1:=by rw [<- hH2,Jo]
 have hDC:s2.heap.objs.size≠HD.objs.size:=by omega
 have hCle:s2.heap.objs.size<=HD.objs.size:=by omega
 have below:∀ b,b < s2.heap.objs.size->b≠HD.objs.size/\b≠s2.heap.objs.size:=λb hb=>⟨by omega,by omega⟩
 have old:∀ b o,s2.heap.get? b=some o->h1x.get? b=some o:=λb o e=>ol b o (hH2 ▸ Qa _ e)
 have hacc:h1x.get? s2.heap.objs.size=some o0:=ol _ _ (hH2 ▸ Qh _ f0)
 have flt:∀ b∈fp,b < s2.heap.objs.size:=λb hb=>by
  obtain ⟨o,e,_⟩:=T.obj _ _ st2 b hb
  exact Qp e
 generalize hDg:s2.heap.objs.size=D at *
 generalize hCg:HD.objs.size=C at *
 have st3:tn 0 h1x:=T.keep _ _ _ st2 λb _ o e=>old b o e
 have hcs:∀ x c,(zc z C++eP X.env scope.names []).lookup x=some c->c=C+1∨X.env.cells.lookup x=some c:=λx c e=>by
  rcases jY e with ⟨_,e⟩ | ⟨_,e⟩
  ·exact .inl e
  ·rcases kZ _ _ _ _ (jB e) with q | q
   ·cases q
   ·exact .inr q
 have I3:Inv (bP X scope z (own++frn) C s2 H2 fp) [(D,_)] (blk own.length fr σ) H2 { s2 with heap:=h1x,toks:=tk } :=
  aDu (m:=λ_=>none) I2 S f2 (by rw [hDg]; exact flt) (by rw [hDg]; exact hCle) (hns1x:h1x.Ns C _) old (by rw [hDg]; exact Qg _) hDC hacc n0 hcell
 refine aCk (Y:=bP X scope z (own++frn) C s2 H2 fp) LO AO (λ_ _ z=>z) hc T (hg C s2 H2 fp) (ht C s2 H2 fp) (hb C s2 H2 fp) ⟨hDC,.inr (by show s2.heap.objs.size<=D; rw [hDg]; exact Qg _),λx c e q=>?_,λp hp=>(by cases hp),λz=>?_,λp hp=>(by cases hp)⟩ I3 (k0 _ _ hacc) st3 (λb hb=>?_) w (λs6 σ6 H6 a o I6 pl qn=>?_)
 ·rcases hcs x c e with e | e
  ·exact Jx _ (Qy (Zv C) (Jl (Nat.le_of_eq (e.symm.trans q)) hCle))
  obtain ⟨v,u⟩:=I2.cell x c e
  exact Jx _ (Qy u.lt (by rw [hDg,q]; exact Qg _))
 ·rcases Qm.mp (I2.stkSub D z) with e | e
  ·exact Jx _ (Qy I2.lt (by rw [hDg,e]; exact Qg _))
  ·exact I2.nofs (by rw [hDg]; exact Qg _) e
 ·refine ⟨(f2 b hb).1,(below b (flt b hb)).1,λz=>?_,.inl hb,λx c e=>(by
   rcases hcs x c e with e | e
   ·exact λq=>Jx _ (Qy (flt b hb) (by rw [<- q,e]; exact Zm hCle))
   ·exact (f2 b hb).2.2.2.2.1 x c e),λp hp=>?_⟩
  ·have z':b∈frs X.stack:=z
   rcases Qm.mp (I2.stkSub b z') with e | e
   ·exact (f2 b hb).2.1 e
   ·exact (f2 b hb).2.2.1 e
  ·rw [Qs.mp (show p∈[(D,o0)] from hp)]
   exact Ne.symm (below b (flt b hb)).2
 ·obtain ⟨m6,hn6,_⟩:=I6.loc
  have p6:=I6.pin (D,o) (Jd _ (Qi ..))
  have IX:Inv X pins σ H6 s6:=I2.call' (ch:=fp) I6.os I6.base I6.hok I6.bare λb hb=>⟨(f2 b hb).2.2.2.1,(f2 b hb).2.1,(f2 b hb).2.2.2.2.1,(f2 b hb).2.2.2.2.2⟩
  exact hRR C D s6 H6 a m6 hCle (Qg _) hDC hn6 I6.free p6.2.1 pl IX qn
theorem xM {R:Value->Shared->Prop} {use:Option (Value->Sem Unit)} {q:α->Hp->Prop} (S:CompOk X scope z own fr frn) (cl:clausesOf e=⟨tg,iter,ifs,0⟩::gs) (LO:LoopOk X.prog X.w X.A e 0 tg iter ifs bd) (AO:AccOk X.prog X.w X.A na a0 Ok) (hc:X.calm=true) (hi:PI X tg iter wi) (hg:∀ C s0 H0 fp,PG (bP X scope z (own++frn) C s0 H0 fp) tg g) (ht:∀ C s0 H0 fp,PF (bP X scope z (own++frn) C s0 H0 fp) ifs tt)
  (hb:∀ C s0 H0 fp,lC (bP X scope z (own++frn) C s0 H0 fp) bd Ok tb) (hs:∀ x,foldedSetIterable iter X.env x=pure x) (I:Inv X pins σ H s)
  (h:wi σ H λJ H1=>Wlk J a0 (blk own.length fr σ) H1 (λa _ H=>q a H) g tt tb)
  (hq:∀ (C D:Addr) (s':Shared) (H':Hp) (a:α) (m:Str->Option Value),D≠C->s'.heap.Ns C m->H' C=none->H' D=none->Ok D a s'.heap->Inv X pins σ H' s'->q a H' ->
   (∀ b,b=C∨b=D->b≠X.env.locals/\X.s0x.heap.objs.size<=b/\sysModules < b/\(∀ x c,X.env.cells.lookup x=some c->c≠b)/\∀ p∈X.pn++pins,p.1≠b)->compPost (model X.prog X.w) X.A X.xe use R (.ref D) C (.ok .next) s') :
  wpAny (model X.prog X.w) X.A (comprehension e scope X.env pos na false (eval iter X.env) use) R X.xe s:=by
 obtain ⟨p1,p2,p3,p4,p5,p7,p9⟩:=S.parts
 refine wpAny_comprehension_free cl hs (aDt λy hy e=>I.ok.has y.1 (p4 y hy e)) p1 p3 (thn (hi pins s σ H _ I h) λv s1 h1=>thn h1 λitv s2 h2=>?_)
 obtain ⟨it,fp,tn,J,H2,e,I2,T,st2,f2,hw⟩:=h2
 subst e
 refine aAq (RR:=λacc C=>compPost (model X.prog X.w) X.A X.xe use R acc C) S LO AO hc I2 T st2 f2 hg ht hb hw λC D s' H' a m hC hD hDC hns hHC hHD pl IX z=>hq C D s' H' a m hDC hns hHC hHD pl IX z λb hb=>?_
 have hb':s2.heap.objs.size<=b:=by rcases hb with rfl | rfl; exact hC; exact hD
 exact ⟨λz=>Jx _ (Qy I2.lt (by rw [<- z]; exact hb')),Jl I2.sz hb',Qy (Yx (by decide) (I2.mod.glob.keeps I2.bk).lt) hb',λx c e z=>by
  obtain ⟨v,w⟩:=I2.cell x c e
  exact Jx _ (Qy w.lt (by rw [z]; exact hb')),λp hp z=>Jx _ (Qy (Qp (I2.pin p hp).1) (by rw [z]; exact hb'))⟩
theorem rF {hq:(V->Hp->Prop)->α->Hp->Prop} (S:CompOk X scope z own fr frn) (cl:clausesOf e=⟨tg,iter,ifs,0⟩::gs) (LO:LoopOk X.prog X.w X.A e 0 tg iter ifs bd) (AO:AccOk X.prog X.w X.A na a0 Ok) (hc:X.calm=true) (ev:eval e X.env=comprehension e scope X.env pos na false (eval iter X.env) none) (hi:PI X tg iter wi) (hg:∀ C s0 H0 fp,PG (bP X scope z (own++frn) C s0 H0 fp) tg g) (ht:∀ C s0 H0 fp,PF (bP X scope z (own++frn) C s0 H0 fp) ifs tt)
  (hb:∀ C s0 H0 fp,lC (bP X scope z (own++frn) C s0 H0 fp) bd Ok tb) (hs:∀ x,foldedSetIterable iter X.env x=pure x)
  (tr:∀ {D:Addr} {a:α} {H:Hp} {h:Heap} {Q:V->Hp->Prop},Ok D a h->H D=none->(D==sysModules)=false->hq Q a H->∃ u,bL X.prog X.w (upd H D u) h D u/\Q (.ref D) (upd H D u)) :
  PE X e λσ H Q=>wi σ H λJ H1=>Wlk J a0 (blk own.length fr σ) H1 (λa _ H=>hq Q a H) g tt tb:=by
 intro pins s σ H Q I h
 rw [ev]
 refine xM (use:=none) S cl LO AO hc hi hg ht hb hs I h λC D s' H' a m hDC hns hHC hHD pl IX q ne=>?_
 obtain ⟨c1,c2,_,c3,c4⟩:=ne C (.inl rfl)
 obtain ⟨d1,d2,d5,d3,d4⟩:=ne D (.inr rfl)
 obtain ⟨u,ou,qu⟩:=tr pl hHD (beq_eq_false_iff_ne.mpr (Ne.symm (Ja d5))) q
 refine ⟨m,hns,λh' hs'=>⟨.ref D,upd H' D u,?_,rfl,qu⟩⟩
 exact (IX.trackG hHD d1 d2 d3 d4 ou).turned (t':=s'.toks) (it:=C) (λb o hb e=>(hs'.2 b hb).trans e) (by rw [aF (Ne.symm hDC)]; exact hHC) c1 (.inr c2) c3 c4
def OkL (D:Addr) (ys:List V) (h:Heap):Prop:=ys.length<=sizeLine/\∃ its:Array Value,h.PlainList D its/\bO ys its.toList
def bdL (elt:Expr) (env:Env) (D:Addr):Sem Unit:=do let _<-call (.builtin "list.append") [.ref D,<- eval elt env]
theorem aE6:AccOk P w A (newList []) [] OkL where
 new:=⟨{ cls:=.type "list",dict:=none,data:=.seq ([]:List Value).toArray },λv z=>(by cases z),rfl,λh D e=>⟨Jn _,#[],⟨_,e⟩,.nil⟩,λh=>Ri h⟩
 keep:=λ⟨hl,its,⟨k,e⟩,v⟩ f=>⟨hl,its,⟨k,f _ e⟩,v⟩
 obj:=λ⟨_,its,⟨k,e⟩,_⟩=>⟨_,e,λv z=>by cases z⟩
theorem aGe:LoopOk P w A (.ListComp elt [⟨tg,iter,ifs,0⟩] scope pos) 0 tg iter ifs (bdL elt) where
 und:=λ_ _ _=>⟨rfl,rfl⟩
 turn:=λit D env=>compTurn_list elt tg iter ifs scope pos it (.ref D) env
 start:=codeAny_compStart_list
theorem aHF (he:PE Y elt te):lC Y (bdL elt) OkL (tbL te):=by
 intro ps s σ H D o ys R dn I pl h
 refine Ra (thn (he _ s σ H _ I h) λy s1 hx=>?_)
 obtain ⟨yv,H1,I1,r1,lt,q⟩:=hx
 obtain ⟨hl,its,pl1,v⟩:=aE6.stay I I1 pl
 have hlen:=v.length
 refine Ra (wpAny_list_append_plain pl1 (λh11 pl11 sb11=>Rb ?_) (by rw [<- Array.length_toList,<- hlen]; exact Yw lt))
 have ok:OkL D (ys++[yv]) h11:=⟨by rw [Qn]; exact lt,_,pl11,by rw [Array.toList_push]; exact v.append (.cons r1 .nil)⟩
 obtain ⟨o',I'⟩:=dn.put (t:=s1.toks) aE6 I1 sb11 ok
 exact ⟨σ,H1,_,o',I',ok,q⟩
theorem trL {Q:V->Hp->Prop} {D:Addr} (ok:OkL D ys h) (hn:H D=none) (q:∀ p,H p=none->Q (.ref p) (upd H p (.lst ys))):∃ u,bL P w (upd H D u) h D u/\Q (.ref D) (upd H D u) :=
 let ⟨hl,its,⟨k,e⟩,v⟩:=ok; ⟨.lst ys,⟨hl,its.toList,k,v,by simpa using e⟩,q _ hn⟩
theorem bX (S:CompOk X scope z own fr frn) (hc:X.calm=true) (hi:PI X tg iter wi) (hg:∀ C s0 H0 fp,PG (bP X scope z (own++frn) C s0 H0 fp) tg g) (ht:∀ C s0 H0 fp,PF (bP X scope z (own++frn) C s0 H0 fp) ifs tt) (he:∀ C s0 H0 fp,PE (bP X scope z (own++frn) C s0 H0 fp) elt te) (hs:∀ x,foldedSetIterable iter X.env x=pure x:=by intro _; rfl) :
  PE X (.ListComp elt [⟨tg,iter,ifs,0⟩] scope pos) (aGd own.length fr wi g tt te) :=
 rF S rfl aGe aE6 hc (eval_ListComp ..) hi hg ht (λC s0 H0 fp=>aHF (he C s0 H0 fp)) hs λok hn _ q=>trL ok hn q
theorem xN {tb:List V->St->Hp->(List V->St->Hp->Prop)->Prop} {y:Str} {py spos:Pos} (S:CompOk X scope z own fr frn) (LO:LoopOk X.prog X.w X.A (.ListComp elt (⟨tg,iter,ifs,0⟩::gs) scope pos) 0 tg iter ifs bd) (hc:X.calm=true) (hN:X.N.Nodup) (hyi:X.N[i]?=some y) (hx:X.env.scope.names.lookup y=some .local) (hsw:swapsWith (.ListComp elt (⟨tg,iter,ifs,0⟩::gs) scope pos) (some (.Name y py)) spos.line X.env=pure true) (hi:PI X tg iter wi) (hg:∀ C s0 H0 fp,PG (bP X scope z (own++frn) C s0 H0 fp) tg g) (ht:∀ C s0 H0 fp,PF (bP X scope z (own++frn) C s0 H0 fp) ifs tt) (hb:∀ C s0 H0 fp,lC (bP X scope z (own++frn) C s0 H0 fp) bd OkL tb) (hs:∀ x,foldedSetIterable iter X.env x=pure x) :
  PS X (.Assign [.Name y py] (.ListComp elt (⟨tg,iter,ifs,0⟩::gs) scope pos) spos) (aE0 (λσ H Q=>wi σ H λJ H1=>Wlk J [] (blk own.length fr σ) H1 (λys _ H=>∀ p,H p=none->Q (.ref p) (upd H p (.lst ys))) g tt tb) (cO i)):=by
 intro pins s σ H D I h
 rw [exec_Assign_Name_used _ _ _ _ hsw]
 refine Ra (Tj (Ra ?_))
 show wpAny _ X.A (do let _<-comprehension (.ListComp elt (⟨tg,iter,ifs,0⟩::gs) scope pos) scope X.env _ (newList []) false (eval iter X.env) (some (assign (.Name y py) X.env))) _ _ s
 refine Ra (Rr (xM (use:=some (assign (.Name y py) X.env)) (R:=λ_ s'=>SP X pins D .next s') S rfl LO aE6 hc hi hg ht hb hs I h λC L s' H' ys m hLC hns hHC hHL pl IX q ne=>?_) (λ_ s' hq=>Rb (Rb hq)) λ_ _ e=>e)
 obtain ⟨c1,c2,_,c3,c4⟩:=ne C (.inl rfl)
 obtain ⟨d1,d2,_,d3,d4⟩:=ne L (.inr rfl)
 obtain ⟨hl,its,⟨k,e⟩,v⟩:=pl
 have IT:Inv X pins σ (upd H' L (.lst ys)) s':=IX.trackG hHL d1 d2 d3 d4 ⟨hl,its.toList,k,v,by simpa using e⟩
 show wpAny _ _ (assign (.Name y py) X.env (.ref L)) _ _ s'
 refine Ras (uE IT hN hyi (.inl hx) (v:=.ref L) rfl (λs'' I'' hch=>?_) (.inr hx))
 obtain ⟨a,sb,ha⟩:=hch
 have hCa:C≠a:=by
  rcases ha with e | e
  ·rw [e]; exact c1
  ·exact Ne.symm (c3 y a e)
 refine ⟨m,hns.sameBut sb hCa,λh' hs'=>⟨σ.set i (some (.ref L)),upd H' L (.lst ys),?_,q L hHL⟩⟩
 exact I''.turned (t':=s''.toks) (it:=C) (λb o hb e=>(hs'.2 b hb).trans e) (by rw [aF (Ne.symm hLC)]; exact hHC) c1 (.inr c2) c3 c4
theorem rG {y:Str} {py spos:Pos} (S:CompOk X scope z own fr frn) (hc:X.calm=true) (hN:X.N.Nodup) (hyi:X.N[i]?=some y) (hx:X.env.scope.names.lookup y=some .local) (hsw:swapsWith (.ListComp elt [⟨tg,iter,ifs,0⟩] scope pos) (some (.Name y py)) spos.line X.env=pure true) (hi:PI X tg iter wi) (hg:∀ C s0 H0 fp,PG (bP X scope z (own++frn) C s0 H0 fp) tg g) (ht:∀ C s0 H0 fp,PF (bP X scope z (own++frn) C s0 H0 fp) ifs tt) (he:∀ C s0 H0 fp,PE (bP X scope z (own++frn) C s0 H0 fp) elt te) (hs:∀ x,foldedSetIterable iter X.env x=pure x:=by intro _; rfl) :
  PS X (.Assign [.Name y py] (.ListComp elt [⟨tg,iter,ifs,0⟩] scope pos) spos) (aE0 (aGd own.length fr wi g tt te) (cO i)) :=
 xN S aGe hc hN hyi hx hsw hi hg ht (λC s0 H0 fp=>aHF (he C s0 H0 fp)) hs
end
inductive Kd where
 | int | bl | non | str | tup | lst | dct
 deriving DecidableEq
def KdV (K:Rc) (H:Hp):V->Kd->Prop
 | .int _,k=>k=.int
 | .bl _,k=>k=.bl
 | .non,k=>k=.non
 | .str _,k=>k=.str
 | .ref p,k=>(k=.lst/\∃ xs,SqL K H p xs)∨(k=.tup/\∃ xs,SqT K H p xs)∨(k=.dct/\∃ kvs,H p=some (.dK kvs))
 | _,_=>False
theorem vP {σ:St} {p:Addr} {kvs:List (Key×V)} (I:Inv X pins σ H s) (h:H p=some (.dK kvs)):∃ o,s.heap.get? p=some o/\o.cls=.type "dict" := by
 obtain ⟨_,_,vs,_,o,es,ep,e,ex,_⟩:=I.hok p _ h
 exact ⟨o,e,ex.1⟩
theorem vQ:dF X (.builtin "isinstance") (λxs H Q=>∃ x k,xs = [x,.ty "int"]/\KdV X.K H x k/\Q (.bl (decide (k=.int∨k=.bl))) H):=by
 intro pins s σ H xs us Q I r h
 obtain ⟨x,k,rfl,hk,q⟩:=h
 obtain ⟨u,t,rfl,rx,rt⟩:=nM r
 cases rt
 cases x with
 | int i=>cases hk; obtain ⟨t,rfl⟩:=rx; exact IsiPair.int_int ⟨.bl true,H,I,rfl,q⟩
 | bl b=>cases hk; cases rx; exact IsiPair.bool_int ⟨.bl true,H,I,rfl,q⟩
 | non=>cases hk; cases rx; exact IsiPair.NoneType_int ⟨.bl false,H,I.tok _,rfl,q⟩
 | str y=>cases hk; obtain ⟨t,rfl⟩:=rx; exact IsiPair.str_int ⟨.bl false,H,I.tok _,rfl,q⟩
 | ref p =>
  cases rx
  rcases hk with ⟨rfl,xs,hx⟩ | ⟨rfl,xs,hx⟩ | ⟨rfl,kvs,hx⟩
  ·obtain ⟨its,r',pl,hz⟩:=I.list hx; exact IsiPair.isList_int pl.isList (λ_ _ e=>e) ⟨.bl false,H,I.tok _,rfl,q⟩
  ·obtain ⟨its,r',pl,hz⟩:=I.tuple hx; exact IsiPair.isTuple_int pl (λ_ _ e=>e) ⟨.bl false,H,I.tok _,rfl,q⟩
  ·obtain ⟨o,e,c⟩:=vP I hx; exact IsiPair.dict_int e c ⟨.bl false,H,I.tok _,rfl,q⟩
 | _=>exact hk.elim
theorem tM:dF X (.builtin "isinstance") (λxs H Q=>∃ x k,xs = [x,.ty "bool"]/\KdV X.K H x k/\Q (.bl (decide (k=.bl))) H):=by
 intro pins s σ H xs us Q I r h
 obtain ⟨x,k,rfl,hk,q⟩:=h
 obtain ⟨u,t,rfl,rx,rt⟩:=nM r
 cases rt
 cases x with
 | int i=>cases hk; obtain ⟨t,rfl⟩:=rx; exact IsiPair.int_bool ⟨.bl false,H,I.tok _,rfl,q⟩
 | bl b=>cases hk; cases rx; exact IsiPair.bool_bool ⟨.bl true,H,I,rfl,q⟩
 | non=>cases hk; cases rx; exact IsiPair.NoneType_bool ⟨.bl false,H,I.tok _,rfl,q⟩
 | str y=>cases hk; obtain ⟨t,rfl⟩:=rx; exact IsiPair.str_bool ⟨.bl false,H,I.tok _,rfl,q⟩
 | ref p =>
  cases rx
  rcases hk with ⟨rfl,xs,hx⟩ | ⟨rfl,xs,hx⟩ | ⟨rfl,kvs,hx⟩
  ·obtain ⟨its,r',pl,hz⟩:=I.list hx; exact IsiPair.isList_bool pl.isList (λ_ _ e=>e) ⟨.bl false,H,I.tok _,rfl,q⟩
  ·obtain ⟨its,r',pl,hz⟩:=I.tuple hx; exact IsiPair.isTuple_bool pl (λ_ _ e=>e) ⟨.bl false,H,I.tok _,rfl,q⟩
  ·obtain ⟨o,e,c⟩:=vP I hx; exact IsiPair.dict_bool e c ⟨.bl false,H,I.tok _,rfl,q⟩
 | _=>exact hk.elim
theorem eR:dF X (.builtin "isinstance") (λxs H Q=>∃ x k,xs = [x,.ty "tuple"]/\KdV X.K H x k/\Q (.bl (decide (k=.tup))) H):=by
 intro pins s σ H xs us Q I r h
 obtain ⟨x,k,rfl,hk,q⟩:=h
 obtain ⟨u,t,rfl,rx,rt⟩:=nM r
 cases rt
 cases x with
 | int i=>cases hk; obtain ⟨t,rfl⟩:=rx; exact IsiPair.int_tuple ⟨.bl false,H,I.tok _,rfl,q⟩
 | bl b=>cases hk; cases rx; exact IsiPair.bool_tuple ⟨.bl false,H,I.tok _,rfl,q⟩
 | non=>cases hk; cases rx; exact IsiPair.NoneType_tuple ⟨.bl false,H,I.tok _,rfl,q⟩
 | str y=>cases hk; obtain ⟨t,rfl⟩:=rx; exact IsiPair.str_tuple ⟨.bl false,H,I.tok _,rfl,q⟩
 | ref p =>
  cases rx
  rcases hk with ⟨rfl,xs,hx⟩ | ⟨rfl,xs,hx⟩ | ⟨rfl,kvs,hx⟩
  ·obtain ⟨its,r',pl,hz⟩:=I.list hx; exact IsiPair.isList_tuple pl.isList (λ_ _ e=>e) ⟨.bl false,H,I.tok _,rfl,q⟩
  ·obtain ⟨its,r',pl,hz⟩:=I.tuple hx; exact IsiPair.isTuple_tuple pl (λ_ _ e=>e) ⟨.bl true,H,I,rfl,q⟩
  ·obtain ⟨o,e,c⟩:=vP I hx; exact IsiPair.dict_tuple e c ⟨.bl false,H,I.tok _,rfl,q⟩
 | _=>exact hk.elim
theorem tN:dF X (.builtin "isinstance") (λxs H Q=>∃ x k,xs = [x,.ty "list"]/\KdV X.K H x k/\Q (.bl (decide (k=.lst))) H):=by
 intro pins s σ H xs us Q I r h
 obtain ⟨x,k,rfl,hk,q⟩:=h
 obtain ⟨u,t,rfl,rx,rt⟩:=nM r
 cases rt
 cases x with
 | int i=>cases hk; obtain ⟨t,rfl⟩:=rx; exact IsiPair.int_list ⟨.bl false,H,I.tok _,rfl,q⟩
 | bl b=>cases hk; cases rx; exact IsiPair.bool_list ⟨.bl false,H,I.tok _,rfl,q⟩
 | non=>cases hk; cases rx; exact IsiPair.NoneType_list ⟨.bl false,H,I.tok _,rfl,q⟩
 | str y=>cases hk; obtain ⟨t,rfl⟩:=rx; exact IsiPair.str_list ⟨.bl false,H,I.tok _,rfl,q⟩
 | ref p =>
  cases rx
  rcases hk with ⟨rfl,xs,hx⟩ | ⟨rfl,xs,hx⟩ | ⟨rfl,kvs,hx⟩
  ·obtain ⟨its,r',pl,hz⟩:=I.list hx; exact IsiPair.isList_list pl.isList (λ_ _ e=>e) ⟨.bl true,H,I,rfl,q⟩
  ·obtain ⟨its,r',pl,hz⟩:=I.tuple hx; exact IsiPair.isTuple_list pl (λ_ _ e=>e) ⟨.bl false,H,I.tok _,rfl,q⟩
  ·obtain ⟨o,e,c⟩:=vP I hx; exact IsiPair.dict_list e c ⟨.bl false,H,I.tok _,rfl,q⟩
 | _=>exact hk.elim
theorem aCl (bs:List Bool) (tr:Nat->Bool) (h:∀ i b,bs[i]?=some b->tr i=b):(List.range bs.length).all tr=bs.all id:=by
 rw [Xc,Jr,Jr]
 constructor
 ·intro q b hb
  obtain ⟨i,hi⟩:=Qas hb
  have:=q i (Jf.mpr (Qd.mp hi).1)
  rw [h i b hi] at this
  exact this
 ·intro q i hi
  have hi':=Jf.mp hi
  have e:bs[i]?=some bs[i]:=Qc hi'
  rw [h i _ e]
  exact q _ (Xf hi')
theorem iP (hc:X.calm=true):dF X (.builtin "all") (λxs H Q=>∃ (p:Addr) (bs:List Bool),xs = [.ref p]/\SqL X.K H p (bs.map V.bl)/\Q (.bl (bs.all id)) H):=by
 intro pins s σ H xs us Q I r h
 obtain ⟨p,bs,rfl,hx,q⟩:=h
 obtain ⟨u,rfl,rx⟩:=eX r
 cases rx
 obtain ⟨its,rv,pl,hz⟩:=I.list hx
 have hl:=rv.length
 rw [Qb] at hl
 have hlt:p < s.heap.objs.size:=by obtain ⟨o,n,e,_⟩:=pl; exact Qp e
 refine call_all_walk (Uc pl.isList ?_)
 refine ⟨s.heap.objs.size,_,_,_,_,_,λi=>(bs[i]?).getD false,rfl,Walks.list (A:=X.A.in1) (I.ok.hd hc) s.heap.objs.size p (Ja hlt) its.toArray,⟨⟨_,Qh _ rfl,rfl,rfl⟩,pl.isList.push _⟩,?_,λh' tk hk=>?_⟩
 ·intro i v s' Q' E' hP hQ'
  have hP':its[i]?=some v:=by simpa using hP
  have hi:i < bs.length:=by rw [hl]; exact (Qd.mp hP').1
  obtain ⟨w,hw,rw'⟩:=rv.get (i:=i) (x:=.bl bs[i]) (by rw [Qe,Qc hi]; rfl)
  rw [hw] at hP'
  cases hP'
  cases rw'
  have e:(bs[i]?).getD false=bs[i]:=by rw [Qc hi]; rfl
  rw [<- e]
  exact Rq hQ'
 ·have e:(List.range its.toArray.size).all (λi=>(bs[i]?).getD false)=bs.all id:=by
   rw [Ql,<- hl]
   exact aCl bs _ λi b hb=>by rw [hb]; rfl
  rw [e]
  refine ⟨.bl _,H,I.kept (h':=h') λb o e=>hk b o ?_ (Qa _ e),rfl,q⟩
  intro z
  have z':b=s.heap.objs.size:=by simpa using z
  exact Jx _ (z' ▸ Qp e)
def aK (ns:List Int):Int:=ns.foldr (· + ·) 0
theorem lD (ns:List Int) (val:Nat->Int) (h:∀ (i:Nat) (v:Int),ns[i]?=some v->val i=v):∀ j,j<=ns.length->preSum val j=aK (ns.take j)
 | 0,_=>rfl
 | j+1,hj=>by
  have ih:=lD ns val h j (by omega)
  have e:ns[j]?=some ns[j]:=Qc (by omega)
  show preSum val j+val j=_
  rw [ih,h j _ e,Jp,e]
  unfold aK
  rw [List.foldr_append]
  simp only [Option.toList_some,Wh,List.foldr_nil,Wq]
  generalize ns[j]=v
  induction (List.take j ns) with
  | nil=>simp
  | cons a l ih2=>simp only [Wh]; omega
mutual
def Den (K:Rc) (H:Hp):PyData->V->Prop
 | .none,v=>v=.non
 | .bool b,v=>v=.bl b
 | .int i,v=>v=.int i
 | .str x,v=>v=.str x
 | .list ds,v=>∃ a xs,v=.ref a/\SqL K H a xs/\bG K H ds xs
 | .tuple ds,v=>∃ a xs,v=.ref a/\SqT K H a xs/\bG K H ds xs
 | .dict kvs,v=>kvs = []/\∃ a,v=.ref a/\H a=some (.dK [])
def bG (K:Rc) (H:Hp):List PyData->List V->Prop
 | [],xs=>xs = []
 | d::ds,xs=>∃ x r,xs=x::r/\Den K H d x/\bG K H ds r
end
theorem aE.rd {u:HO} (e:aE H H') (h:Rd H a u):Rd H' a u:=by
 rcases h with h | ⟨o,h⟩
 ·exact .inl (e a u h)
 ·exact .inr ⟨o,e a _ h⟩
theorem aE.seqL (e:aE H H') (h:SqL K H a xs):SqL K H' a xs:=by
 rcases h with h | h
 ·exact .inl (e.rd h)
 ·exact .inr h
theorem aE.seqT (e:aE H H') (h:SqT K H a xs):SqT K H' a xs:=by
 rcases h with h | h
 ·exact .inl (e.rd h)
 ·exact .inr h
theorem aE.new {p:Addr} {o:HO} (h:H p=none):aE H (upd H p o):=λb u e=>by rw [aF (gJ e h)]; exact e
mutual
theorem aE.den (e:aE H H'):∀ (d:PyData) (v:V),Den K H d v->Den K H' d v
 | .none,v,h=>by unfold Den at h ⊢; exact h
 | .bool b,v,h=>by unfold Den at h ⊢; exact h
 | .int i,v,h=>by unfold Den at h ⊢; exact h
 | .str x,v,h=>by unfold Den at h ⊢; exact h
 | .list ds,v,h=>by unfold Den at h ⊢; obtain ⟨a,xs,h1,h2,h3⟩:=h; exact ⟨a,xs,h1,e.seqL h2,aE.denAll e ds xs h3⟩
 | .tuple ds,v,h=>by unfold Den at h ⊢; obtain ⟨a,xs,h1,h2,h3⟩:=h; exact ⟨a,xs,h1,e.seqT h2,aE.denAll e ds xs h3⟩
 | .dict kvs,v,h=>by unfold Den at h ⊢; obtain ⟨h1,a,h2,h3⟩:=h; exact ⟨h1,a,h2,e a _ h3⟩
theorem aE.denAll (e:aE H H'):∀ (ds:List PyData) (xs:List V),bG K H ds xs->bG K H' ds xs
 | [],xs,h=>by unfold bG at h ⊢; exact h
 | d::ds,xs,h=>by unfold bG at h ⊢; obtain ⟨x,r,h1,h2,h3⟩:=h; exact ⟨x,r,h1,aE.den e d x h2,aE.denAll e ds r h3⟩
end
theorem eW {i:Int}:Den K H (.int i) v↔v=.int i:=by unfold Den; exact Iff.rfl
theorem xO {b:Bool}:Den K H (.bool b) v↔v=.bl b:=by unfold Den; exact Iff.rfl
theorem xP:Den K H .none v↔v=.non:=by unfold Den; exact Iff.rfl
theorem aBk {x:Str}:Den K H (.str x) v↔v=.str x:=by unfold Den; exact Iff.rfl
theorem dQ:Den K H (.list ds) v↔∃ a xs,v=.ref a/\SqL K H a xs/\bG K H ds xs:=by
 constructor
 ·intro h; unfold Den at h; exact h
 ·intro h; unfold Den; exact h
theorem cF:Den K H (.tuple ds) v↔∃ a xs,v=.ref a/\SqT K H a xs/\bG K H ds xs:=by
 constructor
 ·intro h; unfold Den at h; exact h
 ·intro h; unfold Den; exact h
theorem aDv {kvs:List (PyData×PyData)}:Den K H (.dict kvs) v↔kvs = []/\∃ a,v=.ref a/\H a=some (.dK []):=by
 constructor
 ·intro h; unfold Den at h; exact h
 ·intro h; unfold Den; exact h
theorem aU:bG K H [] xs↔xs = []:=by unfold bG; exact Iff.rfl
theorem aN {d:PyData}:bG K H (d::ds) xs↔∃ x r,xs=x::r/\Den K H d x/\bG K H ds r:=by
 constructor
 ·intro h; unfold bG at h; exact h
 ·intro h; unfold bG; exact h
theorem aQ:∀ {ds:List PyData} {xs:List V},bG K H ds xs->xs.length=ds.length
 | [],xs,h=>by rw [aU.mp h]; rfl
 | d::ds,xs,h=>by
  obtain ⟨x,r,rfl,_,h3⟩:=aN.mp h
  rw [Qx,Qx,aQ h3]
theorem rH:∀ {ds:List PyData} {xs:List V} {i:Nat} {d:PyData},bG K H ds xs->ds[i]?=some d->∃ x,xs[i]?=some x/\Den K H d x
 | [],_,_,_,_,e=>by simp at e
 | d::ds,xs,0,d',h,e=>by
  obtain ⟨x,r,rfl,h2,_⟩:=aN.mp h
  simp at e; subst e
  exact ⟨x,rfl,h2⟩
 | d::ds,xs,i+1,d',h,e=>by
  obtain ⟨x,r,rfl,_,h3⟩:=aN.mp h
  obtain ⟨y,h4,h5⟩:=rH (i:=i) (d:=d') h3 (by simpa using e)
  exact ⟨y,by simpa using h4,h5⟩
theorem cT (h:bG K H ds xs) (e:xs[i]?=some x):∃ d,ds[i]?=some d/\Den K H d x:=by
 have hl:=aQ h
 have hi:i < ds.length:=by rw [<- hl]; exact (Qd.mp e).1
 obtain ⟨y,h1,h2⟩:=rH h (Qc hi)
 rw [e] at h1; cases h1
 exact ⟨_,Qc hi,h2⟩
theorem cI:∀ {ds es:List PyData} {xs ys:List V},bG K H ds xs->bG K H es ys->bG K H (ds++es) (xs++ys)
 | [],es,xs,ys,h,h'=>by rw [aU.mp h]; exact h'
 | d::ds,es,xs,ys,h,h'=>by
  obtain ⟨x,r,rfl,h2,h3⟩:=aN.mp h
  exact aN.mpr ⟨x,r++ys,rfl,h2,cI h3 h'⟩
theorem lE:∀ {ds:List PyData} {xs:List V} (n:Nat),bG K H ds xs->bG K H (ds.take n) (xs.take n)
 | _,_,0,_=>by rw [Ye,Ye]; exact aU.mpr rfl
 | [],xs,n+1,h=>by rw [aU.mp h]; exact aU.mpr rfl
 | d::ds,xs,n+1,h=>by
  obtain ⟨x,r,rfl,h2,h3⟩:=aN.mp h
  exact aN.mpr ⟨x,r.take n,rfl,h2,lE n h3⟩
theorem lF:∀ {ds:List PyData} {xs:List V} (n:Nat),bG K H ds xs->bG K H (ds.drop n) (xs.drop n)
 | _,_,0,h=>h
 | [],xs,n+1,h=>by rw [aU.mp h]; exact aU.mpr rfl
 | d::ds,xs,n+1,h=>by
  obtain ⟨x,r,rfl,h2,h3⟩:=aN.mp h
  exact lF n h3
theorem cD:∀ {ns:List Int} {xs:List V},bG K H (ns.map PyData.int) xs↔xs=ns.map V.int
 | [],xs=>aU
 | n::ns,xs=>by
  rw [Qz,aN]
  constructor
  ·rintro ⟨x,r,rfl,h2,h3⟩
   rw [eW.mp h2,cD.mp h3]
   rfl
  ·intro e
   exact ⟨_,_,e,eW.mpr rfl,cD.mpr rfl⟩
theorem aO:Den K H (.tuple (ns.map .int)) v↔∃ a,v=.ref a/\SqT K H a (ns.map V.int):=by
 rw [cF]
 constructor
 ·rintro ⟨a,xs,rfl,h1,h2⟩
  rw [cD.mp h2] at h1
  exact ⟨a,rfl,h1⟩
 ·rintro ⟨a,rfl,h⟩
  exact ⟨a,_,rfl,h,cD.mpr rfl⟩
theorem oZ:Den K H (.list (ns.map .int)) v↔∃ a,v=.ref a/\SqL K H a (ns.map V.int):=by
 rw [dQ]
 constructor
 ·rintro ⟨a,xs,rfl,h1,h2⟩
  rw [cD.mp h2] at h1
  exact ⟨a,rfl,h1⟩
 ·rintro ⟨a,rfl,h⟩
  exact ⟨a,_,rfl,h,cD.mpr rfl⟩
def kQ:PyData->Kd
 | .none=>.non | .bool _=>.bl | .int _=>.int | .str _=>.str | .list _=>.lst | .tuple _=>.tup | .dict _=>.dct
theorem Den.kd {d:PyData} (h:Den K H d v):KdV K H v (kQ d):=by
 cases d with
 | none=>rw [xP.mp h]; rfl
 | bool b=>rw [xO.mp h]; rfl
 | int i=>rw [eW.mp h]; rfl
 | str x=>rw [aBk.mp h]; rfl
 | list ds=>obtain ⟨a,xs,rfl,h1,_⟩:=dQ.mp h; exact .inl ⟨rfl,xs,h1⟩
 | tuple ds=>obtain ⟨a,xs,rfl,h1,_⟩:=cF.mp h; exact .inr (.inl ⟨rfl,xs,h1⟩)
 | dict kvs=>obtain ⟨_,a,rfl,h1⟩:=aDv.mp h; exact .inr (.inr ⟨rfl,[],h1⟩)
section
variable {σ:St}
mutual
def eO:PyData->Bool
 | .dict _=>false
 | .list ds=>gU ds
 | .tuple ds=>gU ds
 | _=>true
def gU:List PyData->Bool
 | []=>true
 | d::ds=>eO d && gU ds
end
mutual
theorem Den.reads (I:Inv X pins σ H s):∀ (d:PyData) (v:V) (u:Value),eO d=true->Den X.K H d v->bS v u->∃ as,Reads s.heap u d as
 | .none,v,u,_,h,r=>by rw [xP.mp h] at r; cases r; exact ⟨_,.none⟩
 | .bool b,v,u,_,h,r=>by rw [xO.mp h] at r; cases r; exact ⟨_,.bool b⟩
 | .int i,v,u,_,h,r=>by rw [eW.mp h] at r; obtain ⟨t,rfl⟩:=r; exact ⟨_,.int i t⟩
 | .str x,v,u,_,h,r=>by rw [aBk.mp h] at r; obtain ⟨t,rfl⟩:=r; exact ⟨_,.str x t⟩
 | .list ds,v,u,hn,h,r=>by
  obtain ⟨a,xs,rfl,h1,h2⟩:=dQ.mp h
  cases r
  obtain ⟨its,rv,⟨o,n,e,c,_,d⟩,_⟩:=I.list h1
  obtain ⟨as,ra⟩:=bG.reads I ds xs its (by unfold eO at hn; exact hn) h2 rv
  exact ⟨_,.list e c d (by simpa using ra)⟩
 | .tuple ds,v,u,hn,h,r=>by
  obtain ⟨a,xs,rfl,h1,h2⟩:=cF.mp h
  cases r
  obtain ⟨its,rv,⟨o,e,c,n,d⟩,_⟩:=I.tuple h1
  obtain ⟨as,ra⟩:=bG.reads I ds xs its (by unfold eO at hn; exact hn) h2 rv
  exact ⟨_,.tuple e c d (by simpa using ra)⟩
 | .dict kvs,v,u,hn,_,_=>by unfold eO at hn; cases hn
theorem bG.reads (I:Inv X pins σ H s):∀ (ds:List PyData) (xs:List V) (us:List Value),gU ds=true->bG X.K H ds xs->bO xs us->∃ as,ReadsAll s.heap us ds as
 | [],xs,us,_,h,r=>by rw [aU.mp h] at r; cases r; exact ⟨_,.nil⟩
 | d::ds,xs,us,hn,h,r=>by
  obtain ⟨x,rr,rfl,h2,h3⟩:=aN.mp h
  unfold gU at hn
  rw [Ji] at hn
  cases r with
  | cons r1 r2 =>
   obtain ⟨as,ra⟩:=Den.reads I d x _ hn.1 h2 r1
   obtain ⟨bs,rb⟩:=bG.reads I ds rr _ hn.2 h3 r2
   exact ⟨_,.cons ra rb⟩
end
theorem rJ (hu:X.A.units+64 < cLine):OpR X (compareOp .Eq) (λx y H Q=>∃ d e,Den X.K H d x/\Den X.K H e y/\eO d=true/\eO e=true/\SeqAt.shaped d=true/\SeqAt.shaped e=true/\Q (.bl (PyData.eqv d e)) H):=by
 intro pins s σ H x y v u Q I rx ry h
 obtain ⟨d,e,hd,he,n1,n2,s1,s2,q⟩:=h
 obtain ⟨as,ra⟩:=Den.reads I d x v n1 hd rx
 obtain ⟨bs,rb⟩:=Den.reads I e y u n2 he ry
 exact eq_dataH ra rb s1 s2 hu ⟨.bl _,H,I,rfl,q⟩
theorem aAr (hu:X.A.units+64 < cLine):OpR X (compareOp .NotEq) (λx y H Q=>∃ d e,Den X.K H d x/\Den X.K H e y/\eO d=true/\eO e=true/\SeqAt.shaped d=true/\SeqAt.shaped e=true/\Q (.bl (!PyData.eqv d e)) H):=by
 intro pins s σ H x y v u Q I rx ry h
 obtain ⟨d,e,hd,he,n1,n2,s1,s2,q⟩:=h
 obtain ⟨as,ra⟩:=Den.reads I d x v n1 hd rx
 obtain ⟨bs,rb⟩:=Den.reads I e y u n2 he ry
 exact ne_dataH ra rb s1 s2 hu ⟨.bl _,H,I,rfl,q⟩
theorem aCm:MtR X "tuple.count" (λx vs H Q=>∃ (a:Addr) (ns:List Int) (n:Int),x=.ref a/\vs = [.int n]/\SqT X.K H a (ns.map V.int)/\Q (.int (ns.count n:Nat)) H):=by
 intro pins s σ H x v vs us Q I rx r h
 obtain ⟨a,ns,n,rfl,rfl,ha,q⟩:=h
 obtain ⟨u,rfl,t,rfl⟩:=eX r
 cases rx
 obtain ⟨its,rv,⟨⟨cls,dd,data,sl⟩,ho,hc,k,hd⟩,hzz⟩:=I.tuple ha
 simp only at hc hd
 subst hc hd
 have hi:IntsAre its ns:=gK rv
 refine Tc Ma ⟨_,ho,rfl⟩ PySem.F.entry_tuple_count (PySem.F.args_tuple_count_2 _ _) (SeqAt.tuple_countAt a its.toArray k dd sl (.int n t) (isInt n)) ⟨ho,λy hy=>(eq_isInt n t hi y (by simpa using hy)).at _ _,?_⟩
 have e:(its.toArray.toList.countP (isInt n))=ns.count n:=by
  simp only [Wi]
  clear q r ha rv ho hzz
  induction hi with
  | nil=>rfl
  | cons m t' _ ih =>
   rw [List.countP_cons,Zh,ih]
   rfl
 rw [e]
 exact ⟨.int _,H,I.tok _,⟨_,rfl⟩,q⟩
end
theorem rK {x:Value} {Q:List Value->Shared->Prop}
  (h:∀ R:Result->Shared->Prop,(∀ (s':Shared) (acc:Array Value) (c:Nat),s'.heap.get? s.heap.objs.size=some { cls:=.type "list",data:=.seq acc c }->Q acc.toList s'->R (.ok (.ret (.ref s.heap.objs.size))) s') ->
   wpAny (model prog w) A.in1 (Builtin.List.listExtendWith (.ref s.heap.objs.size) x (.ref s.heap.objs.size))
    (λfin s'=>match fin with | .done f=>R (.ok f) s' | .again c'=>c'.quiet=true/\codeAny (model prog w) A c' R s') (λe s'=>R (.error e) s') { s with heap:=s.heap.push { cls:=.type "list",data:=.seq ([]:List Value).toArray } }) :
  wpAny (model prog w) A (collect x) Q E s:=by
 unfold collect
 refine Ra (Mu (Tf PySem.F.entry_proto_collect ?_))
 rw [Around.under_plainId PySem.F.plain_proto_collect _]
 show wpAny _ A.in1 (newList [] >>= λl=>again (.builtin "list.__iadd__" ⟨[l,x],[]⟩)) _ _ s
 refine Ra (Ri ?_)
 refine Rb ⟨Ts Md _,Tf PySem.F.entry_list_iadd ?_⟩
 rw [Around.under_plainId Md _]
 show wpAny _ A.in1 (Builtin.List.listExtendWith (.ref s.heap.objs.size) x (.ref s.heap.objs.size)) _ _ _
 have fin':∀ (s':Shared) (acc:Array Value) (c:Nat),s'.heap.get? s.heap.objs.size=some { cls:=.type "list",data:=.seq acc c }->Q acc.toList s'->wpAny (model prog w) A (match Value.ref s.heap.objs.size with
   | Value.ref a => do
     match (<- load a).data with
      | Data.seq xs _=>pure xs.toList
      | _=>unsupported "internal:collect"
   | _=>unsupported "internal:collect") Q E s':=by
  intro s' acc c e q
  show wpAny _ A (load s.heap.objs.size >>= _) _ _ _
  exact Ra (wpAny_load e (Rb q))
 refine Rr (h (λr s'=>r=.ok (.ret (.ref s.heap.objs.size))/\∃ acc c,s'.heap.get? s.heap.objs.size=some { cls:=.type "list",data:=.seq acc c }/\Q acc.toList s') (λs' acc c e q=>⟨rfl,acc,c,e,q⟩)) (λfin s' h=>?_) (λe s' h=>?_)
 ·cases fin with
  | done f =>
   obtain ⟨e,acc,c,e2,q⟩:=h
   cases e
   exact fin' s' acc c e2 q
  | again c'=>exact ⟨h.1,Ul h.2 λr s'' hr=>by obtain ⟨rfl,acc,c,e2,q⟩:=hr; exact fin' s'' acc c e2 q⟩
 ·exact absurd h.1 (by simp)
theorem tO {r:Addr} {a b:Int} {t u v:Tok} {Q:List Value->Shared->Prop} (hh:A.handled=none) (hr:IsRange s.heap r a b 1 t u v) (hsmall:Builtin.Range.small a b 1=true) (hn:Builtin.Range.rangeSize a b 1=n) (hlen:n<=2^24) (h:∀ h' tk vs,(∀ b o,s.heap.get? b=some o->h'.get? b=some o)->IntsAre vs ((List.range n).map λ(i:Nat)=>a+(i:Int))->Q vs { s with heap:=h',toks:=tk }):wpAny (model prog w) A (collect (.ref r)) Q E s:=by
 refine rK λR hR=>?_
 have hr':IsRange (s.heap.push { cls:=.type "list",data:=.seq ([]:List Value).toArray }) r a b 1 t u v:=Qa _ hr
 refine wpAny_extend_range (s:={ s with heap:=s.heap.push { cls:=.type "list",data:=.seq ([]:List Value).toArray } }) hh hr' hsmall hn hlen s.heap.objs.size (.ref s.heap.objs.size) 0 (Qh _ rfl) λh' tk acc' c' kp e it=>?_
 refine hR { s with heap:=h',toks:=tk } acc' c' e (h h' tk acc'.toList (λb o q=>kp b o (Ja (Qp q)) (Qa _ q)) ?_)
 obtain ⟨hs,hi⟩:=it
 -- the items one by one
 have key:∀ (k:Nat) (l:List Value) (m:Nat),l.length=k->(∀ (j:Nat) (v:Value),l[j]?=some v->∃ t,v=Value.int (a+((m+j:Nat):Int)) t)->IntsAre l ((List.range' m k).map λ(i:Nat)=>a+(i:Int)):=by
  intro k
  induction k with
  | zero=>intro l m hl _; rw [Jt.mp hl]; exact .nil
  | succ k ih =>
   intro l m hl hv
   cases l with
   | nil=>simp at hl
   | cons v l =>
    obtain ⟨t,e⟩:=hv 0 v rfl
    rw [List.range'_succ,Qz,e]
    exact .cons _ t (ih l (m+1) (by simpa using hl) λj v' hj=>by
     obtain ⟨t',e'⟩:=hv (j+1) v' (by simpa using hj)
     exact ⟨t',by rw [e',show m+(j+1)=m+1+j by omega]⟩)
 have:=key n acc'.toList 0 (by rw [Array.length_toList,hs]) λj v hj=>by
  obtain ⟨t,e⟩:=hi j v (by simpa using hj)
  exact ⟨t,by rw [e]; first | (congr 1; done) | (congr 1; omega)⟩
 rwa [<- List.range_eq_range'] at this
theorem uP {x:Value} (h64:ns.length < 64) (hc:∀ Q':List Value->Shared->Prop,(∀ h' tk vs,(∀ b o,s.heap.get? b=some o->h'.get? b=some o)->IntsAre vs ns->Q' vs { s with heap:=h',toks:=tk })->wpAny (model prog w) A.in1 (collect x) Q' E s) (h:∀ (h1 h':Heap) tk out ns',(∀ b o,s.heap.get? b=some o->h1.get? b=some o)->(∀ b o,h1.get? b=some o->h'.get? b=some o)->h'.PlainList h1.objs.size out->IntsAre out.toList ns'->ns'.Perm ns->ns'.Pairwise (·<=·)->Q (.ref h1.objs.size) { s with heap:=h',toks:=tk }) :
  wpAny (model prog w) A (call (.builtin "sorted") [x]) Q E s:=by
 refine Calls.call_function_entry kind_sorted plain_sorted entry_sorted (args_sorted1 _) ?_
 unfold Builtin.«sorted»
 refine Ra (m:=checkCount "sorted" 1 1 _) (Rb ?_)
 refine Ra (hc _ λh1 tk vs kp hi=>?_)
 have hlen:=hi.length
 refine Ra (wpAny_newList ?_ (by rw [Rf]; omega))
 have hoL:(h1.push (seqObj "list" vs.toArray 0)).get? h1.objs.size=some (seqObj "list" vs.toArray 0):=Qh _ rfl
 refine Ra (Rm (Rh slot_list_sort ⟨_,hoL,rfl⟩ RaI (list_sort_tree hoL hi (by omega) λout ns' a1 a2 a3=>⟨_,rfl,?_⟩) (args_list_sort _)))
 refine Rb ⟨_,rfl,?_⟩
 obtain ⟨e,he⟩:=sortedHeap_at (out:=out) hoL
 refine h h1 _ tk out ns' kp (λb o q=>?_) ⟨e,he⟩ a1 a2 a3
 rw [sortedHeap_old (Ja (Qp q)) (by rw [size_push']; exact Xb (Qp q))]
 exact Qa _ q
theorem tP {x:Value} {b:Bool} (h64:ns.length < 64) (hc:∀ Q':List Value->Shared->Prop,(∀ h' tk vs,(∀ b o,s.heap.get? b=some o->h'.get? b=some o)->IntsAre vs ns->Q' vs { s with heap:=h',toks:=tk })->wpAny (model prog w) A.in1 (collect x) Q' E s) (h:∀ (h1 h':Heap) tk out ns',(∀ b o,s.heap.get? b=some o->h1.get? b=some o)->(∀ b o,h1.get? b=some o->h'.get? b=some o)->h'.PlainList h1.objs.size out->IntsAre out.toList ns'->ns'.Perm ns->Ordered b ns'->Q (.ref h1.objs.size) { s with heap:=h',toks:=tk }) :
  wpAny (model prog w) A (call (.builtin "sorted") [x] [(Str.ofString "reverse",.bool b)]) Q E s:=by
 refine call_function_entry_kw kind_sorted plain_sorted entry_sorted (args_sorted_rev _ _) ?_
 unfold Builtin.«sorted»
 refine Ra (m:=checkCount "sorted" 1 1 _) (Rb ?_)
 refine Ra (hc _ λh1 tk vs kp hi=>?_)
 have hlen:=hi.length
 refine Ra (wpAny_newList ?_ (by rw [Rf]; omega))
 have hoL:(h1.push (seqObj "list" vs.toArray 0)).get? h1.objs.size=some (seqObj "list" vs.toArray 0):=Qh _ rfl
 refine Ra (Rm (wpAny_call_entry_kw slot_list_sort ⟨_,hoL,rfl⟩ RaI (list_sort_tree_rev hoL hi (by omega) λout ns' a1 a2 a3=>⟨_,rfl,?_⟩) (args_list_sort_rev _ _)))
 refine Rb ⟨_,rfl,?_⟩
 obtain ⟨e,he⟩:=sortedHeap_at (out:=out) hoL
 refine h h1 _ tk out ns' kp (λb o q=>?_) ⟨e,he⟩ a1 a2 a3
 rw [sortedHeap_old (Ja (Qp q)) (by rw [size_push']; exact Xb (Qp q))]
 exact Qa _ q
theorem kR (r:Addr) (a b:Int) (t u v:Tok) (n:Nat) (hsmall:Builtin.Range.small a b 1=true) (hn:Builtin.Range.rangeSize a b 1=n) (hlen:n<=2^24) :
  Meets (Builtin.«tuple.__new__» ⟨[.type "tuple",.ref r],[]⟩)
   (λA R s=>A.handled=none/\IsRange s.heap r a b 1 t u v/\∀ (h':Heap) tk (vs:List Value),(∀ b o',s.heap.get? b=some o'->h'.get? b=some o')->IntsAre vs ((List.range n).map λ(i:Nat)=>a+(i:Int)) ->
    R (.ok (.ret (.ref h'.objs.size))) { s with heap:=h'.push { cls:=.type "tuple",data:=.seq vs.toArray },toks:=tk }) :=
 .of_wp λprog w A R s h=>by
  obtain ⟨hp,g,d,tk,os⟩:=s; obtain ⟨hh,ht,h⟩:=h
  have hsub:=sub_tuple_self
  have hinit:=init_tuple_lookup
  have hmh:=madeHere_tuple
  have hT:Shared.TypeIs ⟨hp,g,d,tk,os⟩ (.ref r) "range" := ⟨_,ht,rfl⟩
  wp_walk using Rn ht,Vh hT,tO (A:=A.in1) (s:=⟨hp,g,d,tk,os⟩) hh ht hsmall hn hlen
  intro h' tk' vs hk hi
  show wpAny _ _ (Builtin.Tuple.tupleExact vs.toArray >>= λv=>ret v) _ _ _
  unfold Builtin.Tuple.tupleExact
  have hl:=hi.length
  rw [Qb,Jz] at hl
  refine Ra (Ri ?_ (by show vs.toArray.size<=sizeLine; rw [Ql,Rf]; omega))
  refine Rb ⟨_,rfl,?_⟩
  exact h h' tk' vs hk hi
theorem pU:dF X (.type "range") (λxs H Q=>∃ j,xs = [.int j]/\∀ p,H p=none->Q (.ref p) (upd H p (.rng 0 j))):=by
 intro pins s σ H xs us Q I r h
 obtain ⟨j,rfl,q⟩:=h
 obtain ⟨u,rfl,t,rfl⟩:=eX r
 refine call_range_1 ⟨.ref s.heap.objs.size,_,I.laid (λb o e=>Qa _ e) (Qg _) ?_,rfl,q _ (I.hok.fresh (Qg _))⟩
 exact ⟨_,_,_,Qh _ rfl⟩
def bR (n:Nat):List Int:=(List.range n).map λ(i:Nat)=>(i:Int)
theorem lG (hc:X.calm=true):dF X (.type "tuple") (λxs H Q=>∃ (a:Addr) (n:Nat),xs = [.ref a]/\H a=some (.rng 0 n)/\n<=1000/\∀ p H',aE H H'->SqT X.K H' p ((bR n).map V.int)->Q (.ref p) H'):=by
 intro pins s σ H xs us Q I r h
 obtain ⟨a,n,rfl,ha,hn,q⟩:=h
 obtain ⟨u,rfl,rx⟩:=eX r
 cases rx
 obtain ⟨t,u,v,e⟩:=I.hok a _ ha
 have hsz:Builtin.Range.rangeSize 0 (n:Int) 1=(n:Int):=by rw [rangeSize_one]; split <;> omega
 have hsm:Builtin.Range.small 0 (n:Int) 1=true:=small_one (by omega) (by omega) (by omega) (by omega)
 have hn24:n<=2^24:=Jl hn (by decide)
 refine Vu PySem.F.called_tuple (by decide) (PySem.F.typeCall_tuple_1 _) (PySem.F.newCall_tuple_1 _) (λobj=>Vf obj _) PySem.F.entry_tuple_new
  (kR a 0 n t u v n hsm hsz hn24) ⟨I.ok.hd hc,e,λh' tk vs kp hi=>⟨⟨_,Qh _ rfl,rfl⟩,?_⟩⟩
 have I1:Inv X pins σ H { s with heap:=h',toks:=tk }:=I.kept kp
 have e0:((List.range n).map λ(i:Nat)=>(0:Int)+(i:Int))=bR n:=by unfold bR; exact Xj λi _=>Xp _
 rw [e0] at hi
 have hv:=jK hi
 have hl:(bR n).length=n:=by unfold bR; simp
 have hf:=I1.hok.fresh (Qg _)
 have I2:Inv X pins σ (upd H h'.objs.size (.tup ((bR n).map V.int))) { s with heap:=h'.push { cls:=.type "tuple",data:=.seq vs.toArray },toks:=tk } :=
  I1.laid (t':=tk) (λb o e=>Qa _ e) (Qg _) (show bL X.prog X.w _ _ _ (.tup _) from ⟨by rw [Qb,hl,Rf]; omega,vs,0,hv,Qh _ rfl⟩)
 exact ⟨.ref h'.objs.size,_,I2,rfl,q _ _ (aE.new hf) (SqT.of aB)⟩
theorem xQ:dF X (.builtin "sorted") (λxs H Q=>∃ (a:Addr) (ns:List Int),xs = [.ref a]/\(SqL X.K H a (ns.map V.int)∨SqT X.K H a (ns.map V.int))/\ns.length < 64 /\
  ∀ (p:Addr) (ms:List Int),H p=none->ms.Perm ns->ms.Pairwise (·<=·)->Q (.ref p) (upd H p (.lst (ms.map V.int)))):=by
 intro pins s σ H xs us Q I r h
 obtain ⟨a,ns,rfl,ha,h64,q⟩:=h
 obtain ⟨u,rfl,rx⟩:=eX r
 cases rx
 refine uP h64 (λQ' hQ'=>?_) λh1 h' tk out ns' k1 k2 pl hi hp ho=>?_
 ·rcases ha with ha | ha
  ·obtain ⟨its,rv,⟨o,n,e,c,_,d⟩,hz⟩:=I.list ha
   have hl:=rv.length
   exact Vn a (.inl rfl) e c d (λh' kp=>hQ' h' s.toks _ kp (by simpa using gK rv)) (by rw [Ql,<- hl]; exact hz)
  ·obtain ⟨its,rv,⟨o,e,c,n,d⟩,hz⟩:=I.tuple ha
   have hl:=rv.length
   exact Vn a (.inr rfl) e c d (λh' kp=>hQ' h' s.toks _ kp (by simpa using gK rv)) (by rw [Ql,<- hl]; exact hz)
 ·have I1:Inv X pins σ H { s with heap:=h1,toks:=tk }:=I.kept k1
  have hf:=I1.hok.fresh (Qg _)
  have hl:=hp.length_eq
  obtain ⟨n,e⟩:=pl
  have I2:Inv X pins σ (upd H h1.objs.size (.lst (ns'.map V.int))) { s with heap:=h',toks:=tk } :=
   I1.laid (t':=tk) k2 (Qg _) (show bL X.prog X.w _ _ _ (.lst _) from ⟨by rw [Qb,hl,Rf]; omega,out.toList,n,jK hi,by simpa using e⟩)
  exact ⟨.ref h1.objs.size,_,I2,rfl,q _ ns' hf hp ho⟩
theorem tQ {x:Expr} {tx:TE} {cj cpos} (hg:Gl X "sorted") (hm:X.mg "sorted" = none) (hx:PE X x tx) (he:starEach [x] X.env = [(false,eval x X.env)]:=by rfl) :
  PE X (.Call (.Name "sorted" p) [x] [⟨some "reverse",.Constant (.bool true) cj cpos,kpos⟩] pos) (λσ H Q=>tx σ H λv H1=>∃ (a:Addr) (ns:List Int),v=.ref a/\(SqL X.K H1 a (ns.map V.int)∨SqT X.K H1 a (ns.map V.int))/\ns.length < 64 /\
   ∀ (p:Addr) (ms:List Int),H1 p=none->ms.Perm ns->ms.Pairwise (·≥·)->Q (.ref p) (upd H1 p (.lst (ms.map V.int)))):=by
 intro pins s σ H Q I h
 refine Tx (iL (u:=.builtin "sorted") I hg hm (by decide +kernel) ?_)
 have hpa:PA X [x] (uH tx aCg):=aA hx aC he
 refine callWith_kw (thn (hpa pos pins s σ H (λvs H1=>match vs with
   | [v]=>∃ (a:Addr) (ns:List Int),v=.ref a/\(SqL X.K H1 a (ns.map V.int)∨SqT X.K H1 a (ns.map V.int))/\ns.length < 64/\∀ (p:Addr) (ms:List Int),H1 p=none->ms.Perm ns->ms.Pairwise (·≥·)->Q (.ref p) (upd H1 p (.lst (ms.map V.int)))
   | _=>False) I h) λus s1 ⟨vs,H1,I1,r1,q1⟩=>?_) (by rw [he]; rfl) (by rw [he]; rfl)
 have hk:PK X [⟨some "reverse",.Constant (.bool true) cj cpos,kpos⟩] (uH (tC (.bl true)) aCg):=aE3 eY aGI
 refine thn (hk pos pins s1 σ H1 (λzs H2=>zs = [.bl true]/\H2=H1) I1 ⟨rfl,rfl⟩) λws s2 hx9=>?_
 obtain ⟨zs,H2,I2,rz,ez,eH⟩:=hx9
 subst ez eH
 obtain ⟨w1,rfl,rw1⟩:=eX rz
 cases rw1
 match vs,r1,q1 with
 | [v],r1,q1 =>
  obtain ⟨a,ns,rfl,ha,h64,q⟩:=q1
  obtain ⟨u,rfl,rx⟩:=eX r1
  cases rx
  show wpAny (model X.prog X.w) X.A (call (.builtin "sorted") [.ref a] [(Str.ofString "reverse",.bool true)]) _ _ _
  refine tP h64 (λQ' hQ'=>?_) λh1 h' tk out ns' k1 k2 pl hi hp ho=>?_
  ·rcases ha with ha | ha
   ·obtain ⟨its,rv,⟨o,n,e,c,_,d⟩,hz⟩:=I2.list ha
    have hl:=rv.length
    exact Vn a (.inl rfl) e c d (λh' kp=>hQ' h' s2.toks _ kp (by simpa using gK rv)) (by rw [Ql,<- hl]; exact hz)
   ·obtain ⟨its,rv,⟨o,e,c,n,d⟩,hz⟩:=I2.tuple ha
    have hl:=rv.length
    exact Vn a (.inr rfl) e c d (λh' kp=>hQ' h' s2.toks _ kp (by simpa using gK rv)) (by rw [Ql,<- hl]; exact hz)
  ·have J1:Inv X pins σ H2 { s2 with heap:=h1,toks:=tk }:=I2.kept k1
   have hf:=J1.hok.fresh (Qg _)
   have hl:=hp.length_eq
   obtain ⟨n,e⟩:=pl
   have J2:Inv X pins σ (upd H2 h1.objs.size (.lst (ns'.map V.int))) { s2 with heap:=h',toks:=tk } :=
    J1.laid (t':=tk) k2 (Qg _) (show bL X.prog X.w _ _ _ (.lst _) from ⟨by rw [Qb,hl,Rf]; omega,out.toList,n,jK hi,by simpa using e⟩)
   exact ⟨.ref h1.objs.size,_,J2,rfl,q _ ns' hf hp ho⟩
 | [],_,q1=>exact q1.elim
 | _::_::_,_,q1=>exact q1.elim
def tab (L:Bool) (ns:List Nat):SetTable:={ mask:=7,place:=ns.toArray,dummies:=#[],finger:=0,led:=L,moves:=0,plain:=true }
def aIq (l:List (Nat×Tok)):Array (Int×Value):=(l.map λp=>((p.1:Int),Value.int (p.1:Int) p.2)).toArray
def SX (L:Bool) (h:Heap) (a:Addr) (l:List (Nat×Tok)):Prop:=∃ o ep,h.get? a=some o/\o.ExactSet/\o.data=.set (aIq l) ep (tab L (l.map (·.1)))
abbrev Led (w:World):Bool:=!(w.params.followText "set-order")
theorem lH (a:Value) {Q₁:Value->Shared->Prop}
  (h:Q₁ (.ref s.heap.objs.size) { s with heap:=s.heap.push { cls:=.type "set",dict:=none,data:=.set #[] 0 (.fresh 0 0 (Led w)) } }) :
  codeAny (model prog w) A (.call (.builtin "set.__new__") ⟨[.type "set",a],[]⟩) (wants Q₁ E) s:=by
 refine Vy ?_
 show wpAny _ A.in1 (do checkBuiltinCall "set.__new__" ⟨[.type "set",a],[]⟩; again (.builtin "set.__new__" ⟨[.type "set",a],[]⟩)) _ _ s
 refine Ra (Vo (PySem.F.newCall_set_1 a) (Rb ⟨Ts Mm _,Tf PySem.F.entry_set_new ?_⟩))
 rw [Around.under_plainId Mm _]
 unfold Builtin.«set.__new__» Builtin.Frozenset.newClass
 have hsub:=sub_set_self
 obtain ⟨hp,g,d,tk,os⟩:=s
 dsimp only
 wp_walk
 refine Vc (Rb ?_)
 dsimp only
 simp only [newObj]
 refine Ra (Ral (Rb ?_))
 exact Rb h
theorem xR {wr:List Addr} {P:Nat->Value->Prop} {St:Nat->Heap->Prop} (W:Walks prog w A.in1 I fp wr n P St) (hi:i < n) (st:St i s.heap) (h:∀ v h' tk,P i v->St (i+1) h'->(∀ b o,b∉wr->s.heap.get? b=some o->h'.get? b=some o) ->
   wpAny (model prog w) A.in1 (setAdd S v) (λ_ s2=>codeAny (model prog w) A (.builtin "set.update.loop" ⟨[.ref S,.ref I],[]⟩) R s2) (λe s'=>R (.error e) s') { s with heap:=h',toks:=tk }) :
  codeAny (model prog w) A (.builtin "set.update.loop" ⟨[.ref S,.ref I],[]⟩) R s:=by
 refine Tf PyProof.Rows.F.entry_set_update_loop ?_
 rw [Around.under_plainId PyProof.Rows.F.plain_set_update_loop _]
 show wpAny _ A.in1 (pyNext (.ref I) >>= _) _ _ s
 refine Ra (W.item i s _ _ hi st λv h' tk hP hst' hk=>?_)
 show wpAny _ A.in1 (holding [v] (setAdd S v) >>= _) _ _ _
 refine Ra (Rm (Rr (h v h' tk hP hst' hk) (λ_ s2 q=>?_) λ_ _ e=>e))
 exact Rb ⟨Ts PyProof.Rows.F.plain_set_update_loop _,q⟩
theorem xS {wr:List Addr} {P:Nat->Value->Prop} {St:Nat->Heap->Prop} (W:Walks prog w A.in1 I fp wr n P St) (st:St n s.heap) (h:∀ h' tk,(∀ b o,b∉wr->s.heap.get? b=some o->h'.get? b=some o)->R (.ok (.ret .none)) { s with heap:=h',toks:=tk }) :
  codeAny (model prog w) A (.builtin "set.update.loop" ⟨[.ref S,.ref I],[]⟩) R s:=by
 refine Tf PyProof.Rows.F.entry_set_update_loop ?_
 rw [Around.under_plainId PyProof.Rows.F.plain_set_update_loop _]
 show wpAny _ A.in1 (pyNext (.ref I) >>= _) _ _ s
 refine Ra (W.done s _ _ st λh' tk hk=>?_)
 show wpAny _ A.in1 (ret Value.none) _ _ _
 exact Rb (h h' tk hk)
def two (a b:Nat) (t u:Tok):List (Nat×Tok):=if a=b then [(a,t)] else if a < b then [(a,t),(b,u)] else [(b,u),(a,t)]
theorem bV:Slot "set_iterator" "__next__" "set_iterator.__next__" :=
 .of (owner := "set_iterator") (n := "__next__") (by rw [RaJ,Rae]; kernel_rfl) (by decide +kernel) (by decide +kernel) (by decide +kernel)
  (by first | exact .inl (by decide +kernel) | exact .inr (by decide +kernel)) (by rw [Mv]; kernel_rfl)
theorem fU:entryFor table "set_iterator.__next__" = some Builtin.«set_iterator.__next__»:=entryFor_of_tree (by kernel_rfl)
theorem eZ (a:Value):argsOk "set_iterator.__next__" ⟨[a],[]⟩:=by
 unfold argsOk; kernel_rfl
theorem gA:Slot "set_iterator" "__iter__" "set_iterator.__iter__" :=
 .of (owner := "set_iterator") (n := "__iter__") (by rw [RaJ,Rae]; kernel_rfl) (by decide +kernel) (by decide +kernel) (by decide +kernel)
  (by first | exact .inl (by decide +kernel) | exact .inr (by decide +kernel)) (by rw [Mv]; kernel_rfl)
theorem jM:entryFor table "set_iterator.__iter__" = some Builtin.«dict_keyiterator.__iter__» :=
 entryFor_alias (id' := "dict_keyiterator.__iter__") (by kernel_rfl) rfl (by decide +kernel) (by kernel_rfl)
theorem jF (a:Value):argsOk "set_iterator.__iter__" ⟨[a],[]⟩:=by
 unfold argsOk; kernel_rfl
theorem rM:entryFor table "set.__iter__" = some Builtin.«frozenset.__iter__» :=
 entryFor_alias (id' := "frozenset.__iter__") (by kernel_rfl) rfl (by decide +kernel) (by kernel_rfl)
section
variable {l:List (Nat×Tok)}
theorem pA {Q:Bool->Shared->Prop} (h:Q (w.params.followText "set-order") s):wpAny (model prog w) A setsByText Q E s:=Ra (Vc (Rb h))
end
def aIr (w:World) (p:Addr) (a b:Nat):HO:=.ext λh=>∃ t u,SX (Led w) h p (two a b t u)
structure Sub (prog:Program) (w:World) (i l:Addr) (n:Nat) (P:Nat->Value->Prop) (st:Nat->Heap->Prop):Prop where
 keep:∀ k h h',st k h->(∀ b,b=i∨b=l->∀ o,h.get? b=some o->h'.get? b=some o)->st k h'
 obj:∀ k h,st k h->(∃ o,h.get? i=some o/\∀ v,o.data≠.cell v)/\∃ o,h.get? l=some o
 item:∀ (A:Around) k (s:Shared) (Q:Value->Shared->Prop) (E:Value->Shared->Prop),k < n->st k s.heap->(∀ v h',P k v->st (k+1) h'->Heap.SameBut i s.heap h'->Q v { s with heap:=h' })->wpAny (model prog w) A (Builtin.SmallTypes.nextOf (.ref i)) Q E s
 done:∀ (A:Around) (s:Shared) (Q:Value->Shared->Prop) (E:Value->Shared->Prop),A.handled=none->st n s.heap->(∀ h' e,Heap.ExtBut i s.heap h'->(∃ o,h'.get? e=some o/\o.cls=.type "StopIteration")->E (.ref e) { s with heap:=h' }) ->
  wpAny (model prog w) A (Builtin.SmallTypes.nextOf (.ref i)) Q E s
theorem aDw (prog:Program) (w:World) (i l:Addr) (items:Array Value) (hne:l≠i):Sub prog w i l items.size (λk v=>items[k]?=some v) (λk h=>h.IsListIter i l k/\h.IsList l items) where
 keep:=λk h h' st kp=>⟨st.1.at λo e=>kp i (.inl rfl) o e,st.2.at λo e=>kp l (.inr rfl) o e⟩
 obj:=λk h st=>by
  obtain ⟨⟨o,e,_,d⟩,⟨o2,e2,_⟩⟩:=st
  exact ⟨⟨o,e,λv z=>by rw [d] at z; cases z⟩,o2,e2⟩
 item:=λA k s Q E hk st hQ=>wpAny_nextOf_list_item st.1 st.2 (Array.getElem?_eq_getElem hk) λh' a b=>hQ _ h' (Array.getElem?_eq_getElem hk) ⟨a,st.2.at λo e=>b.extBut l o hne e⟩ b
 done:=λA s Q E hh st hE=>wpAny_nextOf_list_end hh st.1 st.2 (Array.getElem?_eq_none (Qg _)) hE
theorem nS {t:Addr} {x:Value} (hit:s.heap.IsTupleIter it t i) (ht:s.heap.IsTuple t items) (hx:items[i]?=some x) (hQ:∀ h',h'.IsTupleIter it t (i+1)->Heap.SameBut it s.heap h'->Q x { s with heap:=h' }):wpAny (model prog w) A (Builtin.SmallTypes.nextOf (.ref it)) Q E s:=by
 obtain ⟨o,ho,hc,hd⟩:=id hit
 obtain ⟨ol,hol,_,nl,hdl⟩:=ht
 have hT:=hit.typeIs
 unfold Builtin.SmallTypes.nextOf
 refine Ra (Rg (name:=Str.ofString "__next__") hT To (Rh To hT Vz ?_ (Vv _)))
 refine Ra (m:=field (.ref it) 0) (Rl ho hd (x:=.ref t) rfl ?_)
 have hno:¬ ((Value.ref t==Value.none)=true):=Qr
 show wpAny _ _ (if (Value.ref t==Value.none)=true then _ else _) _ _ s
 rw [if_neg hno]
 refine Ra (m:=field (.ref it) 1) (Rl ho hd (x:=.int i 0) rfl ?_)
 refine Ra (m:=seqItems? (.ref t)) (Td hol hdl ?_)
 simp only [Jc,hx]
 refine Ra (Uy ho hd (by simp) (Rb ⟨x,rfl,Rb (hQ _ ?_ (Heap.SameBut.update ..))⟩))
 refine ⟨_,Xe _ ho (Obj.isFreed_of_fields (Obj.data_mapFields hd _)),(Obj.cls_mapFields ..).trans hc,?_⟩
 rw [Obj.data_mapFields hd]
 simp [rawInt]
theorem pB {t:Addr} (hh:A.handled=none) (hit:s.heap.IsTupleIter it t i) (ht:s.heap.IsTuple t items) (hx:items[i]?=none) (hE:∀ h' e,Heap.ExtBut it s.heap h'->(∃ o,h'.get? e=some o/\o.cls=.type "StopIteration")->E (.ref e) { s with heap:=h' }):wpAny (model prog w) A (Builtin.SmallTypes.nextOf (.ref it)) Q E s:=by
 obtain ⟨o,ho,hc,hd⟩:=id hit
 obtain ⟨ol,hol,_,nl,hdl⟩:=ht
 have hT:=hit.typeIs
 unfold Builtin.SmallTypes.nextOf
 refine Ra (Rg (name:=Str.ofString "__next__") hT To (Rh To hT Vz ?_ (Vv _)))
 refine Ra (m:=field (.ref it) 0) (Rl ho hd (x:=.ref t) rfl ?_)
 have hno:¬ ((Value.ref t==Value.none)=true):=Qr
 show wpAny _ _ (if (Value.ref t==Value.none)=true then _ else _) _ _ s
 rw [if_neg hno]
 refine Ra (m:=field (.ref it) 1) (Rl ho hd (x:=.int i 0) rfl ?_)
 refine Ra (m:=seqItems? (.ref t)) (Td hol hdl ?_)
 simp only [Jc,hx]
 refine Ra (Uh (Ra (Uy ho hd (by simp) ?_)))
 refine Ra (m:=newExc (.type "StopIteration") []) ?_
 simp only [newExc,newTuple]
 refine Ra (Ri ?_ (by size_fits))
 refine Ra (m:=firstArgMember _ _) (Vo (a:=Value.none) (by first | rfl | (simp only [firstArgMember]; rfl)) ?_)
 refine Ri ?_ (by size_fits)
 simp only [raiseNew]
 refine Ra (Im ?_)
 first | rw [show A.in1.handled=none from hh] | rw [hh]
 refine Ra (Rb (Ml ?_))
 exact hE _ _ (((Heap.SameBut.update ..).extBut.push _).push _) ⟨_,Qh _ rfl,rfl⟩
theorem aCn (prog:Program) (w:World) (i l:Addr) (items:Array Value) (hne:l≠i):Sub prog w i l items.size (λk v=>items[k]?=some v) (λk h=>h.IsTupleIter i l k/\h.IsTuple l items) where
 keep:=λk h h' st kp=>⟨st.1.at λo e=>kp i (.inl rfl) o e,by obtain ⟨o,e,r⟩:=st.2; exact ⟨o,kp l (.inr rfl) o e,r⟩⟩
 obj:=λk h st=>by
  obtain ⟨⟨o,e,_,d⟩,⟨o2,e2,_⟩⟩:=st
  exact ⟨⟨o,e,λv z=>by rw [d] at z; cases z⟩,o2,e2⟩
 item:=λA k s Q E hk st hQ=>nS st.1 st.2 (Array.getElem?_eq_getElem hk) λh' a b=>hQ _ h' (Array.getElem?_eq_getElem hk) ⟨a,by obtain ⟨o,e,r⟩:=st.2; exact ⟨o,b.extBut l o hne e,r⟩⟩ b
 done:=λA s Q E hh st hE=>pB hh st.1 st.2 (Array.getElem?_eq_none (Qg _)) hE
abbrev gB (h:Heap) (z TI TO:Addr) (f0:Value) (f1:Bool):Prop :=
 h.get? z=some { cls:=.type "zip",dict:=none,data:=.fields #[f0,.bool f1,.bool false,.ref TI,.ref TO],slots:=#[] }
def F0 (f:Value):Prop:=f=.none∨∃ a t,f=.int a t
theorem xT {Q:Option Obj->Shared->Prop} (h:Q (s.heap.get? a) s):wpAny M A (loadIfAlive a) Q E s:=λΓ p _=>by
 show Sem.wp M Γ (.loadIfAlive a .pure) _ _ p s
 rw [Sem.wp_loadIfAlive]
 exact (Sem.wp_pure ..).mpr h
section
variable {z TI TO:Addr} {n1:Nat}
theorem aDx {Q:Bool->Shared->Prop} (hz:gB s.heap z TI TO f0 f1) (hf:F0 f0) (h1:Q true s) (h2:∀ h' b,f0≠.none->gB h' z TI TO f0 b->Heap.SameBut z s.heap h'->Q false { s with heap:=h' }) :
  wpAny (model prog w) A (Builtin.SmallTypes.ownedTupleIsFree (.ref z)) Q E s:=by
 unfold Builtin.SmallTypes.ownedTupleIsFree
 rcases hf with rfl | ⟨a,t,rfl⟩
 ·exact Ra (Rl hz rfl (x:=.none) rfl (Rb h1))
 ·refine Ra (Rl hz rfl (x:=.int a t) rfl ?_)
  show wpAny (model prog w) A (loadIfAlive a.toNat >>= _) Q E s
  refine Ra (xT ?_)
  cases hq:s.heap.get? a.toNat with
  | none=>exact Rb h1
  | some o =>
   show wpAny (model prog w) A (field (.ref z) 1 >>= _) Q E s
   refine Ra (Rl hz rfl (x:=.bool f1) rfl ?_)
   cases f1 with
   | true=>exact Rb (h2 s.heap true (by simp) hz (Heap.SameBut.refl _ _))
   | false =>
    show wpAny (model prog w) A (setField (.ref z) 1 (.bool true) >>= _) Q E s
    refine Ra (Rj hz (by simp) λg hg b=>Rb (h2 g true (by simp) hg b))
theorem xU {k:Nat} {a b:Value} (D:ZipApart z TI TO i1 i2 l1 l2) (S1:Sub prog w i1 l1 n1 P1 st1) (S2:Sub prog w i2 l2 n2 P2 st2) (hz:gB s.heap z TI TO f0 f1) (hf:F0 f0) (hTI:IsPair s.heap TI (.ref i1) (.ref i2)) (hTO:IsPair s.heap TO a b) (h1:st1 k s.heap) (h2:st2 k s.heap) (k1:k < n1) (k2:k < n2) (hQ:∀ h' x y f0' f1',(f0=.none->f0'=rawInt s.heap.objs.size/\f1'=false)->P1 k x->P2 k y->F0 f0'->gB h' z TI TO f0' f1'->(∃ a b,IsPair h' TO a b)->st1 (k+1) h'->st2 (k+1) h'->IsPair h' s.heap.objs.size x y->h'.objs.size=s.heap.objs.size+1 ->
   (∀ c o,c≠z->c≠TO->c≠i1->c≠i2->s.heap.get? c=some o->h'.get? c=some o)->Q (.ref s.heap.objs.size) { s with heap:=h' }) :
  wpAny (model prog w) A (Builtin.«zip.__next__» ⟨[.ref z],[]⟩) (λfin s'=>∃ v,fin=.done (.ret v)/\Q v s') E s:=by
 refine Ra (m:=field (.ref z) 2) (Rl hz rfl (x:=.bool false) rfl ?_)
 refine Ra (m:=field (.ref z) 3) (Rl hz rfl (x:=.ref TI) rfl ?_)
 refine Ra (Td hTI rfl ?_)
 refine Ra (m:=Builtin.SmallTypes.ownedTupleIsFree (.ref z)) (aDx hz hf ?_ λh0 fb nf hz0 b0=>?_)
 ·simp only [if_true]
  refine Ra (Uh ?_)
  refine Ra (Rl hz rfl (x:=.ref TO) rfl ?_)
  refine Ra (Rj hz (by simp) λg1 hz1 b1=>?_)
  have hz1':gB g1 z TI TO .ellipsis f1:=hz1
  refine Ra ?_
  simp only [List.zipIdx_cons,List.zipIdx_nil,Zz,Yd]
  have s1:st1 k g1:=S1.keep _ _ _ h1 λc hc o e=>b1.extBut c o (by rcases hc with r | r <;> rw [r]; exact D.i1z; exact D.l1z) e
  refine Ra (Ra (Io ?_))
  refine Ra (m:=Builtin.SmallTypes.nextOf (.ref i1)) (S1.item _ k _ _ _ k1 s1 λx g2 px t1 b2=>Rb ?_)
  have o2:IsPair g2 TO a b:=b2.extBut _ _ D.TOi1 (b1.extBut _ _ D.TOz hTO)
  refine Ra (Td o2 rfl ?_)
  refine Ra (Ic o2 λg3 o3 b3=>?_)
  have o3':IsPair g3 TO x b:=o3
  refine Ra (Ui (Rb ?_))
  have s2:st2 k g3:=S2.keep _ _ _ h2 λc hc o e=>by
   rcases hc with r | r
   ·rw [r] at e ⊢; exact b3.extBut _ _ D.TOi2.symm (b2.extBut _ _ D.i12.symm (b1.extBut _ _ D.i2z e))
   ·rw [r] at e ⊢; exact b3.extBut _ _ D.l2TO (b2.extBut _ _ D.l2i1 (b1.extBut _ _ D.l2z e))
  refine Ra (Ra (Io ?_))
  refine Ra (m:=Builtin.SmallTypes.nextOf (.ref i2)) (S2.item _ k _ _ _ k2 s2 λy g4 py t2 b4=>Rb ?_)
  have o4:IsPair g4 TO x b:=b4.extBut _ _ D.TOi2 o3'
  refine Ra (Td o4 rfl ?_)
  refine Ra (Ic o4 λg5 o5 b5=>?_)
  have o5':IsPair g5 TO x y:=o5
  refine Ra (Ui (Rb (Rb ?_)))
  refine Ra (Td o5' rfl ?_)
  refine Ra (Ie ?_)
  have sz:g5.objs.size=s.heap.objs.size:=by rw [b5.1,b4.1,b3.1,b2.1,b1.1]
  have z5:gB g5 z TI TO .ellipsis f1:=b5.extBut _ _ D.TOz.symm (b4.extBut _ _ D.i2z.symm (b3.extBut _ _ D.TOz.symm (b2.extBut _ _ D.i1z.symm hz1')))
  have kp5:∀ c o,c≠z->c≠TO->c≠i1->c≠i2->s.heap.get? c=some o->g5.get? c=some o:=λc o c1 c2 c3 c4 e =>
   b5.extBut _ _ c2 (b4.extBut _ _ c4 (b3.extBut _ _ c2 (b2.extBut _ _ c3 (b1.extBut _ _ c1 e))))
  have t1':st1 (k+1) g5:=S1.keep _ _ _ t1 λc hc o e=>by
   rcases hc with r | r
   ·rw [r] at e ⊢; exact b5.extBut _ _ D.TOi1.symm (b4.extBut _ _ D.i12 (b3.extBut _ _ D.TOi1.symm e))
   ·rw [r] at e ⊢; exact b5.extBut _ _ D.l1TO (b4.extBut _ _ D.l1i2 (b3.extBut _ _ D.l1TO e))
  have t2':st2 (k+1) g5:=S2.keep _ _ _ t2 λc hc o e=>by
   rcases hc with r | r
   ·rw [r] at e ⊢; exact b5.extBut _ _ D.TOi2.symm e
   ·rw [r] at e ⊢; exact b5.extBut _ _ D.l2TO e
  have zlt:g5.objs.size≠z:=Xw (Qp z5)
  refine Ra (m:=Builtin.SmallTypes.ownedTupleHandOut (.ref z) (.ref g5.objs.size)) ?_
  unfold Builtin.SmallTypes.ownedTupleHandOut
  have z6:gB (g5.push { cls:=.type "tuple",data:=.seq #[x,y] }) z TI TO .ellipsis f1:=Qa _ z5
  refine Ra (Rj z6 (by simp) λg7 z7 b7=>?_)
  have z7':gB g7 z TI TO (rawInt g5.objs.size) f1:=z7
  refine Rj z7' (by simp) λg8 z8 b8=>?_
  have z8':gB g8 z TI TO (rawInt g5.objs.size) false:=z8
  have up:∀ c o,c≠z->g5.get? c=some o->g8.get? c=some o:=λc o c1 e=>b8.extBut _ _ c1 (b7.extBut _ _ c1 (Qa _ e))
  have T8:IsPair g8 g5.objs.size x y:=b8.extBut _ _ zlt (b7.extBut _ _ zlt (Qh _ rfl))
  have sz8:g8.objs.size=s.heap.objs.size+1:=by rw [b8.1,b7.1,Jo,sz]
  rw [sz] at z8' T8
  refine Rb ⟨_,rfl,?_⟩
  show Q (.ref g5.objs.size) _
  rw [sz]
  refine hQ g8 x y _ _ (λ_=>⟨rfl,rfl⟩) px py (.inr ⟨_,_,rfl⟩) z8' ⟨_,_,up _ _ D.TOz o5'⟩ (S1.keep _ _ _ t1' λc hc o e=>up c o (by rcases hc with r | r <;> rw [r]; exact D.i1z; exact D.l1z) e) (S2.keep _ _ _ t2' λc hc o e=>up c o (by rcases hc with r | r <;> rw [r]; exact D.i2z; exact D.l2z) e) T8 sz8 λc o c1 c2 c3 c4 e=>up c o c1 (kp5 c o c1 c2 c3 c4 e)
 ·simp only [Jh,if_false]
  have s1:st1 k h0:=S1.keep _ _ _ h1 λc hc o e=>b0.extBut c o (by rcases hc with r | r <;> rw [r]; exact D.i1z; exact D.l1z) e
  rw [<- Array.forIn_toList]
  simp only [Zz,Yd]
  refine Ra (Ra (Ra (Rm ?_)))
  refine Ra (m:=Builtin.SmallTypes.nextOf (.ref i1)) (S1.item _ k _ _ _ k1 s1 λx g2 px t1 b2=>Rb ?_)
  refine Rb ?_
  have s2:st2 k g2:=S2.keep _ _ _ h2 λc hc o e=>by
   rcases hc with r | r
   ·rw [r] at e ⊢; exact b2.extBut _ _ D.i12.symm (b0.extBut _ _ D.i2z e)
   ·rw [r] at e ⊢; exact b2.extBut _ _ D.l2i1 (b0.extBut _ _ D.l2z e)
  refine Ra (Ra (Rm ?_))
  refine Ra (m:=Builtin.SmallTypes.nextOf (.ref i2)) (S2.item _ k _ _ _ k2 s2 λy g4 py t2 b4=>Rb ?_)
  refine Rb (Rb ?_)
  refine Ra (Ie ?_ (by show 2<=sizeLine; rw [Rf]; decide))
  have sz:g4.objs.size=s.heap.objs.size:=by rw [b4.1,b2.1,b0.1]
  have z4:gB g4 z TI TO f0 fb:=b4.extBut _ _ D.i2z.symm (b2.extBut _ _ D.i1z.symm hz0)
  have kp4:∀ c o,c≠z->c≠i1->c≠i2->s.heap.get? c=some o->g4.get? c=some o:=λc o c1 c3 c4 e=>b4.extBut _ _ c4 (b2.extBut _ _ c3 (b0.extBut _ _ c1 e))
  have t1':st1 (k+1) g4:=S1.keep _ _ _ t1 λc hc o e=>by
   rcases hc with r | r
   ·rw [r] at e ⊢; exact b4.extBut _ _ D.i12 e
   ·rw [r] at e ⊢; exact b4.extBut _ _ D.l1i2 e
  refine Rb ⟨_,rfl,?_⟩
  show Q (.ref g4.objs.size) _
  have T8:IsPair (g4.push { cls:=.type "tuple",data:=.seq #[x,y] }) g4.objs.size x y:=Qh _ rfl
  rw [sz] at T8 ⊢
  refine hQ _ x y _ _ (λq=>absurd q nf) px py hf (Qa _ z4) ⟨_,_,Qa _ (kp4 _ _ D.TOz D.TOi1 D.TOi2 hTO)⟩ (S1.keep _ _ _ t1' λc hc o e=>Qa _ e) (S2.keep _ _ _ t2 λc hc o e=>Qa _ e) T8 (by rw [Jo,sz]) λc o c1 c2 c3 c4 e=>Qa _ (kp4 c o c1 c3 c4 e)
theorem aBl {k:Nat} {a b:Value} {Q:Fin->Shared->Prop} (hh:A.handled=none) (D:ZipApart z TI TO i1 i2 l1 l2) (S1:Sub prog w i1 l1 n1 P1 st1) (S2:Sub prog w i2 l2 n2 P2 st2) (hz:gB s.heap z TI TO f0 f1) (hf:F0 f0) (hTI:IsPair s.heap TI (.ref i1) (.ref i2)) (hTO:IsPair s.heap TO a b) (h1:st1 k s.heap) (h2:st2 k s.heap) (hend:k=n1/\k<=n2∨k=n2/\k < n1) (hE:∀ h' e,(∀ c o,c≠z->c≠TO->c≠i1->c≠i2->s.heap.get? c=some o->h'.get? c=some o)->(∃ o,h'.get? e=some o/\o.cls=.type "StopIteration")->E (.ref e) { s with heap:=h' }) :
  wpAny (model prog w) A (Builtin.«zip.__next__» ⟨[.ref z],[]⟩) Q E s:=by
 refine Ra (m:=field (.ref z) 2) (Rl hz rfl (x:=.bool false) rfl ?_)
 refine Ra (m:=field (.ref z) 3) (Rl hz rfl (x:=.ref TI) rfl ?_)
 refine Ra (Td hTI rfl ?_)
 refine Ra (m:=Builtin.SmallTypes.ownedTupleIsFree (.ref z)) (aDx hz hf ?_ λh0 fb nf hz0 b0=>?_)
 ·simp only [if_true]
  refine Ra (Uh ?_)
  refine Ra (Rl hz rfl (x:=.ref TO) rfl ?_)
  refine Ra (Rj hz (by simp) λg1 hz1 b1=>?_)
  have hz1':gB g1 z TI TO .ellipsis f1:=hz1
  refine Ra ?_
  simp only [List.zipIdx_cons,List.zipIdx_nil,Zz,Yd]
  have s1:st1 k g1:=S1.keep _ _ _ h1 λc hc o e=>b1.extBut c o (by rcases hc with r | r <;> rw [r]; exact D.i1z; exact D.l1z) e
  refine Ra (Ra (Io ?_))
  have fin:∀ (g:Heap) (e:Addr) (g0:Heap),(∃ o,g.get? e=some o/\o.cls=.type "StopIteration")->gB g z TI TO .ellipsis f1->(∀ c o,c≠z->c≠TO->c≠i1->c≠i2->s.heap.get? c=some o->g.get? c=some o) ->
    wpAny (model prog w) A (setField (.ref z) 0 .none) (λ_ s'=>E (.ref e) s') E { s with heap:=g }:=λg e g0 ⟨oe,hoe,hce⟩ hzz kp=>by
   have hez:e≠z:=λq=>by rw [q,hzz] at hoe; cases hoe; simp at hce
   exact Rj hzz (by simp) λg' _ b'=>hE g' e (λc o c1 c2 c3 c4 q=>b'.extBut _ _ c1 (kp c o c1 c2 c3 c4 q)) ⟨oe,b'.extBut _ _ hez hoe,hce⟩
  rcases hend with ⟨e1,_⟩ | ⟨e2,k1⟩
  ·rw [e1] at s1
   refine Ra (m:=Builtin.SmallTypes.nextOf (.ref i1)) (S1.done _ _ _ _ hh s1 λg2 e b2 he=>?_)
   exact fin g2 e g1 he (b2 _ _ D.i1z.symm hz1') λc o c1 _ c3 _ q=>b2 _ _ c3 (b1.extBut _ _ c1 q)
  ·refine Ra (m:=Builtin.SmallTypes.nextOf (.ref i1)) (S1.item _ k _ _ _ k1 s1 λx g2 px t1 b2=>Rb ?_)
   have o2:IsPair g2 TO a b:=b2.extBut _ _ D.TOi1 (b1.extBut _ _ D.TOz hTO)
   refine Ra (Td o2 rfl ?_)
   refine Ra (Ic o2 λg3 o3 b3=>?_)
   refine Ra (Ui (Rb ?_))
   have s2:st2 n2 g3:=by
    rw [<- e2]
    exact S2.keep _ _ _ h2 λc hc o e=>by
     rcases hc with r | r
     ·rw [r] at e ⊢; exact b3.extBut _ _ D.TOi2.symm (b2.extBut _ _ D.i12.symm (b1.extBut _ _ D.i2z e))
     ·rw [r] at e ⊢; exact b3.extBut _ _ D.l2TO (b2.extBut _ _ D.l2i1 (b1.extBut _ _ D.l2z e))
   refine Ra (Ra (Io ?_))
   refine Ra (m:=Builtin.SmallTypes.nextOf (.ref i2)) (S2.done _ _ _ _ hh s2 λg4 e b4 he=>?_)
   exact fin g4 e g3 he (b4 _ _ D.i2z.symm (b3.extBut _ _ D.TOz.symm (b2.extBut _ _ D.i1z.symm hz1'))) λc o c1 c2 c3 c4 q=>b4 _ _ c4 (b3.extBut _ _ c2 (b2.extBut _ _ c3 (b1.extBut _ _ c1 q)))
 ·simp only [Jh,if_false]
  have s1:st1 k h0:=S1.keep _ _ _ h1 λc hc o e=>b0.extBut c o (by rcases hc with r | r <;> rw [r]; exact D.i1z; exact D.l1z) e
  rw [<- Array.forIn_toList]
  simp only [Zz,Yd]
  refine Ra (Ra (Ra (Rm ?_)))
  rcases hend with ⟨e1,_⟩ | ⟨e2,k1⟩
  ·rw [e1] at s1
   refine Ra (m:=Builtin.SmallTypes.nextOf (.ref i1)) (S1.done _ _ _ _ hh s1 λg2 e b2 he=>?_)
   exact hE g2 e (λc o c1 _ c3 _ q=>b2 _ _ c3 (b0.extBut _ _ c1 q)) he
  ·refine Ra (m:=Builtin.SmallTypes.nextOf (.ref i1)) (S1.item _ k _ _ _ k1 s1 λx g2 px t1 b2=>Rb ?_)
   refine Rb ?_
   have s2:st2 n2 g2:=by
    rw [<- e2]
    exact S2.keep _ _ _ h2 λc hc o e=>by
     rcases hc with r | r
     ·rw [r] at e ⊢; exact b2.extBut _ _ D.i12.symm (b0.extBut _ _ D.i2z e)
     ·rw [r] at e ⊢; exact b2.extBut _ _ D.l2i1 (b0.extBut _ _ D.l2z e)
   refine Ra (Ra (Rm ?_))
   refine Ra (m:=Builtin.SmallTypes.nextOf (.ref i2)) (S2.done _ _ _ _ hh s2 λg4 e b4 he=>?_)
   exact hE g4 e (λc o c1 c2 c3 c4 q=>b4 _ _ c4 (b2.extBut _ _ c3 (b0.extBut _ _ c1 q))) he
end
inductive Sk where
 | l | t
end L2
variable {k1 k2:Sk}
namespace L2
open PySem PySem.Spec PyProof.Rows
def SqK (k:Sk) (K:Rc) (H:Hp) (a:Addr) (xs:List V):Prop:=match k with | .l=>SqL K H a xs | .t=>SqT K H a xs
def AtK (k:Sk) (h:Heap) (a:Addr) (its:Array Value):Prop:=match k with | .l=>h.IsList a its | .t=>h.IsTuple a its
def ItK (k:Sk) (h:Heap) (i a:Addr) (n:Nat):Prop:=match k with | .l=>h.IsListIter i a n | .t=>h.IsTupleIter i a n
def itK (k:Sk) (a:Addr):Obj:=match k with | .l=>{ cls:=.type "list_iterator",data:=.fields #[.ref a,.int 0 0] } | .t=>{ cls:=.type "tuple_iterator",data:=.fields #[.ref a,.int 0 0] }
theorem ItK.new (k:Sk) (h:Heap) (a:Addr):ItK k (h.push (itK k a)) h.objs.size a 0:=by
 cases k
 ·exact ⟨_,Qh _ rfl,rfl,rfl⟩
 ·exact ⟨_,Qh _ rfl,rfl,rfl⟩
theorem ItK.obj {k:Sk} {i:Addr} (x:ItK k h i a n):∃ o,h.get? i=some o/\∀ v,o.data≠.cell v:=by
 cases k
 ·obtain ⟨o,e,_,d⟩:=x; exact ⟨o,e,λv z=>by rw [d] at z; cases z⟩
 ·obtain ⟨o,e,_,d⟩:=x; exact ⟨o,e,λv z=>by rw [d] at z; cases z⟩
theorem ItK.at {k:Sk} {i:Addr} (x:ItK k h i a n) (kp:∀ o,h.get? i=some o->h'.get? i=some o):ItK k h' i a n:=by
 cases k
 ·exact Heap.IsListIter.at x kp
 ·exact Heap.IsTupleIter.at x kp
theorem AtK.at {k:Sk} {its:Array Value} (x:AtK k h a its) (kp:∀ o,h.get? a=some o->h'.get? a=some o):AtK k h' a its:=by
 cases k
 ·exact Heap.IsList.at x kp
 ·obtain ⟨o,e,r⟩:=x; exact ⟨o,kp o e,r⟩
theorem tR (k:Sk) (prog:Program) (w:World) (i l:Addr) (items:Array Value) (hne:l≠i):Sub prog w i l items.size (λj v=>items[j]?=some v) (λj h=>ItK k h i l j/\AtK k h l items):=by
 cases k
 ·exact aDw prog w i l items hne
 ·exact aCn prog w i l items hne
theorem xV {k:Sk} {its:Array Value} (h:AtK k s.heap a its) (hQ:Q (.ref s.heap.objs.size) { s with heap:=s.heap.push (itK k a) }):wpAny (model prog w) A (pyIter (.ref a)) Q E s:=by
 cases k
 ·exact Uc h hQ
 ·exact Vj h hQ
section
variable {σ:St}
theorem Inv.seqK (I:Inv X pins σ H s) {k:Sk} (h:SqK k X.K H a xs):∃ its:List Value,bO xs its/\AtK k s.heap a its.toArray:=by
 cases k
 ·obtain ⟨its,r,p,_⟩:=I.list h; exact ⟨its,r,p.isList⟩
 ·obtain ⟨its,r,p,_⟩:=I.tuple h; exact ⟨its,r,p⟩
theorem Inv.seqK_inj (I:Inv X pins σ H s) {k:Sk} (h:SqK k X.K H a xs) (h':SqK k X.K H a ys):xs=ys:=by
 cases k
 ·exact I.list_inj h h'
 ·exact I.tuple_inj h h'
theorem Inv.seq_ne (I:Inv X pins σ H s) {k:Sk} (h:SqK k X.K H a xs) (f:qE X pins H b):a≠b:=by
 have rd:∀ {u:HO},Rd H a u->a≠b:=λ{u} r z=>by
  rcases r with r | ⟨o,r⟩ <;> (rw [z,f.1] at r; cases r)
 have kk:∀ {o:Obj},X.K.lookup a=some o->a≠b:=λ{o} e z=>by
  have e1:=I.ok.mod.kin a o e
  rcases f.2.2.2.1 with q | q
  ·exact I.ok.noex a o e1 (z ▸ q)
  ·exact Jx _ (Qy (Qp (I.ok.bs a o e1).1) (z ▸ q))
 cases k
 ·rcases h with h | ⟨o,_,_,e,_⟩
  ·exact rd h
  ·exact kk e
 ·rcases h with h | ⟨o,_,_,e,_⟩
  ·exact rd h
  ·exact kk e
theorem Inv.turnedL (ch:List Addr) (I:Inv X pins σ H s) (k:∀ b o,b∉ch->s.heap.get? b=some o->h'.get? b=some o) (f:∀ b∈ch,qE X pins H b):Inv X pins σ H { s with heap:=h',toks:=t' }:=by
 have nit:∀ b u,H b=some u->b∉ch:=λb u e z=>by rw [(f b z).1] at e; cases e
 have nL:X.env.locals∉ch:=λz=>(f _ z).2.1 rfl
 refine I.step (g':=s.gens) (d':=s.drawn) (ch:=ch) (λb hb=>⟨(f b hb).2.2.2.1,(f b hb).2.1,(f b hb).2.2.2.2.1,(f b hb).2.2.2.2.2⟩) (λb o _ _ hc e _=>k b o hc e) (λb o _ _ hc e _=>⟨o.slots,k b o hc e⟩) (λ_ _ _ _ n=>n)
  (λb o hc e=>⟨o,k b o hc e⟩) (λ_ _ e=>e) (λ_ _ _ e=>e) (λb ps e=>⟨#[],by rw [e]; simp⟩) (λm hm=>?_) (λb u e=>?_) I.bare
 ·obtain ⟨o,es,ep,ho,r⟩:=hm
  exact ⟨o,es,ep,k _ o nL ho,r⟩
 ·refine (I.hok b u e).stay (λc v hc q=>k c v ?_ q) (λ_ q=>q) λ_ _ q=>q
  rcases hc with z | z
  ·rw [z]; exact nit b u e
  ·exact nit c _ z
theorem Inv.trackO {D:Addr} {u:HO} (I:Inv X pins σ H s) (new:bL X.prog X.w (upd H D u) s.heap D u) (hn:H D=none) (hL:D≠X.env.locals)
  (h1:X.s0x.heap.objs.size<=D) (h2:∀ x c,X.env.cells.lookup x=some c->c≠D) (h3:∀ p∈X.pn++pins,p.1≠D):Inv X pins σ (upd H D u) s:=by
 have ne:∀ b v,H b=some v->b≠D:=λb v e z=>by rw [z,hn] at e; cases e
 refine I.step (g':=s.gens) (d':=s.drawn) (t':=s.toks) (h':=s.heap) (ch:=[D]) (λb hb=>?_) (λb o _ _ _ e _=>e) (λb o _ _ _ e _=>⟨o.slots,e⟩) (λb o hc _ n=>?_) (λb o _ e=>⟨o,e⟩)
  (λb xs e=>by rw [aF (ne b _ e)]; exact e) (λb o v e=>by rw [aF (ne b _ e)]; exact e) (λb ps e=>⟨#[],by rw [aF (ne b _ e),e]; simp⟩) (λ_ h=>h) (λb v e=>?_) I.bare
 ·have e:b=D:=by simpa using hb
  subst e
  exact ⟨.inr h1,hL,h2,h3⟩
 ·rw [aF (by simpa using hc)]; exact n
 ·by_cases hb:b=D
  ·subst hb
   rw [aB] at e; cases e
   exact new
  ·rw [aF hb] at e
   exact (I.hok b v e).stay (λc v _ q=>q) (λc q=>by rw [aF (ne c _ q)]; exact q) λc xs q=>by rw [aF (ne c _ q)]; exact q
end
def Itz (K:Rc) (k1 k2:Sk) (a b:Addr):It :=
 ⟨λi H => ∃ xs ys x y, SqK k1 K H a xs /\ SqK k2 K H b ys /\ xs[i]? = some x /\ ys[i]? = some y,
  λi H v H'=>∃ p,H p=none/\v=.ref p/\∀ xs ys,SqK k1 K H a xs->SqK k2 K H b ys->∃ x y,xs[i]?=some x/\ys[i]?=some y/\H'=upd H p (.tup [x,y]),
  λi H=>∃ xs ys,SqK k1 K H a xs/\SqK k2 K H b ys/\min xs.length ys.length=i⟩
theorem aDy {x1} (k1 k2:Sk) (a b z TI TO i1 i2:Addr) (D:∀ l1 l2:Addr,(∀ c∈[z,TI,TO,i1,i2],l1≠c)->(∀ c∈[z,TI,TO,i1,i2],l2≠c)->ZipApart z TI TO i1 i2 l1 l2) :
  Turn P w K (.Tuple es x1 pos) (Itz K k1 k2 a b) [z,TI,TO,i1,i2] z (λi h=>IsZip h z TI TO .none/\IsPair h TI (.ref i1) (.ref i2)/\(∃ x y,IsPair h TO x y)/\ItK k1 h i1 a i/\ItK k2 h i2 b i) where
 mem:=by simp
 obj:=λi h st c hc=>by
  obtain ⟨hz,hTI,⟨x,y,hTO⟩,h1,h2⟩:=st
  simp only [Qm,Qt,or_false] at hc
  rcases hc with rfl | rfl | rfl | rfl | rfl
  ·exact ⟨_,hz,λv q=>by cases q⟩
  ·exact ⟨_,hTI,λv q=>by cases q⟩
  ·exact ⟨_,hTO,λv q=>by cases q⟩
  ·exact h1.obj
  ·exact h2.obj
 keep:=λi h h' st k=>by
  obtain ⟨hz,hTI,⟨x,y,hTO⟩,h1,h2⟩:=st
  exact ⟨k z (by simp) _ hz,k TI (by simp) _ hTI,⟨x,y,k TO (by simp) _ hTO⟩,h1.at λo e=>k i1 (by simp) o e,h2.at λo e=>k i2 (by simp) o e⟩
 item:=by
  intro X hP hw hK hc i pins s σ H E I hf st hg
  subst hP hw hK
  obtain ⟨hz,hTI,⟨x0,y0,hTO⟩,h1,h2⟩:=st
  obtain ⟨xs,ys,x,y,ha,hb,hx,hy⟩:=hg
  obtain ⟨its,rv,pa⟩:=I.seqK ha
  obtain ⟨jts,rw',pb⟩:=I.seqK hb
  obtain ⟨u,hu,ru⟩:=rv.get hx
  obtain ⟨v,hv,rv2⟩:=rw'.get hy
  have na:∀ c∈[z,TI,TO,i1,i2],a≠c:=λc hc'=>I.seq_ne ha (hf c hc')
  have nb:∀ c∈[z,TI,TO,i1,i2],b≠c:=λc hc'=>I.seq_ne hb (hf c hc')
  have DD:=D a b na nb
  have hT:s.TypeIs (.ref z) "zip" := ⟨_,hz,rfl⟩
  have hi1:i < its.toArray.size:=by rw [Ql]; exact (Qd.mp hu).1
  have hi2:i < jts.toArray.size:=by rw [Ql]; exact (Qd.mp hv).1
  unfold pyNext
  refine Ra (Ta (Rg (name:=Str.ofString "__next__") hT Ru (Rh Ru hT Uq
   (xU DD (tR k1 X.prog X.w i1 a its.toArray (na i1 (by simp))) (tR k2 X.prog X.w i2 b jts.toArray (nb i2 (by simp))) hz (.inl rfl) hTI hTO ⟨h1,pa⟩ ⟨h2,pb⟩ hi1 hi2 λh' u' v' f0 f1 nf pu pv _ hz' hTO' s1 s2 hT' _ kp=>Rb ?_) (Uk _))))
  obtain ⟨rfl,rfl⟩:=nf rfl
  obtain ⟨_,_,hTO'⟩:=hTO'
  have eu:u'=u:=by
   have q:its[i]?=some u':=by simpa using pu
   rw [hu] at q
   exact (Option.some.inj q).symm
  have ev:v'=v:=by
   have q:jts[i]?=some v':=by simpa using pv
   rw [hv] at q
   exact (Option.some.inj q).symm
  subst eu ev
  refine ⟨_,rfl,wpAny_letOwnedTupleGo_zip hz' λh2 hz2 sb2=>?_⟩
  have Tz:s.heap.objs.size≠z:=Xw (Qp hz)
  have hT2:IsPair h2 s.heap.objs.size u' v':=sb2.extBut _ _ Tz hT'
  have hf0:=I.hok.fresh (Qg s.heap.objs.size)
  have fz:=I.fpOk (Qg s.heap.objs.size) hf0
  have I2:Inv X pins σ H { s with heap:=h2 }:=by
   refine I.turnedL (t':=s.toks) [z,TO,i1,i2] (λc o hc' e=>?_) (λc hc'=>hf c ?_)
   ·simp only [Qm,Qt,or_false,not_or] at hc'
    exact sb2.extBut _ _ hc'.1 (kp c o hc'.1 hc'.2.1 hc'.2.2.1 hc'.2.2.2 e)
   ·simp only [Qm,Qt,or_false] at hc' ⊢
    rcases hc' with r | r | r | r
    ·exact .inl r
    ·exact .inr (.inr (.inl r))
    ·exact .inr (.inr (.inr (.inl r)))
    ·exact .inr (.inr (.inr (.inr r)))
  have I3:Inv X pins σ (upd H s.heap.objs.size (.tup [x,y])) { s with heap:=h2 }:=by
   refine I2.trackO (show bL X.prog X.w _ _ _ (.tup [x,y]) from ⟨by show 2<=sizeLine; rw [Rf]; decide,[u',v'],0,.cons ru (.cons rv2 .nil),hT2⟩) hf0 fz.2.1 I.sz fz.2.2.2.2.1 fz.2.2.2.2.2
  refine ⟨.ref s.heap.objs.size,_,I3,rfl,⟨s.heap.objs.size,hf0,rfl,λxs' ys' ha' hb'=>?_⟩,⟨hz2,sb2.extBut _ _ DD.TIz (kp _ _ DD.TIz DD.TITO DD.TIi1 DD.TIi2 hTI),⟨_,_,sb2.extBut _ _ DD.TOz hTO'⟩,s1.1.at λo e=>sb2.extBut _ _ DD.i1z e,s2.1.at λo e=>sb2.extBut _ _ DD.i2z e⟩,λc hc'=>?_⟩
  ·rw [I.seqK_inj ha' ha,I.seqK_inj hb' hb]
   exact ⟨x,y,hx,hy,rfl⟩
  ·have cl:c≠s.heap.objs.size:=by
    obtain ⟨o,e⟩:∃ o,s.heap.get? c=some o:=by
     simp only [Qm,Qt,or_false] at hc'
     rcases hc' with rfl | rfl | rfl | rfl | rfl
     ·exact ⟨_,hz⟩
     ·exact ⟨_,hTI⟩
     ·exact ⟨_,hTO⟩
     ·obtain ⟨o,e,_⟩:=h1.obj; exact ⟨o,e⟩
     ·obtain ⟨o,e,_⟩:=h2.obj; exact ⟨o,e⟩
    exact Ja (Qp e)
   rw [aF cl]
   exact (hf c hc').1
 done:=by
  intro X hP hw hK hc i pins s σ H E I hf st hg
  subst hP hw hK
  obtain ⟨hz,hTI,⟨x0,y0,hTO⟩,h1,h2⟩:=st
  obtain ⟨xs,ys,ha,hb,hmin⟩:=hg
  obtain ⟨its,rv,pa⟩:=I.seqK ha
  obtain ⟨jts,rw',pb⟩:=I.seqK hb
  have la:=rv.length
  have lb:=rw'.length
  have na:∀ c∈[z,TI,TO,i1,i2],a≠c:=λc hc'=>I.seq_ne ha (hf c hc')
  have nb:∀ c∈[z,TI,TO,i1,i2],b≠c:=λc hc'=>I.seq_ne hb (hf c hc')
  have DD:=D a b na nb
  have hT:s.TypeIs (.ref z) "zip" := ⟨_,hz,rfl⟩
  unfold pyNext
  refine Ra (Ta (Rg (name:=Str.ofString "__next__") hT Ru (Rh Ru hT Uq
   (aBl (I.ok.hd hc) DD (tR k1 X.prog X.w i1 a its.toArray (na i1 (by simp))) (tR k2 X.prog X.w i2 b jts.toArray (nb i2 (by simp))) hz (.inl rfl) hTI hTO ⟨h1,pa⟩ ⟨h2,pb⟩ (by rw [Ql,Ql]; omega) λh' e kp he=>?_) (Uk _))))
  obtain ⟨oe,hoe,hce⟩:=he
  refine Ra (Tu (T := "StopIteration") (b:=true) ⟨oe,hoe,hce⟩ Uz (Rb ⟨rfl,?_⟩))
  refine I.turnedL (t':=s.toks) [z,TO,i1,i2] (λc o hc' e=>?_) (λc hc'=>hf c ?_)
  ·simp only [Qm,Qt,or_false,not_or] at hc'
   exact kp c o hc'.1 hc'.2.1 hc'.2.2.1 hc'.2.2.2 e
  ·simp only [Qm,Qt,or_false] at hc' ⊢
   rcases hc' with r | r | r | r
   ·exact .inl r
   ·exact .inr (.inr (.inl r))
   ·exact .inr (.inr (.inr (.inl r)))
   ·exact .inr (.inr (.inr (.inr r)))
 self:=λ_ _ _ _ _ st h=>Vd st.1 h
abbrev zh1 (k1:Sk) (h:Heap) (a:Addr):Heap:=h.push (itK k1 a)
abbrev zh2 (k1 k2:Sk) (h:Heap) (a b:Addr):Heap:=(zh1 k1 h a).push (itK k2 b)
abbrev zh3 (k1 k2:Sk) (h:Heap) (a b:Addr):Heap:=(zh2 k1 k2 h a b).push { cls:=.type "tuple",data:=.seq #[.ref h.objs.size,.ref (zh1 k1 h a).objs.size] }
abbrev zh4 (k1 k2:Sk) (h:Heap) (a b:Addr):Heap:=(zh3 k1 k2 h a b).push { cls:=.type "tuple",data:=.seq #[.none,.none] }
abbrev zh5 (k1 k2:Sk) (h:Heap) (a b:Addr):Heap:=(zh4 k1 k2 h a b).push { cls:=.type "zip",data:=.fields #[.none,.bool false,.bool false,.ref (zh2 k1 k2 h a b).objs.size,.ref (zh3 k1 k2 h a b).objs.size] }
theorem xW (k1 k2:Sk) (a b:Addr) (xs ys:Array Value) :
  Meets (Builtin.«zip.__new__» ⟨[.type "zip",.ref a,.ref b],[]⟩) (λ_ R s=>AtK k1 s.heap a xs/\AtK k2 s.heap b ys/\R (.ok (.ret (.ref (zh4 k1 k2 s.heap a b).objs.size))) { s with heap:=zh5 k1 k2 s.heap a b }) :=
 .of_wp λprog w A R s h=>by
  obtain ⟨hp,g,d,tk,os⟩:=s
  obtain ⟨hl1,hl2,h⟩:=h
  have hsub:=sub_zip
  have hA:AtK k1 (Shared.heap ⟨hp,g,d,tk,os⟩) a xs:=hl1
  have hB:AtK k2 (Shared.heap ⟨hp.push (itK k1 a),g,d,tk,os⟩) b ys:=AtK.at hl2 λo e=>Qa _ e
  wp_walk using xV hA,xV hB
  exact ⟨_,rfl,h⟩
def aHG (K:Rc) (k1 k2:Sk) (ta:TA):TI:=λσ H R=>ta σ H λvs H1=>∃ a b xs ys,vs = [.ref a,.ref b]/\SqK k1 K H1 a xs/\SqK k2 K H1 b ys/\R (Itz K k1 k2 a b) H1
theorem rN (k1 k2:Sk) {a b:Expr} {ta:TA} (hg:Gl X "zip") (hm:X.mg "zip" = none) (ha:PA X [a,b] ta) (hs:starEach [a,b] X.env = [(false,eval a X.env),(false,eval b X.env)]:=by rfl) (hs2:starEach [b] X.env = [(false,eval b X.env)]:=by rfl) :
  PI X (.Tuple es x1 tpos) (.Call (.Name "zip" p) [a,b] [] pos) (aHG X.K k1 k2 ta):=by
 intro pins s σ H R I h
 refine Call_ (iL (u:=.type "zip") I hg hm (by decide +kernel) (PyProof.Rows.callWith_type1 (thn (ha pos pins s σ H _ I h) λus s1 hx9=>?_) (by rw [hs,hs2]) (by rw [hs2]; rfl)))
 obtain ⟨vs,H1,I1,r1,q1⟩:=hx9
 obtain ⟨l1,l2,xs,ys,rfl,hA,hB,q⟩:=q1
 obtain ⟨u1,u2,rfl,r1',r2'⟩:=nM r1
 cases r1'
 cases r2'
 obtain ⟨its,rv,pa⟩:=I1.seqK hA
 obtain ⟨jts,rw',pb⟩:=I1.seqK hB
 refine Vu My (by decide) (Mi _ _) (Mn _ _) (λobj=>Iw obj _ _) Mp (xW k1 k2 l1 l2 its.toArray jts.toArray) ⟨pa,pb,?_⟩
 have n1:(zh1 k1 s1.heap l1).objs.size=s1.heap.objs.size+1:=Jo ..
 have n2:(zh2 k1 k2 s1.heap l1 l2).objs.size=s1.heap.objs.size+2:=by rw [Jo,n1]
 have n3:(zh3 k1 k2 s1.heap l1 l2).objs.size=s1.heap.objs.size+3:=by rw [Jo,n2]
 have n4:(zh4 k1 k2 s1.heap l1 l2).objs.size=s1.heap.objs.size+4:=by rw [Jo,n3]
 have g5:IsZip (zh5 k1 k2 s1.heap l1 l2) (zh4 k1 k2 s1.heap l1 l2).objs.size (zh2 k1 k2 s1.heap l1 l2).objs.size (zh3 k1 k2 s1.heap l1 l2).objs.size .none:=Qh _ rfl
 have g4:IsPair (zh5 k1 k2 s1.heap l1 l2) (zh3 k1 k2 s1.heap l1 l2).objs.size .none .none:=Qa _ (Qh _ rfl)
 have g3:IsPair (zh5 k1 k2 s1.heap l1 l2) (zh2 k1 k2 s1.heap l1 l2).objs.size (.ref s1.heap.objs.size) (.ref (zh1 k1 s1.heap l1).objs.size):=Qa _ (Qa _ (Qh _ rfl))
 have g2:ItK k2 (zh5 k1 k2 s1.heap l1 l2) (zh1 k1 s1.heap l1).objs.size l2 0:=(ItK.new k2 (zh1 k1 s1.heap l1) l2).at λo e=>Qa _ (Qa _ (Qa _ e))
 have g1:ItK k1 (zh5 k1 k2 s1.heap l1 l2) s1.heap.objs.size l1 0:=(ItK.new k1 s1.heap l1).at λo e=>Qa _ (Qa _ (Qa _ (Qa _ e)))
 have kp:∀ c o,s1.heap.get? c=some o->(zh5 k1 k2 s1.heap l1 l2).get? c=some o:=λc o e=>Qa _ (Qa _ (Qa _ (Qa _ (Qa _ e))))
 refine ⟨⟨_,g5,rfl⟩,Vd (f0:=.none) g5 ?_⟩
 rw [n1,n2,n3,n4] at *
 have I2:Inv X pins σ H1 { s1 with heap:=zh5 k1 k2 s1.heap l1 l2 }:=I1.kept (t':=s1.toks) kp
 refine ⟨s1.heap.objs.size+4,[s1.heap.objs.size+4,s1.heap.objs.size+2,s1.heap.objs.size+3,s1.heap.objs.size,s1.heap.objs.size+1],_,_,H1,rfl,I2,aDy k1 k2 l1 l2 _ _ _ _ _ ?_,⟨g5,g3,⟨_,_,g4⟩,g1,g2⟩,λc hc=>?_,q⟩
 ·intro m1 m2 h1 h2
  have d:∀ i j:Nat,i≠j->s1.heap.objs.size+i≠s1.heap.objs.size+j:=λi j h=>by omega
  exact ⟨d 2 4 (by decide),d 3 4 (by decide),d 0 4 (by decide),d 1 4 (by decide),d 2 3 (by decide),d 2 0 (by decide),d 2 1 (by decide),d 3 0 (by decide),d 3 1 (by decide),d 0 1 (by decide),
   h1 _ (by simp),h1 _ (by simp),h1 _ (by simp),h1 _ (by simp),h2 _ (by simp),h2 _ (by simp),h2 _ (by simp),h2 _ (by simp)⟩
 ·have hc':s1.heap.objs.size<=c:=by
   simp only [Qm,Qt,or_false] at hc
   rcases hc with r | r | r | r | r
   ·rw [r]; exact Zb _ _
   ·rw [r]; exact Zb _ _
   ·rw [r]; exact Zb _ _
   ·rw [r]; exact Qg _
   ·rw [r]; exact Zb _ _
  exact I1.fpOk hc' (I1.hok.fresh hc')
open PySem.AutoSeq1 (wpAny_loadPart')
theorem mR (l b:Addr) (items items2:Array Value) (n n2:Nat) (dd dd2:Option Addr) (sl sl2:Array (Option Value)) (hc0:items.isEmpty=true) :
  Meets (Builtin.«tuple.__add__» ⟨[.ref l,.ref b],[]⟩) (λ_ R s=>s.heap.get? l=some { cls:=.type "tuple",dict:=dd,data:=.seq items n,slots:=sl }/\s.heap.get? b=some { cls:=.type "tuple",dict:=dd2,data:=.seq items2 n2,slots:=sl2 }/\R (.ok (.ret (Value.ref b))) s) :=
 .of_wp λprog w A R s h=>by
  obtain ⟨hp,g,d,tk,os⟩:=s
  obtain ⟨hl,hb,h⟩:=h
  have f1:=AutoSeq1.idx_int
  have f2:=AutoSeq1.sub_tuple_tuple
  wp_walk using Rn hl,Rn hb
  exact ⟨_,rfl,h⟩
theorem aE7:OpR X (binaryOp .Add) (λx y H Q=>∃ a b xs ys,x=.ref a/\y=.ref b/\SqT X.K H a xs/\SqT X.K H b ys/\xs.length+ys.length<=sizeLine/\∀ p H',aE H H'->SqT X.K H' p (xs++ys)->Q (.ref p) H'):=by
 intro pins s σ H x y v u Q I rx ry h
 obtain ⟨a,b,xs,ys,rfl,rfl,ha,hb,hz,q⟩:=h
 by_cases hx:xs = []
 ·subst hx
  cases rx
  cases ry
  obtain ⟨its,r1,⟨⟨cls,dd,data,sl⟩,ho,hc,n,hd⟩,_⟩:=I.tuple ha
  obtain ⟨its2,r2,⟨⟨cls2,dd2,data2,sl2⟩,ho2,hc2,n2,hd2⟩,_⟩:=I.tuple hb
  simp only at hc hd hc2 hd2
  subst hc hd hc2 hd2
  cases r1
  exact Iz ⟨_,ho,rfl⟩ ⟨_,ho2,rfl⟩ Vs Ik Up Uj (Ug _ _)
   (mR a b _ _ n n2 dd dd2 sl sl2 rfl) ⟨ho,ho2,⟨.ref b,H,I,rfl,q b H (aE.refl H) hb⟩⟩
 ·refine aBh pins s σ H _ _ v u Q I rx ry ⟨a,b,xs,ys,rfl,rfl,ha,hb,hx,hz,λe=>?_,λe p hp=>?_⟩
  ·subst e
   exact q a H (aE.refl H) (by rw [Zk]; exact ha)
  ·exact q p _ (aE.new hp) (SqT.of aB)
theorem mP {t:Addr} {lo:Option Int} (ht:IsTup s.heap t items) (hs:s.heap.IsSliceOf sl vl vu .none) (pl:IsPart vl lo) (pu:IsPart vu hi) (hw:HT.sIx items.size 0 lo=0/\HT.sIx items.size items.size hi=items.size) (h:Q (.ref t) s):wpAny (model prog w) A (getItem (.ref t) (.ref sl)) Q E s:=by
 obtain ⟨os,hos,hcs,hds⟩:=id hs
 have hTs:s.TypeIs (.ref sl) "slice" := ⟨os,hos,hcs⟩
 unfold getItem
 try with_reducible refine Rm ?_
 first | refine Ra (Rb ?_) | skip
 refine Ra (Rau ht.typeIs (by decide) ?_)
 refine Ra (Rg (name:=Str.ofString "__getitem__") ht.typeIs PyProof.Rows.slot_tuple_getitem
  (Rh PyProof.Rows.slot_tuple_getitem ht.typeIs Rao ?_ (Rap _ _)))
 refine Ra (m:=Builtin.Tuple.tupleItemsOf (.ref t)) (tupleItemsOf_ ht ?_)
 refine Ra (Vh hTs ?_)
 rw [if_pos (by decide)]
 refine Ra (HT.sliceApplied_gen hs pl pu ?_)
 have hyes:(((HT.sIx items.size 0 lo:Nat):Int)==0 && (1:Int)==1 && (HT.sIx items.size items.size hi - HT.sIx items.size 0 lo)==items.size)=true:=by
  rw [hw.1,hw.2]; simp
 show wpAny _ _ (if (((HT.sIx items.size 0 lo:Nat):Int)==0 && (1:Int)==1 && (HT.sIx items.size items.size hi - HT.sIx items.size 0 lo)==items.size)=true then _ else _) _ _ s
 rw [if_pos hyes]
 unfold Builtin.Tuple.tupleIsExact
 refine Ra (Ra (Vh ht.typeIs (Rb ?_)))
 refine Tq (λ_=>Ra (Uh (Rb ⟨_,rfl,Rb h⟩))) (λhab=>absurd (by rfl) hab)
theorem aBm:SlR X (λx lo hi H Q=>∃ a xs,x=.ref a/\SqT X.K H a xs/\∀ p H',aE H H'->SqT X.K H' p (nN xs lo hi)->Q (.ref p) H'):=by
 intro pins s σ H x v vl vu lo hi sl Q I rx hs pl pu h
 obtain ⟨a,xs,rfl,hx,q⟩:=h
 by_cases hw:HT.sIx xs.length 0 lo=0/\HT.sIx xs.length xs.length hi=xs.length
 ·cases rx
  obtain ⟨its,r,ht,hz⟩:=I.tuple hx
  have hlen:its.toArray.size=xs.length:=by rw [Ql]; exact r.length.symm
  refine ⟨"tuple",_,PyProof.Rows.slot_tuple_getitem.lookup,ht.typeIs,?_⟩
  refine mP ht hs pl pu (by rw [hlen]; exact hw) ⟨.ref a,H,I,rfl,q a H (aE.refl H) ?_⟩
  have e:nN xs lo hi=xs:=by
   unfold nN
   rw [hw.1,hw.2,Wv,QaM,Jj]
  rw [e]; exact hx
 ·exact aGK pins s σ H _ v vl vu lo hi sl Q I rx hs pl pu ⟨a,xs,rfl,hx,hw,λp hp=>q p _ (aE.new hp) (SqT.of aB)⟩
theorem qM (xs:List V) (k:Nat):nN xs none (some (k:Int))=xs.take k:=by
 unfold nN
 rw [HT.sIx_none,HT.sIx_nat,Wv,QaM]
 by_cases h:k<=xs.length
 ·rw [Wj h]
 ·rw [Yg (by omega),Jm (Qg _),Jm (by omega)]
theorem mB (xs:List V) (k:Nat):nN xs (some (k:Int)) none=xs.drop k:=by
 unfold nN
 rw [HT.sIx_none,HT.sIx_nat]
 by_cases h:k<=xs.length
 ·rw [Wj h,Jm (by rw [Jq]; exact Qg _)]
 ·rw [Yg (by omega),Yp (Qg _),Yp (by omega),List.take_nil]
def qN (N frn:List Str) (fr:List Nat):Bool:=frn.length==fr.length && (frn.zip fr).all λy=>N[y.2]?==some y.1
theorem xX {sc:Scope} (h1:X.env.scope=sc) (h2:X.N=N) (cf:∀ z0,z=some z0->(∀ (n:Nat) (cl:List (Str×Addr)),cellsFrom n scope.names cl=(z0,n)::cl)/\∀ h:Heap,pushCells h scope.names=h.push { cls:=.type "cell",data:=.cell none }) (h:(jL sc scope z own frn && qN N frn fr)=true):CompOk X scope z own fr frn:=by
 rw [Ji] at h
 obtain ⟨ha,hb⟩:=h
 unfold qN at hb
 simp only [Ji,beq_iff_eq,Jr] at hb
 refine ⟨by rw [h1]; exact ha,λk x hk=>?_,hb.1.symm,cf⟩
 have hlt:k < fr.length:=by rw [<- hb.1]; exact (Qd.mp hk).1
 refine ⟨fr[k],Qc hlt,?_⟩
 have hm:(x,fr[k])∈frn.zip fr:=by
  refine Qj (i:=k) ?_
  rw [Js]
  exact ⟨hk,Qc hlt⟩
 rw [h2]
 exact hb.2 _ hm
theorem bD (sc:Scope) (N:List Str) (h1:X.env.scope=sc) (h2:X.N=N) (h:(jL sc scope none own frn && qN N frn fr)=true):CompOk X scope none own fr frn:=xX h1 h2 (λ_ q=>by cases q) h
section
variable {own:Nat} {σ:St} {Q:Hp->List V->Prop}
theorem vR {a0:α} {σ0:St} {Q:Hp->α->Prop} {tb:α->St->Hp->(α->St->Hp->Prop)->Prop} (n:Nat) (SH:St->Prop) (Pv:Nat->α->Hp->Prop) (hσ:SH σ0) (h0:Pv 0 a0 H) (hstop:∀ a H,Pv n a H->J.stop n H) (hgo:∀ i a H,i < n->Pv i a H->J.go i H) (hs:∀ i a σ x H H',i < n->SH σ->Pv i a H->J.yld i H x H'->g x σ H' λσ2 H2=>tt σ2 H2 λb H3=>if b=true then tb a σ2 H3 λa' σ3 H4=>SH σ3/\Pv (i+1) a' H4 else SH σ2/\Pv (i+1) a H3) (hd:∀ a H,Pv n a H->Q H a):Wlk J a0 σ0 H (λa _ H=>Q H a) g tt tb:=by
 refine ⟨λi m ys σ' H=>m=n - i/\i<=n/\SH σ'/\Pv i ys H,⟨n,by simp,Jn _,hσ,h0⟩,?_⟩
 rintro i m ys σ' H ⟨rfl,hi,sh,p⟩
 by_cases hlt:i < n
 ·refine .inr ⟨hgo i ys H hlt p,λys' σ2 H2=>SH σ2/\Pv (i+1) ys' H2,λys' σ2 H2 ⟨e,q⟩=>⟨n - (i+1),by omega,rfl,hlt,e,q⟩,λx H' y=>?_⟩
  exact hs i ys σ' x H H' hlt sh p y
 ·have e:i=n:=by omega
  subst e
  exact .inl ⟨hstop ys H p,hd ys H p⟩
theorem nT (n:Nat) (hn:n<=sizeLine) (SH:St->Prop) (Pv:Nat->List V->Hp->Prop) (hσ:SH (blk own fr σ)) (h0:Pv 0 [] H) (hlen:∀ i ys H,Pv i ys H->ys.length<=i)
  (hstop:∀ ys H,Pv n ys H->J.stop n H) (hgo:∀ i ys H,i < n->Pv i ys H->J.go i H)
  (hs:∀ i ys σ x H H',i < n->SH σ->Pv i ys H->J.yld i H x H'->ys.length < sizeLine->g x σ H' λσ2 H2=>tt σ2 H2 λb H3=>if b=true then te σ2 H3 λy H4=>ys.length < sizeLine/\SH σ2/\Pv (i+1) (ys++[y]) H4 else SH σ2/\Pv (i+1) ys H3)
  (hd:∀ ys H,Pv n ys H->Q H ys) :
  Wlk J [] (blk own fr σ) H (λys _ H=>Q H ys) g tt (tbL te) :=
 vR n SH Pv hσ h0 hstop hgo (λi ys σ x H H' hi sh p y=>hs i ys σ x H H' hi sh p y (by have:=hlen i ys H p; omega)) hd
theorem gY (SH:St->Prop) (Pv:Nat->List V->Hp->Prop) (hn:xs.length<=sizeLine) (hσ:SH (blk own fr σ)) (h0:Pv 0 [] H) (hlen:∀ i ys H,Pv i ys H->ys.length<=i) (hl:∀ i ys H,Pv i ys H->SqT K H a xs) (hs:∀ i ys σ x H,xs[i]?=some x->SH σ->Pv i ys H->ys.length < sizeLine->g x σ H λσ2 H2=>tt σ2 H2 λb H3=>if b=true then te σ2 H3 λy H4=>ys.length < sizeLine/\SH σ2/\Pv (i+1) (ys++[y]) H4 else SH σ2/\Pv (i+1) ys H3) (hd:∀ ys H,Pv xs.length ys H->Q H ys) :
  Wlk (Itt K a) [] (blk own fr σ) H (λys _ H=>Q H ys) g tt (tbL te):=by
 refine nT xs.length hn SH Pv hσ h0 hlen (λys H p=>⟨xs,hl _ _ _ p,Qg _⟩) (λi ys H hi p=>⟨xs,xs[i],hl _ _ _ p,Qc hi⟩) (λi ys σ x H H' hi sh p y hz=>?_) hd
 obtain ⟨e,y⟩:=y
 subst e
 exact hs i ys σ x _ (y xs (hl _ _ _ p)) sh p hz
theorem pC (SH:St->Prop) (Pv:Nat->List V->Hp->Prop) (hn:xs.length<=sizeLine) (hσ:SH (blk own fr σ)) (h0:Pv 0 [] H) (hlen:∀ i ys H,Pv i ys H->ys.length<=i) (hl:∀ i ys H,Pv i ys H->SqL K H a xs) (hs:∀ i ys σ x H,xs[i]?=some x->SH σ->Pv i ys H->ys.length < sizeLine->g x σ H λσ2 H2=>tt σ2 H2 λb H3=>if b=true then te σ2 H3 λy H4=>ys.length < sizeLine/\SH σ2/\Pv (i+1) (ys++[y]) H4 else SH σ2/\Pv (i+1) ys H3) (hd:∀ ys H,Pv xs.length ys H->Q H ys) :
  Wlk (Itl K a) [] (blk own fr σ) H (λys _ H=>Q H ys) g tt (tbL te):=by
 refine nT xs.length hn SH Pv hσ h0 hlen (λys H p=>⟨xs,hl _ _ _ p,Qg _⟩) (λi ys H hi p=>⟨xs,xs[i],hl _ _ _ p,Qc hi⟩) (λi ys σ x H H' hi sh p y hz=>?_) hd
 obtain ⟨e,y⟩:=y
 subst e
 exact hs i ys σ x _ (y xs (hl _ _ _ p)) sh p hz
theorem fP (SH:St->Prop) (Pv:Nat->List V->Hp->Prop) (hn:n<=sizeLine) (hσ:SH (blk own fr σ)) (h0:Pv 0 [] H) (hlen:∀ i ys H,Pv i ys H->ys.length<=i) (hs:∀ i ys σ H,i < n->SH σ->Pv i ys H->ys.length < sizeLine->g (.int (lo+i)) σ H λσ2 H2=>tt σ2 H2 λb H3=>if b=true then te σ2 H3 λy H4=>ys.length < sizeLine/\SH σ2/\Pv (i+1) (ys++[y]) H4 else SH σ2/\Pv (i+1) ys H3) (hd:∀ ys H,Pv n ys H->Q H ys) :
  Wlk (Itr lo n) [] (blk own fr σ) H (λys _ H=>Q H ys) g tt (tbL te):=by
 refine nT n hn SH Pv hσ h0 hlen (λys H p=>Qg _) (λi ys H hi p=>hi) (λi ys σ x H H' hi sh p y hz=>?_) hd
 obtain ⟨e,y⟩:=y
 subst e y
 exact hs i ys σ _ hi sh p hz
theorem xY (SH:St->Prop) (Pv:Nat->List V->Hp->Prop) (hn:xs.length<=sizeLine) (heq:xs.length=ys.length) (hσ:SH (blk own fr σ)) (h0:Pv 0 [] H) (hlen:∀ i zs H,Pv i zs H->zs.length<=i) (hl:∀ i zs H,Pv i zs H->SqK k1 K H a xs/\SqK k2 K H b ys) (hs:∀ i zs σ x y p H,xs[i]?=some x->ys[i]?=some y->SH σ->Pv i zs H->H p=none->zs.length < sizeLine->g (.ref p) σ (upd H p (.tup [x,y])) λσ2 H2=>tt σ2 H2 λc H3=>if c=true then te σ2 H3 λy H4=>zs.length < sizeLine/\SH σ2/\Pv (i+1) (zs++[y]) H4 else SH σ2/\Pv (i+1) zs H3) (hd:∀ zs H,Pv xs.length zs H->Q H zs) :
  Wlk (Itz K k1 k2 a b) [] (blk own fr σ) H (λys _ H=>Q H ys) g tt (tbL te):=by
 refine nT xs.length hn SH Pv hσ h0 hlen (λzs H p=>⟨xs,ys,(hl _ _ _ p).1,(hl _ _ _ p).2,by rw [<- heq,QaN]⟩) (λi zs H hi p=>⟨xs,ys,xs[i],ys[i]'(by omega),(hl _ _ _ p).1,(hl _ _ _ p).2,Qc hi,Qc (by omega)⟩) (λi zs σ v H H' hi sh p y hz=>?_) hd
 obtain ⟨q,hq,rfl,hy⟩:=y
 obtain ⟨x,y,h1,h2,rfl⟩:=hy xs ys (hl _ _ _ p).1 (hl _ _ _ p).2
 exact hs i zs σ x y q H h1 h2 sh p hq hz
end
def aHH (i j:Int):Prop:=0 < j/\j < 1267650600228229401496703205376
theorem aDz:OpR X (binaryOp .FloorDiv) (rI aHH λi j=>.int (i / j)):=opI λi j _ _ _ _ _ hc q=>by
 have h1:(0:Int) < j:=hc.1
 have h2:j < 1267650600228229401496703205376:=hc.2
 refine floordiv_int (by omega) (by rw [Wm i (by omega)]; exact q) (.inl (PyProof.noPylong_of_log2 ?_))
 have h3:j.natAbs.log2 < 100:=(Nat.log2_lt (by omega)).mpr (by omega)
 omega
theorem xZ {f g:α->Option β}:∀ {l:List α},(∀ x∈l,f x=g x)->l.filterMap f=l.filterMap g
 | [],_=>rfl
 | x::r,h=>by rw [Zp,Zp,h x (Qi ..),xZ λy hy=>h y (Qk _ hy)]
theorem aDA (xs:Array Value):((List.range xs.size).filterMap λ(k:Nat)=>xs[((xs.size:Int) - 1+(k:Int)*(-1)).toNat]?).toArray=xs.toList.reverse.toArray:=by
 have h:=HT.pick_gen xs.toList.reverse.toArray 0 xs.size
 have e:(List.range xs.size).filterMap (λ(k:Nat)=>xs[((xs.size:Int) - 1+(k:Int)*(-1)).toNat]?)=(List.range xs.size).filterMap (λ(m:Nat)=>xs.toList.reverse.toArray[(((0:Nat):Int)+(m:Int)*1).toNat]?):=by
  refine xZ λk hk=>?_
  have hk':=Jf.mp hk
  have h1:((xs.size:Int) - 1+(k:Int)*(-1)).toNat=xs.size - 1 - k:=by omega
  have h2:(((0:Nat):Int)+(k:Int)*1).toNat=k:=by omega
  rw [h1,h2]
  simp only [List.getElem?_toArray]
  rw [List.getElem?_reverse (by simpa using hk')]
  simp
 rw [e,h]
 congr 1
 rw [Wv,Jm (by simp)]
def Vw (S:List Addr) (H:Hp):Hp:=λb=>if b∈S then none else H b
theorem Vw.out {S:List Addr} (n:b∉S):Vw S H b=H b:=by unfold Vw; rw [if_neg n]
theorem Vw.keep {S:List Addr} (e:∀ b o,b∉S->H b=some o->H' b=some o):aE (Vw S H) (Vw S H'):=λb o h=>by
 by_cases z:b∈S
 ·unfold Vw at h; rw [if_pos z] at h; cases h
 ·rw [Vw.out z] at h ⊢; exact e b o z h
theorem Vw.same {S:List Addr} (e:aE H H'):aE (Vw S H) (Vw S H'):=Vw.keep λb o _ h=>e b o h
def Fx (S:List Addr) (H:Hp):Prop:=∀ b∈S,∃ xs,H b=some (.lst xs)
theorem Fx.same {S:List Addr} (f:Fx S H) (e:aE H H'):Fx S H':=λb hb=>let ⟨xs,h⟩:=f b hb; ⟨xs,e b _ h⟩
section
variable {S:List Addr}
def Dn (K:Rc) (S:List Addr) (H:Hp) (x:V):Prop:=∃ d,Den K (Vw S H) d x
def DT (K:Rc) (S:List Addr) (n:Nat) (H:Hp) (x:V):Prop:=∃ a xs,x=.ref a/\SqT K (Vw S H) a xs/\xs.length<=n/\∀ y∈xs,Dn K S H y
def II (_:Hp) (x:V):Prop:=∃ i,x=.int i
class Mo (R:Hp->V->Prop):Prop where
 mo:∀ {H H':Hp} {v:V},aE H H'->R H v->R H' v
theorem Dn.keep (h:Dn K S H x) (e:aE (Vw S H) (Vw S H')):Dn K S H' x:=let ⟨d,h⟩:=h; ⟨d,e.den _ _ h⟩
theorem Dn.same (h:Dn K S H x) (e:aE H H'):Dn K S H' x:=h.keep (Vw.same e)
theorem DT.keep (h:DT K S n H x) (e:aE (Vw S H) (Vw S H')):DT K S n H' x:=let ⟨a,xs,h1,h2,h3,h4⟩:=h; ⟨a,xs,h1,e.seqT h2,h3,λy hy=>(h4 y hy).keep e⟩
theorem DT.same (h:DT K S n H x) (e:aE H H'):DT K S n H' x:=h.keep (Vw.same e)
instance:Mo (Dn K S):=⟨λe h=>Dn.same h e⟩
instance {n:Nat}:Mo (DT K S n):=⟨λe h=>DT.same h e⟩
instance:Mo II:=⟨λ_ h=>h⟩
variable {σ:St} {R R':Hp->V->Prop} {tb:TE} {t:TA} {tl th:TO}
def aDB (K:Rc):R2:=λx y H Q=>∃ a b xs ys,x=.ref a/\y=.ref b/\SqT K H a xs/\SqT K H b ys/\xs.length+ys.length<=sizeLine/\∀ p H',aE H H'->SqT K H' p (xs++ys)->Q (.ref p) H'
theorem iQ (hK:X.K=K):OpR X (binaryOp .Add) (aDB K):=by subst hK; exact aE7
def aGP (K:Rc):V->Option Int->Option Int->Hp->VK->Prop:=λx lo hi H Q=>∃ a xs,x=.ref a/\SqT K H a xs/\∀ p H',aE H H'->SqT K H' p (nN xs lo hi)->Q (.ref p) H'
theorem gZ (hK:X.K=K):SlR X (aGP K):=by subst hK; exact aBm
instance {a:Addr} {xs:List V}:Mo (λH v=>v=.ref a/\SqT K H a xs):=⟨λe h=>⟨h.1,e.seqT h.2⟩⟩
instance {x:V}:Mo (λ_ v=>v=x):=⟨λ_ h=>h⟩
end
open PySem.AutoSeq1 (wpAny_loadPart')
theorem nf {b:Bool} (h:b=false):decide (b=true)=false:=by rw [h]; rfl
theorem nt {b:Bool} (h:b=true):decide (b=true)=true:=by rw [h]; rfl
theorem lI (l:Addr) (items:Array Value) (n:Nat) (dd:Option Addr) (sl:Array (Option Value)) (x:Int) (u:Tok) (h1:1 < x) (h2:x<=1000) (hne:items.isEmpty=false) (hz:items.size<=1000) :
  Meets (Builtin.«tuple.__mul__» ⟨[.ref l,.int x u],[]⟩) (λ_ R s=>s.heap.get? l=some { cls:=.type "tuple",dict:=dd,data:=.seq items n,slots:=sl }/\R (.ok (.ret (Value.ref s.heap.objs.size))) { s with heap:=s.heap.push { cls:=Value.type "tuple",data:=Data.seq (List.foldl (λx1 x2=>x1++x2) #[] (List.replicate x.toNat items)) },toks:=s.toks }) :=
 .of_wp λprog w A R s h=>by
  obtain ⟨hp,g,d,tk,os⟩:=s
  obtain ⟨hl,h⟩:=h
  have f1:=AutoSeq1.idx_int
  have f2:=AutoSeq1.sub_tuple_tuple
  wp_walk using Rn hl
  refine Uu (nf (show (decide (x < -2^63) || decide (x≥2^63))=false from by rw [decide_eq_false (show ¬ x < -2^63 by omega),decide_eq_false (show ¬ x≥2^63 by omega)]; rfl)) ?_
  wp_walk using Rn hl
  refine Uu (nf (show (items.isEmpty || x==1)=false from by rw [hne,beq_eq_false_iff_ne.mpr (show x≠1 by omega)]; rfl)) ?_
  wp_walk using Rn hl
  refine Uu (nf (show (decide (x<=0) || items.isEmpty)=false from by rw [hne,decide_eq_false (show ¬ x<=0 by omega)]; rfl)) ?_
  wp_walk using Rn hl
  have hm:(items.size:Int)*x<=1000*1000:=Int.mul_le_mul (by omega) h2 (by omega) (by omega)
  refine Uu (decide_eq_false (show ¬ (items.size:Int)*x > (2^63 - 1) / 8 by omega)) ?_
  wp_walk using Rn hl
  refine Uu (nf (show decide ((items.size:Int)*x > (sizeLine:Int))=false from decide_eq_false (by rw [Rf]; omega))) ?_
  have hsz:¬ (List.foldl (λx1 x2=>x1++x2) #[] (List.replicate x.toNat items)).size > sizeLine:=by
   have e:=jJ items.toList x.toNat []
   rw [Zl] at e
   have e2:List.foldl (λx1 x2=>x1++x2) #[] (List.replicate x.toNat items)=(List.replicate x.toNat items.toList).flatten.toArray:=e
   rw [e2,Ql,qL,Array.length_toList,Rf]
   have:x.toNat*items.size<=1000*1000:=Qaw (by omega) hz
   omega
  wp_walk using Rn hl
  exact ⟨_,rfl,h⟩
theorem rO (l:Addr) (items:Array Value) (n:Nat) (dd:Option Addr) (sl:Array (Option Value)) (x:Int) (u:Tok) (h1:1 < x) (h2:x<=1000) (hne:items.isEmpty=true) :
  Meets (Builtin.«tuple.__mul__» ⟨[.ref l,.int x u],[]⟩) (λ_ R s=>s.heap.get? l=some { cls:=.type "tuple",dict:=dd,data:=.seq items n,slots:=sl }/\R (.ok (.ret (Value.ref l))) s) :=
 .of_wp λprog w A R s h=>by
  obtain ⟨hp,g,d,tk,os⟩:=s
  obtain ⟨hl,h⟩:=h
  have f1:=AutoSeq1.idx_int
  have f2:=AutoSeq1.sub_tuple_tuple
  wp_walk using Rn hl
  refine Uu (nf (show (decide (x < -2^63) || decide (x≥2^63))=false from by rw [decide_eq_false (show ¬ x < -2^63 by omega),decide_eq_false (show ¬ x≥2^63 by omega)]; rfl)) ?_
  wp_walk using Rn hl
  exact ⟨_,rfl,h⟩
theorem gM:fillsNumberSlot (.type "tuple") "mul" = pure false :=
 PySem.fillsNumberSlot_seq (id := "tuple.__mul__") (r:=some (.builtin "tuple.__rmul__")) PySem.F.slot_tuple_mul.lookup (by decide +kernel) PySem.F.slot_tuple_rmul.lookup (by decide +kernel)
theorem jZ:seqRepeat? (.type "tuple")=pure (some (.builtin "tuple.__mul__")):=by
 unfold seqRepeat?
 rw [Rac (T := "tuple") (name := "__mul__") (id := "tuple.__mul__") PySem.F.slot_tuple_mul.lookup (by decide +kernel),Rac (T := "tuple") (name := "__rmul__") (id := "tuple.__rmul__") PySem.F.slot_tuple_rmul.lookup (by decide +kernel)]
 rfl
theorem iR (a:Int) (t:Tok) (l:Addr) (items:Array Value) (n:Nat) (dd:Option Addr) (sl:Array (Option Value)) :
  Meets (Builtin.«int.__rmul__» ⟨[.int a t,.ref l],[]⟩) (λ_ R s=>s.heap.get? l=some { cls:=.type "tuple",dict:=dd,data:=.seq items n,slots:=sl }/\R (.ok (.ret Value.notImplemented)) s) :=
 .of_wp λprog w A R s h=>by
  obtain ⟨hp,g,d,tk,os⟩:=s
  obtain ⟨hl,h⟩:=h
  wp_walk using Rn hl
  exact ⟨_,rfl,h⟩
def aHI (K:Rc):R2:=λx y H Q=>∃ a k xs,x=.ref a/\y=.int k/\SqT K H a xs/\1 < k/\k<=1000/\xs.length<=1000/\∀ p H',aE H H'->SqT K H' p (List.replicate k.toNat xs).flatten->Q (.ref p) H'
theorem aE8 (hK:X.K=K):OpR X (binaryOp .Mult) (aHI K):=by
 subst hK
 intro pins s σ H x y v u Q I rx ry h
 obtain ⟨a,k,xs,rfl,rfl,ha,h1,h2,hz,q⟩:=h
 cases rx
 obtain ⟨t,rfl⟩:=ry
 obtain ⟨its,r,⟨⟨cls,dd,data,sl⟩,ho,hc,n,hd⟩,hzz⟩:=I.tuple ha
 simp only at hc hd
 subst hc hd
 have hl:=r.length
 refine Um (T := "tuple") (U := "int") (by decide) ⟨_,ho,rfl⟩ (λs'=>Uw s' k t) gM Vm Ti jZ PySem.F.slot_int_index.lookup
  (Tc Ti (Uw s k t) Vl (Vi _ _) (iR k t a its.toArray n dd sl) ⟨ho,rfl,⟨_,ho,rfl⟩,?_⟩)
 by_cases hx:xs = []
 ·subst hx
  cases r
  refine Tc PySem.F.slot_tuple_mul ⟨_,ho,rfl⟩ Rz (Rv _ _) (rO a _ n dd sl k t h1 h2 rfl) ⟨ho,?_⟩
  exact ⟨.ref a,H,I,rfl,q a H (aE.refl H) (by rw [List.flatten_replicate_nil]; exact ha)⟩
 ·have hne:its.toArray.isEmpty=false:=by
   cases its with
   | nil=>cases r; exact absurd rfl hx
   | cons _ _=>rfl
  refine Tc PySem.F.slot_tuple_mul ⟨_,ho,rfl⟩ Rz (Rv _ _) (lI a its.toArray n dd sl k t h1 h2 hne (by rw [Ql]; omega)) ⟨ho,?_⟩
  have hnew:List.foldl (λx1 x2=>x1++x2) #[] (List.replicate k.toNat its.toArray)=(List.replicate k.toNat its).flatten.toArray:=by
   have:=jJ its k.toNat []
   rw [Zl] at this
   exact this
  rw [hnew]
  have hlen:(List.replicate k.toNat xs).flatten.length<=sizeLine:=by
   rw [qL,Rf]
   have:k.toNat*xs.length<=1000*1000:=Qaw (by omega) hz
   omega
  refine ⟨.ref _,_,I.laid (t':=s.toks) (o:=.tup (List.replicate k.toNat xs).flatten) (λb ob q=>Qa _ q) (Qg _) ?_,rfl,q _ _ (aE.new (I.hok.fresh (Qg _))) (SqT.of aB)⟩
  exact ⟨hlen,(List.replicate k.toNat its).flatten,0,r.rep k.toNat,Qh _ rfl⟩
section
variable {σ:St}
end
section
variable {S:List Addr} {E E':Hp->V->Prop}
def DTe (K:Rc) (S:List Addr) (E:Hp->V->Prop) (n:Nat) (H:Hp) (x:V):Prop:=∃ a xs,x=.ref a/\SqT K (Vw S H) a xs/\xs.length<=n/\∀ y∈xs,E H y
def LTe (S:List Addr) (E:Hp->V->Prop) (n:Nat) (H:Hp) (x:V):Prop:=∃ a xs,x=.ref a/\Vw S H a=some (.lst xs)/\xs.length<=n/\∀ y∈xs,E H y
instance {n:Nat} [m:Mo E]:Mo (DTe K S E n):=⟨λe ⟨a,xs,h1,h2,h3,h4⟩=>⟨a,xs,h1,(Vw.same e).seqT h2,h3,λy hy=>m.mo e (h4 y hy)⟩⟩
instance {n:Nat} [m:Mo E]:Mo (LTe S E n):=⟨λe ⟨a,xs,h1,h2,h3,h4⟩=>⟨a,xs,h1,Vw.same e _ _ h2,h3,λy hy=>m.mo e (h4 y hy)⟩⟩
variable {σ:St} {tb:TE} {t:TA} {tl th:TO}
end
section
variable {env:Env} {iW:List Expr} {k:Nat} {a b c:Expr}
end
theorem aAs {z0:Str} (sc:Scope) (N:List Str) (h1:X.env.scope=sc) (h2:X.N=N) (cf:∀ (n:Nat) (cl:List (Str×Addr)),cellsFrom n scope.names cl=(z0,n)::cl) (pc:∀ h:Heap,pushCells h scope.names=h.push { cls:=.type "cell",data:=.cell none }) (h:(jL sc scope (some z0) own frn && qN N frn fr)=true):CompOk X scope (some z0) own fr frn :=
 xX h1 h2 (λ_ q=>by cases q; exact ⟨cf,pc⟩) h
def aGQ (scope sc:Scope):Scope:={ scope with names:=scope.names.map λ(n,k)=>if (k==NameKind.free && sc.kind==.function && sc.names.lookup n==some .cell) then (n,NameKind.cell) else (n,k) }
theorem aCo (hc:X.calm=true):dF X (.builtin "min") (λxs H Q=>∃ (p:Addr) (ns:List Int),xs = [.ref p]/\SqL X.K H p (ns.map V.int)/\0 < ns.length/\∀ M,M∈ns->(∀ a∈ns,M<=a)->Q (.int M) H):=by
 intro pins s σ H xs us Q I r h
 obtain ⟨p,ns,rfl,hx,hne,q⟩:=h
 obtain ⟨u,rfl,rx⟩:=eX r
 cases rx
 obtain ⟨its,rv,pl,hz⟩:=I.list hx
 have hi:IntsAre its ns:=gK rv
 obtain ⟨xs,e⟩:=hi.allInts.items
 have hns:ns=xs.toList.map (·.1):=by
  rw [<- hi.numsOf,<- nums_intItems,<- e]
 have hsz:0 < xs.size:=by
  have h3:=hne; rw [hns,Qb,Array.length_toList] at h3; exact h3
 have hl:=pl.isList
 rw [e] at hl
 refine min_intList (I.ok.hd hc) hl hsz λv h' tk hv hk=>?_
 obtain ⟨t,rfl⟩:=intItems_at hv
 obtain ⟨h1,h2⟩:=Raq (numAt xs) (xs.size - 1)
 refine ⟨.int _,H,I.kept hk,⟨_,rfl⟩,q _ ?_ λa ha=>?_⟩
 ·rw [hns,numAt_eq]; exact getD_mem (by rw [Qb,Array.length_toList]; omega)
 ·rw [hns] at ha
  obtain ⟨j,hj,rfl⟩:=mem_getD ha
  rw [Qb,Array.length_toList] at hj
  rw [<- numAt_eq]; exact h2 j (by omega)
theorem aHJ:bootBuiltins "min" = some (.builtin "min"):=by decide +kernel
theorem aE9 {σ:St} (Pv:Nat->St->Hp->Prop) (heq:xs.length=ys.length) (h0:Pv 0 σ H) (hl:∀ i σ H,i<=xs.length->Pv i σ H->SqK k1 K H a xs/\SqK k2 K H b ys) (hs:∀ i x y p σ H,xs[i]?=some x->ys[i]?=some y->Pv i σ H->H p=none->g (.ref p) σ (upd H p (.tup [x,y])) λσ2 H2=>tb { D with nx:=Pv (i+1),ct:=Pv (i+1),bk:=D.nx } σ2 H2) (hd:∀ σ H,Pv xs.length σ H->D.nx σ H) :
  ∃ W:Nat->Nat->St->Hp->Prop,(∃ m,W 0 m σ H)/\∀ i m σ H,W i m σ H ->
   ((Itz K k1 k2 a b).stop i H/\D.nx σ H)∨((Itz K k1 k2 a b).go i H/\∃ N:St->Hp->Prop,(∀ σ' H',N σ' H'->∃ m',m' < m/\W (i+1) m' σ' H')/\∀ x H',(Itz K k1 k2 a b).yld i H x H'->g x σ H' λσ2 H2=>tb { D with nx:=N,ct:=N,bk:=D.nx } σ2 H2):=by
 refine ⟨λi m σ H=>m=xs.length - i/\i<=xs.length/\Pv i σ H,⟨xs.length,by simp,Jn _,h0⟩,?_⟩
 rintro i m σ H ⟨rfl,hi,p⟩
 obtain ⟨q1,q2⟩:=hl i σ H hi p
 by_cases hlt:i < xs.length
 ·refine .inr ⟨⟨xs,ys,xs[i],ys[i]'(by omega),q1,q2,Qc hlt,Qc (by omega)⟩,Pv (i+1),λσ' H' p'=>⟨xs.length - (i+1),by omega,rfl,hlt,p'⟩,λx H' y=>?_⟩
  obtain ⟨z,hz,rfl,hy⟩:=y
  obtain ⟨x,y,h1,h2,rfl⟩:=hy xs ys q1 q2
  exact hs i x y z σ _ h1 h2 p hz
 ·have e:i=xs.length:=by omega
  subst e
  exact .inl ⟨⟨xs,ys,q1,q2,by rw [<- heq,QaN]⟩,hd σ H p⟩
section
variable {cd:Value} {outer:List Env} {s0:Shared} {E:XK}
end
section
variable {g:Array GenState} {d:Drawn} {t:Nat}
end
section
variable {l:List Env} {E:XK} {T:Addr}
end
section
variable {σ:St} {E:XK} {e:Value} {F:Value->Shared->Prop} {L:Addr}
end
section
variable {g:Array GenState} {d:Drawn} {t:Nat} {C':Addr} {oe:Obj} {bm':List Value}
end
section
variable {k:Nat} {dvs:List V} {ds:List Value} {x:Str} {t:TA}
end
section
variable {a b:Expr} {tb:TE} {t:TA} {iW:List Stmt} {ts us:TS}
end
section
variable {Z:List Addr} {S:St->Prop} {a b:Expr} {d:PyData}
end
section
variable {l:Expr}
end
def mS:List Int->Nat
 | []=>0
 | k::r=>if k∈r then mS r else mS r+1
def nD (l:List Int):Nat:=mS l.reverse
theorem aCp (l:List Int) (k:Int):nD (l++[k])=if k∈l then nD l else nD l+1:=by
 unfold nD
 rw [Qay]
 show mS (k::l.reverse)=_
 simp only [mS,List.mem_reverse]
theorem rP:∀ l:List Int,mS l<=l.length
 | []=>Qg _
 | k::r=>by
  have:=rP r
  unfold mS
  split <;> simp <;> omega
theorem aFa (l:List Int):nD l<=l.length:=by
 have:=rP l.reverse
 rwa [Wk] at this
theorem pV:∀ l:List Int,mS l=l.length↔l.Nodup
 | []=>by simp [mS]
 | k::r=>by
  have h1:=pV r
  have h2:=rP r
  unfold mS
  rw [Xd,<- h1,Qx]
  by_cases hk:k∈r
  ·rw [if_pos hk]
   constructor
   ·intro h; omega
   ·intro h; exact absurd hk h.1
  ·rw [if_neg hk]
   constructor
   ·intro h; exact ⟨hk,by omega⟩
   ·intro h; omega
theorem aAt (l:List Int):nD l=l.length↔l.Nodup:=by
 have h:=pV l.reverse
 rw [Wk] at h
 unfold nD
 rw [h]
 unfold List.Nodup
 rw [List.pairwise_reverse]
 constructor <;> intro h <;> exact h.imp λz=>Ne.symm z
theorem aCq {S:Int->Bool} {k:Int} {t:Tok} {Q:Bool->Shared->Prop} (hS:s.heap.SetOf (intKind prog w) a S n) (hroom:n+1 < scanBound) (h:∀ h',Heap.SameBut a s.heap h'->h'.SetOf (intKind prog w) a (λk'=>S k' || decide (k'=k)) (if S k then n else n+1)->Q (!S k) { s with heap:=h',toks:=s.toks+1 }) :
  wpAny (model prog w) A (setAdd a (.int k t)) Q E s:=by
 have hkey:(intKind prog w).is k (.int k t)=true:=by simp [intKind,Value.isInt]
 unfold setAdd
 refine Ra ((intKind prog w).pyHash hkey ?_)
 exact wpAny_setAddHashed_of (s:={ s with toks:=s.toks+1 }) hkey rfl hS hroom λh' hsb hS'=>h h' hsb hS'
theorem aDC {wr:List Addr} {P:Nat->Value->Prop} {St:Nat->Heap->Prop} {Z:Nat->Heap->Prop} (W:Walks prog w A.in1 I fp wr ns.length P St) (hP:∀ i v,P i v->∃ k t,ns[i]?=some k/\v=.int k t) (hfp:∀ c∈fp,c≠S) (hwr:S∉wr) (kp:∀ i h h',Z i h->(∀ o,h.get? S=some o->h'.get? S=some o)->Z i h') (ad:∀ i k t {B:Around} {E':Value->Shared->Prop} {s':Shared} {Q':Bool->Shared->Prop},ns[i]?=some k->Z i s'.heap->(∀ h3 b,Heap.SameBut S s'.heap h3->Z (i+1) h3->Q' b { s' with heap:=h3,toks:=s'.toks+1 })->wpAny (model prog w) B (setAdd S (.int k t)) Q' E' s') :
  ∀ (j i:Nat) (s:Shared),i+j=ns.length->St i s.heap->Z i s.heap ->
   (∀ h' tk,Z ns.length h'->(∀ b o,b≠S->b∉wr->s.heap.get? b=some o->h'.get? b=some o)->R (.ok (.ret .none)) { s with heap:=h',toks:=tk }) ->
   codeAny (model prog w) A (.builtin "set.update.loop" ⟨[.ref S,.ref I],[]⟩) R s:=by
 intro j
 induction j with
 | zero =>
  intro i s hi st hS h
  obtain rfl:i=ns.length:=by omega
  exact xS W st λh' tk k=>h h' tk (kp _ _ _ hS λo e=>k S o hwr e) λb o _ hb e=>k b o hb e
 | succ j ih =>
  intro i s hi st hS h
  refine xR W (i:=i) (by omega) st λv h2 tk2 hv st2 k2=>?_
  obtain ⟨k,t,hk,rfl⟩:=hP i v hv
  refine ad i k t (s':={ s with heap:=h2,toks:=tk2 }) hk (kp _ _ _ hS λo e=>k2 S o hwr e) λh3 b sb hS3=>?_
  exact ih (i+1) _ (by omega) (W.frame _ _ _ st2 λc hc o e=>(sb.2 c (hfp c hc)).trans e) hS3 λh' tk hS' kp'=>h h' tk hS' λb o nb hb e=>kp' b o nb hb ((sb.2 b nb).trans (k2 b o hb e))
set_option maxHeartbeats 3200000 in
theorem rQ {l:Addr} {its:Array Value} {Z:Nat->Heap->Prop} (hh:A.handled=none) (hl:s.heap.IsList l its) (hi:IntsAre its.toList ns) (z0:∀ h:Heap,h.get? s.heap.objs.size=some { cls:=.type "set",dict:=none,data:=.set #[] 0 (.fresh 0 0 (Led w)) }->Z 0 h) (kp:∀ i h h',Z i h->(∀ o,h.get? s.heap.objs.size=some o->h'.get? s.heap.objs.size=some o)->Z i h') (ad:∀ i k t {B:Around} {E':Value->Shared->Prop} {s':Shared} {Q':Bool->Shared->Prop},ns[i]?=some k->Z i s'.heap->(∀ h3 b,Heap.SameBut s.heap.objs.size s'.heap h3->Z (i+1) h3->Q' b { s' with heap:=h3,toks:=s'.toks+1 })->wpAny (model prog w) B (setAdd s.heap.objs.size (.int k t)) Q' E' s') (h:∀ (h':Heap) (tk:Nat),Z ns.length h'->(∀ b o,b < s.heap.objs.size->s.heap.get? b=some o->h'.get? b=some o)->Q (.ref s.heap.objs.size) { s with heap:=h',toks:=tk }) :
  wpAny (model prog w) A (call (.type "set") [.ref l]) Q E s:=by
 obtain ⟨c,tl,hmro⟩:=PySem.F.called_set.mro
 have hmade:=PySem.F.called_set.made
 have hsub:=PySem.F.called_set.sub
 refine Iu (Vy ?_)
 show wpAny _ _ (callAny (.type "set") _) _ _ _
 refine Rb ⟨Code.quiet_builtin _ (by decide +kernel),Tf Me ?_⟩
 rw [Around.under_plain (Raf "set" [.ref l] []) rfl]
 have h1:=PySem.F.called_set.notType
 have h2:=PySem.F.called_set.canCreate
 have hct:=Mj (.ref l)
 repeat (any_goals (first | assumption | wp_step))
 refine Ul (lH (.ref l) (E:=E) (Q₁:=λobj s1x=>obj=.ref s.heap.objs.size/\s1x={ s with heap:=s.heap.push { cls:=.type "set",dict:=none,data:=.set #[] 0 (.fresh 0 0 (Led w)) } }) ⟨rfl,rfl⟩) λr s1x hr=>?_
 cases r with
 | error e=>exact hr
 | ok fl =>
  cases fl with
  | ret obj =>
   obtain ⟨rfl,rfl⟩:=hr
   generalize hled:Led w=led at z0 ⊢
   have hS:(s.heap.push { cls:=.type "set",dict:=none,data:=.set #[] 0 (.fresh 0 0 led) }).get? s.heap.objs.size=some { cls:=.type "set",dict:=none,data:=.set #[] 0 (.fresh 0 0 led) }:=Qh _ rfl
   have hT:Shared.TypeIs { s with heap:=s.heap.push { cls:=.type "set",dict:=none,data:=.set #[] 0 (.fresh 0 0 led) } } (.ref s.heap.objs.size) "set" := ⟨_,hS,rfl⟩
   have hli:=PySem.F.called_set.init.lookup
   have hbi:=PySem.F.called_set.init.bind (.ref s.heap.objs.size)
   repeat (any_goals (first | assumption | wp_step))
   refine Ul (Ig (R:=wants (λr s2x=>r=.none/\∃ h' tk,s2x={ s with heap:=h',toks:=tk }/\Z ns.length h' /\
     (∀ b o,b < s.heap.objs.size->s.heap.get? b=some o->h'.get? b=some o)) E) PySem.F.called_set.init.plain Mk (Ray hT ?_)) λr2x s2x hr2x=>?_
   ·obtain ⟨ol,hol,hcl,nl,hdl⟩:=hl
    obtain ⟨ocls,odict,odata,oslots⟩:=ol
    simp only at hcl hdl
    subst hcl; subst hdl
    have hol':(s.heap.push { cls:=.type "set",dict:=none,data:=.set #[] 0 (.fresh 0 0 led) }).get? l=some { cls:=.type "list",dict:=odict,data:=.seq its nl,slots:=oslots }:=Qa _ hol
    have hsls:=PySem.F.sub_list_set
    have hslf:=PySem.F.sub_list_frozenset
    have hne:(Value.type "list" == Value.type "dict")=false:=by decide
    have hl1:(s.heap.push { cls:=.type "set",dict:=none,data:=.set #[] 0 (.fresh 0 0 led) }).IsList l its:=⟨_,hol',rfl,nl,rfl⟩
    unfold Builtin.«set.__init__» noKeywords Builtin.Frozenset.updateFrom
    generalize hPI:pyIter=PI
    wp_walk
    subst hPI
    refine Uc hl1 ?_
    refine Ra (Mu ?_)
    have hlS:l < s.heap.objs.size:=Qp hol
    have hh3:A.in1.in1.in1.handled=none:=by simp [hh]
    generalize hH1:s.heap.push { cls:=.type "set",dict:=none,data:=.set #[] 0 (.fresh 0 0 led) }=H1 at *
    have szH1:H1.objs.size=s.heap.objs.size+1:=by rw [<- hH1,Jo]
    have hneI:l≠H1.objs.size:=by rw [szH1]; exact Ja (Xb hlS)
    have W:=Walks.list (prog:=prog) (w:=w) hh3 H1.objs.size l hneI its
    have hsz:its.size=ns.length:=by rw [<- hi.length,Array.length_toList]
    rw [hsz] at W
    generalize hS0:s.heap.objs.size=S at *
    have SI:S≠H1.objs.size:=by omega
    have lS:l≠S:=Ja hlS
    refine aDC W (λi v hv=>?_) (λc hc=>?_) (by simpa using SI) kp ad ns.length 0 _ (by omega) ⟨⟨_,Qh _ rfl,rfl,rfl⟩,hl1.push _⟩ ?_ λh6 tk6 x6 k6=>?_
    ·have hv':its[i]?=some v:=hv
     have hil:i < its.toList.length:=by
      rw [Array.length_toList]
      exact (Array.getElem?_eq_some_iff.mp hv').1
     have e1:its.toList[i]?=some v:=by rw [Array.getElem?_toList]; exact hv'
     obtain ⟨k,t,e2,e3⟩:=IntsAre.at hi i v e1
     exact ⟨k,t,e3,e2⟩
    ·rcases Qm.mp hc with z | z
     ·rw [z]; exact Ne.symm SI
     ·have z':c=l:=by simpa using z
      rw [z']; exact lS
    ·exact z0 _ (Qa _ hS)
    ·show wpAny _ _ _ _ _ _
     refine Rb ?_
     show wpAny _ _ (ret Value.none) _ _ _
     refine Rb ⟨rfl,h6,tk6,rfl,x6,λc o hc e=>?_⟩
     have c1:c≠S:=Ja hc
     have c2:c∉[H1.objs.size]:=by
      intro z
      have z':c=H1.objs.size:=by simpa using z
      omega
     exact k6 c o c1 c2 (Qa _ (hH1 ▸ Qa _ e))
   ·cases r2x with
    | error e=>exact hr2x
    | ok fl2 =>
     cases fl2 with
     | ret r =>
      obtain ⟨rfl,h',tk,rfl,hS',hk'⟩:=hr2x
      repeat (any_goals (first | assumption | wp_step))
      exact h _ _ hS' hk'
     | _=>exact hr2x.elim
  | _=>exact hr.elim
theorem tS {l:Addr} {its:Array Value} (hh:A.handled=none) (hl:s.heap.IsList l its) (hi:IntsAre its.toList ns) (hlen:ns.length+1 < scanBound) (h:∀ (h':Heap) (tk:Nat),h'.SetOf (intKind prog w) s.heap.objs.size (λk=>decide (k∈ns)) (nD ns)->(∀ b o,b < s.heap.objs.size->s.heap.get? b=some o->h'.get? b=some o)->Q (.ref s.heap.objs.size) { s with heap:=h',toks:=tk }) :
  wpAny (model prog w) A (call (.type "set") [.ref l]) Q E s:=by
 refine rQ (Z:=λi h=>h.SetOf (intKind prog w) s.heap.objs.size (λk=>decide (k∈ns.take i)) (nD (ns.take i))) hh hl hi (λh e=>⟨_,#[],0,_,e,⟨rfl,rfl,rfl⟩,rfl,λe he=>by simp at he,λk=>by simp,by decide,by rfl,rfl⟩) (λi h h' ⟨o,es,ep,t,e,c⟩ k=>⟨o,es,ep,t,k _ e,c⟩) (λi k t _ _ s' Q' hk hS q=>?_) λh' tk z=>h h' tk (by rw [Jj] at z; exact z)
 have hd:=aFa (ns.take i)
 rw [Qw] at hd
 refine aCq hS (by omega) λh3 sb hS3=>q h3 _ sb ?_
 have et:ns.take (i+1)=ns.take i++[k]:=by rw [Jp,hk]; rfl
 have e1:(λk_1=>decide (k_1∈ns.take (i+1)))=(λk'=>decide (k'∈ns.take i) || decide (k'=k)):=by
  funext k'
  rw [et]
  simp
 have e2:nD (ns.take (i+1))=if decide (k∈ns.take i)=true then nD (ns.take i) else nD (ns.take i)+1:=by
  rw [et,aCp]
  by_cases z:k∈ns.take i
  ·rw [if_pos z,if_pos (decide_eq_true z)]
  ·rw [if_neg z,if_neg (by simpa using z)]
 rw [e1,e2]
 exact hS3
theorem mC:∀ {vs:List Value} {ns:List Int},bO (ns.map V.int) vs->IntsAre vs ns
 | [],[],_=>.nil
 | v::vs,n::ns,h=>by
  cases h with
  | cons r t =>
   obtain ⟨k,rfl⟩:=r
   exact .cons n k (mC t)
 | [],n::ns,h=>by cases h
 | v::vs,[],h=>by cases h
theorem aCr (hK:X.K=K) (hc:X.calm=true):dF X (.type "set") (λxs H Q=>∃ (l:Addr) (ns:List Int),xs = [.ref l]/\SqL K H l (ns.map V.int)/\ns.length<=40/\∀ p,H p=none->Q (.ref p) (upd H p (.set (λk=>decide (k∈ns)) (nD ns)))):=by
 subst hK
 intro pins s σ H xs us Q I r h
 obtain ⟨l,ns,rfl,hL,hn,q⟩:=h
 obtain ⟨u,rfl,rx⟩:=eX r
 cases rx
 obtain ⟨its,rv,pl,hz⟩:=I.list hL
 refine tS (I.ok.hd hc) pl.isList (mC rv) (Yk (Yf hn) (by decide)) λh' tk x kp=>?_
 have kp':∀ b o,s.heap.get? b=some o->h'.get? b=some o:=λb o e=>kp b o (Qp e) e
 have hf:=I.hok.fresh (Qg s.heap.objs.size)
 exact ⟨.ref s.heap.objs.size,_,I.laid (t':=tk) kp' (Qg _) (show bL X.prog X.w _ _ _ (.set _ _) from x),rfl,q _ hf⟩
theorem tT:dF X (.builtin "len") (λxs H Q=>∃ p S n,xs = [.ref p]/\H p=some (.set S n)/\Q (.int (n:Nat)) H):=by
 intro pins s σ H xs us Q I r h
 obtain ⟨p,S,n,rfl,hp,q⟩:=h
 obtain ⟨u,rfl,rx⟩:=eX r
 cases rx
 obtain ⟨o,es,ep,t,ho,hex,hd,_,_,hb,hf,hn⟩:=I.hok p _ hp
 subst hn
 have hb':es.size < 2^20:=Yx hb (by decide)
 have:(2:Int)^63=9223372036854775808:=by decide
 have:(2:Nat)^20=1048576:=by decide
 exact PySem.call_len_set ho hex hd hf (by omega) ⟨.int es.size,H,I.tok _,⟨_,rfl⟩,q⟩
section
variable {e l:Addr} {P:Nat->Value->Prop} {st:Nat->Heap->Prop}
theorem aDD {old:Value} (S:Sub prog w it l n P st) (hei:e≠it) (hel:l≠e) (he:IsEnum s.heap e it i old) (h1:st i s.heap) (hi:i < n) (hQ:∀ h' x tk,P i x->IsEnumOut h' e it ((i:Int)+1) x s.heap.objs.size->st (i+1) h'->h'.get? s.heap.objs.size=some { cls:=.type "tuple",data:=.seq #[.int i tk,x] } ->
   (∀ c o,c≠e->c≠it->s.heap.get? c=some o->h'.get? c=some o)->Q (.ref s.heap.objs.size) { s with heap:=h',toks:=s.toks+1 }) :
  wpAny (model prog w) A (Builtin.«enumerate.__next__» ⟨[.ref e],[]⟩) (λfin s'=>∃ v,fin=.done (.ret v)/\Q v s') E s:=by
 refine Ra (m:=field (.ref e) 2) (Rl he rfl (x:=.ref it) rfl ?_)
 refine Ra (m:=Builtin.SmallTypes.nextOf (.ref it)) (S.item _ i _ _ _ hi h1 λx g1 px t1 b1=>?_)
 have e1:IsEnum g1 e it i old:=b1.extBut _ _ hei he
 refine Ra (m:=field (.ref e) 3) (Rl e1 rfl (x:=rawInt i) rfl ?_)
 refine Ra (m:=field (.ref e) 4) (Rl e1 rfl (x:=.none) rfl ?_)
 refine Ra (m:=mkInt i) (wpAny_mkInt ?_)
 refine Ra (m:=setField (.ref e) 3 (rawInt ((i:Int)+1))) (Rj e1 (by simp) λg2 e2 b2=>?_)
 have e2':IsEnum g2 e it ((i:Int)+1) old:=e2
 refine Ra (m:=setField (.ref e) 4 .none) (Rj e2' (by simp) λg3 e3 b3=>?_)
 have e3':IsEnum g3 e it ((i:Int)+1) old:=e3
 refine Ra (m:=newTuple [.int i s.toks,x]) (Ie ?_)
 have sz:g3.objs.size=s.heap.objs.size:=by rw [b3.1,b2.1,b1.1]
 have e4:IsEnum (g3.push { cls:=.type "tuple",data:=.seq #[.int i s.toks,x] }) e it ((i:Int)+1) old:=Qa _ e3'
 have T4:(g3.push { cls:=.type "tuple",data:=.seq #[.int i s.toks,x] }).get? s.heap.objs.size=some { cls:=.type "tuple",data:=.seq #[.int i s.toks,x] }:=by rw [<- sz]; exact Qh _ rfl
 have kp4:∀ c o,c≠e->c≠it->s.heap.get? c=some o->(g3.push { cls:=.type "tuple",data:=.seq #[.int i s.toks,x] }).get? c=some o:=λc o c1 c2 q =>
  Qa _ (b3.extBut _ _ c1 (b2.extBut _ _ c1 (b1.extBut _ _ c2 q)))
 have t4:st (i+1) (g3.push { cls:=.type "tuple",data:=.seq #[.int i s.toks,x] }):=S.keep _ _ _ t1 λc hc o q=>by
  have c1:c≠e:=by rcases hc with r | r <;> rw [r]; exact Ne.symm hei; exact hel
  exact Qa _ (b3.extBut _ _ c1 (b2.extBut _ _ c1 q))
 have elt:s.heap.objs.size≠e:=Xw (Qp he)
 rw [sz]
 generalize g3.push { cls:=.type "tuple",data:=.seq #[.int i s.toks,x] }=g4 at e4 T4 kp4 t4 ⊢
 refine Ra (m:=Builtin.SmallTypes.ownedTupleIsFree (.ref e)) ?_
 unfold Builtin.SmallTypes.ownedTupleIsFree
 refine Ra (Rl e4 rfl (x:=.none) rfl (Rb ?_))
 simp only [if_true]
 refine Ra (Uh ?_)
 refine Ra (Rl e4 rfl (x:=old) rfl ?_)
 refine Ra (Rj e4 (by simp) λg5 e5 b5=>?_)
 have e5':IsEnum g5 e it ((i:Int)+1) x:=e5
 refine Ra (m:=Builtin.SmallTypes.ownedTupleHandOut (.ref e) (.ref s.heap.objs.size)) ?_
 unfold Builtin.SmallTypes.ownedTupleHandOut
 refine Ra (Rj e5' (by simp) λg6 e6 b6=>?_)
 have e6':IsEnumOut g6 e it ((i:Int)+1) x s.heap.objs.size:=e6
 refine Rj e6' (by simp) λg7 e7 b7=>?_
 have e7':IsEnumOut g7 e it ((i:Int)+1) x s.heap.objs.size:=e7
 have up:∀ c o,c≠e->g4.get? c=some o->g7.get? c=some o:=λc o c1 q=>b7.extBut _ _ c1 (b6.extBut _ _ c1 (b5.extBut _ _ c1 q))
 refine Ra (Ui (Rb ⟨_,rfl,hQ g7 x s.toks px e7' ?_ (up _ _ elt T4) λc o c1 c2 q=>up c o c1 (kp4 c o c1 c2 q)⟩))
 exact S.keep _ _ _ t4 λc hc o q=>up c o (by rcases hc with r | r <;> rw [r]; exact Ne.symm hei; exact hel) q
theorem aFb {old:Value} {Q:Fin->Shared->Prop} (hh:A.handled=none) (S:Sub prog w it l n P st) (he:IsEnum s.heap e it n old) (h1:st n s.heap)
  (hE:∀ h' x,Heap.ExtBut it s.heap h'->(∃ o,h'.get? x=some o/\o.cls=.type "StopIteration")->E (.ref x) { s with heap:=h' }) :
  wpAny (model prog w) A (Builtin.«enumerate.__next__» ⟨[.ref e],[]⟩) Q E s:=by
 refine Ra (m:=field (.ref e) 2) (Rl he rfl (x:=.ref it) rfl ?_)
 exact Ra (m:=Builtin.SmallTypes.nextOf (.ref it)) (S.done _ _ _ _ hh h1 hE)
end
def Ite (K:Rc) (k:Sk) (a:Addr):It :=
 ⟨λi H => ∃ xs x, SqK k K H a xs /\ xs[i]? = some x,
  λi H v H'=>∃ p,H p=none/\v=.ref p/\∀ xs,SqK k K H a xs->∃ x,xs[i]?=some x/\H'=upd H p (.tup [.int (i:Nat),x]),
  λi H=>∃ xs,SqK k K H a xs/\xs.length=i⟩
theorem aCs {x1} (k:Sk) (a e it:Addr) (hei:e≠it) :
  Turn P w K (.Tuple es x1 pos) (Ite K k a) [e,it] e (λi h=>(∃ old,IsEnum h e it i old)/\ItK k h it a i) where
 mem:=by simp
 obj:=λi h st c hc=>by
  obtain ⟨⟨old,he⟩,h1⟩:=st
  simp only [Qm,Qt,or_false] at hc
  rcases hc with rfl | rfl
  ·exact ⟨_,he,λv q=>by cases q⟩
  ·exact h1.obj
 keep:=λi h h' st kp=>by
  obtain ⟨⟨old,he⟩,h1⟩:=st
  exact ⟨⟨old,kp e (by simp) _ he⟩,h1.at λo q=>kp it (by simp) o q⟩
 item:=by
  intro X hP hw hK hc i pins s σ H E I hf st hg
  subst hP hw hK
  obtain ⟨⟨old,he⟩,h1⟩:=st
  obtain ⟨xs,x,ha,hx⟩:=hg
  obtain ⟨its,rv,pa⟩:=I.seqK ha
  obtain ⟨u,hu,ru⟩:=rv.get hx
  have na:∀ c∈[e,it],a≠c:=λc hc'=>I.seq_ne ha (hf c hc')
  have hT:s.TypeIs (.ref e) "enumerate" := ⟨_,he,rfl⟩
  have hi1:i < its.toArray.size:=by rw [Ql]; exact (Qd.mp hu).1
  unfold pyNext
  refine Ra (Ta (Rg (name:=Str.ofString "__next__") hT Rp (Rh Rp hT Tt
   (aDD (tR k X.prog X.w it a its.toArray (na it (by simp))) hei (na e (by simp)) he ⟨h1,pa⟩ hi1 λh' u' tk pu he' s1 hT' kp=>Rb ?_) (Tr _))))
  have eu:u'=u:=by
   have q:its[i]?=some u':=by simpa using pu
   rw [hu] at q
   exact (Option.some.inj q).symm
  subst eu
  refine ⟨_,rfl,Mw he' λh2 he2 sb2=>?_⟩
  have Te:s.heap.objs.size≠e:=Xw (Qp he)
  have hT2:h2.get? s.heap.objs.size=some { cls:=.type "tuple",data:=.seq #[.int i tk,u'] }:=sb2.extBut _ _ Te hT'
  have hf0:=I.hok.fresh (Qg s.heap.objs.size)
  have fz:=I.fpOk (Qg s.heap.objs.size) hf0
  have I2:Inv X pins σ H { s with heap:=h2,toks:=s.toks+1 }:=by
   refine I.turnedL (t':=s.toks+1) [e,it] (λc o hc' q=>?_) hf
   simp only [Qm,Qt,or_false,not_or] at hc'
   exact sb2.extBut _ _ hc'.1 (kp c o hc'.1 hc'.2 q)
  have I3:Inv X pins σ (upd H s.heap.objs.size (.tup [.int (i:Nat),x])) { s with heap:=h2,toks:=s.toks+1 }:=by
   refine I2.trackO (show bL X.prog X.w _ _ _ (.tup [.int (i:Nat),x]) from ⟨by show 2<=sizeLine; rw [Rf]; decide,[.int i tk,u'],0,.cons ⟨tk,rfl⟩ (.cons ru .nil),hT2⟩) hf0 fz.2.1 I.sz fz.2.2.2.2.1 fz.2.2.2.2.2
  refine ⟨.ref s.heap.objs.size,_,I3,rfl,⟨s.heap.objs.size,hf0,rfl,λxs' ha'=>?_⟩,⟨⟨_,by simpa using he2⟩,s1.1.at λo q=>sb2.extBut _ _ (Ne.symm hei) q⟩,λc hc'=>?_⟩
  ·rw [I.seqK_inj ha' ha]
   exact ⟨x,hx,rfl⟩
  ·have cl:c≠s.heap.objs.size:=by
    obtain ⟨o,q⟩:∃ o,s.heap.get? c=some o:=by
     simp only [Qm,Qt,or_false] at hc'
     rcases hc' with rfl | rfl
     ·exact ⟨_,he⟩
     ·obtain ⟨o,q,_⟩:=h1.obj; exact ⟨o,q⟩
    exact Ja (Qp q)
   rw [aF cl]
   exact (hf c hc').1
 done:=by
  intro X hP hw hK hc i pins s σ H E I hf st hg
  subst hP hw hK
  obtain ⟨⟨old,he⟩,h1⟩:=st
  obtain ⟨xs,ha,hlen⟩:=hg
  obtain ⟨its,rv,pa⟩:=I.seqK ha
  have la:=rv.length
  have na:∀ c∈[e,it],a≠c:=λc hc'=>I.seq_ne ha (hf c hc')
  have hT:s.TypeIs (.ref e) "enumerate" := ⟨_,he,rfl⟩
  have ei:i=its.toArray.size:=by rw [Ql]; omega
  subst ei
  unfold pyNext
  refine Ra (Ta (Rg (name:=Str.ofString "__next__") hT Rp (Rh Rp hT Tt
   (aFb (I.ok.hd hc) (tR k X.prog X.w it a its.toArray (na it (by simp))) he ⟨h1,pa⟩ λh' x kp hx=>?_) (Tr _))))
  obtain ⟨oe,hoe,hce⟩:=hx
  refine Ra (Tu (T := "StopIteration") (b:=true) ⟨oe,hoe,hce⟩ Uz (Rb ⟨rfl,?_⟩))
  refine I.turnedL (t':=s.toks) [e,it] (λc o hc' q=>?_) hf
  simp only [Qm,Qt,or_false,not_or] at hc'
  exact kp c o hc'.2 q
 self:=λ_ _ _ _ _ st h=>by
  obtain ⟨⟨old,he⟩,_⟩:=st
  exact Vp he h
theorem aCt (k:Sk) (a:Addr) (xs:Array Value) :
  Meets (Builtin.«enumerate.__new__» ⟨[.type "enumerate",.ref a],[]⟩) (λ_ R s=>AtK k s.heap a xs /\
   R (.ok (.ret (.ref (s.heap.push (itK k a)).objs.size))) { s with heap:=(s.heap.push (itK k a)).push { cls:=.type "enumerate",data:=.fields #[.none,.bool false,.ref s.heap.objs.size,rawInt 0,.none,.none] } }) :=
 .of_wp λprog w A R s h=>by
  obtain ⟨hp,g,d,tk,os⟩:=s
  obtain ⟨hl,h⟩:=h
  have hsub:=sub_enumerate
  have hA:AtK k (Shared.heap ⟨hp,g,d,tk,os⟩) a xs:=hl
  obtain ⟨o,ho,hc⟩:∃ o,hp.get? a=some o/\(o.cls=.type "list" ∨ o.cls=.type "tuple"):=by
   cases k
   ·obtain ⟨o,e,c,_⟩:=hl; exact ⟨o,e,.inl c⟩
   ·obtain ⟨o,e,c,_⟩:=hl; exact ⟨o,e,.inr c⟩
  have hoL:(Shared.heap ⟨hp,g,d,tk,os⟩).get? a=some o:=ho
  wp_walk using AutoSeq1.wpAny_loadPart' hoL
  refine RaK λst=>Rb ?_
  split
  ·rename_i c _ _ _ _ _
   cases (c==Value.type "enumerate")
   ·wp_walk using AutoSeq1.wpAny_loadPart' hoL,xV hA
    exact ⟨_,rfl,h⟩
   ·wp_walk using AutoSeq1.wpAny_loadPart' hoL,xV hA
    exact ⟨_,rfl,h⟩
  ·wp_walk using AutoSeq1.wpAny_loadPart' hoL,xV hA
   exact ⟨_,rfl,h⟩
def aHK (K:Rc) (k:Sk) (ta:TA):TI:=λσ H R=>ta σ H λvs H1=>∃ a xs,vs = [.ref a]/\SqK k K H1 a xs/\R (Ite K k a) H1
theorem aBn (k:Sk) {a:Expr} {ta:TA} (hg:Gl X "enumerate") (hm:X.mg "enumerate" = none) (ha:PA X [a] ta) (hs:starEach [a] X.env = [(false,eval a X.env)]:=by rfl) :
  PI X (.Tuple es x1 tpos) (.Call (.Name "enumerate" p) [a] [] pos) (aHK X.K k ta):=by
 intro pins s σ H R I h
 refine Call_ (iL (u:=.type "enumerate") I hg hm (by decide +kernel) (PyProof.Rows.callWith_type1 (thn (ha pos pins s σ H _ I h) λus s1 hx9=>?_) hs rfl))
 obtain ⟨vs,H1,I1,r1,q1⟩:=hx9
 obtain ⟨l,xs,rfl,hA,q⟩:=q1
 obtain ⟨u1,rfl,r1'⟩:=eX r1
 cases r1'
 obtain ⟨its,rv,pa⟩:=I1.seqK hA
 refine Vu Mb (by decide) (Ii _) (Ip _) (λobj=>Vf obj _) Iq (aCt k l its.toArray) ⟨pa,?_⟩
 have n1:(s1.heap.push (itK k l)).objs.size=s1.heap.objs.size+1:=Jo ..
 have g2:IsEnum ((s1.heap.push (itK k l)).push { cls:=.type "enumerate",data:=.fields #[.none,.bool false,.ref s1.heap.objs.size,rawInt 0,.none,.none] }) (s1.heap.push (itK k l)).objs.size s1.heap.objs.size 0 .none:=Qh _ rfl
 have g1:ItK k ((s1.heap.push (itK k l)).push { cls:=.type "enumerate",data:=.fields #[.none,.bool false,.ref s1.heap.objs.size,rawInt 0,.none,.none] }) s1.heap.objs.size l 0:=(ItK.new k s1.heap l).at λo e=>Qa _ e
 have kp:∀ c o,s1.heap.get? c=some o->((s1.heap.push (itK k l)).push { cls:=.type "enumerate",data:=.fields #[.none,.bool false,.ref s1.heap.objs.size,rawInt 0,.none,.none] }).get? c=some o:=λc o e=>Qa _ (Qa _ e)
 generalize (s1.heap.push (itK k l)).push { cls:=.type "enumerate",data:=.fields #[.none,.bool false,.ref s1.heap.objs.size,rawInt 0,.none,.none] }=h2 at g1 g2 kp ⊢
 refine ⟨⟨_,g2,rfl⟩,Vp g2 ?_⟩
 rw [n1] at *
 have I2:Inv X pins σ H1 { s1 with heap:=h2 }:=I1.kept (t':=s1.toks) kp
 refine ⟨s1.heap.objs.size+1,[s1.heap.objs.size+1,s1.heap.objs.size],_,_,H1,rfl,I2,aCs k l (s1.heap.objs.size+1) s1.heap.objs.size (Nat.succ_ne_self _),⟨⟨_,g2⟩,g1⟩,λc hc=>?_,q⟩
 have hc':s1.heap.objs.size<=c:=by
  simp only [Qm,Qt,or_false] at hc
  rcases hc with r | r
  ·rw [r]; exact Zb _ _
  ·rw [r]; exact Qg _
 exact I1.fpOk hc' (I1.hok.fresh hc')
theorem yA {k:Sk} {σ:St} (Pv:Nat->St->Hp->Prop) (h0:Pv 0 σ H) (hl:∀ i σ H,i<=xs.length->Pv i σ H->SqK k K H a xs) (hs:∀ i x p σ H,xs[i]?=some x->Pv i σ H->H p=none->g (.ref p) σ (upd H p (.tup [.int (i:Nat),x])) λσ2 H2=>tb { D with nx:=Pv (i+1),ct:=Pv (i+1),bk:=D.nx } σ2 H2) (hd:∀ σ H,Pv xs.length σ H->D.nx σ H) :
  ∃ W:Nat->Nat->St->Hp->Prop,(∃ m,W 0 m σ H)/\∀ i m σ H,W i m σ H ->
   ((Ite K k a).stop i H/\D.nx σ H)∨((Ite K k a).go i H/\∃ N:St->Hp->Prop,(∀ σ' H',N σ' H'->∃ m',m' < m/\W (i+1) m' σ' H')/\∀ x H',(Ite K k a).yld i H x H'->g x σ H' λσ2 H2=>tb { D with nx:=N,ct:=N,bk:=D.nx } σ2 H2):=by
 refine ⟨λi m σ H=>m=xs.length - i/\i<=xs.length/\Pv i σ H,⟨xs.length,by simp,Jn _,h0⟩,?_⟩
 rintro i m σ H ⟨rfl,hi,p⟩
 have q:=hl i σ H hi p
 by_cases hlt:i < xs.length
 ·refine .inr ⟨⟨xs,xs[i],q,Qc hlt⟩,Pv (i+1),λσ' H' p'=>⟨xs.length - (i+1),by omega,rfl,hlt,p'⟩,λx H' y=>?_⟩
  obtain ⟨p1,hp1,rfl,y⟩:=y
  obtain ⟨v,hv,rfl⟩:=y xs q
  exact hs i v p1 σ H hv p hp1
 ·have e:i=xs.length:=by omega
  subst e
  exact .inl ⟨⟨xs,q,rfl⟩,hd σ H p⟩
theorem aDE (h:n<=1000):n<=sizeLine:=by rw [Rf]; omega
section
variable {own:Nat} {σ:St}
theorem aFc (h:vs[i]?=some v):vs.take (i+1)=vs.take i++[v]:=by rw [Jp,h]; rfl
theorem qO (SH:St->Prop) (hn:n<=1000) (hl:vs.length=n) (hσ:SH (blk own fr σ)) (hstop:∀ H',aE H H'->J.stop n H') (hgo:∀ i H',i < n->aE H H'->J.go i H') (hs:∀ i v x σ H1 H2,i < n->vs[i]?=some v->SH σ->aE H H1->J.yld i H1 x H2->∀ Q:V->St->Hp->Prop,(∀ σ2 H4,SH σ2->aE H1 H4->Q v σ2 H4)->g x σ H2 λσ2 H3=>te σ2 H3 λy H4=>Q y σ2 H4) (hd:∀ H',aE H H'->Qf H' vs) :
  Wlk J [] (blk own fr σ) H (λys _ H=>Qf H ys) g vO (tbL te):=by
 refine nT n (aDE hn) SH (λi ys H'=>ys=vs.take i/\aE H H') hσ ⟨rfl,aE.refl H⟩ (λi ys H' p=>by rw [p.1,Qw]; omega) (λys H' p=>hstop H' p.2) (λi ys H' hi p=>hgo i H' hi p.2) ?_ (λys H' p=>?_)
 ·rintro i ys σ' x H1 H2 hi sh ⟨rfl,s1⟩ hy hz
  have hv:vs[i]?=some vs[i]:=Qc (by omega)
  have h:=hs i vs[i] x σ' H1 H2 hi hv sh s1 hy (λy σ2 H4=>(vs.take i).length < sizeLine/\SH σ2/\(vs.take i++[y]=vs.take (i+1)/\aE H H4)) λσ2 H4 sh2 s4=>⟨hz,sh2,(aFc hv).symm,s1.trans s4⟩
  exact h
 ·obtain ⟨rfl,s1⟩:=p
  rw [Jm (by omega)]
  exact hd H' s1
theorem yB (SH:St->Prop) (hn:xs.length<=1000) (hl:vs.length=xs.length) (ha:SqL K H a xs) (hσ:SH (blk own fr σ)) (hs:∀ (i:Nat) x v σ H1,xs[i]?=some x->vs[i]?=some v->SH σ->aE H H1->∀ Q:V->St->Hp->Prop,(∀ σ2 H4,SH σ2->aE H1 H4->Q v σ2 H4)->g x σ H1 λσ2 H2=>te σ2 H2 λy H4=>Q y σ2 H4) (hd:∀ H',aE H H'->Qf H' vs) :
  Wlk (Itl K a) [] (blk own fr σ) H (λys _ H=>Qf H ys) g vO (tbL te):=by
 refine qO SH hn hl hσ (λH' s=>⟨xs,s.seqL ha,Qg _⟩) (λi H' hi s=>⟨xs,xs[i],s.seqL ha,Qc hi⟩) (λi v x σ H1 H2 hi hv sh s y Q k=>?_) hd
 obtain ⟨e,y⟩:=y
 subst e
 exact hs i x v σ _ (y xs (s.seqL ha)) hv sh s Q k
theorem yC (SH:St->Prop) (hn:xs.length<=1000) (hl:vs.length=xs.length) (ha:SqT K H a xs) (hσ:SH (blk own fr σ)) (hs:∀ (i:Nat) x v σ H1,xs[i]?=some x->vs[i]?=some v->SH σ->aE H H1->∀ Q:V->St->Hp->Prop,(∀ σ2 H4,SH σ2->aE H1 H4->Q v σ2 H4)->g x σ H1 λσ2 H2=>te σ2 H2 λy H4=>Q y σ2 H4) (hd:∀ H',aE H H'->Qf H' vs) :
  Wlk (Itt K a) [] (blk own fr σ) H (λys _ H=>Qf H ys) g vO (tbL te):=by
 refine qO SH hn hl hσ (λH' s=>⟨xs,s.seqT ha,Qg _⟩) (λi H' hi s=>⟨xs,xs[i],s.seqT ha,Qc hi⟩) (λi v x σ H1 H2 hi hv sh s y Q k=>?_) hd
 obtain ⟨e,y⟩:=y
 subst e
 exact hs i x v σ _ (y xs (s.seqT ha)) hv sh s Q k
theorem aDF (SH:St->Prop) (hn:xs.length<=1000) (hle:xs.length<=zs.length) (hl:vs.length=xs.length) (ha:∀ H',aE H H'->SqK k1 K H' a xs/\SqK k2 K H' b zs) (hσ:SH (blk own fr σ)) (hs:∀ (i:Nat) x z v p σ H1,xs[i]?=some x->zs[i]?=some z->vs[i]?=some v->H1 p=none->SH σ->aE H H1->∀ Q:V->St->Hp->Prop,(∀ σ2 H4,SH σ2->aE H1 H4->Q v σ2 H4)->g (.ref p) σ (upd H1 p (.tup [x,z])) λσ2 H2=>te σ2 H2 λy H4=>Q y σ2 H4) (hd:∀ H',aE H H'->Qf H' vs) :
  Wlk (Itz K k1 k2 a b) [] (blk own fr σ) H (λys _ H=>Qf H ys) g vO (tbL te):=by
 refine qO SH hn hl hσ (λH' s=>⟨xs,zs,(ha H' s).1,(ha H' s).2,by omega⟩) (λi H' hi s=>⟨xs,zs,xs[i],zs[i]'(by omega),(ha H' s).1,(ha H' s).2,Qc hi,Qc (by omega)⟩) (λi v x σ H1 H2 hi hv sh s y Q k=>?_) hd
 obtain ⟨q,hq,rfl,hy⟩:=y
 obtain ⟨x,z,h1,h2,rfl⟩:=hy xs zs (ha H1 s).1 (ha H1 s).2
 exact hs i x z v q σ H1 h1 h2 hv hq sh s Q k
end
section
variable {iW:List Stmt} {t u:TS}
def aIs (t u:TS):TS:=λD σ H=>∃ M:St->Hp->Prop,t { D with nx:=M } σ H/\∀ σ' H',M σ' H'->u D σ' H'
theorem aFd (h1:PS X st t) (h2:PSs X iW u):PSs X (st::iW) (aIs t u):=by
 intro pins s σ H D I h
 obtain ⟨M,h,k⟩:=h
 refine Mg (thn (h1 pins s σ H { D with nx:=M } I h) λf s1 q=>?_)
 cases f with
 | next =>
  obtain ⟨σ',H',I',q⟩:=q
  exact h2 pins s1 σ' H' D I' (k σ' H' q)
 | ret v=>exact q
 | brk=>exact q
 | cont=>exact q
def aHL (t:TE):TE:=λσ H Q=>∃ M:VK,t σ H M/\∀ v H',M v H'->Q v H'
theorem aGR (h:PE X e te):PE X e (aHL te):=by
 intro pins s σ H Q I hq
 obtain ⟨M,hq,k⟩:=hq
 exact thn (h pins s σ H M I hq) λv s1 ⟨x,H1,I1,r1,q1⟩=>⟨x,H1,I1,r1,k x H1 q1⟩
end
theorem lJ (hK:X.K=K):IxR X (aHA K):=by subst hK; exact cY
theorem mT (hK:X.K=K):OpR X (compareOp .NotIn) (rIn K true):=by subst hK; exact vN
theorem tU (xs:Array Value):slicePick xs none none (some (-1))=xs.toList.reverse.toArray:=by
 unfold slicePick
 have e1:sliceBounds none none (some (-1)) xs.size=((xs.size:Int) - 1,-1,-1):=by simp [sliceBounds]
 rw [e1,<- aDA xs]
 congr 1
 show List.filterMap (λx=>xs[x]?) (sliceRange ((xs.size:Int) - 1) (-1) (-1))=_
 have e2:sliceRange ((xs.size:Int) - 1) (-1) (-1)=(List.range xs.size).map λ(k:Nat)=>((xs.size:Int) - 1+(k:Int)*(-1)).toNat:=by
  unfold sliceRange
  rw [if_neg (by decide)]
  have e3:(if (xs.size:Int) - 1 > -1 then ((xs.size:Int) - 1 - -1 - -1 - 1) / (- -1) else 0).toNat=xs.size:=by
   by_cases h0:xs.size=0
   ·rw [h0]; decide
   ·rw [if_pos (by omega),show (- -1:Int)=1 from rfl,Int.ediv_one]; omega
  show (List.range (if (xs.size:Int) - 1 > -1 then ((xs.size:Int) - 1 - -1 - -1 - 1) / (- -1) else 0).toNat).map _=_
  rw [e3]
  refine Xj λk _=>?_
  congr 1
  omega
 rw [e2,Zx]
 rfl
def aHM (K:Rc) (te ts:TE):TE:=λσ H Q=>te σ H λx H1=>ts σ H1 λy H2=>y=.int (-1)/\∃ a xs,x=.ref a/\SqL K H2 a xs/\∀ p,H2 p=none->Q (.ref p) (upd H2 p (.lst xs.reverse))
theorem aFe {st:Expr} (he:PE X e te) (hst:PE X st ts):PE X (.Subscript e (.Slice none none (some st) p2) pos) (aHM X.K te ts):=by
 intro pins s σ H Q I h
 refine Iv (thn (he pins s σ H _ I h) λv s1 hx9=>?_)
 obtain ⟨x,H1,I1,r1,q1⟩:=hx9
 refine wpAny_Slice ?_
 rw [Il]
 refine Rb ?_
 show wpAny _ _ (evalPart none X.env) _ _ s1
 rw [Il]
 refine Rb ?_
 show wpAny _ _ (evalPart (some st) X.env) _ _ s1
 rw [evalPart_some]
 refine thn (hst pins s1 σ H1 _ I1 q1) λvst s3 hx9=>?_
 obtain ⟨y,H3,I3,r3,q3⟩:=hx9
 obtain ⟨rfl,a,xs,rfl,hx,q⟩:=q3
 obtain ⟨tk,rfl⟩:=r3
 cases r1
 have I4:Inv X pins σ H3 { s3 with heap:=s3.heap.push { cls:=.type "slice",data:=.fields #[.none,.none,.int (-1) tk] } }:=I3.kept (t':=s3.toks) λb ob q=>Qa _ q
 obtain ⟨its,r,ht,hz⟩:=I4.list hx
 have hlen:=r.length
 have hg:wpAny (model X.prog X.w) X.A (getItem (.ref a) (.ref s3.heap.objs.size)) (EP X pins σ Q) X.xe { s3 with heap:=s3.heap.push { cls:=.type "slice",data:=.fields #[.none,.none,.int (-1) tk] } }:=by
  refine wpAny_getItem_list_slice ht.isList (Heap.IsSliceOf.new ..) .none .none (.int (-1) tk) (by decide) ?_ (by rw [Ql]; omega)
  rw [tU]
  refine ⟨.ref _,_,I4.laid (t':=s3.toks) (o:=.lst xs.reverse) (λb ob q=>Qa _ q) (Qg _) ?_,rfl,q _ (I4.hok.fresh (Qg _))⟩
  exact ⟨by rw [Wk]; exact hz,its.reverse,0,r.reverse,Qh _ rfl⟩
 show wpAny (model X.prog X.w) X.A (subscriptTail e (.Slice none none (some st) p2) (.ref a) (.ref s3.heap.objs.size)) (EP X pins σ Q) X.xe { s3 with heap:=s3.heap.push { cls:=.type "slice",data:=.fields #[.none,.none,.int (-1) tk] } }
 exact tail_any (ops:=[.ref a,.ref s3.heap.objs.size]) ht.isList.typeIs slot_list_getitem.lookup hg (by with_unfolding_all rfl)
section
variable {S:List Addr} {E E':Hp->V->Prop} {σ:St} {tb:TE} {t:TA} {tl th:TO}
instance {a:Addr} {xs:List V}:Mo (λH v=>v=.ref a/\SqT K (Vw S H) a xs):=⟨λe h=>⟨h.1,(Vw.same e).seqT h.2⟩⟩
end
section
variable {tg2 iter2:Expr} {it acc:Value} {env:Env}
end
section
variable {tg2 iter2:Expr} {wi wi2:TI} {g2:TG}
end
section
variable {own:Nat} {g2:TG} {wi2:TI} {σ:St}
end
theorem aCu (bs:List Bool) (tr:Nat->Bool) (h:∀ i b,bs[i]?=some b->tr i=b):(List.range bs.length).any tr=bs.any id:=by
 rw [Xc,Zc,Zc]
 constructor
 ·rintro ⟨i,hi,q⟩
  have hi':=Jf.mp hi
  rw [h i _ (Qc hi')] at q
  exact ⟨_,Xf hi',q⟩
 ·rintro ⟨b,hb,q⟩
  obtain ⟨i,hi⟩:=Qas hb
  exact ⟨i,Jf.mpr (Qd.mp hi).1,by rw [h i b hi]; exact q⟩
theorem yD (hc:X.calm=true):dF X (.builtin "any") (λxs H Q=>∃ (p:Addr) (bs:List Bool),xs = [.ref p]/\SqL X.K H p (bs.map V.bl)/\Q (.bl (bs.any id)) H):=by
 intro pins s σ H xs us Q I r h
 obtain ⟨p,bs,rfl,hx,q⟩:=h
 obtain ⟨u,rfl,rx⟩:=eX r
 cases rx
 obtain ⟨its,rv,pl,hz⟩:=I.list hx
 have hl:=rv.length
 rw [Qb] at hl
 have hlt:p < s.heap.objs.size:=by obtain ⟨o,n,e,_⟩:=pl; exact Qp e
 refine call_any_walk (Uc pl.isList ?_)
 refine ⟨s.heap.objs.size,_,_,_,_,_,λi=>(bs[i]?).getD false,rfl,Walks.list (A:=X.A.in1) (I.ok.hd hc) s.heap.objs.size p (Ja hlt) its.toArray,⟨⟨_,Qh _ rfl,rfl,rfl⟩,pl.isList.push _⟩,?_,λh' tk hk=>?_⟩
 ·intro i v s' Q' E' hP hQ'
  have hP':its[i]?=some v:=by simpa using hP
  have hi:i < bs.length:=by rw [hl]; exact (Qd.mp hP').1
  obtain ⟨w,hw,rw'⟩:=rv.get (i:=i) (x:=.bl bs[i]) (by rw [Qe,Qc hi]; rfl)
  rw [hw] at hP'
  cases hP'
  cases rw'
  have e:(bs[i]?).getD false=bs[i]:=by rw [Qc hi]; rfl
  rw [<- e]
  exact Rq hQ'
 ·have e:(List.range its.toArray.size).any (λi=>(bs[i]?).getD false)=bs.any id:=by
   rw [Ql,<- hl]
   exact aCu bs _ λi b hb=>by rw [hb]; rfl
  rw [e]
  refine ⟨.bl _,H,I.kept (h':=h') λb o e=>hk b o ?_ (Qa _ e),rfl,q⟩
  intro z
  have z':b=s.heap.objs.size:=by simpa using z
  exact Jx _ (z' ▸ Qp e)
section
variable [DecidableEq κ]
def dO (kvs:List (κ×V)) (k:κ):Option V:=(kvs.find? λkv=>decide (kv.1=k)).map (·.2)
def jG (kvs:List (κ×V)) (k:κ) (v:V):List (κ×V) :=
 if (kvs.any λkv=>decide (kv.1=k))=true then kvs.map (λkv=>if kv.1=k then (kv.1,v) else kv) else kvs++[(k,v)]
theorem aDG {k:κ}:dO ([]:List (κ×V)) k=none:=rfl
theorem eM {p:κ×V} {r:List (κ×V)} {k:κ} (e:p.1=k):dO (p::r) k=some p.2:=by simp [dO,Xs,e]
theorem eS {p:κ×V} {r:List (κ×V)} {k:κ} (e:¬ p.1=k):dO (p::r) k=dO r k:=by simp [dO,Xs,e]
theorem hG (k:κ):∀ kvs:List (κ×V),(kvs.any λkv=>decide (kv.1=k))=(dO kvs k).isSome
 | []=>rfl
 | p::r=>by
  rw [Zq]
  by_cases e:p.1=k
  ·simp only [eM e,decide_eq_true e,QaO,QaC]
  ·rw [eS e,decide_eq_false e,Bool.false_or]; exact hG k r
theorem yE (k j:κ) (y:V):∀ kvs:List (κ×V),dO (kvs.map λkv=>if kv.1=k then (kv.1,y) else kv) j=(dO kvs j).map λx=>if j=k then y else x
 | []=>rfl
 | p::r=>by
  have ih:=yE k j y r
  rw [Qz]
  by_cases h:p.1=k
  ·rw [if_pos h]
   by_cases e:p.1=j
   ·rw [eM (p:=(p.1,y)) e,eM e,Xy,if_pos (e.symm.trans h)]
   ·rw [eS (p:=(p.1,y)) e,eS e,ih]
  ·rw [if_neg h]
   by_cases e:p.1=j
   ·rw [eM (p:=p) e,eM e,Xy,if_neg (λz=>h (e.trans z))]
   ·rw [eS (p:=p) e,eS e,ih]
theorem pD (k j:κ) (y:V):∀ kvs:List (κ×V),dO kvs k=none->dO (kvs++[(k,y)]) j=if j=k then some y else dO kvs j
 | [],_=>by
  by_cases e:k=j
  ·rw [if_pos e.symm]; exact eM (p:=(k,y)) e
  ·rw [if_neg (λz=>e z.symm)]; exact eS (p:=(k,y)) e
 | p::r,hn=>by
  rw [Yz]
  have hk:¬ p.1=k:=λz=>by rw [eM z] at hn; cases hn
  rw [eS hk] at hn
  have ih:=pD k j y r hn
  by_cases e:p.1=j
  ·rw [eM e,eM e,if_neg (λz=>hk (e.trans z))]
  ·rw [eS e,eS e,ih]
theorem yF (kvs:List (κ×V)) (k j:κ) (y:V):dO (jG kvs k y) j=if j=k then some y else dO kvs j:=by
 unfold jG
 by_cases a:(kvs.any λkv=>decide (kv.1=k))=true
 ·rw [if_pos a,yE]
  rw [hG] at a
  by_cases e:j=k
  ·obtain ⟨x,hx⟩:=Wy.mp a
   rw [if_pos e,e,hx,Xy,if_pos rfl]
  ·rw [if_neg e]
   cases dO kvs j with
   | none=>rfl
   | some x=>rw [Xy,if_neg e]
 ·rw [if_neg a]
  refine pD k j y kvs ?_
  rw [hG] at a
  cases q:dO kvs k with
  | none=>rfl
  | some x=>rw [q] at a; exact (a rfl).elim
theorem lK (kvs:List (κ×V)) (k:κ) (v:V):(jG kvs k v).length<=kvs.length+1:=by
 unfold jG
 split
 ·rw [Qb]; omega
 ·rw [Qn,Qx,Ya]; omega
theorem aDH {kvs:List (κ×V)} {k:κ} (v:V) (h:dO kvs k=none):jG kvs k v=kvs++[(k,v)]:=by
 unfold jG
 rw [hG,h]
 exact if_neg (by decide)
theorem nK.isSome_eq {o:Option V} {u:Option Value} (r:nK o u):o.isSome=u.isSome:=by
 cases o with
 | none => cases u with
   | none=>rfl
   | some _=>exact (show False from r).elim
 | some _ => cases u with
   | none=>exact (show False from r).elim
   | some _=>rfl
theorem KV.val {kvs:List (κ×V)} {vs:List (κ×Value)} (r:KV kvs vs) (k:κ):nK (dO kvs k) (valueAt vs k):=by
 unfold KV at r
 induction r with
 | nil=>exact True.intro
 | @cons p q ps qs h t ih =>
  obtain ⟨h1,h2⟩:=h
  by_cases e:p.1=k
  ·have e':q.1=k:=h1.symm.trans e
   have b:valueAt (q::qs) k=some q.2:=by simp [valueAt,Xs,e']
   rw [eM e,b]; exact h2
  ·have e':¬ q.1=k:=λz=>e (h1.trans z)
   have b:valueAt (q::qs) k=valueAt qs k:=by simp [valueAt,Xs,e']
   rw [eS e,b]; exact ih
theorem KV.any {kvs:List (κ×V)} {vs:List (κ×Value)} (r:KV kvs vs) (k:κ):(kvs.any λkv=>decide (kv.1=k))=vs.any λkv=>decide (kv.1=k):=by
 unfold KV at r
 induction r with
 | nil=>rfl
 | cons h t ih=>rw [Zq,Zq,ih,h.1]
theorem KV.repl {kvs:List (κ×V)} {vs:List (κ×Value)} (r:KV kvs vs) (k:κ) (ry:bS y u) :
  KV (kvs.map λkv=>if kv.1=k then (kv.1,y) else kv) (vs.map λkv=>if kv.1=k then (kv.1,u) else kv):=by
 unfold KV at r ⊢
 induction r with
 | nil=>exact .nil
 | @cons p q ps qs h t ih =>
  rw [Qz,Qz]
  refine .cons ?_ ih
  obtain ⟨h1,h2⟩:=h
  by_cases e:p.1=k
  ·rw [if_pos e,if_pos (h1.symm.trans e)]; exact ⟨h1,ry⟩
  ·rw [if_neg e,if_neg (λz=>e (h1.trans z))]; exact ⟨h1,h2⟩
theorem KV.put {kvs:List (κ×V)} {vs:List (κ×Value)} (r:KV kvs vs) (k:κ) (ry:bS y u):KV (jG kvs k y) (stored vs k u):=by
 unfold jG stored
 rw [r.any k]
 by_cases e:(vs.any λkv=>decide (kv.1=k))=true
 ·rw [if_pos e,if_pos e]; exact r.repl k ry
 ·rw [if_neg e,if_neg e]; exact Paired.snoc r ⟨rfl,ry⟩
theorem KV.keys {kvs:List (κ×V)} {vs:List (κ×Value)} (r:KV kvs vs):kvs.map (·.1)=vs.map (·.1):=by
 unfold KV at r
 induction r with
 | nil=>rfl
 | cons h t ih=>rw [Qz,Qz,ih,h.1]
theorem KV.length {kvs:List (κ×V)} {vs:List (κ×Value)} (r:KV kvs vs):kvs.length=vs.length:=Paired.length r
end
theorem yG {k:Key} (r:bS (kV k) u):(cA P w).is k u=true:=by
 cases k with
 | inl i=>obtain ⟨t,e⟩:=(show ∃ t,u=Value.int i t from r); subst e; exact xA P w i t
 | inr x=>obtain ⟨t,e⟩:=(show ∃ t,u=Value.str x t from r); subst e; exact xB P w x t
theorem uQ:∀ {ks:List Key} {us:List Value},bO (ks.map kV) us->ItemsAre (cA P w) ks us
 | [],_,r=>by rw [QaK] at r; cases r; exact .nil
 | k::ks,_,r=>by
  rw [Qz] at r
  cases r with
  | cons h t=>exact .cons (yG h) (uQ t)
abbrev KT (H:Hp):List (List Key×V)->List (List Key×Addr×Value)->Prop:=Paired λp q=>p.1=q.1/\H q.2.1=some (.tup (p.1.map kV))/\bS p.2 q.2.2
theorem KT.val {xs:List (List Key×Addr×Value)} (r:KT H kvs xs) (k:List Key):nK (dO kvs k) ((atKey xs k).map (·.2)):=by
 induction r with
 | nil=>exact True.intro
 | @cons p q ps qs h t ih =>
  obtain ⟨h1,_,h2⟩:=h
  by_cases e:p.1=k
  ·have e':q.1=k:=h1.symm.trans e
   have b:atKey (q::qs) k=some q.2:=by simp [atKey,Xs,e']
   rw [eM e,b]; exact h2
  ·have e':¬ q.1=k:=λz=>e (h1.trans z)
   have b:atKey (q::qs) k=atKey qs k:=by simp [atKey,Xs,e']
   rw [eS e,b]; exact ih
theorem KT.repl {xs:List (List Key×Addr×Value)} (r:KT H kvs xs) (k:List Key) (ry:bS y u) :
  KT H (kvs.map λkv=>if kv.1=k then (kv.1,y) else kv) (xs.map (putAt k u)):=by
 induction r with
 | nil=>exact .nil
 | @cons p q ps qs h t ih =>
  rw [Qz,Qz]
  refine .cons ?_ ih
  obtain ⟨h1,h2,h3⟩:=h
  unfold putAt
  by_cases e:p.1=k
  ·rw [if_pos e,if_pos (h1.symm.trans e)]; exact ⟨h1,h2,ry⟩
  ·rw [if_neg e,if_neg (λz=>e (h1.trans z))]; exact ⟨h1,h2,h3⟩
theorem KT.put {xs:List (List Key×Addr×Value)} (r:KT H kvs xs) (k:List Key) (hb:H b=some (.tup (k.map kV))) (ry:bS y u) :
  KT H (jG kvs k y) (storedH xs k b u):=by
 have e:(kvs.any λkv=>decide (kv.1=k))=(atKey xs k).isSome:=by
  rw [hG,(r.val k).isSome_eq,QaJ]
 unfold jG storedH
 rw [e]
 by_cases q:(atKey xs k).isSome=true
 ·rw [if_pos q,if_pos q]; exact r.repl k ry
 ·rw [if_neg q,if_neg q]; exact Paired.snoc r ⟨rfl,hb,ry⟩
theorem KT.keeps {xs:List (List Key×Addr×Value)} (r:KT H kvs xs) (ht:∀ b ys,H b=some (.tup ys)->H' b=some (.tup ys)):KT H' kvs xs :=
 Paired.mapP r λ_ _ z=>⟨z.1,ht _ _ z.2.1,z.2.2⟩
theorem aGf {u:HO} (ok:HOk P w H h) (e:Rd H a u):bL P w H h a u:=e.ok ok
theorem aBo {kvs:List (Key×V)} (ok:HOk P w H h) (e:Rd H a (.dK kvs)):kvs.length<=sizeLine/\(a==sysModules)=false/\∃ vs,KV kvs vs/\h.DictOf (cA P w) a vs :=
 show bL P w H h a (.dK kvs) from aGf ok e
theorem aHN {kvs:List (Key×V)} (ok:HOk P w H h) (e:H a=some (.dK kvs)):kvs.length<=sizeLine/\(a==sysModules)=false/\∃ vs,KV kvs vs/\h.DictOf (cA P w) a vs:=aBo ok (.inl e)
theorem lL {ks:List Key} (ok:HOk P w H h) (e:H a=some (.tup (ks.map kV))):(tupleKind (cA P w)).is h ks a:=by
 obtain ⟨_,its,n,r,e1⟩:=(show bL P w H h a (.tup (ks.map kV)) from ok a _ e)
 exact ⟨_,its.toArray,n,e1,rfl,rfl,by simpa using uQ r⟩
theorem yH (ok:HOk P w H h) (e:Rd H a (.dT kvs)):kvs.length<=sizeLine/\(a==sysModules)=false /\
  ∃ xs,KT H kvs xs/\h.DictOfH (tupleKind (cA P w)) a xs:=by
 obtain ⟨z,y,xs,r,o,es,ep,h1,h2,h3,h4,h5⟩:=(show bL P w H h a (.dT kvs) from aGf ok e)
 refine ⟨z,y,xs,r,o,es,ep,h1,h2,h3,h4,λx hx=>?_,h5⟩
 have all:∀ {l:List (List Key×V)} {m:List (List Key×Addr×Value)},KT H l m->∀ x∈m,(tupleKind (cA P w)).is h x.1 x.2.1:=by
  intro l m q
  induction q with
  | nil=>intro x hx; exact nomatch hx
  | @cons p q ps qs hq t ih =>
   intro x hx
   rcases Qm.mp hx with e | hx
   ·subst e
    exact lL ok (by rw [<- hq.1]; exact hq.2.1)
   ·exact ih x hx
 exact all r x hx
theorem aGg (ok:HOk P w H h) (e:H a=some (.dT kvs)):kvs.length<=sizeLine/\(a==sysModules)=false /\
  ∃ xs,KT H kvs xs/\h.DictOfH (tupleKind (cA P w)) a xs:=yH ok (.inl e)
def yI (H:Hp) (a:Addr) (y:V) (r:Option V):Prop :=
 (∃ kvs k,Rd H a (.dK kvs)/\y=kV k/\r=dO kvs k)∨∃ kvs k b,Rd H a (.dT kvs)/\y=.ref b/\H b=some (.tup (k.map kV))/\r=dO kvs k
def vS (H:Hp) (a:Addr) (y v:V) (H':Hp):Prop :=
 (∃ kvs k,H a=some (.dK kvs)/\y=kV k/\kvs.length < sizeLine/\H'=upd H a (.dK (jG kvs k v))) ∨
 ∃ kvs k b,H a=some (.dT kvs)/\y=.ref b/\H b=some (.tup (k.map kV))/\kvs.length < sizeLine/\H'=upd H a (.dT (jG kvs k v))
theorem yI.k {kvs:List (Key×V)} {k:Key} (e:H a=some (.dK kvs)):yI H a (kV k) (dO kvs k):=.inl ⟨kvs,k,.inl e,rfl,rfl⟩
theorem vS.k {kvs:List (Key×V)} {k:Key} (e:H a=some (.dK kvs)) (hl:kvs.length < sizeLine):vS H a (kV k) v (upd H a (.dK (jG kvs k v))):=.inl ⟨kvs,k,e,rfl,hl,rfl⟩
theorem vS.t {k:List Key} (e:H a=some (.dT kvs)) (eb:H b=some (.tup (k.map kV))) (hl:kvs.length < sizeLine) :
  vS H a (.ref b) v (upd H a (.dT (jG kvs k v))):=.inr ⟨kvs,k,b,e,rfl,eb,hl,rfl⟩
section
variable {σ:St} {r:Value} {o:Option V}
theorem Inv.big (I:Inv X pins σ H s):sysModules < s.heap.objs.size:=by
 have h:mainGlobals < s.heap.objs.size:=(I.mod.glob.keeps I.bk).lt
 exact Yx (by decide) h
theorem aCv (hu:A.units+1 < cLine) (I:Inv X pins σ H s) (g:yI H a y (some v)) (ry:bS y u) (h:∀ w' s',Inv X pins σ H s'->bS v w'->Q w' s') :
  wpAny (model X.prog X.w) A (getItem (.ref a) u) Q E s:=by
 rcases g with ⟨kvs,k,e,ey,l⟩ | ⟨kvs,k,b,e,ey,eb,l⟩
 ·subst ey
  obtain ⟨z,hd,vs,rel,dd⟩:=aBo I.hok e
  obtain ⟨w',hw,rw'⟩:=nK.some_of (v:=v) (o:=valueAt vs k) (by rw [l]; exact rel.val k)
  exact wpAny_getItem_of (yG ry) dd.mapOf hw (h w' _ (I.tok _) rw')
 ·subst ey
  cases (show u=Value.ref b from ry)
  obtain ⟨z,hd,xs,rel,dd⟩:=yH I.hok e
  obtain ⟨w',hw,rw'⟩:=nK.some_of (v:=v) (o:=(atKey xs k).map (·.2)) (by rw [l]; exact rel.val k)
  obtain ⟨p,hp,hp2⟩:=Option.map_eq_some_iff.mp hw
  refine wpAny_getItem_heap (Vk hu) (lL I.hok eb) dd hp ?_
  rw [hp2]
  exact h w' _ (I.tok _) rw'
theorem aFf (hu:A.units+1 < cLine) (I:Inv X pins σ H s) (g:yI H a y o) (ry:bS y u) (h:∀ s',Inv X pins σ H s'->Q (.bool (!o.isSome)) s') :
  wpAny (model X.prog X.w) A (compareOp .NotIn u (.ref a)) Q E s:=by
 rcases g with ⟨kvs,k,e,ey,l⟩ | ⟨kvs,k,b,e,ey,eb,l⟩
 ·subst ey
  obtain ⟨z,hd,vs,rel,dd⟩:=aBo I.hok e
  refine wpAny_notIn_of (yG ry) hd dd.mapOf ?_
  rw [<- (rel.val k).isSome_eq,<- l]
  exact h _ (I.tok _)
 ·subst ey
  cases (show u=Value.ref b from ry)
  obtain ⟨z,hd,xs,rel,dd⟩:=yH I.hok e
  refine wpAny_notIn_heap (Vk hu) (lL I.hok eb) hd dd ?_
  have q:=(rel.val k).isSome_eq
  rw [QaJ] at q
  rw [<- q,<- l]
  exact h _ (I.tok _)
theorem qP {ob:HO} (I:Inv X pins σ H s) (mu:Mut (H a)) (hs:Heap.SameBut a s.heap h') (he:∃ q,h'.get? a=some q) (new:bL X.prog X.w (upd H a ob) h' a ob) :
  Inv X pins σ (upd H a ob) { s with heap:=h',toks:=t' } :=
 I.write (x:=a) (e:=a) mu (.inl rfl) (λb q hb z=>(hs.2 b hb).trans z) he new
theorem aDI {kvs:List (Key×V)} {vs:List (Key×Value)} (z:kvs.length<=sizeLine) (hd:(a==sysModules)=false) (rel:KV kvs vs) (dd:h'.DictOf (cA P w) a vs) :
  bL P w H' h' a (.dK kvs):=⟨z,hd,vs,rel,dd⟩
theorem aCw {Q:Unit->Shared->Prop} (hu:A.units+1 < cLine) (I:Inv X pins σ H s) (g:vS H a y v H') (ry:bS y u) (rv:bS v r) (h:∀ s',Inv X pins σ H' s'->Q () s') :
  wpAny (model X.prog X.w) A (setItem (.ref a) u r) Q E s:=by
 rcases g with ⟨kvs,k,e,ey,l,eH⟩ | ⟨kvs,k,b,e,ey,eb,l,eH⟩
 ·subst ey eH
  obtain ⟨z,hd,vs,rel,dd⟩:=aHN I.hok e
  have hz:vs.length<=sizeLine:=by rw [<- rel.length]; exact z
  have hl:(jG kvs k v).length<=sizeLine:=by have:=lK kvs k v; omega
  refine wpAny_setItem_pairs (hsz:=hz) (yG ry) dd λh' dd' hs=>h _ ?_
  have he:∃ q,h'.get? a=some q:=let ⟨q,_,_,hq,_⟩:=dd'; ⟨q,hq⟩
  exact qP I (by rw [e]; exact True.intro) hs he (aDI hl hd (rel.put k rv) dd')
 ·subst ey eH
  cases (show u=Value.ref b from ry)
  obtain ⟨z,hd,xs,rel,dd⟩:=aGg I.hok e
  have hz:xs.length<=sizeLine:=by rw [<- Paired.length rel]; exact z
  have hl:(jG kvs k v).length<=sizeLine:=by have:=lK kvs k v; omega
  refine wpAny_setItem_heap (hsz:=hz) (Vk hu) (lL I.hok eb) dd λh' dd' hs=>h _ ?_
  obtain ⟨q,es,ep,hq,h2,h3,h4,_,h5⟩:=dd'
  refine qP I (by rw [e]; exact True.intro) hs ⟨q,hq⟩ ⟨hl,hd,_,(rel.put k eb rv).keeps λc ys ec=>?_,q,es,ep,hq,h2,h3,h4,h5⟩
  rw [aF (aF7 ec e (λz=>nomatch z))]
  exact ec
end
section
variable {σ:St} {kvs:List (Key×V)} {k:Key}
end
def aHO (i:Expr):Prop:=∀ ov iv,subscripted i false ov iv=operate [ov,iv] (getItem ov iv)
theorem aFg {env:Env} {slice:Expr} {id:String} (hl:typeLookup (.type T) "__getitem__" = pure (some (.builtin id))) (hs:aHO slice) (h:wpAny (model prog w) A (eval value env) (λo s1x=>wpAny (model prog w) A (eval slice env) (λi s2x=>s2x.TypeIs o T/\wpAny (model prog w) A (getItem o i) Q E s2x) E s1x) E s) :
  wpAny (model prog w) A (eval (.Subscript value slice pos) env) Q E s:=by
 refine Iv (Rr h (λo s1x h1x=>Rr h1x (λi s2x h2x=>?_) λ_ _ x=>x) λ_ _ x=>x)
 obtain ⟨hT,h2x⟩:=h2x
 unfold subscriptTail
 refine Ra ?_
 rw [getitemInPython_of_ne hT.not_modules]
 refine Ra (RaL hT hl ?_)
 have fin:wpAny (model prog w) A (subscripted slice false o i) (λr s3x=>wpAny (model prog w) A (letTemporaryGo value o r >>= λ_=>pure r) Q E s3x) E s2x:=by
  rw [hs o i]
  exact wpAny_operating (Rr h2x (λr s3x h3x=>Ra (wpAny_letTemporaryGo (Rb h3x))) λ_ _ x=>x)
 first
  | exact Rb (Ra fin)
  | exact Ra (Rb (Ra fin))
  | exact Ra fin
theorem yJ {σ:St} {o:Option V} (I:Inv X pins σ H s) (g:yI H a y o):s.TypeIs (.ref a) "dict" := by
 rcases g with ⟨kvs,k,e,_,_⟩ | ⟨kvs,k,b,e,_,_,_⟩
 ·obtain ⟨_,_,vs,_,dd⟩:=aBo I.hok e
  exact dd.typeIs
 ·obtain ⟨_,_,xs,_,dd⟩:=yH I.hok e
  exact dd.typeIs
def aHP (td ty:TE):TE:=λσ H Q=>td σ H λx H1=>ty σ H1 λy H2=>∃ a v,x=.ref a/\yI H2 a y (some v)/\Q v H2
def aFh (ty td:TE):TE:=λσ H Q=>ty σ H λy H1=>td σ H1 λx H2=>∃ a o,x=.ref a/\yI H2 a y o/\Q (.bl (!o.isSome)) H2
def aHQ (td ty tv:TE):TS:=λD σ H=>tv σ H λv H1=>td σ H1 λx H2=>ty σ H2 λy H3=>∃ a H4,x=.ref a/\vS H3 a y v H4/\D.nx σ H4
section
variable {o i:Expr} {ty:TE}
theorem nU (hu:X.A.units+1 < cLine) (ho:PE X o td) (hi:PE X i ty) (hs:aHO i):PE X (.Subscript o i pos) (aHP td ty):=by
 intro pins s σ H Q I h
 refine aFg PySem.F.slot_dict_getitem.lookup hs (thn (ho pins s σ H _ I h) λu s1 ⟨x,H1,I1,rx,q1⟩=>thn (hi pins s1 σ H1 _ I1 q1) λiv s2 hx9=>?_)
 obtain ⟨y,H2,I2,ry,a,v,ex,g,q2⟩:=hx9
 subst ex
 obtain rfl:u=Value.ref a:=rx
 exact ⟨yJ I2 g,aCv hu I2 g ry λw' s3 I3 rw'=>⟨v,H2,I3,rw',q2⟩⟩
theorem aCx (hu:X.A.units+1 < cLine) (hi:PE X i ty) (ho:PE X o td):PC X .NotIn i o (aFh ty td):=by
 intro pins s σ H Q I h
 refine thn (hi pins s σ H _ I h) λiv s1 ⟨y,H1,I1,ry,q1⟩=>thn (ho pins s1 σ H1 _ I1 q1) λu s2 hx9=>?_
 obtain ⟨x,H2,I2,rx,a,ov,ex,g,q2⟩:=hx9
 subst ex
 obtain rfl:u=Value.ref a:=rx
 exact aFf hu I2 g ry λs3 I3=>⟨.bl (!ov.isSome),H2,I3,rfl,q2⟩
theorem vT (hu:X.A.units+1 < cLine) (ho:PE X o td) (hi:PE X i ty) (hv:PE X value tv) (hs:swapsWith value (some (.Subscript o i pos')) pos.line X.env=pure false) :
  PS X (.Assign [.Subscript o i pos'] value pos) (aHQ td ty tv):=by
 intro pins s σ H D I h
 refine wpAny_Assign_Subscript (thn (hv pins s σ H _ I h) λr s1 ⟨v,H1,I1,rv,q1⟩=>thn (ho pins s1 σ H1 _ I1 q1) λu s2 ⟨x,H2,I2,rx,q2⟩=>thn (hi pins s2 σ H2 _ I2 q2) λiv s3 hx9=>?_) hs
 obtain ⟨y,H3,I3,ry,a,H4,ex,g,q3⟩:=hx9
 subst ex
 obtain rfl:u=Value.ref a:=rx
 exact aCw hu I3 g ry rv λs4 I4=>⟨σ,H4,I4,q3⟩
end
theorem yK (h:Heap) (hb:sysModules < h.objs.size):bL P w H (h.push { cls:=.type "dict",data:=.dict #[] }) h.objs.size (.dK []) :=
 ⟨Jn _,beq_eq_false_iff_ne.mpr (Ne.symm (Ja hb)),[],.nil,Heap.DictOf.new h⟩
theorem yL (h:Heap) (hb:sysModules < h.objs.size):bL P w H (h.push { cls:=.type "dict",data:=.dict #[] }) h.objs.size (.dT []) :=
 ⟨Jn _,beq_eq_false_iff_ne.mpr (Ne.symm (Ja hb)),[],.nil,_,#[],0,Qh _ rfl,⟨rfl,rfl,rfl⟩,rfl,rfl,Zw⟩
def aGS:TE:=λ_ H Q=>∀ p,H p=none->Q (.ref p) (upd H p (.dK []))
def aGT:TE:=λ_ H Q=>∀ p,H p=none->Q (.ref p) (upd H p (.dT []))
theorem aDJ:PE X (.Dict [] [] pos) aGS:=λpins s σ H Q I h =>
 Raz ⟨.ref s.heap.objs.size,_,I.laid (a:=s.heap.objs.size) (o:=.dK []) (t':=s.toks) (λ_ _ q=>Qa _ q) (Qg _) (yK s.heap I.big),rfl,h _ (I.hok.fresh (Qg _))⟩
theorem aDK:PE X (.Dict [] [] pos) aGT:=λpins s σ H Q I h =>
 Raz ⟨.ref s.heap.objs.size,_,I.laid (a:=s.heap.objs.size) (o:=.dT []) (t':=s.toks) (λ_ _ q=>Qa _ q) (Qg _) (yL s.heap I.big),rfl,h _ (I.hok.fresh (Qg _))⟩
def NF (H0:Hp) (a:Addr):Prop:=∀ o u,H0 a≠some (.frz o u)
section
variable {σ:St}
theorem Inv.freeze {kvs:List (Key×V)} (I:Inv X pins σ H s) (e:H a=some (.dK kvs)) (ho:s.heap.get? a=some o):Inv X pins σ (upd H a (.frz o (.dK kvs))) s:=by
 have m:Mut (H a):=by rw [e]; trivial
 have q:bL X.prog X.w H s.heap a (.dK kvs):=I.hok a _ e
 exact I.write (x:=a) (e:=a) (t':=s.toks) m (.inl rfl) (λb u _ z=>z) ⟨o,ho⟩ ⟨ho,q⟩
theorem Inv.nf {kvs:List (Key×V)} (I:Inv X pins σ H s) (e:H a=some (.dK kvs)):NF X.H0x a:=λo u z=>by
 have:=I.base.frzs a o u z
 rw [e] at this; cases this
theorem Inv.thaw {kvs:List (Key×V)} (I:Inv X pins σ H s) (e:H a=some (.frz o (.dK kvs))) (nf:NF X.H0x a):Inv X pins σ (upd H a (.dK kvs)) s:=by
 have ne:∀ b,H b=none->b≠a:=λb n z=>by rw [z,e] at n; cases n
 have nt:∀ b xs,H b=some (.tup xs)->b≠a:=λb xs n z=>by rw [z,e] at n; cases n
 have no:∀ b x,H b=some (.own x)->b≠a:=λb xs n z=>by rw [z,e] at n; cases n
 obtain ⟨ho,q⟩:s.heap.get? a=some o/\bL X.prog X.w H s.heap a (.dK kvs):=I.hok a _ e
 have un:Un X.fs X.ex X.H0x (upd H a (.dK kvs)) X.s0x.heap s.heap:=by
  refine ⟨I.base.keep,I.base.slot,λb ob q n hx=>?_,I.base.there,λb xs q=>?_,λb ob u q=>?_,λb ps q=>?_⟩
  ·have z:=I.base.free b ob q n hx
   rw [aF (ne b z)]; exact z
  ·have z:=I.base.tups b xs q
   rw [aF (nt b xs z)]; exact z
  ·have z:=I.base.frzs b ob u q
   have n:b≠a:=λy=>nf ob u (y ▸ q)
   rw [aF n]; exact z
  ·obtain ⟨m,z⟩:=I.base.tbls b ps q
   have n:b≠a:=λy=>by rw [y,e] at z; cases z
   exact ⟨m,by rw [aF n]; exact z⟩
 refine ⟨I.ok,I.os,I.bare,un,I.loc,I.cell,?_,λx c h=>?_,λp hp=>?_,λb u h=>?_,I.len⟩
 ·rw [aF (ne _ I.free)]; exact I.free
 ·have z:=I.freeC x c h
  rw [aF (ne _ z)]; exact z
 ·obtain ⟨p1,p2,p3⟩:=I.pin p hp
  exact ⟨p1,by rw [aF (ne _ p2)]; exact p2,p3⟩
 ·by_cases hb:b=a
  ·subst hb
   rw [aB] at h
   cases h
   exact bL.stay q (λ_ _ _ z=>z) (λc z=>by rw [aF (no c _ z)]; exact z) (λc xs z=>by rw [aF (nt c xs z)]; exact z)
  ·rw [aF hb] at h
   exact bL.stay (I.hok b u h) (λ_ _ _ z=>z) (λc z=>by rw [aF (no c _ z)]; exact z) (λc xs z=>by rw [aF (nt c xs z)]; exact z)
end
def Itd (a:Addr) (o:Obj) (kvs:List (Key×V)):It :=
 ⟨λi H=>H a=some (.frz o (.dK kvs))/\i < kvs.length,λi H x H'=>H'=H/\∃ p,kvs[i]?=some p/\x=kV p.1,λi H=>H a=some (.frz o (.dK kvs))/\i=kvs.length⟩
theorem yM {k:Key} (h:(cA P w).is k u=true):bS (kV k) u:=by
 rcases cR h with ⟨i,t,rfl,rfl⟩ | ⟨x,t,rfl,rfl⟩
 ·exact ⟨t,rfl⟩
 ·exact ⟨t,rfl⟩
theorem pE {es:Array DictEntry} {vs:List (Key×Value)} (ho:h.get? a=some o) (hd:o.data=.dict es ep) (d:h.DictOf (cA P w) a vs):h.DictAt (cA P w) a vs ep:=by
 obtain ⟨o',es',ep',q1,q2,q3,r⟩:=d
 rw [ho] at q1; cases q1
 rw [hd] at q3; cases q3
 exact ⟨o,es,ho,q2,hd,r⟩
theorem aCy (a it:Addr) (o:Obj) (es:Array DictEntry) (ep:Nat) (hd:o.data=.dict es ep) (kvs:List (Key×V)) :
  Turn P w K tg (Itd a o kvs) [it] it (λi h=>h.IsKeyIter it a i kvs.length ep) where
 mem:=by simp
 obj:=λi h st b hb=>by
  have e:b=it:=by simpa using hb
  subst e
  obtain ⟨o,e,c,d⟩:=st
  exact ⟨o,e,λv z=>by rw [d] at z; cases z⟩
 keep:=λi h h' st k=>st.at λo e=>k it (by simp) o e
 item:=by
  intro X hP hw hK hc i pins s σ H E I hf st hg
  subst hP hw hK
  obtain ⟨hA,hi⟩:=hg
  obtain ⟨ho,hz,hs,vs,kv,dd⟩:s.heap.get? a=some o/\bL X.prog X.w H s.heap a (.dK kvs):=I.hok a _ hA
  have da:=pE ho hd dd
  have hl:kvs.length=vs.length:=kv.length
  obtain ⟨f0,f1,f2,f3,f4,f5⟩:=hf it (by simp)
  obtain ⟨⟨k,x⟩,hx⟩:∃ p,vs[i]?=some p:=⟨vs[i]'(by omega),by simp⟩
  rw [hl] at st
  refine wpAny_pyNext_dict_item st da hx λkey h' hkey st' sb=>?_
  have I1:Inv X pins σ H { s with heap:=h' }:=I.turned (t':=s.toks) (λb o hb e=>(sb.2 b hb).trans e) f0 f1 f3 f4 f5
  obtain ⟨o',e',c',d'⟩:=id st'
  have hk:kvs[i]?=some (kvs[i]):=Qc hi
  have hkk:(kvs[i]).1=k:=by
   have e:=kv.keys
   have e1:(kvs.map (·.1))[i]?=some (kvs[i]).1:=by rw [Qe,hk]; rfl
   have e2:(vs.map (·.1))[i]?=some k:=by rw [Qe,hx]; rfl
   rw [e,e2] at e1
   exact (Option.some.inj e1).symm
  rw [<- hl] at st'
  exact ⟨key,rfl,xE (s:={ s with heap:=h' }) e' c' d' (by decide) ⟨kV k,H,I1,yM hkey,⟨rfl,_,hk,by rw [hkk]⟩,st',λb hb=>(hf b hb).1⟩⟩
 done:=by
  intro X hP hw hK hc i pins s σ H E I hf st hg
  subst hP hw hK
  obtain ⟨hA,hi⟩:=hg
  obtain ⟨ho,hz,hs,vs,kv,dd⟩:s.heap.get? a=some o/\bL X.prog X.w H s.heap a (.dK kvs):=I.hok a _ hA
  have da:=pE ho hd dd
  have hl:kvs.length=vs.length:=kv.length
  obtain ⟨f0,f1,f2,f3,f4,f5⟩:=hf it (by simp)
  rw [hl] at st
  exact wpAny_pyNext_dict_end (I.ok.hd hc) st da (by simp; omega) λh' eb=>⟨rfl,I.turned (t':=s.toks) (λb o hb e=>eb b o hb e) f0 f1 f3 f4 f5⟩
 self:=λ_ _ _ _ _ st h=>Ram st h
def aHR (H0:Hp) (td:TE):TI:=λσ H R=>td σ H λx H1=>∃ a kvs,x=.ref a/\H1 a=some (.dK kvs)/\∀ o,NF H0 a->R (Itd a o kvs) (upd H1 a (.frz o (.dK kvs)))
theorem aFi {d:Expr} (hl:PE X d td):PI X tg d (aHR X.H0x td):=by
 intro pins s σ H R I h
 refine thn (hl pins s σ H _ I h) λv s1 hx9=>?_
 obtain ⟨x,H1,I1,r1,q1⟩:=hx9
 obtain ⟨a,kvs,e,hq,q⟩:=q1
 subst e
 cases r1
 obtain ⟨hz,hs,vs,kv,dd⟩:bL X.prog X.w H1 s1.heap a (.dK kvs):=I1.hok a _ hq
 obtain ⟨o,es,ep,ho,oe,hd,r⟩:=id dd
 have da:=pE ho hd dd
 refine Rav hs da ?_
 have I2:=(I1.freeze hq ho).kept (h':=s1.heap.push { cls:=.type "dict_keyiterator",data:=.fields #[.ref a,.int 0 0,.int vs.length 0,.int ep 0] }) (t':=s1.toks) λb o e=>Qa _ e
 have nA:a≠s1.heap.objs.size:=Ja (Qp ho)
 refine ⟨s1.heap.objs.size,[s1.heap.objs.size],_,_,_,rfl,I2,aCy a _ o es ep hd kvs,?_,λb hb=>?_,q o (I1.nf hq)⟩
 ·refine ⟨_,Qh _ rfl,rfl,?_⟩
  rw [kv.length]; rfl
 ·have e:b=s1.heap.objs.size:=by simpa using hb
  subst e
  exact I1.fpOk (Qg _) (by rw [aF (Ne.symm nA)]; exact I1.hok.fresh (Qg _))
def aHS (H0:Hp) (t:TS):TS:=λD σ H=>t { D with nx:=λσ' H'=>∃ a o kvs,H' a=some (.frz o (.dK kvs))/\NF H0 a/\D.nx σ' (upd H' a (.dK kvs)) } σ H
theorem aFj {t:TS} (h:PS X st t):PS X st (aHS X.H0x t):=by
 intro pins s σ H D I q
 refine thn (h pins s σ H _ I q) λf s1 z=>?_
 cases f with
 | next =>
  obtain ⟨σ',H',I',a,o,kvs,e,nf,k⟩:=z
  exact ⟨σ',_,I'.thaw e nf,k⟩
 | brk=>exact z
 | cont=>exact z
 | ret u=>exact z
theorem aDL {kvs:List (Key×V)} {σ:St} (Pv:Nat->St->Hp->Prop) (h0:Pv 0 σ H) (hl:∀ i σ H,i<=kvs.length->Pv i σ H->H a=some (.frz o (.dK kvs))) (hs:∀ i p σ H,kvs[i]?=some p->Pv i σ H->g (kV p.1) σ H λσ2 H2=>tb { D with nx:=Pv (i+1),ct:=Pv (i+1),bk:=D.nx } σ2 H2) (hd:∀ σ H,Pv kvs.length σ H->D.nx σ H) :
  ∃ W:Nat->Nat->St->Hp->Prop,(∃ m,W 0 m σ H)/\∀ i m σ H,W i m σ H ->
   ((Itd a o kvs).stop i H/\D.nx σ H)∨((Itd a o kvs).go i H/\∃ N:St->Hp->Prop,(∀ σ' H',N σ' H'->∃ m',m' < m/\W (i+1) m' σ' H')/\∀ x H',(Itd a o kvs).yld i H x H'->g x σ H' λσ2 H2=>tb { D with nx:=N,ct:=N,bk:=D.nx } σ2 H2):=by
 refine ⟨λi m σ H=>m=kvs.length - i/\i<=kvs.length/\Pv i σ H,⟨kvs.length,by simp,Jn _,h0⟩,?_⟩
 rintro i m σ H ⟨rfl,hi,p⟩
 have q:=hl i σ H hi p
 by_cases hlt:i < kvs.length
 ·refine .inr ⟨⟨q,hlt⟩,Pv (i+1),λσ' H' p'=>⟨kvs.length - (i+1),by omega,rfl,hlt,p'⟩,λx H' y=>?_⟩
  obtain ⟨rfl,v,hv,rfl⟩:=y
  exact hs i v σ H' hv p
 ·have e:i=kvs.length:=by omega
  subst e
  exact .inl ⟨⟨q,rfl⟩,hd σ H p⟩
def aGU (tk tv:TE):TE:=λσ H Q=>∀ p,H p=none->tk σ (upd H p (.dK [])) λx H1=>tv σ H1 λy H2=>∃ k,x=kV k/\H2 p=some (.dK [])/\Q (.ref p) (upd H2 p (.dK [(k,y)]))
section
variable {ek ev:Expr}
theorem aDM (hk:PE X ek tk) (hv:PE X ev tv) (he:evalEachOpt [some ek] X.env = [some (eval ek X.env)]:=by rfl) (he2:evalEach [ev] X.env = [eval ev X.env]:=by rfl):PE X (.Dict [some ek] [ev] pos) (aGU tk tv):=by
 intro pins s σ H Q I h
 have I0:Inv X pins σ (upd H s.heap.objs.size (.dK [])) { s with heap:=s.heap.push { cls:=.type "dict",data:=.dict #[] } }:=I.laid (a:=s.heap.objs.size) (o:=.dK []) (t':=s.toks) (λ_ _ q=>Qa _ q) (Qg _) (yK s.heap I.big)
 have h0:=h s.heap.objs.size (I.hok.fresh (Qg _))
 refine wpAny_Dict_pairs (knd:=cA X.prog X.w) (pairs:=[(eval ek X.env,do let x<-eval ev X.env; standAt pos; pure x)]) (by rw [he,he2]; rfl) (by simp) (by simp) ?_
 refine evalPairs_cons (thn (hk pins _ σ _ _ I0 h0) λkv s1 hx9=>?_)
 obtain ⟨x,H1,I1,r1,q1⟩:=hx9
 refine Ra (thn (hv pins _ σ _ _ I1 q1) λvv s2 hx9=>?_)
 obtain ⟨y,H2,I2,r2,q2⟩:=hx9
 refine Ra (Tj (Rb (evalPairs_nil ?_)))
 obtain ⟨k,rfl,hp,q⟩:=q2
 obtain ⟨hz,hs,vs,kv',dd⟩:bL X.prog X.w H2 s2.heap s.heap.objs.size (.dK []):=I2.hok _ _ hp
 have ev0:vs = []:=by
  have:=kv'.length
  exact Jt.mp this.symm
 subst ev0
 refine ⟨[(k,vv)],⟨yG r1,rfl,trivial⟩,dd,λh' dd' sb=>?_⟩
 have em:merged ([]:List (Key×Value)) [(k,vv)] = [(k,vv)]:=by simp [merged,stored]
 rw [em] at dd'
 obtain ⟨o',es',ep',ho',_⟩:=id dd'
 have mu:Mut (H2 s.heap.objs.size):=by rw [hp]; trivial
 refine ⟨.ref s.heap.objs.size,_,qP (t':=s2.toks+1) I2 mu sb ⟨_,ho'⟩ (aDI (kvs:=[(k,y)]) (by simp [Rf]) hs (.cons ⟨rfl,r2⟩ .nil) dd'),rfl,q⟩
end
def jH (h:Heap) (u:Value) (i:Int) (v:Value):Prop:=∃ p,u=.ref p/\((∃ its:Array Value,h.IsTuple p its/\0<=i/\i < 1000/\its[i.toNat]?=some v)∨∃ its:Array Value,h.IsList p its/\0<=i/\i < 1000/\its[i.toNat]?=some v)
theorem jH.keeps {i:Int} {v:Value} (x:jH h u i v) (k:∀ b o,h.get? b=some o->h'.get? b=some o):jH h' u i v:=by
 obtain ⟨p,rfl,⟨its,⟨o,ho,r⟩,q⟩ | ⟨its,⟨o,ho,r⟩,q⟩⟩:=x
 ·exact ⟨p,rfl,.inl ⟨its,⟨o,k _ _ ho,r⟩,q⟩⟩
 ·exact ⟨p,rfl,.inr ⟨its,⟨o,k _ _ ho,r⟩,q⟩⟩
theorem nV {i:Int} (h0:0<=i) (h1:i.toNat < n):seqIndex? i n=some i.toNat:=by
 unfold seqIndex?
 have e:¬ (i < 0):=by omega
 simp only [e,if_false]
 have e2:(decide (0<=i) && decide (i < (n:Int)))=true:=by simp; omega
 rw [if_pos e2]
theorem aFk {env:Env} {m:Str->Option Value} {v:Value} {i:Int} {t:Tok} (hk:env.scope.kind=.function) (hv:env.kindOf vn=some .free) (hx:env.kindOf xn=some .local) (hc:env.cells.lookup vn=some c) (hC:s.heap.IsCell c (some u)) (hn:s.heap.Ns env.locals m) (hm:m xn=some (.int i t)) (hI:jH s.heap u i v) (h:Q v s) (d1:(vn==("__debug__" : Str))=false) (d2:(vn==("__classdict__" : Str))=false) (d3:(xn==("__debug__" : Str))=false) :
  wpAny (model prog w) A (eval (.Subscript (.Name vn p1) (.Name xn p2) p3) env) Q E s:=by
 refine Iv (Ir (Ran hk hv hc hC ?_ d2) d1)
 refine Ir (Rai hk hx hn hm ?_) d3
 obtain ⟨p,rfl,⟨its,hp,i0,i1,e⟩ | ⟨its,hp,i0,i1,e⟩⟩:=hI
 ·have hlt:i.toNat < its.size:=(Array.getElem?_eq_some_iff.mp e).1
  exact Ux (x:=v) hp.typeIs slot_tuple_getitem.lookup
   (getItem_tuple (j:=i.toNat) (Q:=λr s'=>r=v/\Q r s') hp (by omega) (by omega) (nV i0 hlt) e ⟨rfl,h⟩)
 ·have hlt:i.toNat < its.size:=(Array.getElem?_eq_some_iff.mp e).1
  exact Ux (x:=v) hp.typeIs slot_list_getitem.lookup
   (wpAny_getItem_list (Q:=λr s'=>r=v/\Q r s') hp (by omega) (by omega) e ⟨rfl,h⟩)
theorem aDN {c':Addr} {q nm:Str} {ctv v:Value} {i:Int} {t:Tok} (hroom:A.depth < recursionLimit) (hlim:s.heap.NoLimit) (hf:s.heap.get? f=some { cls:=.type "function",data:=.func (Ur nm q params (.Subscript (.Name vn p1) (.Name xn p2) p3) scope cl pm (.ref c') ctv) }) (hcd:s.heap.CodeRec (.ref c') q) (hbind:bindArgs (Ur nm q params (.Subscript (.Name vn p1) (.Name xn p2) p3) scope cl pm (.ref c') ctv) ⟨[.int i t],[]⟩=pure [(xn,.int i t)]) (hx:scope.names.lookup xn=some .local) (hv:scope.names.lookup vn=some .free) (hco:scope.isCoroutine=false) (hgen:scope.isGenerator=false) (hk:scope.kind=.function) (hcell:∀ x∈scope.names,x.2≠.cell) (hc:cl.lookup vn=some c) (hC:s.heap.IsCell c (some u)) (hI:jH s.heap u i v) (h:∀ h' tk,(∀ b o,s.heap.get? b=some o->h'.get? b=some o)->Q v { s with heap:=h',toks:=tk }) (d1:(vn==("__debug__" : Str))=false) (d2:(vn==("__classdict__" : Str))=false) (d3:(xn==("__debug__" : Str))=false) :
  wpAny (model prog w) A (call (.ref f) [.int i t]) Q E s:=by
 refine Iu (PySem.W.kla_callFunE hroom hf rfl hco hgen rfl hcd ?_)
 rw [hbind]
 refine Rb (Rak hcell (λy hy=>by rw [Qs.mp hy]; exact hx) (λh1x hns hsb=>⟨hlim.fresh _ hsb,?_⟩) hk)
 have hk1x:∀ b o,s.heap.get? b=some o->h1x.get? b=some o:=λb o e=>hsb.extBut b o (Ja (Qp e)) (Qa _ e)
 obtain ⟨oc,hoc,hdc⟩:=hC
 refine PySem.W.kla_codeExpr (aFk (env:=newEnv scope s.heap.objs.size mainGlobals cl (q ++ ".<locals>.") (some f) (.ref c') none builtinsNs) (m:=λx=>[(xn,Value.int i t)].reverse.lookup x) (t:=t) hk hv hx hc ⟨oc,hk1x _ _ hoc,hdc⟩ hns ?_ (hI.keeps hk1x) (h h1x _ hk1x) d1 d2 d3)
 simp [List.lookup]
section
variable {wr:List Addr} {Pv:Nat->Value->Prop} {St:Nat->Heap->Prop} {kf:Nat->Int} {L:List (Addr×Obj)}
def aDO (prog:Program) (w:World) (A:Around) (f:Addr) (L:List (Addr×Obj)) (n:Nat) (Pv:Nat->Value->Prop) (kf:Nat->Int):Prop :=
 ∀ i v (s:Shared) (Q:Value->Shared->Prop) (E:Value->Shared->Prop),i < n->Pv i v->(∀ p∈L,s.heap.get? p.1=some p.2) ->
  (∀ h' tk t,(∀ b o,s.heap.get? b=some o->h'.get? b=some o)->Q (.int (kf i) t) { s with heap:=h',toks:=tk })->wpAny (model prog w) A (call (.ref f) [v]) Q E s
abbrev btK (kf:Nat->Int):Nat->Nat->Bool:=λi j=>decide (kf i < kf j)
theorem vU (W:Walks prog w A.in1 I fp wr n Pv St) (hkey:aDO prog w A.in1 f L n Pv kf) (S:Addr) (hSf:S∉fp) (hL:∀ p∈L,p.1∉wr/\p.1≠S) :
  ∀ (k j:Nat) (s:Shared) (vb:Value) (t:Tok) (c:Nat),n - (j+1)=k->j+1<=n->St (j+1) s.heap->Pv (argBest (btK kf) j) vb ->
  s.heap.get? S=some { cls:=.type "list",dict:=none,data:=.seq #[vb,.int (kf (argBest (btK kf) j)) t] c,slots:=#[] }->(∀ p∈L,s.heap.get? p.1=some p.2) ->
  (∀ v h' tk,Pv (argBest (btK kf) (n - 1)) v->(∀ b o,b∉wr->b≠S->s.heap.get? b=some o->h'.get? b=some o)->R (.ok (.ret v)) { s with heap:=h',toks:=tk }) ->
  codeAny (model prog w) A (.builtin "min.loop" ⟨[.ref I,.ref f,.ref S],[]⟩) R s:=by
 have hSw:S∉wr:=λh=>hSf (W.sub _ h)
 have hname:(toString "min" ++ toString ".loop" : String) = "min.loop" := by decide
 intro k
 induction k with
 | zero =>
  intro j s vb t c hk hj hst hPb hS hLs hR
  have hin:j+1=n:=by omega
  refine Tf F.entry_min_loop ?_
  rw [Around.under_plainId F.plain_min_loop _]
  show wpAny _ A.in1 (seqItems? (.ref S) >>= _) _ _ s
  refine Ra (Td hS rfl ?_)
  show wpAny _ A.in1 (tryCatch (pyNext (.ref I)) _ >>= _) _ _ s
  refine Ra (Va (W.done s _ _ (hin ▸ hst) λh' tk kk=>?_))
  have hS':=kk S _ hSw hS
  show wpAny _ A.in1 (updateSeq S (λ_=>#[]) >>= _) _ _ _
  refine Ra ?_
  refine Vg hS' rfl (Ra (Ui (Rb ?_)))
  exact hR vb _ _ (by rw [<- hin]; exact hPb) λb o hb hbS e=>(Jk _ _ (Ne.symm hbS)).trans (kk b o hb e)
 | succ k ih =>
  intro j s vb t c hk hj hst hPb hS hLs hR
  have hlt:j+1 < n:=by omega
  refine Tf F.entry_min_loop ?_
  rw [Around.under_plainId F.plain_min_loop _]
  show wpAny _ A.in1 (seqItems? (.ref S) >>= _) _ _ s
  refine Ra (Td hS rfl ?_)
  show wpAny _ A.in1 (tryCatch (pyNext (.ref I)) _ >>= _) _ _ s
  refine Ra (Va (W.item (j+1) s _ _ hlt hst λv h1 tk1 hP hst1 kk1=>?_))
  have hS1:=kk1 S _ hSw hS
  show wpAny _ A.in1 (tryCatch (holding [v] (call (.ref f) [v])) _ >>= _) _ _ _
  refine Ra (Va (Rm (hkey (j+1) v _ _ _ hlt hP (λp hp=>kk1 _ _ (hL p hp).1 (hLs p hp)) λh2 tk2 t2 kk2=>?_)))
  have hS2:=kk2 S _ hS1
  have hst2:St (j+1+1) h2:=W.frame _ _ _ hst1 λb _ o e=>kk2 b o e
  show wpAny _ A.in1 (tryCatch (holding [v,.int (kf (j+1)) t2] (richCompare .Lt (.int (kf (j+1)) t2) (.int (kf (argBest (btK kf) j)) t) >>= _)) _ >>= _) _ _ _
  have hcmp:CmpOf prog w A.in1 .Lt (λi u=>∃ t,u=.int (kf i) t) (btK kf):=CmpOf.ints_lt kf λi v h=>h
  refine Ra (Va (Rm (Ra (hcmp (j+1) (argBest (btK kf) j) _ _ _ _ _ ⟨_,rfl⟩ ⟨_,rfl⟩ ?_))))
  refine Ra (Rm (Rq ?_))
  refine Ra (Ui (Rb ?_))
  have kk:∀ b o,b∉wr->s.heap.get? b=some o->h2.get? b=some o:=λb o hb e=>kk2 b o (kk1 b o hb e)
  cases hb:btK kf (j+1) (argBest (btK kf) j) with
  | true =>
   simp only [if_true]
   refine Ra ?_
   refine Vg hS2 rfl (Ra (Ui ?_))
   rw [hname]
   have eb:argBest (btK kf) (j+1)=j+1:=by simp only [argBest,hb,if_true]
   refine Rb ⟨Ts F.plain_min_loop _,ih (j+1) _ v t2 _ (by omega) hlt (W.frame _ _ _ hst2 λb hbf o e=>?_) (by rw [eb]; exact hP) (by rw [eb]; exact Xe _ hS2 rfl) (λp hp=>?_) λv' h' tk hP' kk'=>?_⟩
   ·exact (Jk _ _ (λh:S=b=>hSf (by rw [h]; exact hbf))).trans e
   ·exact (Jk _ _ (Ne.symm (hL p hp).2)).trans (kk _ _ (hL p hp).1 (hLs p hp))
   ·exact hR v' h' tk hP' λb o hb hbS e=>kk' b o hb hbS ((Jk _ _ (Ne.symm hbS)).trans (kk b o hb e))
  | false =>
   simp only [Jh,if_false]
   refine Ra (Ui ?_)
   rw [hname]
   have eb:argBest (btK kf) (j+1)=argBest (btK kf) j:=by simp only [argBest,hb,Jh,if_false]
   refine Rb ⟨Ts F.plain_min_loop _,ih (j+1) _ vb t c (by omega) hlt hst2 (by rw [eb]; exact hPb) (by rw [eb]; exact hS2) (λp hp=>kk _ _ (hL p hp).1 (hLs p hp)) λv' h' tk hP' kk'=>?_⟩
   exact hR v' h' tk hP' λb o hb hbS e=>kk' b o hb hbS (kk b o hb e)
theorem tV (W:Walks prog w A.in1 I fp wr n Pv St) (hkey:aDO prog w A.in1 f L n Pv kf) (S:Addr) (hSf:S∉fp) (hL:∀ p∈L,p.1∉wr/\p.1≠S) (hn:0 < n) {c:Nat} (hst:St 0 s.heap) (hS:s.heap.get? S=some { cls:=.type "list",dict:=none,data:=.seq #[] c,slots:=#[] }) (hLs:∀ p∈L,s.heap.get? p.1=some p.2) (hR:∀ v h' tk,Pv (argBest (btK kf) (n - 1)) v->(∀ b o,b∉wr->b≠S->s.heap.get? b=some o->h'.get? b=some o)->R (.ok (.ret v)) { s with heap:=h',toks:=tk }) :
  codeAny (model prog w) A (.builtin "min.loop" ⟨[.ref I,.ref f,.ref S],[]⟩) R s:=by
 have hSw:S∉wr:=λh=>hSf (W.sub _ h)
 have hname:(toString "min" ++ toString ".loop" : String) = "min.loop" := by decide
 refine Tf F.entry_min_loop ?_
 rw [Around.under_plainId F.plain_min_loop _]
 show wpAny _ A.in1 (seqItems? (.ref S) >>= _) _ _ s
 refine Ra (Td hS rfl ?_)
 show wpAny _ A.in1 (tryCatch (pyNext (.ref I)) _ >>= _) _ _ s
 refine Ra (Va (W.item 0 s _ _ hn hst λv h1 tk1 hP hst1 kk1=>?_))
 have hS1:=kk1 S _ hSw hS
 show wpAny _ A.in1 (tryCatch (holding [v] (call (.ref f) [v])) _ >>= _) _ _ _
 refine Ra (Va (Rm (hkey 0 v _ _ _ hn hP (λp hp=>kk1 _ _ (hL p hp).1 (hLs p hp)) λh2 tk2 t2 kk2=>?_)))
 have hS2:=kk2 S _ hS1
 have hst2:St (0+1) h2:=W.frame _ _ _ hst1 λb _ o e=>kk2 b o e
 show wpAny _ A.in1 (updateSeq S (λ_=>#[v,.int (kf 0) t2]) >>= _) _ _ _
 refine Ra ?_
 refine Vg hS2 rfl ?_
 rw [hname]
 have kk:∀ b o,b∉wr->s.heap.get? b=some o->h2.get? b=some o:=λb o hb e=>kk2 b o (kk1 b o hb e)
 refine Rb ⟨Ts F.plain_min_loop _,vU W hkey S hSf hL _ 0 _ v t2 _ rfl hn (W.frame _ _ _ hst2 λb hbf o e=>?_) hP (Xe _ hS2 rfl) (λp hp=>?_) λv' h' tk hP' kk'=>?_⟩
 ·exact (Jk _ _ (λh:S=b=>hSf (by rw [h]; exact hbf))).trans e
 ·exact (Jk _ _ (Ne.symm (hL p hp).2)).trans (kk _ _ (hL p hp).1 (hLs p hp))
 ·exact hR v' h' tk hP' λb o hb hbS e=>kk' b o hb hbS ((Jk _ _ (Ne.symm hbS)).trans (kk b o hb e))
theorem vV (a k:Value):argsOk "min" ⟨[a],[(Str.ofString "key",k)]⟩:=by unfold argsOk; kernel_rfl
theorem vW {id:String} {b:Builtin} {args:List Value} {kw:List (Str×Value)} (hk:builtinKind id=none) (hp:plainId id=true) (hb:entryFor table id=some b) (ha:argsOk id ⟨args,kw⟩) (hc:wpAny (model prog w) A.in1 (b ⟨args,kw⟩) (λfin s'=>match fin with
   | .done f=>(match (Except.ok f:Result) with | .ok (.ret v)=>Q v s' | .ok _=>False | .error e=>E e s')
   | .again c'=>c'.quiet=true/\codeAny (model prog w) A c' (λr s'=>match r with | .ok (.ret v)=>Q v s' | .ok _=>False | .error e=>E e s') s') E s) :
  wpAny (model prog w) A (call (.builtin id) args kw) Q E s:=by
 refine Iu (Ig hp hb ?_)
 simp only [checkBuiltinCall,hk]
 cases hsig:Manifest.signature? id with
 | none=>exact Rb hc
 | some sig =>
  simp only [argsOk,hsig] at ha
  have h2:Bind.checkArgs id sig ⟨args,kw⟩=pure ():=ha
  show wpAny _ A.in1 (Bind.checkArgs id sig ⟨args,kw⟩) _ _ s
  rw [h2]; exact Rb hc
theorem vX {x:Value} (h:wpAny (model prog w) A.in1 (pyIter x) (λit s2x=>∃ I fp wr n Pv St kf L,it=.ref I/\Walks prog w A.in1 I fp wr n Pv St/\St 0 s2x.heap/\(∀ b∈fp,b < s2x.heap.objs.size)/\0 < n/\aDO prog w A.in1 f L n Pv kf /\
   (∀ p∈L,p.1∉wr)/\(∀ p∈L,s2x.heap.get? p.1=some p.2) /\
   ∀ v h' tk,Pv (argBest (btK kf) (n - 1)) v->(∀ b o,b∉wr->s2x.heap.get? b=some o->h'.get? b=some o)->Q v { s2x with heap:=h',toks:=tk }) E s) :
  wpAny (model prog w) A (call (.builtin "min") [x] [(Str.ofString "key",.ref f)]) Q E s:=by
 have hname:(toString "min" ++ toString ".loop" : String) = "min.loop" := by decide
 refine vW F.kind_min F.plain_min F.entry_min (vV _ _) ?_
 show wpAny _ A.in1 (Builtin.Builtins.bindParams "min" ["key", "default"] 0 ⟨[],[(Str.ofString "key",.ref f)]⟩ >>= _) _ _ s
 refine Ra (Vo (show Builtin.Builtins.bindParams "min" ["key", "default"] 0 ⟨[],[(Str.ofString "key",.ref f)]⟩=pure [some (.ref f),none] from rfl) ?_)
 refine Ra (Rb ?_)
 refine Ra (Rr h (λit s2x h2x=>?_) λ_ _ e=>e)
 obtain ⟨I,fp,wr,n,Pv,St,kf,L,rfl,W,hst,hfp,hn,hkey,hLw,hLs,hQ⟩:=h2x
 refine Ra (Ri ?_)
 have hSf:s2x.heap.objs.size∉fp:=λhm=>Jx _ (hfp _ hm)
 rw [hname]
 refine Rb ⟨Ts F.plain_min_loop _,tV W hkey s2x.heap.objs.size hSf (λp hp=>⟨hLw p hp,Ja (Qp (hLs p hp))⟩) hn (W.frame _ _ _ hst λb _ o e=>Qa _ e) (Qh _ rfl) (λp hp=>Qa _ (hLs p hp)) λv h' tk hP hk=>?_⟩
 exact hQ v h' tk hP λb o hbw e=>hk b o hbw (Ja (Qp e)) (Qa _ e)
end
structure Lm (K:Rc) (mg:Str->Option Value) (base:Heap) (c P:Addr):Prop where
 hd:Ih K c P=true
 gP:mainGlobals≠P
 bu:base.BuiltinsAt mg P
theorem mU {p0:Pos} {c cv:Value}:∀ {l:List Value},TriplesOk l->codeAmong pos (l++[rawInt p0.line,rawInt p0.col,c])=some cv->codeAmong pos l=some cv∨cv=c
 | [],_,e=>by
  simp only [Zl,rawInt,codeAmong] at e
  split at e
  ·exact .inr (Option.some.inj e).symm
  ·cases e
 | .int a t::.int b u::x::r,h,e=>by
  simp only [Yz,codeAmong] at e ⊢
  split
  ·rename_i hc
   rw [if_pos hc] at e
   exact .inl e
  ·rename_i hc
   rw [if_neg hc] at e
   exact mU (show TriplesOk r from h) e
section
variable {σ:St} {P c':Addr} {q:Str} {ps:Array Value}
theorem Inv.grown {p0:Pos} (I:Inv X pins σ H s) (hT:H P=some (.tab q)) (hx:Heap.ExtBut P s.heap h') (hge:s.heap.objs.size<=c') (hcr:h'.CodeRec (.ref c') q) (hP0:s.heap.get? P=some (Rw ps)) (hPt:h'.get? P=some (Rw (ps++#[rawInt p0.line,rawInt p0.col,.ref c']))) :
  Inv X pins σ (upd H c' (.own P)) { s with heap:=h',toks:=t' }:=by
 have hf:H c'=none:=I.hok.fresh hge
 have hn:∀ b,H b=none->b≠P:=λb n z=>by rw [z,hT] at n; cases n
 have hc:∀ b u,H b=some u->b≠c':=λb u n z=>by rw [z,hf] at n; cases n
 have hlt:∀ b o,s.heap.get? b=some o->b≠c':=λb o e=>Ja (Qy (Qp e) hge)
 obtain ⟨c2,oc,vs,tq,ec,hoc,hdc,hv⟩:=hcr
 cases ec
 refine I.un ⟨λb o e n _ _=>hx b o (hn b n) e,λb o e n _ _=>⟨o.slots,hx b o (hn b n) e⟩,λb o e n _=>by rw [aF (hlt b o e)]; exact n,λb o e _=>?_,λb xs e=>by rw [aF (hc b _ e)]; exact e,λb o u e=>by rw [aF (hc b _ e)]; exact e,λb ps e=>⟨#[],by rw [aF (hc b _ e),e]; simp⟩⟩ ?_
 ·by_cases hb:b=P
  ·subst hb; exact ⟨_,hPt⟩
  ·exact ⟨o,hx b o hb e⟩
 ·intro b u e
  by_cases hb:b=c'
  ·subst hb
   rw [aB] at e; cases e
   exact ⟨oc,hoc⟩
  ·rw [aF hb] at e
   by_cases hbP:b=P
   ·subst hbP
    rw [hT] at e; cases e
    obtain ⟨ps0,e0,tr,r⟩:∃ ps:Array Value,s.heap.get? b=some { cls:=.none,data:=.fields ps }/\TriplesOk ps.toList/\∀ (pos:Pos) (cv:Value),codeAmong pos ps.toList=some cv->∃ (c:Addr) (o:Obj) (vs:Array Value) (t:Tok),cv=.ref c/\H c=some (.own b)/\s.heap.get? c=some o/\o.data=.fields vs/\(vs[1]?:Option Value)=some (.str q t):=I.hok b _ hT
    rw [hP0] at e0
    cases e0
    have el:(ps++#[rawInt p0.line,rawInt p0.col,Value.ref c']).toList=ps.toList++[rawInt p0.line,rawInt p0.col,.ref c']:=by simp
    refine ⟨_,hPt,by rw [el]; exact TriplesOk_snoc _ _ _ _ tr,λpos cv z=>?_⟩
    rw [el] at z
    rcases mU tr z with z | rfl
    ·obtain ⟨c3,o3,vs3,t3,r1,r2,r3,r4⟩:=r pos cv z
     have n3:c3≠b:=λy=>by rw [y,hT] at r2; cases r2
     exact ⟨c3,o3,vs3,t3,r1,by rw [aF (hc _ _ r2)]; exact r2,hx _ _ n3 r3,r4⟩
    ·exact ⟨c',oc,vs,tq,rfl,aB,hoc,hdc,hv⟩
   ·refine (I.hok b u e).stay (λd v hd z=>hx d v ?_ z) (λd z=>by rw [aF (hc _ _ z)]; exact z) λd xs z=>by rw [aF (hc _ _ z)]; exact z
    rcases hd with rfl | hd
    ·exact hbP
    ·intro z
     rw [z,hT] at hd; cases hd
theorem aDP {body:Expr} (I:Inv X pins σ H s) (Z:Lm X.K X.mg X.base c P) (hcode:X.env.code=.ref c) (hT:H P=some (.tab q)) (hq:X.env.qual ++ "<lambda>" = q) (hdef:defaultsOf params X.env=([],[])) (hcl:closureFor scope X.env=pure cl) (h:∀ f c' ctv pm s' H',Inv X pins σ H' s'->aE H H'->(∀ b o,b≠P->s.heap.get? b=some o->s'.heap.get? b=some o) ->
   s'.heap.get? f=some { cls:=.type "function",data:=.func (Ur "<lambda>" q params body scope cl pm (.ref c') ctv) }->s'.heap.CodeRec (.ref c') q->Q (.ref f) s') :
  wpAny (model X.prog X.w) X.A (eval (.Lambda params body scope pos) X.env) Q E s:=by
 obtain ⟨ps,hP,tr,r⟩:∃ ps:Array Value,s.heap.get? P=some { cls:=.none,data:=.fields ps }/\TriplesOk ps.toList/\∀ (pos:Pos) (cv:Value),codeAmong pos ps.toList=some cv->∃ (c:Addr) (o:Obj) (vs:Array Value) (t:Tok),cv=.ref c/\H c=some (.own P)/\s.heap.get? c=some o/\o.data=.fields vs/\(vs[1]?:Option Value)=some (.str q t):=I.hok P _ hT
 have hg:s.heap.Ns mainGlobals X.mg:=I.mod.glob.keeps I.bk
 have C:Vr s.heap c P:=Ms I.kIn Z.hd
 have hb:s.heap.BuiltinsAt X.mg P:=by
  obtain ⟨bm,o,e1,e2,e3,e4,e5,e6⟩:=Z.bu
  exact ⟨bm,o,e1,e2,e3,e4,I.bk _ _ e5,e6⟩
 refine PySem.W.kla_eval hdef ?_
 rw [hq]
 cases hf:codeAmong pos ps.toList with
 | none =>
  refine PySem.W.kla_makeFunction hcl I.ok.glob hg hcode C hP tr hf Z.gP hb λc' ctv h' tk hx hge hlt hcr hPt=>?_
  have I1:Inv X pins σ (upd H c' (.own P)) { s with heap:=h',toks:=tk }:=I.grown hT hx hge hcr hP hPt
  have I2:=I1.kept (h':=h'.push (PySem.W.kla_obj "<lambda>" q params body scope cl ((X.mg "__name__").getD .none) c' ctv)) (t':=tk) λb o e=>Qa _ e
  refine h _ c' ctv _ _ _ I2 (aE.new (I.hok.fresh hge)) (λb o hbP e=>Qa _ (hx b o hbP e)) (Qh _ rfl) ?_
  obtain ⟨c2,oc,vs,tq,ec,hoc,r⟩:=hcr
  exact ⟨c2,oc,vs,tq,ec,Qa _ hoc,r⟩
 | some cv =>
  obtain ⟨c',o,vs,t,rfl,r2,r3,r4,r5⟩:=r pos cv hf
  refine PySem.W.kla_makeFunctionHit hcl I.ok.glob hg hcode C hP tr hf hb λctv h' tk kk hsz=>?_
  have I2:=I.kept (h':=h'.push { cls:=.type "function",data:=.func (Ur "<lambda>" q params body scope cl ((X.mg "__name__").getD .none) (.ref c') ctv) }) (t':=tk) λb o e=>Qa _ (kk b o e)
  exact h _ c' ctv _ _ _ I2 (aE.refl H) (λb o _ e=>Qa _ (kk b o e)) (Qh _ rfl) ⟨c',o,vs,t,rfl,Qa _ (kk _ _ r3),r4,r5⟩
end
theorem mV (num:Nat->Int):∀ k,∀ l,l < argBest (btK num) k->num (argBest (btK num) k) < num l
 | 0=>λl hl=>by simp [argBest] at hl
 | k+1=>λl hl=>by
  have h2:=(Raq num k).2
  simp only [argBest] at hl ⊢
  by_cases hc:num (k+1) < num (argBest (btK num) k)
  ·rw [if_pos (show btK num (k+1) (argBest (btK num) k)=true from decide_eq_true hc)] at hl ⊢
   have:=h2 l (by omega)
   show num (k+1) < num l
   have e:num (argBest (λi j=>decide (num i < num j)) k)=num (argBest (btK num) k):=rfl
   omega
  ·rw [if_neg (show ¬ btK num (k+1) (argBest (btK num) k)=true from λz=>hc (of_decide_eq_true z))] at hl ⊢
   exact mV num k l hl
def aBp (K:Rc) (H:Hp) (x:V) (ns:List Int):Prop:=∃ a,x=.ref a/\(SqL K H a (ns.map V.int)∨SqT K H a (ns.map V.int)∨∃ kvs:List (Key×V),H a=some (.dK kvs)/\kvs.map (·.1)=ns.map Sum.inl)
def aBq (K:Rc) (H:Hp) (u:V) (n k:Int):Prop:=0<=n/\n < 1000/\∃ a xs,u=.ref a/\(SqT K H a xs∨SqL K H a xs)/\xs[n.toNat]?=some (.int k)
def aFl (K:Rc) (P:Addr) (q:Str) (iv:Nat) (te:TE):TE:=λσ H Q=>te σ H λx H1=>∃ (ns:List Int) (kf:Int->Int) (u:V),aBp K H1 x ns/\0 < ns.length/\H1 P=some (.tab q)/\σ[iv]?=some (some u)/\(∀ n∈ns,aBq K H1 u n (kf n)) /\
 ∀ (j:Nat) (m:Int) (H2:Hp),aE H1 H2->ns[j]?=some m->(∀ n∈ns,kf m<=kf n)->(∀ (l:Nat) (n:Int),l < j->ns[l]?=some n->kf m < kf n)->Q (.int m) H2
section
variable {σ:St}
theorem aAu (hh:A.handled=none) (I:Inv X pins σ H s) (hx:aBp X.K H x ns) (r:bS x u) (h:∀ (It:Addr) fp (Pv:Nat->Value->Prop) St s2,Walks X.prog X.w A It fp [It] ns.length Pv St->(∀ i v,Pv i v->∃ n t,ns[i]?=some n/\v=.int n t)->St 0 s2.heap->(∀ b∈fp,b < s2.heap.objs.size)->s.heap.objs.size<=It ->
   (∀ b o,s.heap.get? b=some o->s2.heap.get? b=some o)->(∃ h2,s2={ s with heap:=h2 })->Q (.ref It) s2):wpAny (model X.prog X.w) A (pyIter u) Q E s:=by
 obtain ⟨a,rfl,hx⟩:=hx
 cases r
 rcases hx with hx | hx | ⟨kvs,hx,hk⟩
 ·obtain ⟨its,rv,p,hz⟩:=I.list hx
  have hl:=rv.length
  rw [Qb] at hl
  have ht:=p.isList
  have hlt:a < s.heap.objs.size:=by obtain ⟨o,e,_⟩:=ht; exact Qp e
  have hne:a≠s.heap.objs.size:=Ja hlt
  have W0:=Walks.list (prog:=X.prog) (w:=X.w) (A:=A) hh s.heap.objs.size a hne its.toArray
  rw [show its.toArray.size=ns.length by rw [Ql,hl]] at W0
  refine Uc ht (h s.heap.objs.size [s.heap.objs.size,a] _ _ { s with heap:=s.heap.push { cls:=.type "list_iterator",data:=.fields #[.ref a,.int 0 0] } } W0 (λi v e=>?_) ⟨⟨_,Qh _ rfl,rfl,rfl⟩,ht.push _⟩ (λb hb=>?_) (Qg _) (λb o e=>Qa _ e) ⟨_,rfl⟩)
  ·have e':its[i]?=some v:=by simpa using e
   obtain ⟨hi,_⟩:=Qd.mp e'
   obtain ⟨w',ew,rw'⟩:=rv.get (i:=i) (x:=.int (ns[i]'(by omega))) (by rw [Qe,Qc (show i < ns.length by omega)]; rfl)
   rw [e'] at ew; cases ew
   obtain ⟨t,rfl⟩:=rw'
   exact ⟨_,t,Qc (show i < ns.length by omega),rfl⟩
  ·show b < (s.heap.push _).objs.size
   rw [Jo]
   simp only [Qm,Qt,or_false] at hb
   rcases hb with hb | hb
   ·rw [hb]; exact Zv _
   ·rw [hb]; exact Xb hlt
 ·obtain ⟨its,rv,p,hz⟩:=I.tuple hx
  have hl:=rv.length
  rw [Qb] at hl
  have ht:s.heap.IsTuple a its.toArray:=p
  have hlt:a < s.heap.objs.size:=by obtain ⟨o,e,_⟩:=ht; exact Qp e
  have hne:a≠s.heap.objs.size:=Ja hlt
  have W0:=Walks.tuple (prog:=X.prog) (w:=X.w) (A:=A) hh s.heap.objs.size a hne its.toArray
  rw [show its.toArray.size=ns.length by rw [Ql,hl]] at W0
  refine Vj ht (h s.heap.objs.size [s.heap.objs.size,a] _ _ { s with heap:=s.heap.push { cls:=.type "tuple_iterator",data:=.fields #[.ref a,.int 0 0] } } W0 (λi v e=>?_) ⟨⟨_,Qh _ rfl,rfl,rfl⟩,ht.push _⟩ (λb hb=>?_) (Qg _) (λb o e=>Qa _ e) ⟨_,rfl⟩)
  ·have e':its[i]?=some v:=by simpa using e
   obtain ⟨hi,_⟩:=Qd.mp e'
   obtain ⟨w',ew,rw'⟩:=rv.get (i:=i) (x:=.int (ns[i]'(by omega))) (by rw [Qe,Qc (show i < ns.length by omega)]; rfl)
   rw [e'] at ew; cases ew
   obtain ⟨t,rfl⟩:=rw'
   exact ⟨_,t,Qc (show i < ns.length by omega),rfl⟩
  ·show b < (s.heap.push _).objs.size
   rw [Jo]
   simp only [Qm,Qt,or_false] at hb
   rcases hb with hb | hb
   ·rw [hb]; exact Zv _
   ·rw [hb]; exact Xb hlt
 ·obtain ⟨hz,hs,vs,kv,dd⟩:bL X.prog X.w H s.heap a (.dK kvs):=I.hok a _ hx
  obtain ⟨ep,da⟩:=dd.dictAt
  have hl:kvs.length=vs.length:=kv.length
  have hln:vs.length=ns.length:=by
   have:=congrArg Zy hk
   rw [Qb,Qb] at this
   omega
  have hlt:=da.lt_size
  have hne:a≠s.heap.objs.size:=Ja hlt
  have W0:=Walks.dictKeys (prog:=X.prog) (w:=X.w) (A:=A) (knd:=cA X.prog X.w) hh s.heap.objs.size a hne vs ep
  rw [hln] at W0
  refine Rav hs da (h s.heap.objs.size [s.heap.objs.size,a] _ _ { s with heap:=s.heap.push { cls:=.type "dict_keyiterator",data:=.fields #[.ref a,.int 0 0,.int vs.length 0,.int ep 0] } } W0 (λi v e=>?_) ⟨⟨_,Qh _ rfl,rfl,by rw [hln]; rfl⟩,da.push _⟩ (λb hb=>?_) (Qg _) (λb o e=>Qa _ e) ⟨_,rfl⟩)
  ·obtain ⟨k,x,hi,hk2⟩:=e
   have e1:(vs.map (·.1))[i]?=some k:=by rw [Qe,hi]; rfl
   rw [<- kv.keys,hk,Qe] at e1
   cases q:ns[i]? with
   | none=>rw [q] at e1; cases e1
   | some n =>
    rw [q] at e1
    have:k=Sum.inl n:=(Option.some.inj e1).symm
    subst this
    obtain ⟨t,rfl⟩:bS (.int n) v:=yM hk2
    exact ⟨n,t,rfl,rfl⟩
  ·show b < (s.heap.push _).objs.size
   rw [Jo]
   simp only [Qm,Qt,or_false] at hb
   rcases hb with hb | hb
   ·rw [hb]; exact Zv _
   ·rw [hb]; exact Xb hlt
theorem aBr {u:V} {uv:Value} {n k:Int} (I:Inv X pins σ H s) (hk:aBq X.K H u n k) (r:bS u uv):∃ t,jH s.heap uv n (.int k t):=by
 obtain ⟨h0,h1,a,xs,rfl,hx | hx,he⟩:=hk
 ·cases r
  obtain ⟨its,rv,p,hz⟩:=I.tuple hx
  obtain ⟨w',ew,t,rfl⟩:=rv.get he
  exact ⟨t,a,rfl,.inl ⟨its.toArray,p,h0,h1,by simpa using ew⟩⟩
 ·cases r
  obtain ⟨its,rv,p,hz⟩:=I.list hx
  obtain ⟨w',ew,t,rfl⟩:=rv.get he
  exact ⟨t,a,rfl,.inr ⟨its.toArray,p.isList,h0,h1,by simpa using ew⟩⟩
theorem jH.obj {i:Int} {v:Value} (x:jH h u i v):∃ p o,u=.ref p/\h.get? p=some o/\∀ h':Heap,h'.get? p=some o->jH h' u i v:=by
 obtain ⟨p,rfl,⟨its,⟨o,ho,r⟩,q⟩ | ⟨its,⟨o,ho,r⟩,q⟩⟩:=x
 ·exact ⟨p,o,rfl,ho,λh' e=>⟨p,rfl,.inl ⟨its,⟨o,e,r⟩,q⟩⟩⟩
 ·exact ⟨p,o,rfl,ho,λh' e=>⟨p,rfl,.inr ⟨its,⟨o,e,r⟩,q⟩⟩⟩
theorem aCz {lpos:Pos} {P:Addr} {q:Str} (iv:Nat) (hc:X.calm=true) (hr:Room 1 X.A) (hg:Gl X "min") (hm:X.mg "min" = none) (Z:Lm X.K X.mg X.base c P) (hcode:X.env.code=.ref c) (hq:X.env.qual ++ "<lambda>" = q) (he:PE X e te) (hN:X.N[iv]?=some vn) (hkv:X.env.kindOf vn=some .cell) (hdef:defaultsOf params X.env=([],[]):=by rfl) (hcl:eP X.env scope.names []=(match X.env.cells.lookup vn with | some c=>[(vn,c)] | none=>[]):=by rfl) (hfr:∀ y∈scope.names,y.2=.free->y.1=vn:=by decide +kernel) (hbind:∀ (cl:List (Str×Addr)) (pm cdv ctv:Value) (i:Int) (t:Tok),bindArgs (Ur "<lambda>" q params (.Subscript (.Name vn p1) (.Name xn p2) p3) scope cl pm cdv ctv) ⟨[.int i t],[]⟩=pure [(xn,.int i t)]:=by intro _ _ _ _ _ _; rfl) (hx:scope.names.lookup xn=some .local:=by rfl) (hv:scope.names.lookup vn=some .free:=by rfl) (hco:scope.isCoroutine=false:=by rfl) (hgen:scope.isGenerator=false:=by rfl) (hk:scope.kind=.function:=by rfl) (hcell:∀ x∈scope.names,x.2≠.cell:=by decide +kernel) (d1:(vn==("__debug__" : Str))=false:=by decide) (d2:(vn==("__classdict__" : Str))=false:=by decide) (d3:(xn==("__debug__" : Str))=false:=by decide) (hs1:starEach [e] X.env = [(false,eval e X.env)]:=by rfl) :
  PE X (.Call (.Name "min" p) [e] [⟨some "key",.Lambda params (.Subscript (.Name vn p1) (.Name xn p2) p3) scope lpos,kpos⟩] pos) (aFl X.K P q iv te):=by
 intro pins s σ H Q I h
 refine Tx (iL (u:=.builtin "min") I hg hm (by decide +kernel) ?_)
 have hpa:PA X [e] (uH te aCg):=aA he aC hs1
 refine callWith_kw (thn (hpa pos pins s σ H (λvs H1=>match vs with
   | [x] => ∃ (ns : List Int) (kf : Int -> Int) (u : V), aBp X.K H1 x ns /\ 0 < ns.length /\ H1 P = some (.tab q) /\ σ[iv]? = some (some u) /\ (∀ n ∈ ns, aBq X.K H1 u n (kf n)) /\
       ∀ (j:Nat) (m:Int) (H2:Hp),aE H1 H2->ns[j]?=some m->(∀ n∈ns,kf m<=kf n)->(∀ (l:Nat) (n:Int),l < j->ns[l]?=some n->kf m < kf n)->Q (.int m) H2
   | _=>False) I h) λus s1 ⟨vs,H1,I1,r1,q1⟩=>?_) (by rw [hs1]; rfl) (by rw [hs1]; rfl)
 match vs,r1,q1 with
 | [x],r1,q1 =>
  obtain ⟨ns,kf,u,hit,hpos,hT,hu,hkeys,k⟩:=q1
  obtain ⟨xv,rfl,rx⟩:=eX r1
  -- the cell of the name
  obtain ⟨m1,hns1,hl1⟩:=id I1.loc
  obtain ⟨uv,ru,lk⟩:=hl1 iv vn u hN hu (.inr (.inl hkv))
  obtain ⟨cc,hcc,hIc⟩:∃ cc,X.env.cells.lookup vn=some cc/\s1.heap.IsCell cc (some uv):=by
   rcases lk with ⟨z,_⟩ | ⟨_,z⟩
   ·rw [hkv] at z; cases z
   ·exact z
  have hclo:closureFor scope X.env=pure [(vn,cc)]:=by
   rw [aDt λy hy z=>⟨cc,by rw [hfr y hy z]; exact hcc⟩,hcl,hcc]
  refine kws_cons (aDP I1 Z hcode hT hq hdef hclo λf c' ctv pm s2 H2 I2 sm kk hf hcr=>kws_nil ?_)
  show wpAny (model X.prog X.w) X.A (call (.builtin "min") [xv] [(Str.ofString "key",.ref f)]) _ _ _
  have hit2:aBp X.K H2 x ns:=by
   obtain ⟨a,rfl,z | z | ⟨kvs,z,y⟩⟩:=hit
   ·exact ⟨a,rfl,.inl (sm.seqL z)⟩
   ·exact ⟨a,rfl,.inr (.inl (sm.seqT z))⟩
   ·exact ⟨a,rfl,.inr (.inr ⟨kvs,sm _ _ z,y⟩)⟩
  have hkeys2:∀ n∈ns,aBq X.K H2 u n (kf n):=λn hn=>by
   obtain ⟨h0,h1,a,xs,rfl,z | z,y⟩:=hkeys n hn
   ·exact ⟨h0,h1,a,xs,rfl,.inl (sm.seqT z),y⟩
   ·exact ⟨h0,h1,a,xs,rfl,.inr (sm.seqL z),y⟩
  -- what stays through the loop
  obtain ⟨fo,efo,hf⟩:∃ fo:Obj,fo={ cls:=.type "function",data:=.func (Ur "<lambda>" q params (.Subscript (.Name vn p1) (.Name xn p2) p3) scope [(vn,cc)] pm (.ref c') ctv) }/\s2.heap.get? f=some fo:=⟨_,rfl,hf⟩
  obtain ⟨c2,oc,cvs,tq,ec,hoc,hdc,hcv⟩:=hcr
  cases ec
  obtain ⟨ocl,hocl,hdcl⟩:s2.heap.IsCell cc (some uv):=by
   obtain ⟨o,ho,hd⟩:=hIc
   have nP:cc≠P:=λz=>by rw [z] at hcc; have:=I1.freeC _ _ hcc; rw [hT] at this; cases this
   exact ⟨o,kk _ _ nP ho,hd⟩
  obtain ⟨mc,⟨oL,esL,epL,hoL,hdL,rL⟩,hlim⟩:=I2.nolimit
  have n0:ns[0]?=some (ns[0]):=Qc hpos
  obtain ⟨t0,it0⟩:=aBr I2 (hkeys2 _ (Qj n0)) ru
  obtain ⟨pu,ou,eu,hou,_⟩:=it0.obj
  refine vX (f:=f) (aAu (A:=X.A.in1) (I2.ok.hd hc) I2 hit2 rx λIt fp Pv St s3 W hPv hst hfp hIt hk3 hx9=>?_)
  obtain ⟨h3,e3⟩:=hx9
  subst e3
  refine ⟨It,fp,[It],ns.length,Pv,St,λi=>kf (ns.getD i 0),[(f,fo),(c',oc),(cc,ocl),(cStatics,oL),(pu,ou)],rfl,W,hst,hfp,hpos,?_,?_,?_,λv h' tk hP kk'=>?_⟩
  ·intro i v s4 Q4 E4 hi hPi hL hQ4
   obtain ⟨n,t,hn,rfl⟩:=hPv i v hPi
   have eg:ns.getD i 0=n:=by rw [Qq,hn]; rfl
   obtain ⟨tk,itk⟩:=aBr I2 (hkeys2 _ (Qj hn)) ru
   have it4:jH s4.heap uv n (.int (kf n) tk):=by
    obtain ⟨p',o',e',ho',hh⟩:=itk.obj
    rw [eu] at e'; cases e'
    rw [hou] at ho'; cases ho'
    exact hh _ (hL (pu,ou) (by simp))
   have rm:X.A.in1.depth < recursionLimit:=(Room.in1 hr).depth
   refine aDN (cl:=[(vn,cc)]) (c:=cc) rm ⟨mc,⟨oL,esL,epL,hL (cStatics,oL) (by simp),hdL,rL⟩,hlim⟩ (by rw [<- efo]; exact hL (f,fo) (by simp)) ⟨c',oc,cvs,tq,rfl,hL (c',oc) (by simp),hdc,hcv⟩ (hbind _ _ _ _ _ _) hx hv hco hgen hk hcell (by simp [List.lookup]) ⟨ocl,hL (cc,ocl) (by simp),hdcl⟩ it4 (λh5 tk5 k5=>?_) d1 d2 d3
   have:=hQ4 h5 tk5 tk k5
   dsimp only at this
   rw [eg] at this
   exact this
  ·intro pr hpr hz
   have hlt:∀ b o,s2.heap.get? b=some o->b≠It:=λb o e=>Ja (Qy (Qp e) hIt)
   simp only [Qs] at hz
   simp only [Qm,Qt,or_false] at hpr
   rcases hpr with rfl | rfl | rfl | rfl | rfl
   ·exact hlt _ _ hf hz
   ·exact hlt _ _ hoc hz
   ·exact hlt _ _ hocl hz
   ·exact hlt _ _ hoL hz
   ·exact hlt _ _ hou hz
  ·intro pr hpr
   simp only [Qm,Qt,or_false] at hpr
   rcases hpr with rfl | rfl | rfl | rfl | rfl
   ·exact hk3 _ _ hf
   ·exact hk3 _ _ hoc
   ·exact hk3 _ _ hocl
   ·exact hk3 _ _ hoL
   ·exact hk3 _ _ hou
  ·obtain ⟨n,t,hn,rfl⟩:=hPv _ v hP
   have I3:Inv X pins σ H2 { s2 with heap:=h',toks:=tk }:=I2.kept λb o e=>kk' b o (by simp; exact Ja (Qy (Qp e) hIt)) (hk3 b o e)
   have b1:=Raq (λi=>kf (ns.getD i 0)) (ns.length - 1)
   have b2:=mV (λi=>kf (ns.getD i 0)) (ns.length - 1)
   have hat:∀ i y,ns[i]?=some y->ns.getD i 0=y:=λi y e=>by rw [Qq,e]; rfl
   refine ⟨.int n,H2,I3,⟨t,rfl⟩,k _ n H2 sm hn (λy hy=>?_) (λl y hl hy=>?_)⟩
   ·obtain ⟨i,hi⟩:=Jb.mp hy
    have:=b1.2 i (by have:=(Qd.mp hi).1; omega)
    have e1:=hat _ _ hn
    have e2:=hat _ _ hi
    show kf n<=kf y
    rw [<- e1,<- e2]; exact this
   ·have:=b2 l hl
    have e1:=hat _ _ hn
    have e2:=hat _ _ hy
    rw [<- e1,<- e2]; exact this
end
def aDQ (ts:List (Addr×Str)) (H:Hp):Prop:=(∀ b,H b=none∨(∃ o xs,H b=some (.frz o (.lst xs)))∨∃ q,H b=some (.tab q)/\(b,q)∈ts)/\∀ p∈ts,H p.1=some (.tab p.2)
theorem rR {P:Addr} (C:Vr h c P) (e:h.get? P=some (Rw #[])):isCodeTable h P:=(C.tab e).isCodeTable
theorem aCA {mb:Str->Option Value} {k:Nat} {fa:Addr} {x:Str} {s1x:Shared} {vs:List Value} {ts:List (Addr×Str)} (KX:K.In s1x.heap) (hns:s1x.heap.Ns mainGlobals mg) (hb:s1x.heap.Ns builtinsNs mb) (hbb:∀ x:Str,x ≠ "__name__" -> mb x=bootBuiltins x) (hlim:s1x.heap.NoLimit) (hmod:∃ mm,s1x.heap.Ns sysModules mm) (hg:s1x.gens = #[]) (hbm:∃ bm ob,mg "__builtins__" = some (.ref bm)/\bm≠builtinsNs/\s1x.heap.get? bm=some ob/\ob.cls=.type "module" /\ ob.dict=some builtinsNs/\ob.data=.plain) (hts:∀ p∈ts,s1x.heap.get? p.1=some (Rw #[])/\K.lookup p.1=none/\∃ c,Vr s1x.heap c p.1) (hnd:(ts.map (·.1)).Nodup) (ha:s1x.heap.get? a=some { cls:=.type "list",data:=.seq vs.toArray }) (hi:IntsAre vs ns) (hl:ns.length<=sizeLine) (hr:Room k callerA) (F:∀ base:Heap,K.In base->base.Ns mainGlobals mg->(∀ p∈ts,base.BuiltinsAt mg p.1)->FnOk P w K mg base CX k fa fd [x] sp) (hbind:∀ (s:Shared) (u:Value),BindsTo s fd ⟨[u],[]⟩ [(x,u)]) (hsp:∀ H:Hp,aDQ ts H->SqL K H a (ns.map V.int)->sp [.ref a] H (λv H'=>v=.bl true/\∀ p∈ts,H' p.1=some (.tab p.2)) λ_ _ _=>False) (hCX:∀ H e s',CX [] H s1x (λ_ _ _=>False) e s'->False) :
  codeAny (model P w) callerA (.call (.ref fa) ⟨[.ref a],[]⟩) (λr s'=>r=.ok (.ret (.bool true))/\OldK s1x.heap s'.heap/\s'.os=s1x.os/\AllBare s'.gens) s1x:=by
 have rv:=jK hi
 have lenV:=hi.length
 have na:∀ p∈ts,p.1≠a:=λp hp z=>by
  have:=(hts p hp).1
  rw [z,ha] at this; cases this
 -- from an abstract heap in which nothing but the script and the tables may be tracked
 have core:∀ H:Hp,aDQ ts H->SqL K H a (ns.map V.int)->HOk P w H s1x.heap->(∀ b,H b≠none->b=a∨∃ q,(b,q)∈ts)->(H a≠none->K.lookup a=none) ->
   codeAny (model P w) callerA (.call (.ref fa) ⟨[.ref a],[]⟩) (λr s'=>r=.ok (.ret (.bool true))/\OldK s1x.heap s'.heap/\s'.os=s1x.os/\AllBare s'.gens) s1x:=by
  intro H hO hS hok hA hK
  have base_of:∀ {b:Addr} {o:Obj},s1x.heap.get? b=some o->H b=none->(tL s1x.heap H).get? b=some o:=λe n=>aDb e n
  have noA:∀ {b:Addr} {o:Obj} {es:Array DictEntry} {ep:Nat},s1x.heap.get? b=some o->o.data=.dict es ep->H b=none:=λ{b o es ep} e d=>by
   cases q:H b with
   | none=>rfl
   | some u =>
    rcases hA b (by rw [q]; simp) with e' | ⟨q',e'⟩
    ·subst e'
     rw [ha] at e; cases e
     have d':Data.seq vs.toArray _=Data.dict es ep:=d
     cases d'
    ·have:=(hts _ e').1
     have e2:s1x.heap.get? b=some (Rw #[]):=this
     rw [e] at e2; cases e2
     have d':Data.fields _=Data.dict es ep:=d
     cases d'
  have nsK:∀ {b:Addr} {m:Str->Option Value},s1x.heap.Ns b m->(tL s1x.heap H).Ns b m:=λ{b m} ⟨o,es,ep,e,d,r⟩=>⟨o,es,ep,base_of e (noA e d),d,r⟩
  have hKb:K.In (tL s1x.heap H):=λb o e=>base_of (KX b o e) (by
   cases q:H b with
   | none=>rfl
   | some u =>
    rcases hA b (by rw [q]; simp) with e' | ⟨q',e'⟩
    ·subst e'
     rw [hK (by rw [q]; simp)] at e; cases e
    ·have:=(hts _ e').2.1
     have e2:K.lookup b=none:=this
     rw [e] at e2; cases e2)
  have hBu:∀ p∈ts,(tL s1x.heap H).BuiltinsAt mg p.1:=λp hp=>by
   obtain ⟨bm,ob,b1,b2,b3,b4,b5,b6⟩:=hbm
   have hn:H bm=none:=by
    cases q:H bm with
    | none=>rfl
    | some u =>
     rcases hA bm (by rw [q]; simp) with e' | ⟨q',e'⟩
     ·subst e'
      rw [ha] at b3; cases b3
      have d':Data.seq vs.toArray _=Data.plain:=b6
      cases d'
     ·have e2:s1x.heap.get? bm=some (Rw #[]):=(hts _ e').1
      rw [b3] at e2; cases e2
      have d':Data.fields _=Data.plain:=b6
      cases d'
   refine ⟨bm,ob,b1,b2,λz=>?_,λz=>?_,base_of b3 hn,b4,b5,b6⟩
   ·obtain ⟨o,es,ep,e,d,r⟩:=hns
    rw [<- z,b3] at e; cases e
    rw [b6] at d; cases d
   ·have e2:s1x.heap.get? p.1=some (Rw #[]):=(hts _ hp).1
    rw [<- z,b3] at e2; cases e2
    have d':Data.fields _=Data.plain:=b6
    cases d'
  have hM:Mod K mg (tL s1x.heap H):=⟨hKb,nsK hns,⟨mb,nsK hb,hbb⟩,let ⟨mc,h1,h2⟩:=hlim; ⟨mc,nsK h1,h2⟩,let ⟨mm,h1⟩:=hmod; ⟨mm,nsK h1⟩⟩
  have e0:Env0 P w K mg (tL s1x.heap H) callerA [] s1x H:=⟨rfl,hM,λb o e=>aEX e,Nat.le_of_eq (aCc _ _),trivial,λb hb=>absurd (show b∈([]:List Addr) from hb) (by simp),hok,.of_eq hg⟩
  refine Ul ((F _ hKb (nsK hns) hBu).run callerA [] s1x H ⟨[.ref a],[]⟩ [.ref a] [.ref a] _ _ hr e0 (hbind s1x (.ref a)) (.cons rfl .nil) (hsp H hO hS)) λr s' h=>?_
  cases r with
  | error e=>exact (hCX H e s' h).elim
  | ok fl =>
   cases fl with
   | next=>exact False.elim h
   | brk=>exact False.elim h
   | cont=>exact False.elim h
   | ret u =>
    obtain ⟨v,H',os,bare,un,hok',r',q,qt⟩:=h
    have q':v=.bl true:=q
    subst q'
    obtain rfl:u=Value.bool true:=r'
    have keep:∀ b o,(∀ q,(b,q)∉ts)->s1x.heap.get? b=some o->s'.heap.get? b=some o:=λb o hb e=>by
     cases q:H b with
     | none=>exact un.keep b o e q (by intro z; exact absurd (show b∈([]:List Addr) from z) (by simp)) (by simp)
     | some u =>
      rcases hO.1 b with z | ⟨ob,xs,z⟩ | ⟨q',z,zm⟩
      ·rw [q] at z; cases z
      ·have z2:=un.frzs b ob _ z
       obtain ⟨e1,_⟩:=hok b _ z
       obtain ⟨e2,_⟩:=hok' b _ z2
       rw [e] at e1; cases e1
       exact e2
      ·exact absurd zm (hb q')
    have grown:∀ b o q,(b,q)∈ts->s1x.heap.get? b=some o->isCodeTable s1x.heap b/\o=Rw #[]/\∃ ps,s'.heap.get? b=some (Rw ps):=λb o q hm e=>by
     obtain ⟨h1,h2,c,h3⟩:=hts _ hm
     have h1':s1x.heap.get? b=some (Rw #[]):=h1
     rw [e] at h1'
     obtain ⟨ps,hps,_⟩:bL P w H' s'.heap b (.tab q):=hok' b _ (qt _ hm)
     exact ⟨rR h3 h1,Option.some.inj h1',ps,hps⟩
    refine ⟨rfl,⟨λb o e=>?_,λb o e=>?_⟩,os,bare⟩
    ·by_cases hb:∃ q,(b,q)∈ts
     ·obtain ⟨q,hm⟩:=hb
      obtain ⟨ht,rfl,ps,hP⟩:=grown b o q hm e
      exact .inr (.inl ⟨ht,rfl,#[],ps,rfl,by rw [Array.empty_append]; exact hP⟩)
     ·exact .inl (keep b o (λq z=>hb ⟨q,z⟩) e)
    ·by_cases hb:∃ q,(b,q)∈ts
     ·obtain ⟨q,hm⟩:=hb
      obtain ⟨_,_,ps,hP⟩:=grown b o q hm e
      exact ⟨_,hP⟩
     ·exact ⟨o,keep b o (λq z=>hb ⟨q,z⟩) e⟩
 -- the tables
 have look:∀ {b:Addr} {q:Str},ts.lookup b=some q->(b,q)∈ts:=λ{b q} e=>by
  clear hts hnd hsp core na F
  induction ts with
  | nil=>cases e
  | cons p r ih =>
   rw [Xa] at e
   cases hb:b==p.1 with
   | true=>rw [hb] at e; cases e; rw [eq_of_beq hb]; exact .head _
   | false=>rw [hb] at e; exact .tail _ (ih e)
 have look2:∀ {b:Addr} {q:Str},(b,q)∈ts->ts.lookup b=some q:=λ{b q} e=>by
  clear hts hsp core na look F
  induction ts with
  | nil=>cases e
  | cons p r ih =>
   rw [Xa]
   rw [Qz,Xd] at hnd
   rcases Qm.mp e with rfl | e
   ·simp
   ·have:(b==p.1)=false:=by
     rw [beq_eq_false_iff_ne]
     intro z
     exact hnd.1 (Qv.mpr ⟨(b,q),e,z⟩)
    rw [this]
    exact ih hnd.2 e
 have tabOk:∀ (H:Hp) (b:Addr) (q:Str),(b,q)∈ts->bL P w H s1x.heap b (.tab q):=λH b q hm=>⟨#[],(hts _ hm).1,trivial,λpos cv z=>by simp [codeAmong] at z⟩
 cases hk:K.lookup a with
 | some o =>
  have e:=KX a o hk
  rw [ha] at e
  cases e
  refine core (λb=>(ts.lookup b).map HO.tab) ⟨λb=>?_,λp hp=>by show (ts.lookup p.1).map HO.tab=_; rw [look2 (q:=p.2) hp]; rfl⟩ (.inr ⟨_,vs.toArray,_,hk,rfl,rfl,rfl,by rw [Ql,lenV]; exact hl,by simpa using rv⟩) (λb u z=>?_) (λb z=>?_) λz=>?_
  ·cases q:ts.lookup b with
   | none=>exact .inl (by show (ts.lookup b).map HO.tab=none; rw [q]; rfl)
   | some y=>exact .inr (.inr ⟨y,by show (ts.lookup b).map HO.tab=_; rw [q]; rfl,look q⟩)
  ·have z':(ts.lookup b).map HO.tab=some u:=z
   cases q:ts.lookup b with
   | none=>rw [q] at z'; cases z'
   | some y=>rw [q] at z'; cases z'; exact tabOk _ _ _ (look q)
  ·have z':(ts.lookup b).map HO.tab≠none:=z
   cases q:ts.lookup b with
   | none=>rw [q] at z'; exact absurd rfl z'
   | some y=>exact .inr ⟨y,look q⟩
  ·exfalso
   have z':(ts.lookup a).map HO.tab≠none:=z
   cases q:ts.lookup a with
   | none=>rw [q] at z'; exact absurd rfl z'
   | some y=>exact na _ (look q) rfl
 | none =>
  have noa:ts.lookup a=none:=by
   cases q:ts.lookup a with
   | none=>rfl
   | some y=>exact absurd rfl (na _ (look q))
  refine core (λb=>if b=a then some (.frz { cls:=.type "list",data:=.seq vs.toArray } (.lst (ns.map V.int))) else (ts.lookup b).map HO.tab) ⟨λb=>?_,λp hp=>?_⟩ (.inl (.inr ⟨{ cls:=.type "list",data:=.seq vs.toArray },if_pos rfl⟩)) (λb u z=>?_) (λb z=>?_) λ_=>hk
  ·by_cases hb:b=a
   ·exact .inr (.inl ⟨_,_,if_pos hb⟩)
   ·cases q:ts.lookup b with
    | none=>exact .inl ((if_neg hb).trans (by rw [q]; rfl))
    | some y=>exact .inr (.inr ⟨y,(if_neg hb).trans (by rw [q]; rfl),look q⟩)
  ·exact (if_neg (na p hp)).trans (by rw [look2 (q:=p.2) hp]; rfl)
  ·by_cases hb:b=a
   ·have z':=(if_pos hb).symm.trans z
    cases z'
    subst hb
    exact ⟨ha,by rw [Qb]; exact hl,vs,_,rv,ha⟩
   ·have z':=(if_neg hb).symm.trans z
    cases q:ts.lookup b with
    | none=>rw [q] at z'; cases z'
    | some y=>rw [q] at z'; cases z'; exact tabOk _ _ _ (look q)
  ·by_cases hb:b=a
   ·exact .inl hb
   ·cases q:ts.lookup b with
    | none=>exact absurd ((if_neg hb).trans (by rw [q]; rfl)) z
    | some y=>exact .inr ⟨y,look q⟩
theorem aDR {l:Ij} {k:Nat} {d:DefRec} {K:Params->Rc} {CX:World->CXT} {sp:World->Sp} {x:Str} {ts:List (Addr×Str)} (hn:l.most=some n) (hn2:n<=sizeLine) (hdf:d.params.defaults = []) (hr:Room k callerA) (hq:importsNone q=true) (hY:∀ (w:World) (h:Heap),YP w h->(K w.params).In h) (hts:∀ (w:World) (h:Heap),YP w h->∀ p∈ts,h.get? p.1=some (Rw #[])/\(K w.params).lookup p.1=none/\∃ c,Vr h c p.1) (hnd:(ts.map (·.1)).Nodup) (F:∀ (w:World) (mg:Str->Option Value) (fa:Addr) (h:Heap),(K w.params).In h->h.Ns mainGlobals mg->mg d.name=some (.ref fa) ->
   ∃ fd:FuncData,(∀ (s:Shared) (u:Value),BindsTo s fd ⟨[u],[]⟩ [(x,u)]) /\
    ∀ base:Heap,(K w.params).In base->base.Ns mainGlobals mg->(∀ p∈ts,base.BuiltinsAt mg p.1)->FnOk l.prog w (K w.params) mg base (CX w) k fa fd [x] (sp w)) (hsp:∀ (w:World) (H:Hp) (a:Addr) (ns:List Int),ns.length<=n->aDQ ts H->SqL (K w.params) H a (ns.map V.int)->sp w [.ref a] H (λv H'=>v=.bl true/\∀ p∈ts,H' p.1=some (.tab p.2)) λ_ _ _=>False) (hCX:∀ (w:World) (H:Hp) (s:Shared) (e:Value) (s':Shared),CX w [] H s (λ_ _ _=>False) e s'->False) :
  Rah q loose XP YP l.row.toRowW d [] (λf vs=>Mz f vs):=by
 refine Att.attach_call hn hdf λw s0x s1x mg mb fa o pm cd doc a vs ns G Y ho hd hcd hmg hobj hints hlen hg=>?_
 have KX:=hY w _ Y
 obtain ⟨fd,hb,hF⟩:=F w mg fa _ KX G.T.g hmg
 exact aCA KX G.T.g G.T.b G.T.builtins G.T.nolimit (let ⟨mm,h1,_⟩:=(G.T.seer hq).mods; ⟨mm,h1⟩) hg G.T.bmain (hts w _ Y) hnd hobj hints (Jl hlen hn2) hr hF hb (λH hO hS=>hsp w H a ns hlen hO hS) λH e s'=>hCX w H s1x e s'
theorem Fun.okC {x:Str} {k:Nat} (F:Fun K x qual st f fd) (hc:fd.code=.ref c) (S:FnScope N ps (aH st)) (len:∀ vs H Q E,sp vs H Q E->vs.length=ps.length) (hbody:∀ (A:Around) (outer:List Env) (s:Shared) (H:Hp) (vs:List V) (Q:VK) (E:XK),Room k (A.deeper (envOfC qual (aH st) s.heap.objs.size f (.ref c)))->sp vs H Q E ->
   ∃ t,PSs (aAm CX0 P w K mg base N qual (aH st) f (.ref c) A outer s H E).nox (eV st) t/\t { nx:=λ_ H'=>Q .non H',rt:=Q } (start N vs) H):FnOk P w K mg base CX0 (k+1) f fd ps sp:=by
 obtain ⟨oc,od,kV,doc,pm,an,cdv,ct,osl,rfl,lk,hcd⟩:=F.ex
 have e:cdv=.ref c:=hc
 subst e
 refine aGb lk hcd S len λA outer s H vs Q E hr hsp=>?_
 obtain ⟨t,h,q⟩:=hbody A outer s H vs Q E hr hsp
 exact ⟨t,h.nox,q⟩
section
variable {z TI TO:Addr} {n1:Nat}
structure ZipSt (h:Heap) (z TI TO i1 i2:Addr):Prop where
 hz:∃ f0 f1,F0 f0/\gB h z TI TO f0 f1
 ti:IsPair h TI (.ref i1) (.ref i2)
 to:∃ a b,IsPair h TO a b
theorem yN {e:Addr} {old:Value} (D:ZipApart z TI TO i1 i2 l1 l2) (S1:Sub prog w i1 l1 n1 P1 st1) (S2:Sub prog w i2 l2 n2 P2 st2) (he:IsEnum s.heap e z i old) (Z:ZipSt s.heap z TI TO i1 i2) (h1:st1 i s.heap) (h2:st2 i s.heap) (k1:i < n1) (k2:i < n2) (ne:e≠z/\e≠TI/\e≠TO/\e≠i1/\e≠i2/\e≠l1/\e≠l2) (hQ:∀ h' x y tk,P1 i x->P2 i y->IsEnumOut h' e z ((i:Int)+1) (.ref s.heap.objs.size) (s.heap.objs.size+1)->ZipSt h' z TI TO i1 i2->st1 (i+1) h'->st2 (i+1) h'->IsPair h' s.heap.objs.size x y ->
   h'.get? (s.heap.objs.size+1)=some { cls:=.type "tuple",data:=.seq #[.int i tk,.ref s.heap.objs.size] } ->
   (∀ c o,c≠e->c≠z->c≠TO->c≠i1->c≠i2->s.heap.get? c=some o->h'.get? c=some o)->Q (.ref (s.heap.objs.size+1)) { s with heap:=h',toks:=s.toks+1 }) :
  wpAny (model prog w) A (Builtin.«enumerate.__next__» ⟨[.ref e],[]⟩) (λfin s'=>∃ v,fin=.done (.ret v)/\Q v s') E s:=by
 obtain ⟨⟨f0,f1,hf,hz⟩,hTI,⟨a,b,hTO⟩⟩:=Z
 obtain ⟨ne1,ne2,ne3,ne4,ne5,ne6,ne7⟩:=ne
 have hTz:s.TypeIs (.ref z) "zip" := ⟨_,hz,rfl⟩
 refine Ra (m:=field (.ref e) 2) (Rl he rfl (x:=.ref z) rfl ?_)
 refine Ra (m:=Builtin.SmallTypes.nextOf (.ref z)) ?_
 unfold Builtin.SmallTypes.nextOf
 refine Ra (Rg (name:=Str.ofString "__next__") hTz Ru (Rh Ru hTz Uq
  (xU D S1 S2 hz hf hTI hTO h1 h2 k1 k2 λg1 x y f0' f1' _ px py hf' hz' hTO' t1 t2 hp hsz kp=>?_) (Uk _)))
 refine Rb ?_
 have e1:IsEnum g1 e z i old:=kp _ _ ne1 ne3 ne4 ne5 he
 refine Ra (m:=field (.ref e) 3) (Rl e1 rfl (x:=rawInt i) rfl ?_)
 refine Ra (m:=field (.ref e) 4) (Rl e1 rfl (x:=.none) rfl ?_)
 refine Ra (m:=mkInt i) (wpAny_mkInt ?_)
 refine Ra (m:=setField (.ref e) 3 (rawInt ((i:Int)+1))) (Rj e1 (by simp) λg2 e2 b2=>?_)
 have e2':IsEnum g2 e z ((i:Int)+1) old:=e2
 refine Ra (m:=setField (.ref e) 4 .none) (Rj e2' (by simp) λg3 e3 b3=>?_)
 have e3':IsEnum g3 e z ((i:Int)+1) old:=e3
 refine Ra (m:=newTuple [.int i s.toks,.ref s.heap.objs.size]) (Ie ?_)
 have sz:g3.objs.size=s.heap.objs.size+1:=by rw [b3.1,b2.1,hsz]
 have e4:IsEnum (g3.push { cls:=.type "tuple",data:=.seq #[.int i s.toks,.ref s.heap.objs.size] }) e z ((i:Int)+1) old:=Qa _ e3'
 have T4:(g3.push { cls:=.type "tuple",data:=.seq #[.int i s.toks,.ref s.heap.objs.size] }).get? (s.heap.objs.size+1)=some { cls:=.type "tuple",data:=.seq #[.int i s.toks,.ref s.heap.objs.size] }:=by rw [<- sz]; exact Qh _ rfl
 have up4:∀ c o,c≠e->g1.get? c=some o->(g3.push { cls:=.type "tuple",data:=.seq #[.int i s.toks,.ref s.heap.objs.size] }).get? c=some o:=λc o c1 q=>Qa _ (b3.extBut _ _ c1 (b2.extBut _ _ c1 q))
 have elt:s.heap.objs.size+1≠e:=Xw (Xb (Qp he))
 have elt0:s.heap.objs.size≠e:=Xw (Qp he)
 rw [sz]
 generalize g3.push { cls:=.type "tuple",data:=.seq #[.int i s.toks,.ref s.heap.objs.size] }=g4 at e4 T4 up4 ⊢
 refine Ra (m:=Builtin.SmallTypes.ownedTupleIsFree (.ref e)) ?_
 unfold Builtin.SmallTypes.ownedTupleIsFree
 refine Ra (Rl e4 rfl (x:=.none) rfl (Rb ?_))
 simp only [if_true]
 refine Ra (Uh ?_)
 refine Ra (Rl e4 rfl (x:=old) rfl ?_)
 refine Ra (Rj e4 (by simp) λg5 e5 b5=>?_)
 have e5':IsEnum g5 e z ((i:Int)+1) (.ref s.heap.objs.size):=e5
 refine Ra (m:=Builtin.SmallTypes.ownedTupleHandOut (.ref e) (.ref (s.heap.objs.size+1))) ?_
 unfold Builtin.SmallTypes.ownedTupleHandOut
 refine Ra (Rj e5' (by simp) λg6 e6 b6=>?_)
 have e6':IsEnumOut g6 e z ((i:Int)+1) (.ref s.heap.objs.size) (s.heap.objs.size+1):=e6
 refine Rj e6' (by simp) λg7 e7 b7=>?_
 have e7':IsEnumOut g7 e z ((i:Int)+1) (.ref s.heap.objs.size) (s.heap.objs.size+1):=e7
 have up:∀ c o,c≠e->g4.get? c=some o->g7.get? c=some o:=λc o c1 q=>b7.extBut _ _ c1 (b6.extBut _ _ c1 (b5.extBut _ _ c1 q))
 have all:∀ c o,c≠e->g1.get? c=some o->g7.get? c=some o:=λc o c1 q=>up c o c1 (up4 c o c1 q)
 obtain ⟨a',b',hTO'⟩:=hTO'
 refine Ra (Ui (Rb ⟨_,rfl,hQ g7 x y s.toks px py e7' ⟨⟨_,_,hf',all _ _ ne1.symm hz'⟩,all _ _ ne2.symm (kp _ _ D.TIz D.TITO D.TIi1 D.TIi2 hTI),⟨_,_,all _ _ ne3.symm hTO'⟩⟩ (S1.keep _ _ _ t1 λc hc o q=>all c o ?_ q) (S2.keep _ _ _ t2 λc hc o q=>all c o ?_ q) (all _ _ elt0 hp) (up _ _ elt T4) λc o c0 c1 c2 c3 c4 q=>all c o c0 (kp c o c1 c2 c3 c4 q)⟩))
 ·rcases hc with r | r <;> rw [r]
  ·exact ne4.symm
  ·exact ne6.symm
 ·rcases hc with r | r <;> rw [r]
  ·exact ne5.symm
  ·exact ne7.symm
theorem aAv {e:Addr} {old:Value} {Q:Fin->Shared->Prop} (hh:A.handled=none) (D:ZipApart z TI TO i1 i2 l1 l2) (S1:Sub prog w i1 l1 n1 P1 st1) (S2:Sub prog w i2 l2 n2 P2 st2) (he:IsEnum s.heap e z i old) (Z:ZipSt s.heap z TI TO i1 i2) (h1:st1 i s.heap) (h2:st2 i s.heap) (hend:i=n1/\i<=n2∨i=n2/\i < n1) (hE:∀ h' x,(∀ c o,c≠z->c≠TO->c≠i1->c≠i2->s.heap.get? c=some o->h'.get? c=some o)->(∃ o,h'.get? x=some o/\o.cls=.type "StopIteration")->E (.ref x) { s with heap:=h' }) :
  wpAny (model prog w) A (Builtin.«enumerate.__next__» ⟨[.ref e],[]⟩) Q E s:=by
 obtain ⟨⟨f0,f1,hf,hz⟩,hTI,⟨a,b,hTO⟩⟩:=Z
 have hTz:s.TypeIs (.ref z) "zip" := ⟨_,hz,rfl⟩
 refine Ra (m:=field (.ref e) 2) (Rl he rfl (x:=.ref z) rfl ?_)
 refine Ra (m:=Builtin.SmallTypes.nextOf (.ref z)) ?_
 unfold Builtin.SmallTypes.nextOf
 exact Ra (Rg (name:=Str.ofString "__next__") hTz Ru (Rh Ru hTz Uq
  (aBl hh D S1 S2 hz hf hTI hTO h1 h2 hend λh' x kp hx=>hE h' x kp hx) (Uk _)))
end
def aDS (K:Rc) (k1 k2:Sk) (a b:Addr):It :=
 ⟨λi H => ∃ xs ys x y, SqK k1 K H a xs /\ SqK k2 K H b ys /\ xs[i]? = some x /\ ys[i]? = some y,
  λi H v H'=>∃ p q,H p=none/\H q=none/\q≠p/\v=.ref q/\∀ xs ys,SqK k1 K H a xs->SqK k2 K H b ys->∃ x y,xs[i]?=some x/\ys[i]?=some y/\H'=upd (upd H p (.tup [x,y])) q (.tup [.int (i:Nat),.ref p]),
  λi H=>∃ xs ys,SqK k1 K H a xs/\SqK k2 K H b ys/\min xs.length ys.length=i⟩
theorem vY {x1} (k1 k2:Sk) (a b e z TI TO i1 i2:Addr) (D:∀ l1 l2:Addr,(∀ c∈[e,z,TI,TO,i1,i2],l1≠c)->(∀ c∈[e,z,TI,TO,i1,i2],l2≠c)->ZipApart z TI TO i1 i2 l1 l2) (ne:e≠z/\e≠TI/\e≠TO/\e≠i1/\e≠i2) :
  Turn P w K (.Tuple es x1 pos) (aDS K k1 k2 a b) [e,z,TI,TO,i1,i2] e (λi h=>(∃ old,IsEnum h e z i old)/\ZipSt h z TI TO i1 i2/\ItK k1 h i1 a i/\ItK k2 h i2 b i) where
 mem:=by simp
 obj:=λi h st c hc=>by
  obtain ⟨⟨old,he⟩,⟨⟨f0,f1,hf,hz⟩,hTI,⟨x,y,hTO⟩⟩,h1,h2⟩:=st
  simp only [Qm,Qt,or_false] at hc
  rcases hc with rfl | rfl | rfl | rfl | rfl | rfl
  ·exact ⟨_,he,λv q=>by cases q⟩
  ·exact ⟨_,hz,λv q=>by cases q⟩
  ·exact ⟨_,hTI,λv q=>by cases q⟩
  ·exact ⟨_,hTO,λv q=>by cases q⟩
  ·exact h1.obj
  ·exact h2.obj
 keep:=λi h h' st k=>by
  obtain ⟨⟨old,he⟩,⟨⟨f0,f1,hf,hz⟩,hTI,⟨x,y,hTO⟩⟩,h1,h2⟩:=st
  exact ⟨⟨old,k e (by simp) _ he⟩,⟨⟨f0,f1,hf,k z (by simp) _ hz⟩,k TI (by simp) _ hTI,⟨x,y,k TO (by simp) _ hTO⟩⟩,h1.at λo e=>k i1 (by simp) o e,h2.at λo e=>k i2 (by simp) o e⟩
 item:=by
  intro X hP hw hK hc i pins s σ H E I hf st hg
  subst hP hw hK
  obtain ⟨⟨old,he⟩,Z,h1,h2⟩:=st
  obtain ⟨xs,ys,x,y,ha,hb,hx,hy⟩:=hg
  obtain ⟨its,rv,pa⟩:=I.seqK ha
  obtain ⟨jts,rw',pb⟩:=I.seqK hb
  obtain ⟨u,hu,ru⟩:=rv.get hx
  obtain ⟨v,hv,rv2⟩:=rw'.get hy
  have na:∀ c∈[e,z,TI,TO,i1,i2],a≠c:=λc hc'=>I.seq_ne ha (hf c hc')
  have nb:∀ c∈[e,z,TI,TO,i1,i2],b≠c:=λc hc'=>I.seq_ne hb (hf c hc')
  have DD:=D a b na nb
  have hT:s.TypeIs (.ref e) "enumerate" := ⟨_,he,rfl⟩
  have hi1:i < its.toArray.size:=by rw [Ql]; exact (Qd.mp hu).1
  have hi2:i < jts.toArray.size:=by rw [Ql]; exact (Qd.mp hv).1
  unfold pyNext
  refine Ra (Ta (Rg (name:=Str.ofString "__next__") hT Rp (Rh Rp hT Tt
   (yN DD (tR k1 X.prog X.w i1 a its.toArray (na i1 (by simp))) (tR k2 X.prog X.w i2 b jts.toArray (nb i2 (by simp))) he Z ⟨h1,pa⟩ ⟨h2,pb⟩ hi1 hi2
    ⟨ne.1,ne.2.1,ne.2.2.1,ne.2.2.2.1,ne.2.2.2.2,(na e (by simp)).symm,(nb e (by simp)).symm⟩ λh' u' v' tk pu pv he' Z' s1 s2 hp1 hp2 kp=>Rb ?_) (Tr _))))
  have eu:u'=u:=by
   have q:its[i]?=some u':=by simpa using pu
   rw [hu] at q
   exact (Option.some.inj q).symm
  have ev:v'=v:=by
   have q:jts[i]?=some v':=by simpa using pv
   rw [hv] at q
   exact (Option.some.inj q).symm
  subst eu ev
  refine ⟨_,rfl,Mw he' λh2' he2 sb2=>?_⟩
  have T0:s.heap.objs.size≠e:=Xw (Qp he)
  have T1:s.heap.objs.size+1≠e:=Xw (Xb (Qp he))
  have hp1':IsPair h2' s.heap.objs.size u' v':=sb2.extBut _ _ T0 hp1
  have hp2':h2'.get? (s.heap.objs.size+1)=some { cls:=.type "tuple",data:=.seq #[.int i tk,.ref s.heap.objs.size] }:=sb2.extBut _ _ T1 hp2
  have hf0:=I.hok.fresh (Qg s.heap.objs.size)
  have hf1:=I.hok.fresh (Qax s.heap.objs.size)
  have fz:=I.fpOk (Qg s.heap.objs.size) hf0
  have fz1:=I.fpOk (Qax s.heap.objs.size) hf1
  have I2:Inv X pins σ H { s with heap:=h2',toks:=s.toks+1 }:=by
   refine I.turnedL (t':=s.toks+1) [e,z,TO,i1,i2] (λc o hc' q=>?_) (λc hc'=>hf c ?_)
   ·simp only [Qm,Qt,or_false,not_or] at hc'
    exact sb2.extBut _ _ hc'.1 (kp c o hc'.1 hc'.2.1 hc'.2.2.1 hc'.2.2.2.1 hc'.2.2.2.2 q)
   ·simp only [Qm,Qt,or_false] at hc' ⊢
    rcases hc' with r | r | r | r | r
    ·exact .inl r
    ·exact .inr (.inl r)
    ·exact .inr (.inr (.inr (.inl r)))
    ·exact .inr (.inr (.inr (.inr (.inl r))))
    ·exact .inr (.inr (.inr (.inr (.inr r))))
  have I3:Inv X pins σ (upd H s.heap.objs.size (.tup [x,y])) { s with heap:=h2',toks:=s.toks+1 }:=by
   refine I2.trackO (show bL X.prog X.w _ _ _ (.tup [x,y]) from ⟨by show 2<=sizeLine; rw [Rf]; decide,[u',v'],0,.cons ru (.cons rv2 .nil),hp1'⟩) hf0 fz.2.1 I.sz fz.2.2.2.2.1 fz.2.2.2.2.2
  have nn:s.heap.objs.size+1≠s.heap.objs.size:=Nat.succ_ne_self _
  have I4:Inv X pins σ (upd (upd H s.heap.objs.size (.tup [x,y])) (s.heap.objs.size+1) (.tup [.int (i:Nat),.ref s.heap.objs.size])) { s with heap:=h2',toks:=s.toks+1 }:=by
   refine I3.trackO (show bL X.prog X.w _ _ _ (.tup [.int (i:Nat),.ref s.heap.objs.size]) from ⟨by show 2<=sizeLine; rw [Rf]; decide,[.int i tk,.ref s.heap.objs.size],0,.cons ⟨tk,rfl⟩ (.cons rfl .nil),hp2'⟩) (by rw [aF nn]; exact hf1) fz1.2.1 (Jl I.sz (Qax _)) fz1.2.2.2.2.1 fz1.2.2.2.2.2
  obtain ⟨⟨g0,g1,hg,hz'⟩,hTI',⟨a',b',hTO'⟩⟩:=Z'
  refine ⟨.ref (s.heap.objs.size+1),_,I4,rfl,⟨s.heap.objs.size,s.heap.objs.size+1,hf0,hf1,nn,rfl,λxs' ys' ha' hb'=>?_⟩,⟨⟨_,by simpa using he2⟩,⟨⟨g0,g1,hg,sb2.extBut _ _ ne.1.symm hz'⟩,sb2.extBut _ _ ne.2.1.symm hTI',⟨_,_,sb2.extBut _ _ ne.2.2.1.symm hTO'⟩⟩,s1.1.at λo q=>sb2.extBut _ _ ne.2.2.2.1.symm q,s2.1.at λo q=>sb2.extBut _ _ ne.2.2.2.2.symm q⟩,λc hc'=>?_⟩
  ·rw [I.seqK_inj ha' ha,I.seqK_inj hb' hb]
   exact ⟨x,y,hx,hy,rfl⟩
  ·have cl:c < s.heap.objs.size:=by
    obtain ⟨o,q⟩:∃ o,s.heap.get? c=some o:=by
     obtain ⟨⟨f0,f1,hf',hz⟩,hTI,⟨x',y',hTO⟩⟩:=Z
     simp only [Qm,Qt,or_false] at hc'
     rcases hc' with rfl | rfl | rfl | rfl | rfl | rfl
     ·exact ⟨_,he⟩
     ·exact ⟨_,hz⟩
     ·exact ⟨_,hTI⟩
     ·exact ⟨_,hTO⟩
     ·obtain ⟨o,q,_⟩:=h1.obj; exact ⟨o,q⟩
     ·obtain ⟨o,q,_⟩:=h2.obj; exact ⟨o,q⟩
    exact Qp q
   rw [aF (Ja (Xb cl)),aF (Ja cl)]
   exact (hf c hc').1
 done:=by
  intro X hP hw hK hc i pins s σ H E I hf st hg
  subst hP hw hK
  obtain ⟨⟨old,he⟩,Z,h1,h2⟩:=st
  obtain ⟨xs,ys,ha,hb,hmin⟩:=hg
  obtain ⟨its,rv,pa⟩:=I.seqK ha
  obtain ⟨jts,rw',pb⟩:=I.seqK hb
  have la:=rv.length
  have lb:=rw'.length
  have na:∀ c∈[e,z,TI,TO,i1,i2],a≠c:=λc hc'=>I.seq_ne ha (hf c hc')
  have nb:∀ c∈[e,z,TI,TO,i1,i2],b≠c:=λc hc'=>I.seq_ne hb (hf c hc')
  have DD:=D a b na nb
  have hT:s.TypeIs (.ref e) "enumerate" := ⟨_,he,rfl⟩
  unfold pyNext
  refine Ra (Ta (Rg (name:=Str.ofString "__next__") hT Rp (Rh Rp hT Tt
   (aAv (I.ok.hd hc) DD (tR k1 X.prog X.w i1 a its.toArray (na i1 (by simp))) (tR k2 X.prog X.w i2 b jts.toArray (nb i2 (by simp))) he Z ⟨h1,pa⟩ ⟨h2,pb⟩ (by rw [Ql,Ql]; omega) λh' x kp hx=>?_) (Tr _))))
  obtain ⟨oe,hoe,hce⟩:=hx
  refine Ra (Tu (T := "StopIteration") (b:=true) ⟨oe,hoe,hce⟩ Uz (Rb ⟨rfl,?_⟩))
  refine I.turnedL (t':=s.toks) [z,TO,i1,i2] (λc o hc' q=>?_) (λc hc'=>hf c ?_)
  ·simp only [Qm,Qt,or_false,not_or] at hc'
   exact kp c o hc'.1 hc'.2.1 hc'.2.2.1 hc'.2.2.2 q
  ·simp only [Qm,Qt,or_false] at hc' ⊢
   rcases hc' with r | r | r | r
   ·exact .inr (.inl r)
   ·exact .inr (.inr (.inr (.inl r)))
   ·exact .inr (.inr (.inr (.inr (.inl r))))
   ·exact .inr (.inr (.inr (.inr (.inr r))))
 self:=λ_ _ _ _ _ st h=>by
  obtain ⟨⟨old,he⟩,_⟩:=st
  exact Vp he h
theorem tW (z TI TO:Addr) :
  Meets (Builtin.«enumerate.__new__» ⟨[.type "enumerate",.ref z],[]⟩) (λ_ R s=>IsZip s.heap z TI TO .none /\
   R (.ok (.ret (.ref s.heap.objs.size))) { s with heap:=s.heap.push { cls:=.type "enumerate",data:=.fields #[.none,.bool false,.ref z,rawInt 0,.none,.none] } }) :=
 .of_wp λprog w A R s h=>by
  obtain ⟨hp,g,d,tk,os⟩:=s
  obtain ⟨hl,h⟩:=h
  have hsub:=sub_enumerate
  have hZ:IsZip (Shared.heap ⟨hp,g,d,tk,os⟩) z TI TO .none:=hl
  wp_walk using AutoSeq1.wpAny_loadPart' hZ
  refine RaK λst=>Rb ?_
  split
  ·rename_i c _ _ _ _ _
   cases (c==Value.type "enumerate")
   ·wp_walk using AutoSeq1.wpAny_loadPart' hZ,Vd hZ
    exact ⟨_,rfl,h⟩
   ·wp_walk using AutoSeq1.wpAny_loadPart' hZ,Vd hZ
    exact ⟨_,rfl,h⟩
  ·wp_walk using AutoSeq1.wpAny_loadPart' hZ,Vd hZ
   exact ⟨_,rfl,h⟩
def aDT (K:Rc) (k1 k2:Sk) (ta:TA):TI:=λσ H R=>ta σ H λvs H1=>∃ a b xs ys,vs = [.ref a,.ref b]/\SqK k1 K H1 a xs/\SqK k2 K H1 b ys/\R (aDS K k1 k2 a b) H1
theorem aAw (k1 k2:Sk) {a b:Expr} {ta:TA} {p':Pos} (hg:Gl X "enumerate") (hm:X.mg "enumerate" = none) (hg2:Gl X "zip") (hm2:X.mg "zip" = none) (ha:PA X [a,b] ta) (hs:starEach [a,b] X.env = [(false,eval a X.env),(false,eval b X.env)]:=by rfl) (hs2:starEach [b] X.env = [(false,eval b X.env)]:=by rfl) (hs3:starEach [Expr.Call (.Name "zip" p') [a,b] [] pos'] X.env = [(false,eval (.Call (.Name "zip" p') [a,b] [] pos') X.env)]:=by rfl) :
  PI X (.Tuple es x1 tpos) (.Call (.Name "enumerate" p) [.Call (.Name "zip" p') [a,b] [] pos'] [] pos) (aDT X.K k1 k2 ta):=by
 intro pins s σ H R I h
 refine Call_ (iL (u:=.type "enumerate") I hg hm (by decide +kernel) (PyProof.Rows.callWith_type1 ?_ hs3 rfl))
 rw [hs3]
 show wpAny _ _ (spliced ((false,eval (.Call (.Name "zip" p') [a,b] [] pos') X.env)::[])) _ _ s
 refine Calls.spliced_cons ?_
 refine Call_ (iL (u:=.type "zip") I hg2 hm2 (by decide +kernel) (PyProof.Rows.callWith_type1 (thn (ha pos' pins s σ H _ I h) λus s1 hx9=>?_) (by rw [hs,hs2]) (by rw [hs2]; rfl)))
 obtain ⟨vs,H1,I1,r1,q1⟩:=hx9
 obtain ⟨l1,l2,xs,ys,rfl,hA,hB,q⟩:=q1
 obtain ⟨u1,u2,rfl,r1',r2'⟩:=nM r1
 cases r1'
 cases r2'
 obtain ⟨its,rv,pa⟩:=I1.seqK hA
 obtain ⟨jts,rw',pb⟩:=I1.seqK hB
 refine Vu My (by decide) (Mi _ _) (Mn _ _) (λobj=>Iw obj _ _) Mp (xW k1 k2 l1 l2 its.toArray jts.toArray) ⟨pa,pb,?_⟩
 have n1:(zh1 k1 s1.heap l1).objs.size=s1.heap.objs.size+1:=Jo ..
 have n2:(zh2 k1 k2 s1.heap l1 l2).objs.size=s1.heap.objs.size+2:=by rw [Jo,n1]
 have n3:(zh3 k1 k2 s1.heap l1 l2).objs.size=s1.heap.objs.size+3:=by rw [Jo,n2]
 have n4:(zh4 k1 k2 s1.heap l1 l2).objs.size=s1.heap.objs.size+4:=by rw [Jo,n3]
 have n5:(zh5 k1 k2 s1.heap l1 l2).objs.size=s1.heap.objs.size+5:=by rw [Jo,n4]
 have g5:IsZip (zh5 k1 k2 s1.heap l1 l2) (zh4 k1 k2 s1.heap l1 l2).objs.size (zh2 k1 k2 s1.heap l1 l2).objs.size (zh3 k1 k2 s1.heap l1 l2).objs.size .none:=Qh _ rfl
 have g4:IsPair (zh5 k1 k2 s1.heap l1 l2) (zh3 k1 k2 s1.heap l1 l2).objs.size .none .none:=Qa _ (Qh _ rfl)
 have g3:IsPair (zh5 k1 k2 s1.heap l1 l2) (zh2 k1 k2 s1.heap l1 l2).objs.size (.ref s1.heap.objs.size) (.ref (zh1 k1 s1.heap l1).objs.size):=Qa _ (Qa _ (Qh _ rfl))
 have g2:ItK k2 (zh5 k1 k2 s1.heap l1 l2) (zh1 k1 s1.heap l1).objs.size l2 0:=(ItK.new k2 (zh1 k1 s1.heap l1) l2).at λo e=>Qa _ (Qa _ (Qa _ e))
 have g1:ItK k1 (zh5 k1 k2 s1.heap l1 l2) s1.heap.objs.size l1 0:=(ItK.new k1 s1.heap l1).at λo e=>Qa _ (Qa _ (Qa _ (Qa _ e)))
 have kp:∀ c o,s1.heap.get? c=some o->(zh5 k1 k2 s1.heap l1 l2).get? c=some o:=λc o e=>Qa _ (Qa _ (Qa _ (Qa _ (Qa _ e))))
 refine ⟨⟨_,g5,rfl⟩,Calls.spliced_nil ?_⟩
 rw [n1,n2,n3,n4] at *
 generalize zh5 k1 k2 s1.heap l1 l2=hz5 at *
 refine Vu Mb (by decide) (Ii _) (Ip _) (λobj=>Vf obj _) Iq (tW (s1.heap.objs.size+4) (s1.heap.objs.size+2) (s1.heap.objs.size+3)) ⟨g5,?_⟩
 have ge:IsEnum (hz5.push { cls:=.type "enumerate",data:=.fields #[.none,.bool false,.ref (s1.heap.objs.size+4),rawInt 0,.none,.none] }) hz5.objs.size (s1.heap.objs.size+4) 0 .none:=Qh _ rfl
 have kp6:∀ c o,hz5.get? c=some o->(hz5.push { cls:=.type "enumerate",data:=.fields #[.none,.bool false,.ref (s1.heap.objs.size+4),rawInt 0,.none,.none] }).get? c=some o:=λc o e=>Qa _ e
 rw [n5] at ge
 show (∃ _,_)/\_
 rw [n5]
 generalize hz5.push { cls:=.type "enumerate",data:=.fields #[.none,.bool false,.ref (s1.heap.objs.size+4),rawInt 0,.none,.none] }=h6 at ge kp6 ⊢
 refine ⟨⟨_,ge,rfl⟩,Vp ge ?_⟩
 have I2:Inv X pins σ H1 { s1 with heap:=h6 }:=I1.kept (t':=s1.toks) λc o e=>kp6 c o (kp c o e)
 have d:∀ i j:Nat,i≠j->s1.heap.objs.size+i≠s1.heap.objs.size+j:=λi j h=>by omega
 refine ⟨s1.heap.objs.size+5,[s1.heap.objs.size+5,s1.heap.objs.size+4,s1.heap.objs.size+2,s1.heap.objs.size+3,s1.heap.objs.size,s1.heap.objs.size+1],_,_,H1,rfl,I2,vY k1 k2 l1 l2 _ _ _ _ _ _ ?_ ⟨d 5 4 (by decide),d 5 2 (by decide),d 5 3 (by decide),d 5 0 (by decide),d 5 1 (by decide)⟩,⟨⟨_,ge⟩,⟨⟨_,_,.inl rfl,kp6 _ _ g5⟩,kp6 _ _ g3,⟨_,_,kp6 _ _ g4⟩⟩,g1.at λo e=>kp6 _ _ e,g2.at λo e=>kp6 _ _ e⟩,λc hc=>?_,q⟩
 ·intro m1 m2 h1 h2
  exact ⟨d 2 4 (by decide),d 3 4 (by decide),d 0 4 (by decide),d 1 4 (by decide),d 2 3 (by decide),d 2 0 (by decide),d 2 1 (by decide),d 3 0 (by decide),d 3 1 (by decide),d 0 1 (by decide),
   h1 _ (by simp),h1 _ (by simp),h1 _ (by simp),h1 _ (by simp),h2 _ (by simp),h2 _ (by simp),h2 _ (by simp),h2 _ (by simp)⟩
 ·have hc':s1.heap.objs.size<=c:=by
   simp only [Qm,Qt,or_false] at hc
   rcases hc with r | r | r | r | r | r <;> rw [r]
   all_goals first | exact Qg _ | exact Zb _ _
  exact I1.fpOk hc' (I1.hok.fresh hc')
theorem yO {σ:St} (Pv:Nat->St->Hp->Prop) (heq:xs.length=ys.length) (h0:Pv 0 σ H) (hl:∀ i σ H,i<=xs.length->Pv i σ H->SqK k1 K H a xs/\SqK k2 K H b ys) (hs:∀ i x y p q σ H,xs[i]?=some x->ys[i]?=some y->Pv i σ H->H p=none->H q=none->q≠p->g (.ref q) σ (upd (upd H p (.tup [x,y])) q (.tup [.int (i:Nat),.ref p])) λσ2 H2=>tb { D with nx:=Pv (i+1),ct:=Pv (i+1),bk:=D.nx } σ2 H2) (hd:∀ σ H,Pv xs.length σ H->D.nx σ H) :
  ∃ W:Nat->Nat->St->Hp->Prop,(∃ m,W 0 m σ H)/\∀ i m σ H,W i m σ H ->
   ((aDS K k1 k2 a b).stop i H/\D.nx σ H)∨((aDS K k1 k2 a b).go i H/\∃ N:St->Hp->Prop,(∀ σ' H',N σ' H'->∃ m',m' < m/\W (i+1) m' σ' H')/\∀ x H',(aDS K k1 k2 a b).yld i H x H'->g x σ H' λσ2 H2=>tb { D with nx:=N,ct:=N,bk:=D.nx } σ2 H2):=by
 refine ⟨λi m σ H=>m=xs.length - i/\i<=xs.length/\Pv i σ H,⟨xs.length,by simp,Jn _,h0⟩,?_⟩
 rintro i m σ H ⟨rfl,hi,p⟩
 obtain ⟨q1,q2⟩:=hl i σ H hi p
 by_cases hlt:i < xs.length
 ·refine .inr ⟨⟨xs,ys,xs[i],ys[i]'(by omega),q1,q2,Qc hlt,Qc (by omega)⟩,Pv (i+1),λσ' H' p'=>⟨xs.length - (i+1),by omega,rfl,hlt,p'⟩,λx H' y=>?_⟩
  obtain ⟨p1,q1',hp1,hq1,hne,rfl,hy⟩:=y
  obtain ⟨x,y,h1,h2,rfl⟩:=hy xs ys q1 q2
  exact hs i x y p1 q1' σ H h1 h2 p hp1 hq1 hne
 ·have e:i=xs.length:=by omega
  subst e
  exact .inl ⟨⟨xs,ys,q1,q2,by rw [<- heq,QaN]⟩,hd σ H p⟩
end L2
namespace L2
open PySem
def aGV (K:Rc):List V->Hp->VK->Prop:=λxs H Q=>∃ p ys,xs = [.ref p]/\((SqL K H p ys/\∀ l,H l=none->Q (.ref l) (upd H l (.tup ys)))∨(SqT K H p ys/\Q (.ref p) H))
theorem aDU (hK:X.K=K):dF X (.type "tuple") (aGV K):=by subst hK; exact bQ
section
variable {γ δ ε ζ η θ ι:Type}
end
end L2
namespace L2
open PySem PySem.Spec PyProof.Rows
section
variable {own:Nat} {σ:St}
end
theorem aDV {xs:Array Nat} (hs:xs.toList.Pairwise (· < ·)):∀ (fuel lo hi:Nat),hi - lo<=fuel->lo<=hi->hi<=xs.size->(∀ i v,i < lo->xs[i]?=some v->v < j)->(∀ i v,hi<=i->xs[i]?=some v->j<=v) ->
  SetTable.below.go xs j fuel lo hi<=xs.size/\(∀ i v,i < SetTable.below.go xs j fuel lo hi->xs[i]?=some v->v < j)/\(∀ i v,SetTable.below.go xs j fuel lo hi<=i->xs[i]?=some v->j<=v):=by
 have mono:∀ i k u v,i < k->xs[i]?=some u->xs[k]?=some v->u < v:=λi k u v hik hu hv=>by
  rw [<- Array.getElem?_toList] at hu hv
  obtain ⟨h1,e1⟩:=Qd.mp hu
  obtain ⟨h2,e2⟩:=Qd.mp hv
  rw [<- e1,<- e2]
  exact Xx.mp hs i k h1 h2 hik
 intro fuel
 induction fuel with
 | zero =>
  intro lo hi h1 h2 h3 h4 h5
  have e:hi=lo:=by omega
  subst e
  exact ⟨h3,h4,h5⟩
 | succ fuel ih =>
  intro lo hi h1 h2 h3 h4 h5
  have e:SetTable.below.go xs j (fuel+1) lo hi=if lo < hi then (if xs.getD ((lo+hi) / 2) j < j then SetTable.below.go xs j fuel ((lo+hi) / 2+1) hi else SetTable.below.go xs j fuel lo ((lo+hi) / 2)) else lo:=rfl
  rw [e]
  by_cases hlt:lo < hi
  ·rw [if_pos hlt]
   have hm:(lo+hi) / 2 < xs.size:=by omega
   have hg:xs[(lo+hi) / 2]?=some (xs.getD ((lo+hi) / 2) j):=by
    rw [Array.getD_eq_getD_getElem?,Array.getElem?_eq_getElem hm]; rfl
   by_cases hc:xs.getD ((lo+hi) / 2) j < j
   ·rw [if_pos hc]
    refine ih _ _ (by omega) (by omega) h3 (λi v hi' hv=>?_) h5
    rcases Wr i ((lo+hi) / 2) with z | z
    ·exact Yx (mono _ _ _ _ z hv hg) hc
    ·have:i=(lo+hi) / 2:=by omega
     subst this
     rw [hg] at hv
     rw [<- Option.some.inj hv]; exact hc
   ·rw [if_neg hc]
    refine ih _ _ (by omega) (by omega) (by omega) h4 (λi v hi' hv=>?_)
    rcases Wr ((lo+hi) / 2) i with z | z
    ·have:=mono _ _ _ _ z hg hv
     omega
    ·have:i=(lo+hi) / 2:=by omega
     subst this
     rw [hg] at hv
     rw [<- Option.some.inj hv]; omega
  ·rw [if_neg hlt]
   have e:hi=lo:=by omega
   subst e
   exact ⟨h3,h4,h5⟩
theorem uR {xs:Array Nat} (hs:xs.toList.Pairwise (· < ·)) (j:Nat):SetTable.below xs j<=xs.size/\(∀ i v,i < SetTable.below xs j->xs[i]?=some v->v < j)/\(∀ i v,SetTable.below xs j<=i->xs[i]?=some v->j<=v) :=
 aDV hs xs.size 0 xs.size (by omega) (Jn _) (Qg _) (λi v h=>absurd h (Xn _)) (λi v h e=>by rw [Array.getElem?_eq_none h] at e; cases e)
def mW (xs:Array Nat) (i:Nat):Nat:=if i=0 then 0 else (xs[i - 1]?).getD 0+1
theorem aAx {xs:Array Nat} (hs:xs.toList.Pairwise (· < ·)) (hi:i<=xs.size):SetTable.below xs (mW xs i)=i:=by
 obtain ⟨h1,h2,h3⟩:=uR hs (mW xs i)
 have mono:∀ i k u v,i < k->xs[i]?=some u->xs[k]?=some v->u < v:=λi k u v hik hu hv=>by
  rw [<- Array.getElem?_toList] at hu hv
  obtain ⟨h1,e1⟩:=Qd.mp hu
  obtain ⟨h2,e2⟩:=Qd.mp hv
  rw [<- e1,<- e2]
  exact Xx.mp hs i k h1 h2 hik
 rcases Nat.lt_trichotomy (SetTable.below xs (mW xs i)) i with z | z | z
 ·exfalso
  have hlt:i - 1 < xs.size:=by omega
  have e:xs[i - 1]?=some xs[i - 1]:=Array.getElem?_eq_getElem hlt
  have:=h3 (i - 1) _ (by omega) e
  unfold mW at this
  rw [if_neg (by omega),e] at this
  have:xs[i - 1]+1<=xs[i - 1]:=this
  omega
 ·exact z
 ·exfalso
  have hlt:i < xs.size:=by omega
  have e:xs[i]?=some xs[i]:=Array.getElem?_eq_getElem hlt
  have:=h2 i _ z e
  unfold mW at this
  by_cases h0:i=0
  ·rw [if_pos h0] at this; omega
  ·have hlt':i - 1 < xs.size:=by omega
   have e':xs[i - 1]?=some xs[i - 1]:=Array.getElem?_eq_getElem hlt'
   rw [if_neg h0,e'] at this
   have this:xs[i] < xs[i - 1]+1:=this
   have:=mono (i - 1) i _ _ (by omega) e' e
   omega
def lpN (mask:Nat):Nat->Nat×Nat->Nat×Nat
 | 0,p=>p
 | n+1,p=>lpN mask n (SetTable.leap mask p.1 p.2)
theorem vZ (mask:Nat):∀ (a b:Nat) (p:Nat×Nat),lpN mask (a+b) p=lpN mask b (lpN mask a p)
 | 0,b,p=>by rw [QaP]; rfl
 | a+1,b,p=>by
  rw [show a+1+b=(a+b)+1 by omega]
  exact vZ mask a b _
theorem yP (mask:Nat):∀ (k:Nat) (p:Nat×Nat),p.2 < 32^k->p.1<=mask->∃ i,i<=mask/\lpN mask k p=(i,0)
 | 0,p,h,hi=>⟨p.1,hi,by
   obtain ⟨a,b⟩:=p
   have:b=0:=by have h:b < 32^0:=h; omega
   subst this; rfl⟩
 | k+1,p,h,hi=>by
  refine yP mask k _ ?_ ?_
  ·show p.2 / 32 < 32^k
   rw [Nat.pow_succ] at h
   omega
  ·show (p.1*5+1+p.2 / 32) % (mask+1)<=mask
   have:=Wg (p.1*5+1+p.2 / 32) (show 0 < mask+1 by omega)
   omega
theorem lg7:∀ i j:Fin 8,∃ n:Fin 8,(lpN 7 n.val (i.val,0)).1=j.val:=by decide +kernel
theorem aIt:∀ i j:Fin 32,∃ n:Fin 32,(lpN 31 n.val (i.val,0)).1=j.val:=by decide +kernel
theorem aGh (hm:mask=7∨mask=31) {pt:Nat} (hi:i<=mask) (hp:pt < 2^64) (hj:j<=mask):∃ n,n<=mask+13/\(lpN mask n (i,pt)).1=j:=by
 obtain ⟨i',hi',e⟩:=yP mask 13 (i,pt) (show pt < 32^13 by omega) hi
 rcases hm with rfl | rfl
 ·obtain ⟨n,hn⟩:=lg7 ⟨i',by omega⟩ ⟨j,by omega⟩
  exact ⟨13+n.val,by have:=n.isLt; omega,by rw [vZ,e]; exact hn⟩
 ·obtain ⟨n,hn⟩:=aIt ⟨i',by omega⟩ ⟨j,by omega⟩
  exact ⟨13+n.val,by have:=n.isLt; omega,by rw [vZ,e]; exact hn⟩
def wA (t:SetTable):Nat->SetTable.Probe->SetTable.Probe
 | 0,p=>p
 | n+1,p=>wA t n (t.advance p)
theorem yQ (t:SetTable):∀ (a b:Nat) (p:SetTable.Probe),wA t (a+b) p=wA t b (wA t a p)
 | 0,b,p=>by rw [QaP]; rfl
 | a+1,b,p=>by
  rw [show a+1+b=(a+b)+1 by omega]
  exact yQ t a b _
theorem aCB (t:SetTable) (p:SetTable.Probe):(t.advance p).dummy=p.dummy:=by
 unfold SetTable.advance
 split <;> rfl
theorem wB (j:Nat):SetTable.has #[] j=false:=rfl
theorem rS {t:SetTable} (hd:t.dummies = #[]) (j:Nat):t.slot j=.empty∨∃ i,t.slot j=.live i:=by
 unfold SetTable.slot
 dsimp only
 by_cases h:(t.place[SetTable.below t.place j]?==some j)=true
 ·rw [if_pos h]; exact .inr ⟨_,rfl⟩
 ·rw [if_neg h,hd,wB]
  exact .inl (if_neg (by decide))
theorem yR {t:SetTable} (hd:t.dummies = #[]) {hashAt:Nat->Int} {h:Int} (hh:∀ i,(hashAt i==h)=false):∀ (fuel:Nat) (p:SetTable.Probe) (n:Nat),n < fuel->p.dummy=none->t.slot (wA t n p).j=.empty->∃ j,SetTable.probe.go t hashAt h fuel p=some (.empty j none)/\t.slot j=.empty
 | 0,p,n,hn,_,_=>absurd hn (Xn _)
 | fuel+1,p,n,hn,hp,hs=>by
  have e:SetTable.probe.go t hashAt h (fuel+1) p=(match t.slot p.j with
   | .empty=>some (.empty p.j p.dummy)
   | .dummy=>SetTable.probe.go t hashAt h fuel (t.advance { p with dummy:=some p.j })
   | .live i=>if (hashAt i==h)=true then some (.candidate p.j i (t.advance p)) else SetTable.probe.go t hashAt h fuel (t.advance p)):=rfl
  rcases rS hd p.j with q | ⟨i,q⟩
  ·refine ⟨p.j,?_,q⟩
   rw [e,q,hp]
  ·rw [e,q]
   simp only [hh,Jh,if_false]
   cases n with
   | zero=>rw [show wA t 0 p=p from rfl,q] at hs; cases hs
   | succ n=>exact yR hd hh fuel (t.advance p) n (by omega) (by rw [aCB]; exact hp) hs
def StP (mask:Nat) (p:Nat×Nat):SetTable.Probe:={ j:=p.1,more:=SetTable.runEnd mask p.1 - p.1,i:=p.1,perturb:=p.2,dummy:=none }
theorem aBs (t:SetTable) (i pt:Nat):∀ (m j:Nat),wA t (m+1) { j:=j,more:=m,i:=i,perturb:=pt,dummy:=none }=StP t.mask (SetTable.leap t.mask i pt)
 | 0,j=>rfl
 | m+1,j=>aBs t i pt m (j+1)
theorem aGW (mask i:Nat):SetTable.runEnd mask i - i<=9:=by
 unfold SetTable.runEnd
 split <;> omega
theorem uS (t:SetTable):∀ (k:Nat) (p:Nat×Nat),∃ n,n<=10*k/\wA t n (StP t.mask p)=StP t.mask (lpN t.mask k p)
 | 0,p=>⟨0,Qg _,rfl⟩
 | k+1,p=>by
  obtain ⟨n,hn,e⟩:=uS t k (SetTable.leap t.mask p.1 p.2)
  refine ⟨(SetTable.runEnd t.mask p.1 - p.1+1)+n,by have:=aGW t.mask p.1; omega,?_⟩
  rw [yQ]
  have e2:wA t (SetTable.runEnd t.mask p.1 - p.1+1) (StP t.mask p)=StP t.mask (SetTable.leap t.mask p.1 p.2):=aBs t p.1 p.2 _ _
  rw [e2]
  exact e
theorem aBt (h:Int):SetTable.bits h < 2^64:=by
 unfold SetTable.bits
 have h1:=Xh h (show (0:Int) < 2^64 by decide)
 have h2:=Xo h (show (2^64:Int)≠0 by decide)
 omega
theorem aFm {t:SetTable} (hm:t.mask=7∨t.mask=31) (hd:t.dummies = #[]) {j0:Nat} (hj:j0<=t.mask) (hs:t.slot j0=.empty) (h:Int):∃ j,t.freeSlot h=some (j,false)/\t.slot j=.empty:=by
 have hlt:=Wg (SetTable.bits h) (show 0 < t.mask+1 by omega)
 obtain ⟨k,hk,e⟩:=aGh hm (i:=SetTable.bits h % (t.mask+1)) (pt:=SetTable.bits h) (by omega) (aBt h) hj
 obtain ⟨n,hn,e2⟩:=uS t k (SetTable.bits h % (t.mask+1),SetTable.bits h)
 obtain ⟨j,e3,e4⟩:=yR hd (hashAt:=λ_=>h+1) (h:=h) (λi=>beq_eq_false_iff_ne.mpr (by omega)) (10*SetTable.turns t.mask) (StP t.mask (SetTable.bits h % (t.mask+1),SetTable.bits h)) n (by unfold SetTable.turns; omega) rfl (by
  rw [e2]
  show t.slot (lpN t.mask k (SetTable.bits h % (t.mask+1),SetTable.bits h)).1=_
  rw [e]; exact hs)
 refine ⟨j,?_,e4⟩
 have e5:t.probe (λx=>h+1) h (t.probeStart h)=some (.empty j none):=e3
 unfold SetTable.freeSlot
 rw [e5]
 rfl
theorem gap:∀ (l:List Nat) (b:Nat),l.Pairwise (· < ·)->(∀ x∈l,b<=x)->∃ j,b<=j/\j<=b+l.length/\j∉l
 | [],b,_,_=>⟨b,Qg _,Qg _,Qt⟩
 | x::r,b,h,hb=>by
  obtain ⟨h1,h2⟩:=Xm.mp h
  by_cases z:x=b
  ·obtain ⟨j,j1,j2,j3⟩:=gap r (b+1) h2 λy hy=>by have:=h1 y hy; omega
   refine ⟨j,by omega,by rw [Qx]; omega,λm=>?_⟩
   rcases Qm.mp m with m | m
   ·omega
   ·exact j3 m
  ·refine ⟨b,Qg _,by omega,λm=>?_⟩
   have hx:=hb x (Qi ..)
   rcases Qm.mp m with m | m
   ·exact z m.symm
   ·have:=h1 b m; omega
theorem aAy {t:SetTable} (hd:t.dummies = #[]) (h:j∉t.place.toList):t.slot j=.empty:=by
 rcases rS hd j with q | ⟨i,q⟩
 ·exact q
 ·exfalso
  unfold SetTable.slot at q
  dsimp only at q
  by_cases z:(t.place[SetTable.below t.place j]?==some j)=true
  ·have z':=eq_of_beq z
   rw [<- Array.getElem?_toList] at z'
   exact h (Qj z')
  ·rw [if_neg z,hd,wB] at q
   simp at q
theorem aDW {t:SetTable} (h:t.slot j=.empty):t.place[SetTable.below t.place j]?≠some j:=λz=>by
 unfold SetTable.slot at h
 dsimp only at h
 rw [if_pos (by rw [z]; exact beq_self_eq_true _)] at h
 cases h
theorem jC (xs:Array α) (p:Nat) (x:α):(SetTable.insertAt xs p x).toList=xs.toList.take p++x::xs.toList.drop p:=by
 unfold SetTable.insertAt
 rw [Array.toList_append,Array.toList_push,Array.toList_extract,Array.toList_extract]
 simp only [List.extract_eq_drop_take,Wv,QaM]
 rw [Yt]
 congr 1
 rw [Qal]
 congr 1
 rw [Jm]
 rw [Jq,Array.length_toList]
 exact Qg _
theorem tX {xs:Array Nat} (hs:xs.toList.Pairwise (· < ·)) (h:xs[SetTable.below xs j]?≠some j):(SetTable.insertAt xs (SetTable.below xs j) j).toList.Pairwise (· < ·):=by
 obtain ⟨h1,h2,h3⟩:=uR hs j
 rw [jC]
 have hgt:∀ y∈xs.toList.drop (SetTable.below xs j),j < y:=λy hy=>by
  obtain ⟨i,hi⟩:=Jb.mp hy
  rw [QaD,Array.getElem?_toList] at hi
  have hle:=h3 _ _ (Zb _ _) hi
  rcases Wr j y with z | z
  ·exact z
  ·exfalso
   have e:y=j:=by omega
   subst e
   cases i with
   | zero=>exact h hi
   | succ i =>
    have hlt:SetTable.below xs y < xs.size:=by
     have:=(Array.getElem?_eq_some_iff.mp hi).1
     omega
    have e1:xs[SetTable.below xs y]?=some xs[SetTable.below xs y]:=Array.getElem?_eq_getElem hlt
    have h4:=h3 _ _ (Qg _) e1
    have h5:xs[SetTable.below xs y] < y:=by
     rw [<- Array.getElem?_toList] at hi e1
     obtain ⟨q1,r1⟩:=Qd.mp e1
     obtain ⟨q2,r2⟩:=Qd.mp hi
     have:=Xx.mp hs _ _ q1 q2 (by omega)
     rw [r1,r2] at this
     exact this
    omega
 have hlt:∀ y∈xs.toList.take (SetTable.below xs j),y < j:=λy hy=>by
  obtain ⟨i,hi⟩:=Jb.mp hy
  have hi2:i < SetTable.below xs j:=by
   have:=(Qd.mp hi).1
   rw [Qw] at this
   omega
  rw [Wz hi2,Array.getElem?_toList] at hi
  exact h2 _ _ hi2 hi
 refine Qat.mpr ⟨hs.sublist (List.take_sublist _ _),Xm.mpr ⟨hgt,hs.sublist (List.drop_sublist _ _)⟩,λa ha b hb=>?_⟩
 rcases Qm.mp hb with rfl | hb
 ·exact hlt a ha
 ·exact Yx (hlt a ha) (hgt b hb)
structure Tb (L:Bool) (t:SetTable) (n m:Nat):Prop where
 mask:(t.mask=7/\n<=m)∨(t.mask=31/\n<=18)
 dums:t.dummies = #[]
 plain:t.plain=true
 led:t.led=L
 size:t.place.size=n
 rise:t.place.toList.Pairwise (· < ·)
theorem Tb.fits {t:SetTable} (T:Tb L t n m) (hm:m<=6):t.fits n=true:=by
 unfold SetTable.fits SetTable.fill
 rw [T.size,T.dums]
 have:n+(#[]:Array Nat).size<=t.mask:=by
  show n+0<=_
  rcases T.mask with ⟨a,b⟩ | ⟨a,b⟩ <;> omega
 rw [decide_eq_true this,beq_self_eq_true]
 rfl
theorem Tb.lay {t:SetTable} {es:Array (Int×Value)} (T:Tb L t es.size 4) (hn:es.size<=17) (h:Int) (x:Value) :
  ∃ es' t',layNew t es h x=(es',t',false,false)/\es'.toList.Perm ((h,x)::es.toList)/\Tb L t' es'.size 5/\es'.size=es.size+1:=by
 have hm:t.mask=7∨t.mask=31:=by rcases T.mask with ⟨a,_⟩ | ⟨a,_⟩ <;> simp [a]
 obtain ⟨j0,_,j2,j3⟩:=gap t.place.toList 0 T.rise λx _=>Jn _
 have hj0:j0<=t.mask:=by
  rw [Array.length_toList,T.size] at j2
  rcases T.mask with ⟨a,b⟩ | ⟨a,b⟩ <;> omega
 obtain ⟨j,ej,hj⟩:=aFm hm T.dums hj0 (aAy T.dums j3) h
 have esz:(SetTable.insertAt es (SetTable.below t.place j) (h,x)).size=es.size+1:=by
  rw [<- Array.length_toList,jC,Qn,Qx,Qw,Jq,Array.length_toList]
  omega
 have eput:t.put j=({ t with place:=SetTable.insertAt t.place (SetTable.below t.place j) j,dummies:=#[] },SetTable.below t.place j):=by
  unfold SetTable.put
  dsimp only
  rw [T.dums,wB]
  rfl
 have T':Tb L { t with place:=SetTable.insertAt t.place (SetTable.below t.place j) j,dummies:=#[] } (es.size+1) 5:=by
  refine ⟨?_,rfl,T.plain,T.led,?_,tX T.rise (aDW hj)⟩
  ·rcases T.mask with ⟨a,b⟩ | ⟨a,b⟩
   ·exact .inl ⟨a,by omega⟩
   ·exact .inr ⟨a,by omega⟩
  ·show (SetTable.insertAt t.place _ j).size=_
   rw [<- Array.length_toList,jC,Qn,Qx,Qw,Jq,Array.length_toList,T.size]
   omega
 refine ⟨SetTable.insertAt es (SetTable.below t.place j) (h,x),_,?_,?_,by rw [esz]; exact T',esz⟩
 ·unfold layNew
  rw [ej]
  dsimp only
  rw [eput]
  dsimp only
  rw [esz]
  unfold SetTable.orStandIn
  rw [T'.fits (by decide)]
  rfl
 ·rw [jC]
  exact Wa.trans (List.Perm.cons _ (by rw [Xz]))
theorem aBu:∀ (l:List (Option Nat)),(l.filterMap id).length < l.length->∃ j:Nat,l[j]?=some none
 | [],h=>absurd h (Xn _)
 | none::r,_=>⟨0,rfl⟩
 | some a::r,h=>by
  obtain ⟨j,hj⟩:=aBu r (by
   rw [Qaa (f:=id) (a:=some a) (b:=a) rfl,Qx,Qx] at h
   omega)
  exact ⟨j+1,hj⟩
theorem aDX {l:List (Option Nat)} {k:Nat} (h:l[j]?=some none):((l.set j (some k)).filterMap id).Perm (k::l.filterMap id):=by
 obtain ⟨hj,e⟩:=Qd.mp h
 have e1:l=l.take j++none::l.drop (j+1):=by
  rw [<- e,Qai hj,Xz]
 have e2:l.set j (some k)=l.take j++some k::l.drop (j+1):=by
  rw [Yl,if_pos hj]
 have e3:l.filterMap id=(l.take j).filterMap id++(l.drop (j+1)).filterMap id:=by
  have:=congrArg (List.filterMap id) e1
  rw [this,Qam,List.filterMap_cons_none (f:=id) rfl]
 rw [e2,e3,Qam,Qaa (f:=id) (a:=some k) (b:=k) rfl]
 exact Wa
theorem aBv (mask:Nat) (owner:Array (Option Nat)):∀ (fuel i pt n:Nat),n < fuel->owner.getD (lpN mask n (i,pt)).1 (some 0)=none->∃ j,SetTable.layClean.free mask owner fuel i pt=some j/\owner.getD j (some 0)=none
 | 0,i,pt,n,h,_=>absurd h (Xn _)
 | fuel+1,i,pt,n,h,hn=>by
  have e:SetTable.layClean.free mask owner (fuel+1) i pt=(match List.find? (λk=>(owner.getD (i+k) (some 0)).isNone) (List.range (SetTable.runEnd mask i+1 - i)) with
   | some k=>some (i+k)
   | none=>SetTable.layClean.free mask owner fuel (SetTable.leap mask i pt).1 (SetTable.leap mask i pt).2):=rfl
  rw [e]
  cases q:List.find? (λk=>(owner.getD (i+k) (some 0)).isNone) (List.range (SetTable.runEnd mask i+1 - i)) with
  | some k =>
   refine ⟨i+k,rfl,?_⟩
   have:=List.find?_some q
   exact Option.isNone_iff_eq_none.mp this
  | none =>
   cases n with
   | zero =>
    exfalso
    have hr:0∈List.range (SetTable.runEnd mask i+1 - i):=Jf.mpr (by unfold SetTable.runEnd; split <;> omega)
    have:=List.find?_eq_none.mp q 0 hr
    rw [show lpN mask 0 (i,pt)=(i,pt) from rfl] at hn
    have hn:owner.getD i (some 0)=none:=hn
    rw [Nat.add_zero,hn] at this
    exact this rfl
   | succ n=>exact aBv mask owner fuel _ _ n (by omega) hn
theorem aFn {owner:Array (Option Nat)} (h:owner.getD j (some 0)=none):owner.toList[j]?=some none:=by
 rw [Array.getD_eq_getD_getElem?] at h
 rw [Array.getElem?_toList]
 cases q:owner[j]? with
 | none=>rw [q] at h; cases h
 | some v=>rw [q] at h; rw [show v=none from h]
def wC (mask:Nat) (acc:Option (Array (Option Nat)×Nat)) (h:Int):Option (Array (Option Nat)×Nat):=do
 let x<-acc
 match x with
 | (owner, k) => do
   let j<-SetTable.layClean.free mask owner (SetTable.turns mask) (SetTable.bits h % (mask+1)) (SetTable.bits h)
   pure (owner.setIfInBounds j (some k),k+1)
theorem rT (hm:mask=7∨mask=31):∀ (hs:List Int) (owner:Array (Option Nat)) (k:Nat),owner.size=mask+1->(owner.toList.filterMap id).Perm (List.range k)->k+hs.length<=mask ->
  ∃ owner',hs.foldl (wC mask) (some (owner,k))=some (owner',k+hs.length)/\owner'.size=mask+1/\(owner'.toList.filterMap id).Perm (List.range (k+hs.length))
 | [],owner,k,h1,h2,_=>⟨owner,rfl,h1,h2⟩
 | h::hs,owner,k,h1,h2,h3=>by
  rw [Qx] at h3
  obtain ⟨j0,hj0⟩:=aBu owner.toList (by rw [h2.length_eq,Jz,Array.length_toList]; omega)
  have hj0l:=(Qd.mp hj0).1
  rw [Array.length_toList] at hj0l
  have hlt:=Wg (SetTable.bits h) (show 0 < mask+1 by omega)
  obtain ⟨n,hn,e⟩:=aGh hm (i:=SetTable.bits h % (mask+1)) (pt:=SetTable.bits h) (j:=j0) (by omega) (aBt h) (by omega)
  obtain ⟨j,ej,hj⟩:=aBv mask owner (SetTable.turns mask) (SetTable.bits h % (mask+1)) (SetTable.bits h) n (by unfold SetTable.turns; omega) (by
   rw [e,Array.getD_eq_getD_getElem?,<- Array.getElem?_toList,hj0]; rfl)
  have hjl:=aFn hj
  have es:wC mask (some (owner,k)) h=some (owner.setIfInBounds j (some k),k+1):=by
   show (do let j<-SetTable.layClean.free mask owner (SetTable.turns mask) (SetTable.bits h % (mask+1)) (SetTable.bits h); pure (owner.setIfInBounds j (some k),k+1))=_
   rw [ej]; rfl
  have hp:((owner.setIfInBounds j (some k)).toList.filterMap id).Perm (List.range (k+1)):=by
   rw [Array.toList_setIfInBounds]
   refine (aDX hjl).trans ?_
   rw [Zi]
   exact (List.Perm.cons _ h2).trans (Wn _ _).symm
  obtain ⟨o',r1,r2,r3⟩:=rT hm hs (owner.setIfInBounds j (some k)) (k+1) (by rw [Array.size_setIfInBounds]; exact h1) hp (by omega)
  refine ⟨o',?_,r2,?_⟩
  ·rw [List.foldl_cons,es,r1,Qx]
   congr 2; omega
  ·rw [Qx,show k+(hs.length+1)=k+1+hs.length by omega]; exact r3
theorem aAz (owner:Array (Option Nat)):(List.range owner.size).map (λj=>owner.getD j none)=owner.toList:=by
 apply Yb
 intro i
 rw [Qe]
 by_cases h:i < owner.size
 ·rw [Xk h,Array.getElem?_toList,Array.getElem?_eq_getElem h]
  simp [h]
 ·rw [Xq (by rw [Jz]; omega),Xq (by rw [Array.length_toList]; omega)]; rfl
theorem aFo (hm:mask=7∨mask=31) (fi mo:Nat) (L pl:Bool) (hs:Array Int) (hn:hs.size<=mask):∃ t order,SetTable.laid mask fi mo L pl hs=some (t,order)/\t.mask=mask/\t.dummies = #[]/\t.plain=pl/\t.led=L/\t.place.size=hs.size/\t.place.toList.Pairwise (· < ·)/\order.toList.Perm (List.range hs.size):=by
 obtain ⟨owner,e,hsz,hp⟩:=rT hm hs.toList (Array.replicate (mask+1) none) 0 (by rw [Array.size_replicate]) (by rw [Array.toList_replicate,List.filterMap_replicate_of_none rfl]; exact List.Perm.refl _) (by rw [Array.length_toList]; omega)
 rw [QaP,Array.length_toList] at e hp
 have ec:SetTable.layClean mask hs=some owner:=by
  have e2:SetTable.layClean mask hs=Option.map (λx=>x.1) (Array.foldl (wC mask) (some (Array.replicate (mask+1) none,0)) hs):=rfl
  rw [e2,<- Array.foldl_toList,e]; rfl
 have e1:SetTable.laid mask fi mo L pl hs=some ({ mask:=mask,place:=(((List.range (mask+1)).filterMap λj=>Option.map (λx=>(j,x)) (owner.getD j none)).map (·.1)).toArray,dummies:=#[],finger:=fi,led:=L,moves:=mo,plain:=pl },(((List.range (mask+1)).filterMap λj=>Option.map (λx=>(j,x)) (owner.getD j none)).map (·.2)).toArray):=by
  unfold SetTable.laid
  rw [ec]; rfl
 have eo:(((List.range (mask+1)).filterMap λj=>Option.map (λx=>(j,x)) (owner.getD j none)).map (·.2))=owner.toList.filterMap id:=by
  rw [QaE,<- aAz,Zx,hsz]
  congr 1
  funext j
  show Option.map _ (Option.map _ _)=owner.getD j none
  cases owner.getD j none <;> rfl
 refine ⟨_,_,e1,rfl,rfl,rfl,rfl,?_,?_,?_⟩
 ·show (List.toArray _).size=_
  rw [Ql,Qb]
  have:=congrArg Zy eo
  rw [Qb,hp.length_eq,Jz] at this
  exact this
 ·show (List.toArray _).toList.Pairwise _
  rw [Wi,QaE]
  refine List.Pairwise.filterMap _ (λa a' h b hb b' hb'=>?_) Yq
  have k1:b=a:=by
   cases q:owner.getD a none with
   | none=>rw [q] at hb; cases hb
   | some z=>rw [q] at hb; exact (Option.some.inj hb).symm
  have k2:b'=a':=by
   cases q:owner.getD a' none with
   | none=>rw [q] at hb'; cases hb'
   | some z=>rw [q] at hb'; exact (Option.some.inj hb').symm
  rw [k1,k2]; exact h
 ·show (List.toArray _).toList.Perm _
  rw [Wi,eo]
  exact hp
theorem Tb.relay {t:SetTable} {es:Array (Int×Value)} (T:Tb L t es.size 5) (h5:es.size=5) :
  ∃ es' t',relayAll t es (SetTable.grown es.size)=(es',t',false)/\es'.toList.Perm es.toList/\Tb L t' es'.size 4:=by
 obtain ⟨t',order,e,h1,h2,h3,h4,h6,h7,h8⟩:=aFo (mask:=31) (.inr rfl) t.finger (t.movedTo 31) t.led t.plain (es.map (·.1)) (by rw [Array.size_map]; omega)
 rw [Array.size_map] at h6 h8
 have er:t.relaid (es.map λx=>x.1) (SetTable.grown es.size)=some (t',order):=by
  unfold SetTable.relaid
  rw [h5]
  exact e
 have hfm:(Array.filterMap (λx=>es[x]?) order).toList.Perm es.toList:=by
  rw [Array.toList_filterMap]
  refine (h8.filterMap _).trans ?_
  have:(List.range es.size).filterMap (λx=>es[x]?)=es.toList:=by
   have:∀ (l:List (Int×Value)),(List.range l.length).filterMap (λx=>l[x]?)=l:=λl=>by
    have e0:(List.range l.length).map (λx=>l[x]?)=l.map some:=by
     apply Yb
     intro i
     rw [Qe,Qe]
     by_cases h:i < l.length
     ·rw [Xk h,Qc h]; simp [h]
     ·rw [Xq (by rw [Jz]; omega),Xq (by omega)]; rfl
    have e1:(List.range l.length).filterMap (λx=>l[x]?)=((List.range l.length).map (λx=>l[x]?)).filterMap id:=by rw [Zx]; rfl
    rw [e1,e0,Zx]
    show l.filterMap (λx=>some x)=l
    exact List.filterMap_some
   have h:=this es.toList
   rw [Array.length_toList] at h
   simpa using h
  rw [this]
 have hz:(Array.filterMap (λx=>es[x]?) order).size=es.size:=by
  rw [<- Array.length_toList,hfm.length_eq,Array.length_toList]
 have T':Tb L t' (Array.filterMap (λx=>es[x]?) order).size 4:=⟨.inr ⟨h1,by omega⟩,h2,h3.trans T.plain,h4.trans T.led,by rw [hz]; exact h6,h7⟩
 refine ⟨Array.filterMap (λx=>es[x]?) order,t',?_,hfm,T'⟩
 unfold relayAll
 rw [er]
 dsimp only
 rw [show coversAll order es.size=true from List.isPerm_iff.mpr h8,T'.fits (by decide)]
 rfl
theorem Tb.full {t:SetTable} (T:Tb L t n 5):(t.tooFull=true/\n=5)∨(t.tooFull=false/\Tb L t n 4):=by
 have e:t.tooFull=decide (n*5≥t.mask*3):=by
  unfold SetTable.tooFull SetTable.fill
  rw [T.size,T.dums]; rfl
 rw [e]
 rcases T.mask with ⟨a,b⟩ | ⟨a,b⟩
 ·by_cases h:n=5
  ·exact .inl ⟨decide_eq_true (by rw [a,h]; decide),h⟩
  ·exact .inr ⟨decide_eq_false (by omega),⟨.inl ⟨a,by omega⟩,T.dums,T.plain,T.led,T.size,T.rise⟩⟩
 ·exact .inr ⟨decide_eq_false (by omega),⟨.inr ⟨a,b⟩,T.dums,T.plain,T.led,T.size,T.rise⟩⟩
theorem aBw (next:Nat->Nat):∀ (fuel k:Nat) (left:List α) (out:Array α),left.length<=fuel->(pickOrder.go next fuel k left out).toList.Perm (out.toList++left)
 | 0,k,left,out,h=>by
  have:left = []:=Jt.mp (by omega)
  subst this
  rw [Zk]; exact List.Perm.refl _
 | fuel+1,k,left,out,h=>by
  have e:pickOrder.go next (fuel+1) k left out=(match left[next k % left.length]? with
   | some x=>pickOrder.go next fuel (k+1) (left.eraseIdx (next k % left.length)) (out.push x)
   | none=>out):=rfl
  rw [e]
  cases q:left[next k % left.length]? with
  | none =>
   have hl:left.length=0:=by
    rcases Nat.eq_zero_or_pos left.length with z | z
    ·exact z
    ·have:=Wg (next k) z
     rw [Qc this] at q; cases q
   rw [Jt.mp hl,Zk]
  | some x =>
   obtain ⟨hi,ex⟩:=Qd.mp q
   refine (aBw next fuel (k+1) _ (out.push x) (by rw [List.length_eraseIdx_of_lt hi]; omega)).trans ?_
   rw [Array.toList_push,Yt]
   refine List.Perm.append_left _ ?_
   rw [List.eraseIdx_eq_take_drop_succ,Qal,<- ex]
   refine Wa.symm.trans ?_
   rw [Qai hi]
   first | done | rw [Xz]
theorem aCC (next:Nat->Nat) (xs:Array α):(pickOrder next xs).toList.Perm xs.toList:=by
 have:=aBw next xs.size 0 xs.toList #[] (by rw [Array.length_toList]; exact Qg _)
 exact this
def ent (p:Int×Tok):Int×Value:=(hashInt p.1,.int p.1 p.2)
def SG (L:Bool) (h:Heap) (a:Addr) (ks:List (Int×Tok)):Prop:=∃ o ep es t,h.get? a=some o/\o.ExactSet/\o.data=.set es ep t/\es.toList.Perm (ks.map ent)/\Tb L t es.size 4
theorem SG.keep {l:List (Int×Tok)} (x:SG L h a l) (k:∀ o,h.get? a=some o->h'.get? a=some o):SG L h' a l:=by
 obtain ⟨o,ep,es,t,e,r⟩:=x
 exact ⟨o,ep,es,t,k o e,r⟩
theorem aCD (prog:Program) (w:World) {es:Array (Int×Value)} {ks:List (Int×Tok)} (h:es.toList.Perm (ks.map ent)):ElemsOf (intKind prog w) es.toList:=by
 intro e he
 obtain ⟨p,hp,rfl⟩:=Qv.mp (h.mem_iff.mp he)
 exact ⟨⟨p.1,Mx _ _ _ _,rfl⟩,rfl⟩
theorem aAA {ks:List (Int×Tok)} {k:Int} {t:Tok} {Q:Bool->Shared->Prop} (hS:SG L s.heap a ks) (hlen:ks.length<=17)
  (hQ:∀ h' b,Heap.SameBut a s.heap h'->((∃ p∈ks,p.1=k)->SG L h' a ks)->((∀ p∈ks,p.1≠k)->SG L h' a ((k,t)::ks))->Q b { s with heap:=h',toks:=s.toks+1 }) :
  wpAny (model prog w) A (setAdd a (.int k t)) Q E s:=by
 obtain ⟨o,ep,es,tb,ho,hex,hd,hp,T⟩:=hS
 unfold setAdd
 refine Rm (Ra ((intKind prog w).pyHash (k:=k) (Mx _ _ _ _) ?_))
 have hel:=aCD prog w hp
 have hsz:es.size=ks.length:=by rw [<- Array.length_toList,hp.length_eq,Qb]
 have hfit:=T.fits (by decide)
 have hscan:byScan (.int k t) es=true:=byScan_of (knd:=intKind prog w) rfl (by rw [hsz]; unfold scanBound; omega) hel
 unfold setAddHashed setAddHashedIn
 refine Rm (Ra (Th (s:={ s with toks:=s.toks+1 }) ho hd hfit ?_))
 dsimp only
 rw [hscan]
 simp only [↓reduceIte]
 unfold setAddByScan
 refine Ra ?_
 refine Ra (Uh ?_)
 refine Ra (wpAny_setScan_of (knd:=intKind prog w) (k:=k) (Mx _ _ _ _) ho hd hfit hel ?_)
 cases hr:List.findIdx? (λe=>(intKind prog w).is k e.2) es.toList with
 | some j =>
  dsimp only
  obtain ⟨hj,hpj,_⟩:=List.findIdx?_eq_some_iff_getElem.mp hr
  have hthere:∃ p∈ks,p.1=k:=by
   obtain ⟨p,hp',e⟩:=Qv.mp (hp.mem_iff.mp (Xf hj))
   refine ⟨p,hp',?_⟩
   rw [<- e] at hpj
   obtain ⟨t',e2⟩:=Value.isInt_shape (show Value.isInt k (Value.int p.1 p.2)=true from hpj)
   injection e2
  refine Rb (Rb ?_)
  exact hQ s.heap false (Heap.SameBut.refl a s.heap) (λ_=>⟨o,ep,es,tb,ho,hex,hd,hp,T⟩) λhn=>by
   obtain ⟨p,hp,e⟩:=hthere
   exact absurd e (hn p hp)
 | none =>
  dsimp only
  have hno:∀ p∈ks,p.1≠k:=λp hp' e=>by
   have:=List.findIdx?_eq_none_iff.mp hr (ent p) (hp.mem_iff.mpr (Qv.mpr ⟨p,hp',rfl⟩))
   have h2:(intKind prog w).is k (Value.int k p.2)=true:=Mx _ _ _ _
   simp only [ent,e] at this
   rw [h2] at this
   cases this
  obtain ⟨es1,t1,e1,p1,T1,z1⟩:=T.lay (by omega) ((intKind prog w).hash k) (.int k t)
  have hpn:es1.toList.Perm (((k,t)::ks).map ent):=p1.trans (List.Perm.cons _ hp)
  rw [e1]
  dsimp only
  refine Ra (Rb ?_)
  rw [if_pos T1.plain,hashByValue_scannable 8 (x:=.int k t) rfl]
  refine Ra (Rb ?_)
  rw [if_pos (show plainKind (.int k t)=true from rfl)]
  refine Ra (Rax (s:={ s with toks:=s.toks+1 }) ho hd ?_ (by rw [z1,Rf]; omega))
  have g1:=Xe (Obj.putSet es1 t1) ho (by rw [Raa _ _ hd]; rfl)
  rw [Raa _ _ hd] at g1
  rcases T1.full with ⟨f1,f5⟩ | ⟨f1,T4⟩
  ·rw [f1]
   obtain ⟨es2,t2,e2,p2,T2⟩:=T1.relay f5
   rw [e2]
   simp only [Bool.not_false,QaF,if_true]
   refine Ra (Rb ?_)
   have z2:es2.size=es1.size:=by rw [<- Array.length_toList,p2.length_eq,Array.length_toList]
   refine Ra (Rax (s:={ s with heap:=s.heap.update a (Obj.putSet es1 t1),toks:=s.toks+1 }) g1 rfl ?_ (by rw [z2,z1,Rf]; omega))
   have g2:=Xe (Obj.putSet es2 t2) g1 (by rw [Raa _ _ rfl]; rfl)
   rw [Raa _ _ rfl] at g2
   refine Rb (Rb ?_)
   exact hQ ((s.heap.update a (Obj.putSet es1 t1)).update a (Obj.putSet es2 t2)) true ((Heap.SameBut.update _ _ _).trans (Heap.SameBut.update _ _ _)) (λ⟨p,hp,e⟩=>absurd e (hno p hp)) λ_=>⟨_,_,es2,t2,g2,hex,rfl,p2.trans hpn,T2⟩
  ·rw [f1]
   simp only [Bool.not_false,Bool.and_false,Jh,if_false]
   refine Rb (Rb ?_)
   exact hQ (s.heap.update a (Obj.putSet es1 t1)) true (Heap.SameBut.update _ _ _) (λ⟨p,hp,e⟩=>absurd e (hno p hp)) λ_=>⟨_,_,es1,t1,g1,hex,rfl,hpn,T4⟩
structure KsOf (ks:List (Int×Tok)) (ns:List Int):Prop where
 nd:(ks.map (·.1)).Nodup
 mem:∀ k,k∈ks.map (·.1)↔k∈ns
 len:ks.length<=ns.length
theorem aCE {wr:List Addr} {P:Nat->Value->Prop} {St:Nat->Heap->Prop} (W:Walks prog w A.in1 I fp wr ns.length P St) (hP:∀ i v,P i v->∃ k t,ns[i]?=some k/\v=.int k t) (hfp:∀ c∈fp,c≠S) (hwr:S∉wr) (hlen:ns.length<=18) :
  ∀ (j i:Nat) (s:Shared) (ks:List (Int×Tok)),i+j=ns.length->St i s.heap->SG L s.heap S ks->KsOf ks (ns.take i) ->
   (∀ h' tk ks,SG L h' S ks->KsOf ks ns->(∀ b o,b≠S->b∉wr->s.heap.get? b=some o->h'.get? b=some o)->R (.ok (.ret .none)) { s with heap:=h',toks:=tk }) ->
   codeAny (model prog w) A (.builtin "set.update.loop" ⟨[.ref S,.ref I],[]⟩) R s:=by
 intro j
 induction j with
 | zero =>
  intro i s ks hi st hS hk h
  have e:i=ns.length:=by omega
  subst e
  rw [Jj] at hk
  exact xS W st λh' tk k=>h h' tk ks (hS.keep λo e=>k S o hwr e) hk λb o _ hb e=>k b o hb e
 | succ j ih =>
  intro i s ks hi st hS hk h
  refine xR W (i:=i) (by omega) st λv h2 tk2 hv st2 k2=>?_
  obtain ⟨k,t,hn,rfl⟩:=hP i v hv
  have hl:=hk.len
  rw [Qw] at hl
  have et:ns.take (i+1)=ns.take i++[k]:=by rw [Jp,hn]; rfl
  refine aAA (s:={ s with heap:=h2,toks:=tk2 }) (hS.keep λo e=>k2 S o hwr e) (by omega) λh3 b sb x1 x2=>?_
  have st3:=W.frame _ _ _ st2 λc hc o e=>(sb.2 c (hfp c hc)).trans e
  by_cases hkm:∃ p∈ks,p.1=k
  ·refine ih (i+1) _ ks (by omega) st3 (x1 hkm) ⟨hk.nd,λk'=>?_,by rw [et,Qn,Qw]; omega⟩ λh' tk ks' y1 y2 kp=>h h' tk ks' y1 y2 λb o nb hb e=>kp b o nb hb ((sb.2 b nb).trans (k2 b o hb e))
   rw [hk.mem,et,Jg,Qs]
   refine ⟨.inl,λz=>?_⟩
   rcases z with z | z
   ·exact z
   ·obtain ⟨p,hp,e⟩:=hkm
    rw [z,<- e]
    exact (hk.mem _).mp (Qv.mpr ⟨p,hp,rfl⟩)
  ·have hno:∀ p∈ks,p.1≠k:=λp hp e=>hkm ⟨p,hp,e⟩
   refine ih (i+1) _ ((k,t)::ks) (by omega) st3 (x2 hno) ⟨?_,λk'=>?_,by rw [et,Qn,Qw,Qx]; show _<=_+1; omega⟩ λh' tk ks' y1 y2 kp=>h h' tk ks' y1 y2 λb o nb hb e=>kp b o nb hb ((sb.2 b nb).trans (k2 b o hb e))
   ·rw [Qz]
    refine Xd.mpr ⟨λm=>?_,hk.nd⟩
    obtain ⟨p,hp,e⟩:=Qv.mp m
    exact hno p hp e
   ·rw [Qz,Qm,hk.mem,et,Jg,Qs]
    exact Or.comm
set_option maxHeartbeats 3200000 in
theorem wD {l:Addr} {its:Array Value} (hh:A.handled=none) (hl:s.heap.IsTuple l its) (hi:IntsAre its.toList ns) (hlen:ns.length<=18) (h:∀ (h':Heap) (tk:Nat) (ks:List (Int×Tok)),SG (Led w) h' s.heap.objs.size ks->KsOf ks ns->(∀ b o,b < s.heap.objs.size->s.heap.get? b=some o->h'.get? b=some o)->Q (.ref s.heap.objs.size) { s with heap:=h',toks:=tk }) :
  wpAny (model prog w) A (call (.type "set") [.ref l]) Q E s:=by
 obtain ⟨c,tl,hmro⟩:=PySem.F.called_set.mro
 have hmade:=PySem.F.called_set.made
 have hsub:=PySem.F.called_set.sub
 refine Iu (Vy ?_)
 show wpAny _ _ (callAny (.type "set") _) _ _ _
 refine Rb ⟨Code.quiet_builtin _ (by decide +kernel),Tf Me ?_⟩
 rw [Around.under_plain (Raf "set" [.ref l] []) rfl]
 have h1:=PySem.F.called_set.notType
 have h2:=PySem.F.called_set.canCreate
 have hct:=Mj (.ref l)
 repeat (any_goals (first | assumption | wp_step))
 refine Ul (lH (.ref l) (E:=E) (Q₁:=λobj s1x=>obj=.ref s.heap.objs.size/\s1x={ s with heap:=s.heap.push { cls:=.type "set",dict:=none,data:=.set #[] 0 (.fresh 0 0 (Led w)) } }) ⟨rfl,rfl⟩) λr s1x hr=>?_
 cases r with
 | error e=>exact hr
 | ok fl =>
  cases fl with
  | ret obj =>
   obtain ⟨rfl,rfl⟩:=hr
   generalize hled:Led w=led at h ⊢
   have hS:(s.heap.push { cls:=.type "set",dict:=none,data:=.set #[] 0 (.fresh 0 0 led) }).get? s.heap.objs.size=some { cls:=.type "set",dict:=none,data:=.set #[] 0 (.fresh 0 0 led) }:=Qh _ rfl
   have hT:Shared.TypeIs { s with heap:=s.heap.push { cls:=.type "set",dict:=none,data:=.set #[] 0 (.fresh 0 0 led) } } (.ref s.heap.objs.size) "set" := ⟨_,hS,rfl⟩
   have hli:=PySem.F.called_set.init.lookup
   have hbi:=PySem.F.called_set.init.bind (.ref s.heap.objs.size)
   repeat (any_goals (first | assumption | wp_step))
   refine Ul (Ig (R:=wants (λr s2x=>r=.none/\∃ h' tk ks,s2x={ s with heap:=h',toks:=tk }/\SG led h' s.heap.objs.size ks/\KsOf ks ns /\
     (∀ b o,b < s.heap.objs.size->s.heap.get? b=some o->h'.get? b=some o)) E) PySem.F.called_set.init.plain Mk (Ray hT ?_)) λr2x s2x hr2x=>?_
   ·obtain ⟨ol,hol,hcl,nl,hdl⟩:=hl
    obtain ⟨ocls,odict,odata,oslots⟩:=ol
    simp only at hcl hdl
    subst hcl; subst hdl
    have hol':(s.heap.push { cls:=.type "set",dict:=none,data:=.set #[] 0 (.fresh 0 0 led) }).get? l=some { cls:=.type "tuple",dict:=odict,data:=.seq its nl,slots:=oslots }:=Qa _ hol
    have hsls:=PySem.F.sub_tuple_set
    have hslf:=PySem.F.sub_tuple_frozenset
    have hne:(Value.type "tuple" == Value.type "dict")=false:=by decide
    have hl1:(s.heap.push { cls:=.type "set",dict:=none,data:=.set #[] 0 (.fresh 0 0 led) }).IsTuple l its:=⟨_,hol',rfl,nl,rfl⟩
    unfold Builtin.«set.__init__» noKeywords Builtin.Frozenset.updateFrom
    generalize hPI:pyIter=PI
    wp_walk
    subst hPI
    refine Vj hl1 ?_
    refine Ra (Mu ?_)
    have hlS:l < s.heap.objs.size:=Qp hol
    have hh3:A.in1.in1.in1.handled=none:=by simp [hh]
    generalize hH1:s.heap.push { cls:=.type "set",dict:=none,data:=.set #[] 0 (.fresh 0 0 led) }=H1 at *
    have szH1:H1.objs.size=s.heap.objs.size+1:=by rw [<- hH1,Jo]
    have hneI:l≠H1.objs.size:=by rw [szH1]; exact Ja (Xb hlS)
    have W:=Walks.tuple (prog:=prog) (w:=w) hh3 H1.objs.size l hneI its
    have hsz:its.size=ns.length:=by rw [<- hi.length,Array.length_toList]
    rw [hsz] at W
    generalize hS0:s.heap.objs.size=S at *
    have SI:S≠H1.objs.size:=by omega
    have lS:l≠S:=Ja hlS
    refine aCE (L:=led) W (λi v hv=>?_) (λc hc=>?_) (by simpa using SI) hlen ns.length 0 _ [] (by omega) ⟨⟨_,Qh _ rfl,rfl,rfl⟩,hl1.push _⟩ ?_ ⟨Zw,λk=>by simp,Qg _⟩ λh6 tk6 ks6 x6 y6 k6=>?_
    ·have hv':its[i]?=some v:=hv
     have hil:i < its.toList.length:=by
      rw [Array.length_toList]
      exact (Array.getElem?_eq_some_iff.mp hv').1
     have e1:its.toList[i]?=some v:=by rw [Array.getElem?_toList]; exact hv'
     obtain ⟨k,t,e2,e3⟩:=IntsAre.at hi i v e1
     exact ⟨k,t,e3,e2⟩
    ·rcases Qm.mp hc with z | z
     ·rw [z]; exact Ne.symm SI
     ·have z':c=l:=by simpa using z
      rw [z']; exact lS
    ·exact ⟨_,0,#[],_,Qa _ hS,⟨rfl,rfl,rfl⟩,rfl,List.Perm.refl _,⟨.inl ⟨rfl,Jn _⟩,rfl,rfl,rfl,rfl,List.Pairwise.nil⟩⟩
    ·show wpAny _ _ _ _ _ _
     refine Rb ?_
     show wpAny _ _ (ret Value.none) _ _ _
     refine Rb ⟨rfl,h6,tk6,ks6,rfl,x6,y6,λc o hc e=>?_⟩
     have c1:c≠S:=Ja hc
     have c2:c∉[H1.objs.size]:=by
      intro z
      have z':c=H1.objs.size:=by simpa using z
      omega
     exact k6 c o c1 c2 (Qa _ (hH1 ▸ Qa _ e))
   ·cases r2x with
    | error e=>exact hr2x
    | ok fl2 =>
     cases fl2 with
     | ret r =>
      obtain ⟨rfl,h',tk,ks,rfl,hS',hK',hk'⟩:=hr2x
      repeat (any_goals (first | assumption | wp_step))
      exact h _ _ _ hS' hK' hk'
     | _=>exact hr2x.elim
  | _=>exact hr.elim
def qG (w:World) (S:Addr) (ep:Nat) (es:Array (Int×Value)):Array (Int×Value):=if w.params.followText "set-order" then pickOrder (w.params.setOrder S ep) es else es
def iB (w:World) (t:SetTable) (i:Nat):Nat:=if w.params.followText "set-order" then 0 else mW t.place i
theorem pF (w:World) (S:Addr) (ep:Nat) (es:Array (Int×Value)):(qG w S ep es).toList.Perm es.toList:=by
 unfold qG
 split
 ·exact aCC _ _
 ·exact List.Perm.refl _
theorem pG (w:World) (S:Addr) (ep:Nat) (es:Array (Int×Value)):(qG w S ep es).size=es.size:=by
 rw [<- Array.length_toList,(pF w S ep es).length_eq,Array.length_toList]
section
variable {es:Array (Int×Value)} {t:SetTable}
theorem pW {Q:Option (Value×Nat)->Shared->Prop} (T:Tb (Led w) t es.size 4) (ho:s.heap.get? S=some o) (hd:o.data=.set es ep t) (hi:i<=es.size) (h:Q (((qG w S ep es)[i]?).map λe=>(e.2,iB w t (i+1))) s):wpAny (model prog w) A (setNext S (iB w t i) i ep) Q E s:=by
 have hfit:=T.fits (by decide)
 unfold setNext
 refine Ra (Th ho hd hfit ?_)
 dsimp only
 refine Ra (pA ?_)
 cases hb:w.params.followText "set-order" with
 | true =>
  have e1:qG w S ep es=pickOrder (w.params.setOrder S ep) es:=by unfold qG; rw [hb]; rfl
  have e2:∀ i,iB w t i=0:=λi=>by unfold iB; rw [hb]; rfl
  rw [e1,e2] at h
  rw [e2]
  simp only [if_true,bne_self_eq_false,Jh,if_false]
  refine Ra ?_
  unfold setWalk
  refine Ra (Th ho hd hfit ?_)
  dsimp only
  refine Ra (pA ?_)
  rw [hb]
  simp only [if_true]
  refine Ra (Vc (Rb (Rb h)))
 | false =>
  have e1:qG w S ep es=es:=by unfold qG; rw [hb]; rfl
  have e2:∀ i,iB w t i=mW t.place i:=λi=>by unfold iB; rw [hb]; rfl
  have eL:t.led=true:=by rw [T.led]; unfold Led; rw [hb]; rfl
  rw [e1,e2] at h
  rw [e2]
  simp only [Jh,if_false]
  have hbl:=aAx T.rise (i:=i) (by rw [T.size]; exact hi)
  refine Tq (λhab=>absurd (show (!t.plain && decide (es.size > 1))=true from hab) (by rw [T.plain]; simp)) (λ_=>?_)
  refine Ra ?_
  show wpAny _ _ (if (!t.led && !es.isEmpty)=true then unsupported "set:maker-not-led" else pure ()) _ _ _
  rw [eL]
  refine Rb (Rb ?_)
  rw [hbl]
  cases q:es[i]? with
  | none=>rw [q] at h; exact h
  | some p =>
   rw [q] at h
   have hlt:i < t.place.size:=by rw [T.size]; exact (Array.getElem?_eq_some_iff.mp q).1
   rw [Array.getElem?_eq_getElem hlt]
   have e5:mW t.place (i+1)=t.place[i]+1:=by
    unfold mW
    rw [if_neg (by omega),Nat.add_sub_cancel,Array.getElem?_eq_getElem hlt]
    rfl
   rw [e5] at h
   exact h
def nW (w:World) (h:Heap) (I S:Addr) (t:SetTable) (n ep i:Nat):Prop :=
 h.get? I=some { cls:=.type "set_iterator",data:=.fields #[rawInt (iB w t i:Nat),rawInt (i:Nat),.ref S,rawInt (n:Nat),rawInt (ep:Nat)] }
theorem aCF (hh:A.handled=none) (I S:Addr) (hne:S≠I) (o:Obj) (ep:Nat) (es:Array (Int×Value)) (t:SetTable) (T:Tb (Led w) t es.size 4) (hd:o.data=.set es ep t) :
  Walks prog w A I [I,S] [I] es.size (λi v=>∃ k,(qG w S ep es)[i]?=some (k,v)) (λi h=>nW w h I S t es.size ep i/\h.get? S=some o) where
 sub:=λb hb=>by simp at hb; simp [hb]
 frame:=λ_ _ _ st hk=>⟨hk I (by simp) _ st.1,hk S (by simp) _ st.2⟩
 item:=λi s Q E hi st hQ=>by
  obtain ⟨hit,hS⟩:=st
  have hT:s.TypeIs (.ref I) "set_iterator" := ⟨_,hit,rfl⟩
  unfold pyNext
  refine Ra (Ta (Rg (name:=Str.ofString "__next__") hT bV
   (Rh bV hT fU ?_ (eZ _))))
  unfold Builtin.«set_iterator.__next__» slotArgs
  simp only [Wb,QaG,Jh,↓reduceIte,Ya,bne_self_eq_false]
  refine Ra (Rb ?_)
  dsimp only
  refine Ra (Tg hit rfl ?_)
  show wpAny _ _ (setEntries S >>= _) _ _ s
  refine Ra (Ra (Th hS hd (T.fits (by decide)) (Rb ?_)))
  dsimp only
  refine Tq (λhab=>absurd hab (by simp)) (λ_=>?_)
  show wpAny _ _ (setNext S (iB w t i:Int).toNat (i:Int).toNat (ep:Int).toNat >>= _) _ _ s
  rw [Jc,Jc,Jc]
  refine Ra (pW T hS hd (by omega) ?_)
  obtain ⟨⟨k,v⟩,hkv⟩:∃ e,(qG w S ep es)[i]?=some e:=⟨_,Array.getElem?_eq_getElem (by rw [pG]; exact hi)⟩
  rw [hkv]
  show wpAny _ _ (setField (Value.ref I) 0 (rawInt ↑(iB w t (i+1))) >>= _) _ _ s
  refine Ra (Rj hit (by show 0 < 5; decide) λh1 g1 sb1=>?_)
  refine Ra (Rj g1 (by show 1 < 5; decide) λh2 g2 sb2=>?_)
  refine Rb ⟨v,rfl,Rb ?_⟩
  refine hQ v h2 s.toks ⟨k,hkv⟩ ⟨?_,(sb2.2 S hne).trans ((sb1.2 S hne).trans hS)⟩ λb ob hb e=>?_
  ·unfold nW
   rw [g2]
   congr 1
  ·have hb':b≠I:=by simpa using hb
   exact (sb2.2 b hb').trans ((sb1.2 b hb').trans e)
 done:=λs Q E st hQ=>by
  obtain ⟨hit,hS⟩:=st
  have hT:s.TypeIs (.ref I) "set_iterator" := ⟨_,hit,rfl⟩
  unfold pyNext
  refine Ra (Ta (Rg (name:=Str.ofString "__next__") hT bV
   (Rh bV hT fU ?_ (eZ _))))
  unfold Builtin.«set_iterator.__next__» slotArgs
  simp only [Wb,QaG,Jh,↓reduceIte,Ya,bne_self_eq_false]
  refine Ra (Rb ?_)
  dsimp only
  refine Ra (Tg hit rfl ?_)
  show wpAny _ _ (setEntries S >>= _) _ _ s
  refine Ra (Ra (Th hS hd (T.fits (by decide)) (Rb ?_)))
  dsimp only
  refine Tq (λhab=>absurd hab (by simp)) (λ_=>?_)
  show wpAny _ _ (setNext S (iB w t es.size:Int).toNat (es.size:Int).toNat (ep:Int).toNat >>= _) _ _ s
  rw [Jc,Jc,Jc]
  refine Ra (pW T hS hd (Qg _) ?_)
  have hkv:(qG w S ep es)[es.size]?=none:=by rw [Array.getElem?_eq_none]; rw [pG]; exact Qg _
  rw [hkv]
  show wpAny _ _ (setField (Value.ref I) 2 Value.none >>= _) _ _ s
  refine Ra (Rj hit (by show 2 < 5; decide) λh1 g1 sb1=>?_)
  show wpAny _ _ (newExc (.type "StopIteration") [] >>= _) _ _ _
  refine Ra ?_
  simp only [newExc,newTuple]
  refine Ra (Ri ?_ (by size_fits))
  refine Ra (m:=firstArgMember _ _) (Vo (a:=Value.none) (by first | rfl | (simp only [firstArgMember]; rfl)) ?_)
  refine Ri ?_ (by size_fits)
  simp only [raiseNew]
  refine Ra (Im ?_)
  first | rw [show A.in1.handled=none from hh] | rw [hh]
  refine Ra (Rb (Ml ?_))
  refine Ra (Tu (T := "StopIteration") (b:=true) ⟨_,Qh _ rfl,rfl⟩ Uz ?_)
  refine Rb (hQ _ s.toks λb ob hb e=>?_)
  have hb':b≠I:=by simpa using hb
  exact Qa _ (Qa _ ((sb1.2 b hb').trans e))
 self:=λi s Q E st h=>by
  obtain ⟨hit,hS⟩:=st
  have hT:s.TypeIs (.ref I) "set_iterator" := ⟨_,hit,rfl⟩
  refine Vq hT gA (Rh gA hT jM ?_ (jF _))
  show wpAny _ _ (ret (.ref I)) _ _ s
  exact Rb ⟨_,rfl, "set_iterator",_,hT,bV.lookup,h⟩
theorem yS (T:Tb (Led w) t es.size 4) (ho:s.heap.get? S=some o) (hex:o.ExactSet) (hd:o.data=.set es ep t) (h:Q (.ref s.heap.objs.size) { s with heap:=s.heap.push { cls:=.type "set_iterator",data:=.fields #[rawInt (iB w t 0:Nat),rawInt ((0:Nat):Int),.ref S,rawInt (es.size:Nat),rawInt (ep:Nat)] } }):wpAny (model prog w) A (pyIter (.ref S)) Q E s:=by
 have hT:s.TypeIs (.ref S) "set" := ⟨o,ho,hex.1⟩
 refine Vq hT Mq (Rh Mq hT rM ?_ (PySem.F.args_set_iter_1 _))
 unfold Builtin.«frozenset.__iter__» Builtin.Frozenset.slot0 slotArgs
 simp only [Wb,QaG,Jh,↓reduceIte,bind_assoc,Ya,bne_self_eq_false]
 refine Ra (Rb ?_)
 dsimp only
 refine Ra (m:=Builtin.Frozenset.addrOf (.ref S)) (Rb ?_)
 unfold Builtin.Frozenset.sizeOf setEntries
 refine Ra (Ra (Ra (Th ho hd (T.fits (by decide)) (Rb (Rb ?_)))))
 dsimp only
 unfold setDrawn
 refine Ra (Ra (Th ho hd (T.fits (by decide)) (Ra (pA (Rb ?_)))))
 have hb:∀ b:Bool,(!b && false)=false:=by decide
 refine Tq (λhab=>absurd (show (!(w.params.followText "set-order") && (!t.plain && decide (es.size > 1)))=true from hab) (by rw [T.plain]; rw [show (!true && decide (es.size > 1))=false from rfl,hb]; decide)) (λ_=>?_)
 refine Ra (Rb ?_)
 unfold setEpoch
 refine Ra (Ra (Th ho hd (T.fits (by decide)) (Rb ?_)))
 dsimp only
 have e0:iB w t 0=0:=by unfold iB mW; split <;> rfl
 refine Ra (Ri (Rb ⟨_,rfl, "set_iterator",_,⟨_,Qh _ rfl,rfl⟩,bV.lookup,?_⟩))
 rw [e0] at h
 exact h
theorem aCG {Q:Bool->Shared->Prop} (T:Tb (Led w) t es.size 4) (ho:s.heap.get? S=some o) (hex:o.ExactSet) (hd:o.data=.set es ep t)
  (h:∀ b,Q b s):wpAny (model prog w) A (Builtin.List.listLengthHint (.ref S)) Q E s:=by
 have hT:s.TypeIs (.ref S) "set" := ⟨o,ho,hex.1⟩
 unfold Builtin.List.listLengthHint
 refine Ra (RaL hT PySem.F.slot_set_len.lookup ?_)
 generalize hid:("set.__len__" : String)=id0
 wp_delta
 rw [show splitId id0=some ("set", "__len__") from by subst hid; decide +kernel]
 subst hid
 refine Ra (Tu (T := "set") (b:=true) hT (by rw [Mv]; kernel_rfl) ?_)
 refine Tq (λhab=>absurd hab (by decide)) (λ_=>?_)
 refine Tq (λ_=>?_) (λhab=>absurd (by decide +kernel) hab)
 refine Ra (Vh hT ?_)
 exact Rb (h false)
theorem wE {Q:List Value->Shared->Prop} (hh:A.handled=none) (T:Tb (Led w) t es.size 4) (ho:s.heap.get? S=some o) (hex:o.ExactSet) (hd:o.data=.set es ep t)
  (h:∀ h' tk vs,(∀ b o,s.heap.get? b=some o->h'.get? b=some o)->vs=(qG w S ep es).toList.map (·.2)->Q vs { s with heap:=h',toks:=tk }):wpAny (model prog w) A (collect (.ref S)) Q E s:=by
 refine rK λR hR=>?_
 generalize hD:s.heap.objs.size=D at *
 have hSD : @LT.lt Nat instLTNat S D:=by rw [<- hD]; exact Qp ho
 generalize hH0:s.heap.push { cls:=.type "list",data:=.seq ([]:List Value).toArray }=H0
 have szH0:H0.objs.size=D+1:=by rw [<- hH0,Jo,hD]
 have ho':H0.get? S=some o:=by rw [<- hH0]; exact Qa _ ho
 have hDl:H0.get? D=some { cls:=.type "list",data:=.seq #[] 0 }:=by rw [<- hH0,<- hD]; exact Qh _ rfl
 have old0:∀ b ob,s.heap.get? b=some ob->H0.get? b=some ob:=λb ob e=>by rw [<- hH0]; exact Qa _ e
 unfold Builtin.List.listExtendWith
 refine Ra (Vh (T := "set") ⟨o,ho',hex.1⟩ ?_)
 have h1:Builtin.List.listSameRef (.ref D) (.ref S)=false:=by simp [Builtin.List.listSameRef]; exact Xw hSD
 have h2:(Value.type "set" == Value.type "list")=false:=by decide
 have h3:(Value.type "set" == Value.type "tuple")=false:=by decide
 simp only [h1,h2,h3,Bool.or_false,Jh,if_false]
 refine Ra (yS (s:={ s with heap:=H0 }) T ho' hex hd ?_)
 generalize hI:H0.objs.size=I at *
 have W:=(aCF (prog:=prog) (w:=w) (A:=A.in1) hh I S (Ja (by omega)) o ep es t T hd).toS
 have key:∀ (hp:Heap) (c tk:Nat),nW w hp I S t es.size ep 0->hp.get? S=some o->(∀ b ob,b≠D->H0.get? b=some ob->hp.get? b=some ob)->hp.get? D=some { cls:=.type "list",data:=.seq #[] c } ->
   codeAny (model prog w) A (.builtin "list.extend.loop" ⟨[.ref D,.ref I,.ref D],[]⟩) R { s with heap:=hp,toks:=tk }:=by
  intro hp c tk hit hS hk hDl'
  refine codeAny_extend_loopS W (by rw [Rf]; rcases T.mask with ⟨_,b⟩ | ⟨_,b⟩ <;> omega) D (by
   simp only [Qm,Qs,Qt,or_false,not_or]
   exact ⟨Ja (by omega),Xw hSD⟩) (.ref D) es.size 0 _ #[] c rfl (Jn _) ⟨hit,hS⟩ hDl' (ItemsOf.nil _) λs' acc' c' hm hS' hacc=>?_
  rw [Moved.eq_with hm]
  refine hR { s with heap:=s'.heap,toks:=s'.toks } acc' c' hS' (h s'.heap s'.toks acc'.toList (λb ob e=>hm.heap b ob (λhmem=>?_) (hk b ob ?_ (old0 b ob e))) ?_)
  ·have hb : @LT.lt Nat instLTNat b D:=by rw [<- hD]; exact Qp e
   rcases Qm.mp hmem with z | z
   ·exact absurd z (Ja hb)
   ·have z':b=I:=by simpa using z
    exact absurd z' (Ja (by omega))
  ·have hb : @LT.lt Nat instLTNat b D:=by rw [<- hD]; exact Qp e
   exact Ja hb
  ·obtain ⟨hs,hi⟩:=hacc
   apply Yb
   intro j
   rw [Qe,Array.getElem?_toList,Array.getElem?_toList]
   cases e:acc'[j]? with
   | none =>
    have hj:es.size<=j:=by
     rw [<- hs]
     exact Array.getElem?_eq_none_iff.mp e
    rw [Array.getElem?_eq_none (by rw [pG]; exact hj)]
    rfl
   | some v =>
    obtain ⟨k,hk⟩:=hi j v e
    rw [hk]
    rfl
 have hit0:nW w (H0.push { cls:=.type "set_iterator",data:=.fields #[rawInt (iB w t 0:Nat),rawInt ((0:Nat):Int),.ref S,rawInt (es.size:Nat),rawInt (ep:Nat)] }) I S t es.size ep 0:=by
  rw [<- hI]; exact Qh _ rfl
 have hD1:=Qa { cls:=.type "set_iterator",data:=.fields #[rawInt (iB w t 0:Nat),rawInt ((0:Nat):Int),.ref S,rawInt (es.size:Nat),rawInt (ep:Nat)] } hDl
 refine Ra (Rm (aCG (s:={ s with heap:=H0.push { cls:=.type "set_iterator",data:=.fields #[rawInt (iB w t 0:Nat),rawInt ((0:Nat):Int),.ref S,rawInt (es.size:Nat),rawInt (ep:Nat)] } }) T (Qa _ ho') hex hd λbb=>?_))
 have DI:D≠I:=Ja (by omega)
 refine Tq (λ_=>?_) (λ_=>Rb ⟨Ts Iy _,key _ 0 _ hit0 (Qa _ ho') (λb ob _ e=>Qa _ e) hD1⟩)
 refine Ra (Uh ?_)
 refine Ra ?_
 show wpAny _ _ (updateSeq D (·.push .none) >>= λ_=>updateSeq D (·.pop)) _ _ _
 refine Ra (Vg hD1 rfl ?_)
 have hS2x:=Xe (Obj.mapSeq (·.push Value.none)) hD1 rfl
 refine Vg (hz:=by seq_fits) hS2x rfl ?_
 have hS3x:=Xe (Obj.mapSeq (·.pop)) hS2x rfl
 refine Rb ⟨Ts Iy _,key _ _ _ ?_ ?_ (λb ob hb e=>?_) hS3x⟩
 ·exact (Jk _ _ DI).trans ((Jk _ _ DI).trans hit0)
 ·exact (Jk _ _ (Xw hSD)).trans ((Jk _ _ (Xw hSD)).trans (Qa _ ho'))
 ·exact (Jk _ _ (Ne.symm hb)).trans ((Jk _ _ (Ne.symm hb)).trans (Qa _ e))
end
def lM (out ns:List Int):Prop:=out.Pairwise (· < ·)/\∀ k,k∈out↔k∈ns
def pH (w:World) (p:Addr) (ns:List Int):HO:=.ext λh=>∃ ks,SG (Led w) h p ks/\KsOf ks ns
theorem uT:∀ {l:List (Int×Value)} {ks:List (Int×Tok)},l=ks.map ent->IntsAre (l.map (·.2)) (ks.map (·.1))
 | _,[],rfl=>.nil
 | _,p::ks,rfl=>.cons _ p.2 (uT rfl)
theorem aCH:∀ {l l':List (Int×Value)},l.Perm l'->(∀ e∈l',∃ p,e=ent p)->∃ ks:List (Int×Tok),l=ks.map ent:=λ{l l'} h q=>by
 have q':∀ e∈l,∃ p,e=ent p:=λe he=>q e (h.mem_iff.mp he)
 clear h q
 induction l with
 | nil=>exact ⟨[],rfl⟩
 | cons e r ih =>
  obtain ⟨p,rfl⟩:=q' e (Qi ..)
  obtain ⟨ks,rfl⟩:=ih λy hy=>q' y (Qk _ hy)
  exact ⟨p::ks,rfl⟩
theorem aDY {ks ks':List (Int×Tok)} (h:(ks.map ent).Perm (ks'.map ent)):(ks.map (·.1)).Perm (ks'.map (·.1)):=by
 have e:∀ l:List (Int×Tok),l.map (·.1)=(l.map ent).map λe=>match e.2 with | .int k _=>k | _=>0:=λl=>by rw [Jv]; rfl
 rw [e,e]
 exact h.map _
theorem yT (hK:X.K=K) (hc:X.calm=true):dF X (.type "set") (λxs H Q=>∃ (l:Addr) (ns:List Int),xs = [.ref l]/\SqT K H l (ns.map V.int)/\ns.length<=18/\∀ p,H p=none->Q (.ref p) (upd H p (pH X.w p ns))):=by
 subst hK
 intro pins s σ H xs us Q I r h
 obtain ⟨l,ns,rfl,hL,hn,q⟩:=h
 obtain ⟨u,rfl,rx⟩:=eX r
 cases rx
 obtain ⟨its,rv,pl,hz⟩:=I.tuple hL
 refine wD (I.ok.hd hc) pl (mC rv) hn λh' tk ks x y kp=>?_
 have kp':∀ b o,s.heap.get? b=some o->h'.get? b=some o:=λb o e=>kp b o (Qp e) e
 have hf:=I.hok.fresh (Qg s.heap.objs.size)
 refine ⟨.ref s.heap.objs.size,_,I.laid (t':=tk) kp' (Qg _) ?_,rfl,q _ hf⟩
 refine ⟨⟨ks,x,y⟩,?_,λh1 h2 ⟨ks,z,y⟩ k=>⟨ks,z.keep k,y⟩⟩
 obtain ⟨o,ep,es,t,e,_⟩:=x
 exact ⟨o,e⟩
theorem lN (hc:X.calm=true):dF X (.builtin "sorted") (λxs H Q=>∃ (p:Addr) (ns:List Int),xs = [.ref p]/\H p=some (pH X.w p ns)/\ns.length<=18/\∀ q out,lM out ns->H q=none->Q (.ref q) (upd H q (.lst (out.map V.int)))):=by
 intro pins s σ H xs us Q I r h
 obtain ⟨p,ns,rfl,hp,hn,q⟩:=h
 obtain ⟨u,rfl,rx⟩:=eX r
 cases rx
 obtain ⟨⟨ks,⟨o,ep,es,t,ho,hex,hd,hpm,T⟩,hk⟩,_,_⟩:=I.hok p _ hp
 obtain ⟨ks',e'⟩:=aCH ((pF X.w p ep es).trans hpm) λe he=>by
  obtain ⟨y,_,rfl⟩:=Qv.mp he
  exact ⟨y,rfl⟩
 have hkk:(ks'.map (·.1)).Perm (ks.map (·.1)):=aDY (by rw [<- e']; exact (pF X.w p ep es).trans hpm)
 have hl12:=hk.len
 have hlen:(ks'.map (·.1)).length<=18:=by rw [hkk.length_eq,Qb]; omega
 refine uP (ns:=ks'.map (·.1)) (by omega) (λQ' hQ'=>?_) λh1 h' tk out ns' k1 k2 pl hi' hp' ho'=>?_
 ·exact wE (A:=X.A.in1) (I.ok.hd hc) T ho hex hd λh' tk vs kp e=>hQ' h' tk vs kp (by rw [e]; exact uT e')
 ·have I1:Inv X pins σ H { s with heap:=h1,toks:=tk }:=I.kept k1
  have hf:=I1.hok.fresh (Qg _)
  have hpp:=hp'.trans hkk
  have hs:lM ns' ns:=by
   refine ⟨?_,λk=>hpp.mem_iff.trans (hk.mem k)⟩
   have nd:ns'.Nodup:=hpp.nodup_iff.mpr hk.nd
   exact (List.Pairwise.and ho' nd).imp λ⟨a,b⟩=>by omega
  have hl2:ns'.length<=18:=by rw [hp'.length_eq]; exact hlen
  obtain ⟨n,e⟩:=pl
  have I2:Inv X pins σ (upd H h1.objs.size (.lst (ns'.map V.int))) { s with heap:=h',toks:=tk } :=
   I1.laid (t':=tk) k2 (Qg _) (show bL X.prog X.w _ _ _ (.lst _) from ⟨by rw [Qb,Rf]; omega,out.toList,n,jK hi',by simpa using e⟩)
  exact ⟨.ref h1.objs.size,_,I2,rfl,q _ _ hs hf⟩
theorem nX (hc:X.calm=true):dF X (.builtin "sorted") (λxs H Q=>∃ (p:Addr) (ns:List Int),xs = [.ref p]/\H p=some (pH X.w p ns)/\ns.length<=12/\∀ q out,lM out ns->H q=none->Q (.ref q) (upd H q (.lst (out.map V.int)))):=by
 intro pins s σ H xs us Q I r h
 obtain ⟨p,ns,e,hL,hn,q⟩:=h
 exact lN hc pins s σ H xs us Q I r ⟨p,ns,e,hL,by omega,q⟩
open PySem.AutoSeq1 (wpAny_loadPart')
theorem mX (l:Addr) (items:Array Value) (n:Nat) (dd:Option Addr) (sl:Array (Option Value)) (u:Tok) :
  Meets (Builtin.«tuple.__mul__» ⟨[.ref l,.int 1 u],[]⟩) (λ_ R s=>s.heap.get? l=some { cls:=.type "tuple",dict:=dd,data:=.seq items n,slots:=sl }/\R (.ok (.ret (Value.ref l))) s) :=
 .of_wp λprog w A R s h=>by
  obtain ⟨hp,g,d,tk,os⟩:=s
  obtain ⟨hl,h⟩:=h
  have f1:=AutoSeq1.idx_int
  have f2:=AutoSeq1.sub_tuple_tuple
  wp_walk using Rn hl
  exact ⟨_,rfl,h⟩
theorem rV (l:Addr) (items:Array Value) (n:Nat) (dd:Option Addr) (sl:Array (Option Value)) (u:Tok) (hne:items.isEmpty=false) :
  Meets (Builtin.«tuple.__mul__» ⟨[.ref l,.int 0 u],[]⟩) (λ_ R s=>s.heap.get? l=some { cls:=.type "tuple",dict:=dd,data:=.seq items n,slots:=sl }/\R (.ok (.ret (Value.ref s.heap.objs.size))) { s with heap:=s.heap.push { cls:=Value.type "tuple",data:=Data.seq #[] } }) :=
 .of_wp λprog w A R s h=>by
  obtain ⟨hp,g,d,tk,os⟩:=s
  obtain ⟨hl,h⟩:=h
  have f1:=AutoSeq1.idx_int
  have f2:=AutoSeq1.sub_tuple_tuple
  wp_walk using Rn hl
  exact ⟨_,rfl,h⟩
theorem qH (l:Addr) (items:Array Value) (n:Nat) (dd:Option Addr) (sl:Array (Option Value)) (u:Tok) (hne:items.isEmpty=true) :
  Meets (Builtin.«tuple.__mul__» ⟨[.ref l,.int 0 u],[]⟩) (λ_ R s=>s.heap.get? l=some { cls:=.type "tuple",dict:=dd,data:=.seq items n,slots:=sl }/\R (.ok (.ret (Value.ref l))) s) :=
 .of_wp λprog w A R s h=>by
  obtain ⟨hp,g,d,tk,os⟩:=s
  obtain ⟨hl,h⟩:=h
  have f1:=AutoSeq1.idx_int
  have f2:=AutoSeq1.sub_tuple_tuple
  wp_walk using Rn hl
  exact ⟨_,rfl,h⟩
def aHT (K:Rc):R2:=λx y H Q=>∃ a,∃ k:Nat,∃ xs,x=.ref a/\y=.int k/\SqT K H a xs/\k<=1000/\xs.length<=1000/\∀ p H',aE H H'->SqT K H' p (List.replicate k xs).flatten->Q (.ref p) H'
theorem aFp (hK:X.K=K):OpR X (binaryOp .Mult) (aHT K):=by
 intro pins s σ H x y v u Q I rx ry h
 obtain ⟨a,k,xs,rfl,rfl,ha,h2,hz,q⟩:=h
 by_cases h1:1 < k
 ·exact aE8 hK pins s σ H _ _ v u Q I rx ry ⟨a,k,xs,rfl,rfl,ha,by omega,by omega,hz,q⟩
 subst hK
 cases rx
 obtain ⟨t,rfl⟩:=ry
 obtain ⟨its,r,⟨⟨cls,dd,data,sl⟩,ho,hc,n,hd⟩,hzz⟩:=I.tuple ha
 simp only at hc hd
 subst hc hd
 refine Um (T := "tuple") (U := "int") (by decide) ⟨_,ho,rfl⟩ (λs'=>Uw s' k t) gM Vm Ti jZ PySem.F.slot_int_index.lookup
  (Tc Ti (Uw s k t) Vl (Vi _ _) (iR k t a its.toArray n dd sl) ⟨ho,rfl,⟨_,ho,rfl⟩,?_⟩)
 rcases (show k=0∨k=1 by omega) with rfl | rfl
 ·by_cases hx:its = []
  ·subst hx
   cases r
   refine Tc PySem.F.slot_tuple_mul ⟨_,ho,rfl⟩ Rz (Rv _ _) (qH a _ n dd sl t rfl) ⟨ho,?_⟩
   exact ⟨.ref a,H,I,rfl,q a H (aE.refl H) ha⟩
  ·have hne:its.toArray.isEmpty=false:=by
    cases its with
    | nil=>exact absurd rfl hx
    | cons _ _=>rfl
   refine Tc PySem.F.slot_tuple_mul ⟨_,ho,rfl⟩ Rz (Rv _ _) (rV a its.toArray n dd sl t hne) ⟨ho,?_⟩
   refine ⟨.ref _,_,I.laid (t':=s.toks) (o:=.tup []) (λb ob q=>Qa _ q) (Qg _) ?_,rfl,q _ _ (aE.new (I.hok.fresh (Qg _))) (SqT.of aB)⟩
   exact ⟨Jn _,[],0,.nil,Qh _ rfl⟩
 ·refine Tc PySem.F.slot_tuple_mul ⟨_,ho,rfl⟩ Rz (Rv _ _) (mX a its.toArray n dd sl t) ⟨ho,?_⟩
  exact ⟨.ref a,H,I,rfl,q a H (aE.refl H) (by simpa using ha)⟩
section
variable {z TI TO i3 l3:Addr} {n3:Nat} {P3:Nat->Value->Prop} {st3:Nat->Heap->Prop}
end
section
variable (k1 k2 k3:Sk) (h:Heap) (a b d:Addr)
end
section
variable {own:Nat} {σ:St}
theorem aCI (SH:St->Prop) (hn:zs.length<=1000) (hle:zs.length<=xs.length) (hl:vs.length=zs.length) (ha:∀ H',aE H H'->SqK k1 K H' a xs/\SqK k2 K H' b zs) (hσ:SH (blk own fr σ)) (hs:∀ (i:Nat) x z v p σ H1,xs[i]?=some x->zs[i]?=some z->vs[i]?=some v->H1 p=none->SH σ->aE H H1->∀ Q:V->St->Hp->Prop,(∀ σ2 H4,SH σ2->aE H1 H4->Q v σ2 H4)->g (.ref p) σ (upd H1 p (.tup [x,z])) λσ2 H2=>te σ2 H2 λy H4=>Q y σ2 H4) (hd:∀ H',aE H H'->Qf H' vs) :
  Wlk (Itz K k1 k2 a b) [] (blk own fr σ) H (λys _ H=>Qf H ys) g vO (tbL te):=by
 refine qO SH hn hl hσ (λH' s=>⟨xs,zs,(ha H' s).1,(ha H' s).2,by omega⟩) (λi H' hi s=>⟨xs,zs,xs[i]'(by omega),zs[i],(ha H' s).1,(ha H' s).2,Qc (by omega),Qc hi⟩) (λi v x σ H1 H2 hi hv sh s y Q k=>?_) hd
 obtain ⟨q,hq,rfl,hy⟩:=y
 obtain ⟨x,z,h1,h2,rfl⟩:=hy xs zs (ha H1 s).1 (ha H1 s).2
 exact hs i x z v q σ H1 h1 h2 hv hq sh s Q k
end
def tbD (P:α->V->V->Hp->(α->Hp->Prop)->Prop) (tk tv:TE) (ys:α) (σ:St) (H:Hp) (R:α->St->Hp->Prop):Prop:=tk σ H λx H4=>tv σ H4 λy H5=>P ys x y H5 λa H=>R a σ H
def bdD (kx vx:Expr) (env:Env) (D:Addr):Sem Unit:=do
 let kv<-eval kx env
 let vv<-holding [kv] (eval vx env)
 standAt { kx.pos with endLine:=vx.pos.endLine,endCol:=vx.pos.endCol }
 holding [kv,vv] (dictSet D kv vv)
section
variable {a0:α} {Ok:Addr->α->Heap->Prop}
theorem aHU:LoopOk P w A (.DictComp kx vx [⟨tg,iter,ifs,0⟩] scope pos) 0 tg iter ifs (bdD kx vx) where
 und:=λ_ _ _=>⟨rfl,rfl⟩
 turn:=λit D env=>compTurn_dict kx vx tg iter ifs scope pos it D env
 start:=codeAny_compStart_dict
theorem aHV {p:α->V->V->Hp->(α->Hp->Prop)->Prop} (AO:AccOk Y.prog Y.w Y.A newDict a0 Ok) (hk:PE Y kx tk) (he:PE Y vx tv) (st:∀ {D:Addr} {a:α} {s:Shared} {H:Hp} {x y:V} {kv vv:Value} {R:α->Hp->Prop},HOk Y.prog Y.w H s.heap->Ok D a s.heap->bS x kv->bS y vv->p a x y H R->wpAny (model Y.prog Y.w) Y.A (dictSet D kv vv) (λ_ s'=>∃ h' tk a',s'={ s with heap:=h',toks:=tk }/\Heap.SameBut D s.heap h'/\Ok D a' h'/\R a' H) Y.xe s) :
  lC Y (bdD kx vx) Ok (tbD p tk tv):=by
 intro ps s σ H D o ys R dn I pl h
 refine Ra (thn (hk _ s σ H _ I h) λkv s1 hx=>?_)
 obtain ⟨xv,H1,I1,r1,q1⟩:=hx
 refine Ra (Rm (thn (he _ s1 σ H1 _ I1 q1) λvv s2 hx=>?_))
 obtain ⟨yv,H2,I2,r2,q2⟩:=hx
 refine Ra (Tj (Rm (thn (st I2.hok (AO.stay I I2 pl) r1 r2 q2) λ_ s3 hx=>?_)))
 obtain ⟨h',tk,a',rfl,sb,ok,r⟩:=hx
 obtain ⟨o',I'⟩:=dn.put (t:=tk) AO I2 sb ok
 exact ⟨σ,H2,a',o',I',ok,r⟩
end
def aHW:Obj:={ cls:=.type "dict",dict:=none,data:=.dict #[] }
section
variable {wi:TI}
end
def tUp (t:TE):TE:=λσ H Q=>∃ P:V->Hp->Prop,t σ H P/\∀ x H1,P x H1->Q x H1
section
variable {d:Expr} {t:TE}
theorem aGi (h:PE X e t):PE X e (tUp t):=by
 intro pins s σ H Q I q
 obtain ⟨P,h1,h2⟩:=q
 refine thn (h pins s σ H P I h1) λv s1 hx=>?_
 obtain ⟨x,H1,I1,r1,q1⟩:=hx
 exact ⟨x,H1,I1,r1,h2 _ _ q1⟩
end
def aFq:V->List V->Hp->VK->Prop:=λx vs H Q=>∃ l xs i y,x=.ref l/\vs = [.int i,y]/\H l=some (.lst xs)/\0<=i/\i<=xs.length/\xs.length < sizeLine/\Q .non (upd H l (.lst (xs.take i.toNat++y::xs.drop i.toNat)))
theorem aCJ:MtM X "list.insert" aFq:=by
 intro pins s σ H x vs v us Q I rx rv h
 obtain ⟨l,xs,i,y,rfl,rfl,hH,h0,h1,hz,q⟩:=h
 cases rx
 obtain ⟨u,u2,rfl,ru,ry⟩:=rv.two
 obtain ⟨t,rfl⟩:=ru
 obtain ⟨z,its,n,r,hl,e⟩:=I.lstM hH
 have hil:i.toNat<=its.length:=by omega
 have hsz:sizeLine < 2^62:=by rw [Rf]; decide
 refine Tc F.slot_list_insert ⟨_,e,rfl⟩ F.entry_list_insert (F.args_list_insert_3 _ _ _)
  (AutoSeq1.list_insert_list_int_val_1 l its.toArray n i t u2 (by rw [Mt (by omega) (by omega)]; decide) (by rw [Ql]; omega)) ⟨e,?_⟩
 refine ⟨.non,_,I.lset (its':=its.take i.toNat++u2::its.drop i.toNat) hH e ?_ ((r.take _).append (.cons ry (r.drop _))) ?_,rfl,q⟩
 ·have e1:¬ i < 0:=by omega
  have e2:min i.toNat its.length=i.toNat:=by omega
  simp only [e1,if_false,Ql,e2]
  apply Array.ext'
  simp
  exact Jm (by rw [Jq]; exact Qg _)
 ·rw [Qn,Qx,Qw,Jq]
  omega
section
variable {d:Addr} {es:Array DictEntry}
theorem aDZ (hs:(d==sysModules)=false) (g:s.heap.get? d=some ob) (gx:ob.ExactDict) (gd:ob.data=.dict es ep) (k:Q (.ref s.heap.objs.size) { s with heap:=s.heap.push { cls:=.type "dict_keyiterator",data:=.fields #[.ref d,.int 0 0,.int es.size 0,.int ep 0] } }):wpAny (model P w) A (pyIter (.ref d)) Q E s:=by
 have ty:s.TypeIs (.ref d) "dict" := ⟨ob,g,gx.1⟩
 refine Vq ty F.slot_dict_iter (Rh F.slot_dict_iter ty F.entry_dict_iter ?_ (F.args_dict_iter_1 _))
 unfold Builtin.«dict.__iter__»
 refine Ra ?_
 unfold Builtin.Dict.dictSlotNone
 refine Ra (Rag ty (Rb ?_))
 show wpAny _ _ (Builtin.Dict.showsAll d >>= _) _ _ s
 unfold Builtin.Dict.showsAll
 rw [if_neg (show ¬ (d==sysModules)=true by rw [hs]; decide)]
 refine Ra (Rb (Ra (Ud g gd (Ra (Uv g gd ?_)))))
 exact Ra (Ri (Rb ⟨_,rfl, "dict_keyiterator",_,⟨_,Qh _ rfl,rfl⟩,F.slot_dict_keyiterator_next.lookup,by simpa [rawInt] using k⟩))
theorem aD0 {Q:Option Value->Shared->Prop} (st:s.heap.IsKeyIter it d i es.size ep) (g:s.heap.get? d=some ob) (gd:ob.data=.dict es ep) (lt:i < es.size)
  (k:∀ h',h'.IsKeyIter it d (i+1) es.size ep->Heap.SameBut it s.heap h'->Q (some es[i].key) { s with heap:=h' }):wpAny (model P w) A (pyNext (.ref it)) Q E s:=by
 obtain ⟨oi,gi,ci,di⟩:=id st
 unfold pyNext
 refine Ra (Ta (Rg (name:=Str.ofString "__next__") st.typeIs F.slot_dict_keyiterator_next (Rh F.slot_dict_keyiterator_next st.typeIs F.entry_dict_keyiterator_next ?_ (F.args_dict_keyiterator_next_1 _))))
 refine Ra (Rb (Ra (Ra ?_)))
 first
  | refine Ra (Tv st.typeIs (Rb (Ra (Tg gi di ?_))))
  | refine Ra (Us st.typeIs (Rb (Ra (Tg gi di ?_))))
 simp only [show Builtin.Dict_items.ownsTuple "dict_keyiterator" = false by decide,Jh,if_false]
 show wpAny _ _ (if (Value.ref d==Value.none)=true then _ else _) _ _ s
 rw [if_neg (λz:(Value.ref d==Value.none)=true=>Qr z)]
 refine Ra (Rb (Ra (Ud g gd ?_)))
 rw [if_neg (by simp)]
 refine Ra (Rb (Ra (Uv g gd ?_)))
 rw [if_neg (by simp)]
 refine Rb ?_
 simp only [show ¬ ((i:Int) < 0) from by omega,if_false,Jc,Array.getElem?_eq_getElem lt]
 refine Ra ?_
 first
  | refine Ra (Tv st.typeIs (Rb (Ra (Ia st.typeIs ?_))))
  | refine Ra (Us st.typeIs (Rb (Ra (Ia st.typeIs ?_))))
 show wpAny _ _ (setField (.ref it) 1 (rawInt ((i:Int)+1)) >>= _) _ _ s
 refine Ra (Uy gi di (by simp) ?_)
 have st2:(s.heap.update it (Obj.mapFields (·.setIfInBounds 1 (rawInt ((i:Int)+1))))).IsKeyIter it d (i+1) es.size ep :=
  ⟨_,Xe _ gi (Obj.isFreed_of_fields (Obj.data_mapFields di _)),(Obj.cls_mapFields ..).trans ci,by rw [Obj.data_mapFields di]; simp [rawInt]⟩
 refine Ra (Rm (Ra (Ia (s:={ s with heap:=s.heap.update it (Obj.mapFields (·.setIfInBounds 1 (rawInt ((i:Int)+1)))) }) st2.typeIs ?_)))
 show wpAny _ _ (pure es[i].key) _ _ _
 exact Rb (Rb ⟨_,rfl,Rb (k _ st2 (Heap.SameBut.update ..))⟩)
theorem aFr {Q:Option Value->Shared->Prop} (hh:A.handled=none) (st:s.heap.IsKeyIter it d i es.size ep) (g:s.heap.get? d=some ob) (gd:ob.data=.dict es ep) (ge:es.size<=i)
  (k:∀ h',Heap.ExtBut it s.heap h'->Q none { s with heap:=h' }):wpAny (model P w) A (pyNext (.ref it)) Q E s:=by
 obtain ⟨oi,gi,ci,di⟩:=id st
 unfold pyNext
 refine Ra (Ta (Rg (name:=Str.ofString "__next__") st.typeIs F.slot_dict_keyiterator_next (Rh F.slot_dict_keyiterator_next st.typeIs F.entry_dict_keyiterator_next ?_ (F.args_dict_keyiterator_next_1 _))))
 refine Ra (Rb (Ra (Ra ?_)))
 first
  | refine Ra (Tv st.typeIs (Rb (Ra (Tg gi di ?_))))
  | refine Ra (Us st.typeIs (Rb (Ra (Tg gi di ?_))))
 simp only [show Builtin.Dict_items.ownsTuple "dict_keyiterator" = false by decide,Jh,if_false]
 show wpAny _ _ (if (Value.ref d==Value.none)=true then _ else _) _ _ s
 rw [if_neg (λz:(Value.ref d==Value.none)=true=>Qr z)]
 refine Ra (Rb (Ra (Ud g gd ?_)))
 rw [if_neg (by simp)]
 refine Ra (Rb (Ra (Uv g gd ?_)))
 rw [if_neg (by simp)]
 refine Rb ?_
 simp only [show ¬ ((i:Int) < 0) from by omega,if_false,Jc,Array.getElem?_eq_none ge]
 refine Ra ?_
 first
  | refine Ra (Tv st.typeIs (Rb ?_))
  | refine Ra (Us st.typeIs (Rb ?_))
 show wpAny _ _ (setField (.ref it) 0 .none >>= _) _ _ s
 refine Ra (Uy gi di (by simp) ?_)
 show wpAny _ _ (newExc (.type "StopIteration") [] >>= _) _ _ _
 refine Ra ?_
 simp only [newExc,newTuple]
 refine Ra (Ri (Ra (m:=firstArgMember _ _) (Vo (a:=Value.none) (by first | rfl | (simp only [firstArgMember]; rfl)) (Ri ?_ (by size_fits)))) (by size_fits))
 simp only [raiseNew]
 refine Ra (Im ?_)
 rw [show A.in1.handled=none from hh]
 refine Ra (Rb (Ml ?_))
 exact Ra (Tu (T := "StopIteration") (b:=true) ⟨_,Qh _ rfl,rfl⟩ Uz (Rb (k _ (((Heap.SameBut.update ..).extBut.push _).push _))))
end
section
variable {σ:St}
theorem Inv.freezeT (I:Inv X pins σ H s) (e:H a=some (.dT kvs)) (ho:s.heap.get? a=some o):Inv X pins σ (upd H a (.frz o (.dT kvs))) s:=by
 have m:Mut (H a):=by rw [e]; trivial
 have q:bL X.prog X.w H s.heap a (.dT kvs):=I.hok a _ e
 exact I.write (x:=a) (e:=a) (t':=s.toks) m (.inl rfl) (λb u _ z=>z) ⟨o,ho⟩ ⟨ho,bL.stay q (λ_ _ _ z=>z) (λc z=>by rw [aF (λy=>by rw [y,e] at z; cases z)]; exact z) (λc xs z=>by rw [aF (λy=>by rw [y,e] at z; cases z)]; exact z)⟩
theorem Inv.nfT (I:Inv X pins σ H s) (e:H a=some (.dT kvs)):NF X.H0x a:=λo u z=>by
 have y:=I.base.frzs a o u z
 rw [e] at y
 cases y
theorem Inv.thawT (I:Inv X pins σ H s) (e:H a=some (.frz o (.dT kvs))) (nf:NF X.H0x a):Inv X pins σ (upd H a (.dT kvs)) s:=by
 have ne:∀ b,H b=none->b≠a:=λb n z=>by rw [z,e] at n; cases n
 have nt:∀ b xs,H b=some (.tup xs)->b≠a:=λb xs n z=>by rw [z,e] at n; cases n
 have no:∀ b x,H b=some (.own x)->b≠a:=λb xs n z=>by rw [z,e] at n; cases n
 obtain ⟨ho,q⟩:s.heap.get? a=some o/\bL X.prog X.w H s.heap a (.dT kvs):=I.hok a _ e
 have un:Un X.fs X.ex X.H0x (upd H a (.dT kvs)) X.s0x.heap s.heap:=by
  refine ⟨I.base.keep,I.base.slot,λb ob q n hx=>?_,I.base.there,λb xs q=>?_,λb ob u q=>?_,λb ps q=>?_⟩
  ·have z:=I.base.free b ob q n hx
   rw [aF (ne b z)]; exact z
  ·have z:=I.base.tups b xs q
   rw [aF (nt b xs z)]; exact z
  ·have z:=I.base.frzs b ob u q
   have n:b≠a:=λy=>nf ob u (y ▸ q)
   rw [aF n]; exact z
  ·obtain ⟨m,z⟩:=I.base.tbls b ps q
   have n:b≠a:=λy=>by rw [y,e] at z; cases z
   exact ⟨m,by rw [aF n]; exact z⟩
 refine ⟨I.ok,I.os,I.bare,un,I.loc,I.cell,?_,λx c h=>?_,λp hp=>?_,λb u h=>?_,I.len⟩
 ·rw [aF (ne _ I.free)]; exact I.free
 ·have z:=I.freeC x c h
  rw [aF (ne _ z)]; exact z
 ·obtain ⟨p1,p2,p3⟩:=I.pin p hp
  exact ⟨p1,by rw [aF (ne _ p2)]; exact p2,p3⟩
 ·by_cases hb:b=a
  ·subst hb
   rw [aB] at h
   cases h
   exact bL.stay q (λ_ _ _ z=>z) (λc z=>by rw [aF (no c _ z)]; exact z) (λc xs z=>by rw [aF (nt c xs z)]; exact z)
  ·rw [aF hb] at h
   exact bL.stay (I.hok b u h) (λ_ _ _ z=>z) (λc z=>by rw [aF (no c _ z)]; exact z) (λc xs z=>by rw [aF (nt c xs z)]; exact z)
end
def Itx (a:Addr) (o:Obj) (kvs:List (List Key×V)):It :=
 ⟨λi H=>H a=some (.frz o (.dT kvs))/\i < kvs.length,λi H x H'=>H'=H/\∃ p b,kvs[i]?=some p/\x=.ref b/\H b=some (.tup (p.1.map kV)),λi H=>H a=some (.frz o (.dT kvs))/\i=kvs.length⟩
theorem KT.length {xs:List (List Key×Addr×Value)} (r:KT H kvs xs):kvs.length=xs.length:=by
 induction r with
 | nil=>rfl
 | cons _ _ ih=>rw [Qx,Qx,ih]
theorem KT.at {xs:List (List Key×Addr×Value)} (r:KT H kvs xs):∀ {i:Nat} {p:List Key×V} {x:List Key×Addr×Value},kvs[i]?=some p->xs[i]?=some x->p.1=x.1/\H x.2.1=some (.tup (p.1.map kV)):=by
 induction r with
 | nil=>intro i p x h; simp at h
 | cons h1 _ ih =>
  intro i p x hp hx
  cases i with
  | zero =>
   simp only [Qad,Option.some.injEq] at hp hx
   subst hp hx
   exact ⟨h1.1,h1.2.1⟩
  | succ j =>
   simp only [Qae] at hp hx
   exact ih hp hx
theorem aAB (a it:Addr) (o:Obj) (es:Array DictEntry) (ep:Nat) (hd:o.data=.dict es ep) (kvs:List (List Key×V)) :
  Turn P w K tg (Itx a o kvs) [it] it (λi h=>h.IsKeyIter it a i kvs.length ep) where
 mem:=by simp
 obj:=λi h st b hb=>by
  have e:b=it:=by simpa using hb
  subst e
  obtain ⟨o,e,c,d⟩:=st
  exact ⟨o,e,λv z=>by rw [d] at z; cases z⟩
 keep:=λi h h' st k=>st.at λo e=>k it (by simp) o e
 item:=by
  intro X hP hw hK hc i pins s σ H E I hf st hg
  subst hP hw hK
  obtain ⟨hA,hi⟩:=hg
  obtain ⟨ho,hz,hs,xs,kt,o',es',ep',q1,q2,q3,q4,q5⟩:s.heap.get? a=some o/\bL X.prog X.w H s.heap a (.dT kvs):=I.hok a _ hA
  rw [ho] at q1
  cases q1
  rw [hd] at q3
  cases q3
  have hl:kvs.length=xs.length:=KT.length kt
  have hz2:es.size=xs.length:=Ub q4
  have hz3:es.size=kvs.length:=hz2.trans hl.symm
  obtain ⟨f0,f1,f2,f3,f4,f5⟩:=hf it (by simp)
  have lt:i < es.size:=by omega
  rw [<- hz3] at st
  refine aD0 st ho hd lt λh' st' sb=>?_
  have I1:Inv X pins σ H { s with heap:=h' }:=I.turned (t':=s.toks) (λb o hb e=>(sb.2 b hb).trans e) f0 f1 f3 f4 f5
  obtain ⟨oi,e',c',d'⟩:=id st'
  have hk:kvs[i]?=some (kvs[i]):=Qc hi
  have hx:xs[i]?=some (xs[i]'(by omega)):=Qc (by omega)
  have hat:=KT.at kt hk hx
  have ek:es[i].key=.ref (xs[i]'(by omega)).2.1:=by
   have z:=entry_at q4 i
   rw [hx,Array.getElem?_eq_getElem lt] at z
   rw [Option.some.inj z]
   rfl
  rw [hz3] at st'
  rw [ek]
  exact ⟨_,rfl,xE (s:={ s with heap:=h' }) e' c' d' (by decide) ⟨.ref (xs[i]'(by omega)).2.1,H,I1,rfl,⟨rfl,_,_,hk,rfl,hat.2⟩,st',λb hb=>(hf b hb).1⟩⟩
 done:=by
  intro X hP hw hK hc i pins s σ H E I hf st hg
  subst hP hw hK
  obtain ⟨hA,hi⟩:=hg
  obtain ⟨ho,hz,hs,xs,kt,o',es',ep',q1,q2,q3,q4,q5⟩:s.heap.get? a=some o/\bL X.prog X.w H s.heap a (.dT kvs):=I.hok a _ hA
  rw [ho] at q1
  cases q1
  rw [hd] at q3
  cases q3
  have hz3:es.size=kvs.length:=(Ub q4).trans (KT.length kt).symm
  obtain ⟨f0,f1,f2,f3,f4,f5⟩:=hf it (by simp)
  rw [<- hz3] at st
  exact aFr (I.ok.hd hc) st ho hd (by omega) λh' eb=>⟨rfl,I.turned (t':=s.toks) (λb o hb e=>eb b o hb e) f0 f1 f3 f4 f5⟩
 self:=λ_ _ _ _ _ st h=>Ram st h
def aGX (H0:Hp) (td:TE):TI:=λσ H R=>td σ H λx H1=>∃ a kvs,x=.ref a/\H1 a=some (.dT kvs)/\∀ o,NF H0 a->R (Itx a o kvs) (upd H1 a (.frz o (.dT kvs)))
theorem rW {d:Expr} (hl:PE X d td):PI X tg d (aGX X.H0x td):=by
 intro pins s σ H R I h
 refine thn (hl pins s σ H _ I h) λv s1 hx9=>?_
 obtain ⟨x,H1,I1,r1,q1⟩:=hx9
 obtain ⟨a,kvs,e,hq,q⟩:=q1
 subst e
 cases r1
 obtain ⟨hz,hs,xs,kt,o,es,ep,ho,ox,hd,q4,q5⟩:bL X.prog X.w H1 s1.heap a (.dT kvs):=I1.hok a _ hq
 refine aDZ hs ho ox hd ?_
 have I2:=(I1.freezeT hq ho).kept (h':=s1.heap.push { cls:=.type "dict_keyiterator",data:=.fields #[.ref a,.int 0 0,.int es.size 0,.int ep 0] }) (t':=s1.toks) λb o e=>Qa _ e
 have nA:a≠s1.heap.objs.size:=Ja (Qp ho)
 refine ⟨s1.heap.objs.size,[s1.heap.objs.size],_,_,_,rfl,I2,aAB a _ o es ep hd kvs,?_,λb hb=>?_,q o (I1.nfT hq)⟩
 ·refine ⟨_,Qh _ rfl,rfl,?_⟩
  rw [KT.length kt,<- Ub q4]
  rfl
 ·have e:b=s1.heap.objs.size:=by simpa using hb
  subst e
  exact I1.fpOk (Qg _) (by rw [aF (Ne.symm nA)]; exact I1.hok.fresh (Qg _))
def aGY (H0:Hp) (t:TS):TS:=λD σ H=>t { D with nx:=λσ' H'=>∃ a o kvs,H' a=some (.frz o (.dT kvs))/\NF H0 a/\D.nx σ' (upd H' a (.dT kvs)) } σ H
theorem aD1 {t:TS} (h:PS X st t):PS X st (aGY X.H0x t):=by
 intro pins s σ H D I q
 refine thn (h pins s σ H _ I q) λf s1 z=>?_
 cases f with
 | next =>
  obtain ⟨σ',H',I',a,o,kvs,e,nf,k⟩:=z
  exact ⟨σ',_,I'.thawT e nf,k⟩
 | brk=>exact z
 | cont=>exact z
 | ret u=>exact z
theorem aCK {σ:St} (Pv:Nat->St->Hp->Prop) (h0:Pv 0 σ H) (hl:∀ i σ H,i<=kvs.length->Pv i σ H->H a=some (.frz o (.dT kvs))) (hs:∀ i p b σ H,kvs[i]?=some p->H b=some (.tup (p.1.map kV))->Pv i σ H->g (.ref b) σ H λσ2 H2=>tb { D with nx:=Pv (i+1),ct:=Pv (i+1),bk:=D.nx } σ2 H2) (hd:∀ σ H,Pv kvs.length σ H->D.nx σ H) :
  ∃ W:Nat->Nat->St->Hp->Prop,(∃ m,W 0 m σ H)/\∀ i m σ H,W i m σ H ->
   ((Itx a o kvs).stop i H/\D.nx σ H)∨((Itx a o kvs).go i H/\∃ N:St->Hp->Prop,(∀ σ' H',N σ' H'->∃ m',m' < m/\W (i+1) m' σ' H')/\∀ x H',(Itx a o kvs).yld i H x H'->g x σ H' λσ2 H2=>tb { D with nx:=N,ct:=N,bk:=D.nx } σ2 H2):=by
 refine ⟨λi m σ H=>m=kvs.length - i/\i<=kvs.length/\Pv i σ H,⟨kvs.length,by simp,Jn _,h0⟩,?_⟩
 rintro i m σ H ⟨rfl,hi,p⟩
 have q:=hl i σ H hi p
 by_cases hlt:i < kvs.length
 ·refine .inr ⟨⟨q,hlt⟩,Pv (i+1),λσ' H' p'=>⟨kvs.length - (i+1),by omega,rfl,hlt,p'⟩,λx H' y=>?_⟩
  obtain ⟨rfl,v,b,hv,rfl,hb⟩:=y
  exact hs i v b σ H' hv hb p
 ·have e:i=kvs.length:=by omega
  subst e
  exact .inl ⟨⟨q,rfl⟩,hd σ H p⟩
def aFs (tk tv:TE):TE:=λσ H Q=>∀ p,H p=none->tk σ (upd H p (.dT [])) λx H1=>tv σ H1 λy H2=>∃ k b,x=.ref b/\H2 b=some (.tup (k.map kV))/\H2 p=some (.dT [])/\Q (.ref p) (upd H2 p (.dT [(k,y)]))
section
variable {ek ev:Expr}
theorem aCL (hu:X.A.units+1 < cLine) (hk:PE X ek tk) (hv:PE X ev tv) (he:pairTrees [some ek] [ev] X.env pos = [(eval ek X.env,do let x<-eval ev X.env; standAt pos; pure x)]:=by rfl):PE X (.Dict [some ek] [ev] pos) (aFs tk tv):=by
 intro pins s σ H Q I h
 have I0:Inv X pins σ (upd H s.heap.objs.size (.dT [])) { s with heap:=s.heap.push { cls:=.type "dict",data:=.dict #[] } }:=I.laid (a:=s.heap.objs.size) (o:=.dT []) (t':=s.toks) (λ_ _ q=>Qa _ q) (Qg _) (yL s.heap I.big)
 have h0:=h s.heap.objs.size (I.hok.fresh (Qg _))
 refine wpAny_Dict_any rfl rfl (by simp) (by simp) ?_
 rw [he]
 refine evalPairs_cons (thn (hk pins _ σ _ _ I0 h0) λkv s1 hx9=>?_)
 obtain ⟨x,H1,I1,r1,q1⟩:=hx9
 refine Ra (thn (hv pins _ σ _ _ I1 q1) λvv s2 hx9=>?_)
 obtain ⟨y,H2,I2,r2,q2⟩:=hx9
 refine Ra (Tj (Rb (evalPairs_nil ?_)))
 obtain ⟨k,b,rfl,hb,hp,q⟩:=q2
 cases (show kv=Value.ref b from r1)
 obtain ⟨z,hd,xs,rel,dd⟩:=aGg I2.hok hp
 have x0:xs = []:=Jt.mp (KT.length rel).symm
 subst x0
 unfold storeAll
 rw [Zz]
 refine Ra (Ra (Rar (hsz:=Jn _) (show X.A.units < cLine by omega) (lL I2.hok hb) dd λh' dd' hs=>Rb ?_))
 dsimp only
 rw [Yd]
 refine Rb ?_
 obtain ⟨qo,es,ep,hq,h2,h3,h4,_,h5⟩:=dd'
 have mu:Mut (H2 s.heap.objs.size):=by rw [hp]; trivial
 have put:=KT.keeps (H':=upd H2 s.heap.objs.size (.dT [(k,y)])) (KT.put (kvs:=[]) (xs:=[]) .nil k hb r2) λc ys ec=>by
  rw [aF (aF7 ec hp (λz=>nomatch z))]
  exact ec
 exact ⟨.ref s.heap.objs.size,_,qP (ob:=.dT [(k,y)]) I2 mu hs ⟨_,hq⟩ ⟨by rw [Rf]; simp,hd,_,put,qo,es,ep,hq,h2,h3,h4,h5⟩,rfl,q⟩
end
abbrev KE:=List Key×Addr×V
def kvE (e:KE):List Key×V:=(e.1,e.2.2)
def Kp (ys:List KE) (H:Hp):Prop:=∀ e∈ys,H e.2.1=some (.tup (e.1.map kV))
def KY (ys:List KE) (its:List (List Key×Addr×Value)):Prop:=Paired (λ(p:KE) (q:List Key×Addr×Value)=>p.1=q.1/\p.2.1=q.2.1/\bS p.2.2 q.2.2) ys its
def DH (P:Program) (w:World) (h:Heap) (D:Addr) (its:List (List Key×Addr×Value)):Prop:=∃ o es ep,h.get? D=some o/\o.ExactDict/\o.data=.dict es ep/\es.toList=its.map (entryOfKey (tupleKind (cA P w)))/\(its.map (·.1)).Nodup
theorem Kp.wr {ys:List KE} {D:Addr} {o:HO} (h:Kp ys H) (n:H D=none):Kp ys (upd H D o):=λe he=>by
 rw [aF (λz=>by have q:=h e he; rw [z,n] at q; cases q)]
 exact h e he
theorem KY.length {ys:List KE} (r:KY ys its):ys.length=its.length:=by
 induction r with
 | nil=>rfl
 | cons _ _ ih=>rw [Qx,Qx,ih]
theorem KY.kt {ys:List KE} (r:KY ys its):Kp ys H->KT H (ys.map kvE) its:=by
 induction r with
 | nil=>intro _; exact .nil
 | cons h1 _ ih=>intro hp; exact .cons ⟨h1.1,by rw [<- h1.2.1]; exact hp _ (Qi ..),h1.2.2⟩ (ih λe he=>hp e (Qk _ he))
theorem KY.snoc {ys:List KE} {k:List Key} {v:Value} (r:KY ys its) (h:bS y v):KY (ys++[(k,b,y)]) (its++[(k,b,v)]):=by
 induction r with
 | nil=>exact .cons ⟨rfl,rfl,h⟩ .nil
 | cons h1 _ ih=>exact .cons h1 ih
theorem KY.keys {ys:List KE} (r:KY ys its):ys.map (·.1)=its.map (·.1):=by
 induction r with
 | nil=>rfl
 | cons h1 _ ih=>rw [Qz,Qz,ih,h1.1]
theorem KY.noKey {ys:List KE} {k:List Key} (r:KY ys its) (n:k∉ys.map (·.1)):atKey its k=none:=by
 rw [r.keys] at n
 exact atKey_none_of_get λj p h=>n (Qv.mpr ⟨_,Qj h,rfl⟩)
theorem DH.at {D:Addr} (d:DH P w h D its) (k:∀ o,h.get? D=some o->h'.get? D=some o):DH P w h' D its:=let ⟨o,es,ep,h1,r⟩:=d; ⟨o,es,ep,k _ h1,r⟩
theorem DH.of {D:Addr} (d:h.DictOfH (tupleKind (cA P w)) D its):DH P w h D its:=let ⟨o,es,ep,h1,h2,h3,h4,_,h5⟩:=d; ⟨o,es,ep,h1,h2,h3,h4,h5⟩
theorem DH.ofH {D:Addr} {ys:List KE} (d:DH P w h D its) (r:KY ys its) (kp:Kp ys H) (ok:HOk P w H h):h.DictOfH (tupleKind (cA P w)) D its:=by
 obtain ⟨o,es,ep,h1,h2,h3,h4,h5⟩:=d
 refine ⟨o,es,ep,h1,h2,h3,h4,?_,h5⟩
 clear h1 h2 h3 h4 h5
 induction r with
 | nil=>intro x hx; cases hx
 | @cons p q ps qs hq _ ih =>
  intro x hx
  rcases Qm.mp hx with e | hx
  ·subst e
   exact lL ok (by rw [<- hq.1,<- hq.2.1]; exact kp _ (Qi ..))
  ·exact ih (λe he=>kp e (Qk _ he)) x hx
def PDt (ys:List KE) (x y:V) (H:Hp) (R:List KE->Hp->Prop):Prop:=∃ k b,x=.ref b/\H b=some (.tup (k.map kV))/\Kp ys H/\k∉ys.map (·.1)/\ys.length < sizeLine/\R (ys++[(k,b,y)]) H
def OkT (P:Program) (w:World) (D:Addr) (ys:List KE) (h:Heap):Prop:=ys.length<=sizeLine/\∃ its,KY ys its/\DH P w h D its
theorem aHX:AccOk P w A newDict [] (OkT P w) where
 new:=⟨aHW,λv z=>(by cases z),rfl,λh D e=>⟨Jn _,[],.nil,_,#[],0,e,⟨rfl,rfl,rfl⟩,rfl,rfl,Zw⟩,λh=>Ri h⟩
 keep:=λ⟨hl,its,v,d⟩ k=>⟨hl,its,v,d.at k⟩
 obj:=λ⟨_,_,_,o,es,ep,h1,h2,h3,_⟩=>⟨o,h1,λv z=>by rw [h3] at z; cases z⟩
def aFt (own:Nat) (fr:List Nat) (wi:TI) (g:TG) (tt:TT) (tk tv:TE):TE:=λσ H Q=>wi σ H λJ H1=>Wlk J [] (blk own fr σ) H1 (λys _ H=>Kp ys H/\∀ p,H p=none->Q (.ref p) (upd H p (.dT (ys.map kvE)))) g tt (tbD PDt tk tv)
section
variable {wi:TI}
theorem aCM (hu:X.A.units+1 < cLine) (S:CompOk X scope z own fr frn) (hc:X.calm=true) (hi:PI X tg iter wi) (hg:∀ C s0 H0 fp,PG (bP X scope z (own++frn) C s0 H0 fp) tg g) (ht:∀ C s0 H0 fp,PF (bP X scope z (own++frn) C s0 H0 fp) ifs tt)
  (hk:∀ C s0 H0 fp,PE (bP X scope z (own++frn) C s0 H0 fp) kx tk) (he:∀ C s0 H0 fp,PE (bP X scope z (own++frn) C s0 H0 fp) vx tv) (hs:∀ x,foldedSetIterable iter X.env x=pure x:=by intro _; rfl) :
  PE X (.DictComp kx vx [⟨tg,iter,ifs,0⟩] scope pos) (aFt own.length fr wi g tt tk tv) :=
 rF S rfl aHU aHX hc (arm_eval_DictComp ..) hi hg ht (λC s0 H0 fp=>aHV aHX (hk C s0 H0 fp) (he C s0 H0 fp) λ{D a s H x y kv vv R} ok ⟨hl,its,v,d⟩ r1 r2 ⟨k,b,ek,hb,kp,nk,lt,q⟩=>by
  subst ek
  cases (show kv=Value.ref b from r1)
  have hl':=v.length
  refine Rar (hsz:=by rw [<- hl']; exact Yw lt) (show X.A.units < cLine by omega) (lL ok hb) (d.ofH v kp ok) λh11 dd11 sb11=>?_
  rw [storedH_new (v.noKey nk)] at dd11
  exact ⟨h11,_,_,rfl,sb11,⟨by rw [Qn]; exact lt,_,v.snoc r2,DH.of dd11⟩,q⟩) hs
  λ⟨hl,its,v,d⟩ hn hm q=>⟨.dT _,⟨by rw [Qb]; exact hl,hm,its,v.kt (q.1.wr hn),d⟩,q.2 _ hn⟩
end
def aFu (H0:Hp) (t:TE):TE:=λσ H Q=>t σ H λx H'=>∃ a o kvs,H' a=some (.frz o (.dT kvs))/\NF H0 a/\Q x (upd H' a (.dT kvs))
def aFv (own:Nat) (fr:List Nat) (td:TE) (g:TG) (tt:TT) (tk tv:TE):TE:=λσ H Q=>td σ H λx H1=>∃ a kvs,x=.ref a/\H1 a=some (.dT kvs)/\∀ o:Obj,Wlk (Itx a o kvs) [] (blk own fr σ) (upd H1 a (.frz o (.dT kvs))) (λys _ H=>Kp ys H/\∀ p,H p=none->Q (.ref p) (upd (upd H p (.dT (ys.map kvE))) a (.dT kvs))) g tt (tbD PDt tk tv)
section
variable {d:Expr} {t:TE}
theorem yU (h:PE X e t):PE X e (aFu X.H0x t):=by
 intro pins s σ H Q I q
 refine thn (h pins s σ H _ I q) λv s1 hx=>?_
 obtain ⟨x,H1,I1,r1,a,o,kvs,ea,nf,k⟩:=hx
 exact ⟨x,_,I1.thawT ea nf,r1,k⟩
theorem aCN (hu:X.A.units+1 < cLine) (S:CompOk X scope z own fr frn) (hc:X.calm=true) (hi:PE X d td) (hg:∀ C s0 H0 fp,PG (bP X scope z (own++frn) C s0 H0 fp) tg g) (ht:∀ C s0 H0 fp,PF (bP X scope z (own++frn) C s0 H0 fp) ifs tt)
  (hk:∀ C s0 H0 fp,PE (bP X scope z (own++frn) C s0 H0 fp) kx tk) (he:∀ C s0 H0 fp,PE (bP X scope z (own++frn) C s0 H0 fp) vx tv) (hs:∀ x,foldedSetIterable d X.env x=pure x:=by intro _; rfl) :
  PE X (.DictComp kx vx [⟨tg,d,ifs,0⟩] scope pos) (aFv own.length fr td g tt tk tv):=by
 intro pins s σ H Q I h
 refine yU (aCM hu S hc (rW (aGi hi)) hg ht hk he hs) pins s σ H Q I ⟨_,h,λx H1 q=>?_⟩
 obtain ⟨a,kvs,ex,hx,k⟩:=q
 refine ⟨a,kvs,ex,hx,λo nf=>?_⟩
 obtain ⟨W,w0,wk⟩:=k o
 refine ⟨W,w0,λi m ys σ' H' w=>?_⟩
 rcases wk i m ys σ' H' w with ⟨st,kp,q⟩ | z
 ·refine .inl ⟨st,kp,λp hp=>⟨a,o,kvs,?_,nf,q p hp⟩⟩
  rw [aF (λz=>by rw [<- z,st.1] at hp; cases hp)]
  exact st.1
 ·exact .inr z
end
theorem yV {own:Nat} {σ:St} {Q:Hp->List KE->Prop} (SH:St->Prop) (Pv:Nat->List KE->Hp->Prop) (hn:kvs.length<=sizeLine) (hσ:SH (blk own fr σ)) (h0:Pv 0 [] H) (hlen:∀ i ys H,Pv i ys H->ys.length<=i) (hl:∀ i ys H,Pv i ys H->H a=some (.frz o (.dT kvs))/\Kp ys H) (hs:∀ i ys σ p b H,kvs[i]?=some p->H b=some (.tup (p.1.map kV))->SH σ->Pv i ys H->ys.length < sizeLine->g (.ref b) σ H λσ2 H2=>tt σ2 H2 λc H3=>if c=true then tk σ2 H3 λx H4=>tv σ2 H4 λy H5=>∃ k b,x=.ref b/\H5 b=some (.tup (k.map kV))/\Kp ys H5/\k∉ys.map (·.1)/\ys.length < sizeLine/\SH σ2/\Pv (i+1) (ys++[(k,b,y)]) H5 else SH σ2/\Pv (i+1) ys H3) (hd:∀ ys H,Pv kvs.length ys H->Q H ys) :
  Wlk (Itx a o kvs) [] (blk own fr σ) H (λys _ H=>Kp ys H/\Q H ys) g tt (tbD PDt tk tv) :=
 vR (Q:=λH ys=>Kp ys H/\Q H ys) kvs.length SH Pv hσ h0 (λys H p=>⟨(hl _ _ _ p).1,rfl⟩) (λi ys H hi p=>⟨(hl _ _ _ p).1,hi⟩) (λi ys σ x H H' hi sh p y=>by
  obtain ⟨rfl,v,b,hv,rfl,hb⟩:=y
  exact hs i ys σ v b _ hv hb sh p (by have:=hlen i ys _ p; omega)) λys H p=>⟨(hl _ _ _ p).2,hd _ _ p⟩
section
variable {d v:Addr} {es:Array DictEntry}
theorem aCO (hv:s.heap.IsValuesView v d) (g:s.heap.get? d=some ob) (gd:ob.data=.dict es ep) (k:Q (.ref s.heap.objs.size) { s with heap:=s.heap.push { cls:=.type "dict_valueiterator",data:=.fields #[.ref d,.int 0 0,.int es.size 0,.int ep 0] } }):wpAny (model P w) A (pyIter (.ref v)) Q E s:=by
 obtain ⟨ov,gv,cv,dv⟩:=id hv
 refine Vq hv.typeIs F.slot_dict_values_iter (Rh F.slot_dict_values_iter hv.typeIs F.entry_dict_values_iter ?_ (F.args_dict_values_iter_1 _))
 unfold Builtin.«dict_values.__iter__»
 refine Ra (Rb (Ra ?_))
 unfold Builtin.Dict_items.dictOf
 refine Ra (Rl gv dv (x:=.ref d) rfl (Rb (Ra ?_)))
 unfold Builtin.Dict_items.newIterator
 refine Ra (Ud g gd (Ra (Uv g gd ?_)))
 simp only [show Builtin.Dict_items.ownsTuple "dict_valueiterator" = false by decide,Jh,if_false]
 exact Ri (Rb ⟨_,rfl, "dict_valueiterator",_,⟨_,Qh _ rfl,rfl⟩,F.slot_dict_valueiterator_next.lookup,by simpa [rawInt] using k⟩)
theorem aCP {Q:Option Value->Shared->Prop} (st:s.heap.IsValIter it d i es.size ep) (g:s.heap.get? d=some ob) (gd:ob.data=.dict es ep) (lt:i < es.size)
  (k:∀ h',h'.IsValIter it d (i+1) es.size ep->Heap.SameBut it s.heap h'->Q (some es[i].val) { s with heap:=h' }):wpAny (model P w) A (pyNext (.ref it)) Q E s:=by
 obtain ⟨oi,gi,ci,di⟩:=id st
 unfold pyNext
 refine Ra (Ta (Rg (name:=Str.ofString "__next__") st.typeIs F.slot_dict_valueiterator_next (Rh F.slot_dict_valueiterator_next st.typeIs F.entry_dict_valueiterator_next ?_ (F.args_dict_valueiterator_next_1 _))))
 refine Ra (Rb (Ra (Ra ?_)))
 first
  | refine Ra (Tw st.typeIs (Rb (Ra (Tg gi di ?_))))
  | refine Ra (Ut st.typeIs (Rb (Ra (Tg gi di ?_))))
 simp only [show Builtin.Dict_items.ownsTuple "dict_valueiterator" = false by decide,Jh,if_false]
 show wpAny _ _ (if (Value.ref d==Value.none)=true then _ else _) _ _ s
 rw [if_neg (λz:(Value.ref d==Value.none)=true=>Qr z)]
 refine Ra (Rb (Ra (Ud g gd ?_)))
 rw [if_neg (by simp)]
 refine Ra (Rb (Ra (Uv g gd ?_)))
 rw [if_neg (by simp)]
 refine Rb ?_
 simp only [show ¬ ((i:Int) < 0) from by omega,if_false,Jc,Array.getElem?_eq_getElem lt]
 refine Ra ?_
 first
  | refine Ra (Tw st.typeIs (Rb (Ra (Vb st.typeIs ?_))))
  | refine Ra (Ut st.typeIs (Rb (Ra (Vb st.typeIs ?_))))
 show wpAny _ _ (setField (.ref it) 1 (rawInt ((i:Int)+1)) >>= _) _ _ s
 refine Ra (Uy gi di (by simp) ?_)
 have st2:(s.heap.update it (Obj.mapFields (·.setIfInBounds 1 (rawInt ((i:Int)+1))))).IsValIter it d (i+1) es.size ep :=
  ⟨_,Xe _ gi (Obj.isFreed_of_fields (Obj.data_mapFields di _)),(Obj.cls_mapFields ..).trans ci,by rw [Obj.data_mapFields di]; simp [rawInt]⟩
 refine Ra (Rm (Ra (Vb (s:={ s with heap:=s.heap.update it (Obj.mapFields (·.setIfInBounds 1 (rawInt ((i:Int)+1)))) }) st2.typeIs ?_)))
 refine Ra (Vb (s:={ s with heap:=s.heap.update it (Obj.mapFields (·.setIfInBounds 1 (rawInt ((i:Int)+1)))) }) st2.typeIs ?_)
 show wpAny _ _ (pure es[i].val) _ _ _
 exact Rb (Rb ⟨_,rfl,Rb (k _ st2 (Heap.SameBut.update ..))⟩)
theorem aD2 {Q:Option Value->Shared->Prop} (hh:A.handled=none) (st:s.heap.IsValIter it d i es.size ep) (g:s.heap.get? d=some ob) (gd:ob.data=.dict es ep) (ge:es.size<=i)
  (k:∀ h',Heap.ExtBut it s.heap h'->Q none { s with heap:=h' }):wpAny (model P w) A (pyNext (.ref it)) Q E s:=by
 obtain ⟨oi,gi,ci,di⟩:=id st
 unfold pyNext
 refine Ra (Ta (Rg (name:=Str.ofString "__next__") st.typeIs F.slot_dict_valueiterator_next (Rh F.slot_dict_valueiterator_next st.typeIs F.entry_dict_valueiterator_next ?_ (F.args_dict_valueiterator_next_1 _))))
 refine Ra (Rb (Ra (Ra ?_)))
 first
  | refine Ra (Tw st.typeIs (Rb (Ra (Tg gi di ?_))))
  | refine Ra (Ut st.typeIs (Rb (Ra (Tg gi di ?_))))
 simp only [show Builtin.Dict_items.ownsTuple "dict_valueiterator" = false by decide,Jh,if_false]
 show wpAny _ _ (if (Value.ref d==Value.none)=true then _ else _) _ _ s
 rw [if_neg (λz:(Value.ref d==Value.none)=true=>Qr z)]
 refine Ra (Rb (Ra (Ud g gd ?_)))
 rw [if_neg (by simp)]
 refine Ra (Rb (Ra (Uv g gd ?_)))
 rw [if_neg (by simp)]
 refine Rb ?_
 simp only [show ¬ ((i:Int) < 0) from by omega,if_false,Jc,Array.getElem?_eq_none ge]
 refine Ra ?_
 first
  | refine Ra (Tw st.typeIs (Rb ?_))
  | refine Ra (Ut st.typeIs (Rb ?_))
 show wpAny _ _ (setField (.ref it) 0 .none >>= _) _ _ s
 refine Ra (Uy gi di (by simp) ?_)
 show wpAny _ _ (newExc (.type "StopIteration") [] >>= _) _ _ _
 refine Ra ?_
 simp only [newExc,newTuple]
 refine Ra (Ri (Ra (m:=firstArgMember _ _) (Vo (a:=Value.none) (by first | rfl | (simp only [firstArgMember]; rfl)) (Ri ?_ (by size_fits)))) (by size_fits))
 simp only [raiseNew]
 refine Ra (Im ?_)
 rw [show A.in1.handled=none from hh]
 refine Ra (Rb (Ml ?_))
 exact Ra (Tu (T := "StopIteration") (b:=true) ⟨_,Qh _ rfl,rfl⟩ Uz (Rb (k _ (((Heap.SameBut.update ..).extBut.push _).push _))))
theorem aAC (hh:A.handled=none) (hne:d≠it) (gd:ob.data=.dict es ep) :
  Walks P w A it [it,d] [it] es.size (λi v=>∃ e,es[i]?=some e/\v=e.val) (λi h=>h.IsValIter it d i es.size ep/\h.get? d=some ob) where
 sub:=λb hb=>by simp at hb; simp [hb]
 frame:=λ_ _ _ st hk=>⟨st.1.at λo e=>hk it (by simp) o e,hk d (by simp) _ st.2⟩
 item:=λi s Q E hi st hQ=>aCP st.1 st.2 gd hi λh' st' sb=>hQ _ h' s.toks ⟨_,Array.getElem?_eq_getElem hi,rfl⟩ ⟨st',(sb.2 d hne).trans st.2⟩ λb o hb e=>sb.extBut b o (λh=>hb (by simp [h])) e
 done:=λs Q E st hQ=>aD2 hh st.1 st.2 gd (Qg _) λh' eb=>hQ h' s.toks λb o hb e=>eb b o (λh=>hb (by simp [h])) e
 self:=λ_ _ _ _ st hQ=>wpAny_pyIter_valiter st.1 hQ
theorem yW (d:Addr) (hd:(d==sysModules)=false):MeetsIn P w (Builtin.«dict.values» ⟨[.ref d],[]⟩) (λ_ R s=>s.TypeIs (.ref d) "dict" /\ R (.ok (.ret (.ref s.heap.objs.size))) { s with heap:=s.heap.push { cls:=.type "dict_values",data:=.fields #[.ref d] } }) :=
 .of_wp λA R s ⟨ty,h⟩=>by
  refine Ra ?_
  unfold Builtin.Dict.noArgs
  refine Ra (Rag ty (Rb ?_))
  show wpAny _ _ (Builtin.Dict.showsAll d >>= _) _ _ s
  unfold Builtin.Dict.showsAll
  rw [if_neg (show ¬ (d==sysModules)=true by rw [hd]; decide)]
  exact Ra (Rb (Ra (Ri (Rb ⟨_,rfl,h⟩))))
end
def aHY (te:TE):TE:=λσ H Q=>te σ H λx H1=>∃ (a:Addr) (kvs:List (List Key×V)) (ns:List Int),x=.ref a/\H1 a=some (.dT kvs)/\kvs.map (·.2)=ns.map V.int/\(∀ n∈ns,0<=n/\n < 10000000000)/\ns.length<=10000000/\Q (.int (aK ns)) H1
theorem KT.vals {xs:List (List Key×Addr×Value)} (r:KT H kvs xs):∀ {i:Nat} {p:List Key×V} {x:List Key×Addr×Value},kvs[i]?=some p->xs[i]?=some x->bS p.2 x.2.2:=by
 induction r with
 | nil=>intro i p x h; simp at h
 | cons h1 _ ih =>
  intro i p x hp hx
  cases i with
  | zero =>
   simp only [Qad,Option.some.injEq] at hp hx
   subst hp hx
   exact h1.2.2
  | succ j =>
   simp only [Qae] at hp hx
   exact ih hp hx
theorem aCQ (ms:List Int) (hh:∀ n∈ms,0<=n/\n < 10000000000):0<=aK ms/\aK ms<=ms.length*10000000000:=by
 induction ms with
 | nil=>exact ⟨Xl _,Xl _⟩
 | cons a l ih =>
  have h1:=hh a Qi
  have h2:=ih λn hn=>hh n (Qk _ hn)
  have e:aK (a::l)=a+aK l:=rfl
  rw [e,Qx,Zn]
  omega
section
variable {o:Expr}
theorem aFw (hc:X.calm=true) (hg:Gl X "sum") (hm:X.mg "sum" = none) (hv:bootBuiltins "sum" = some (.builtin "sum")) (ho:PE X o to) (hbase:attributeBase o "values" X.env (eval o X.env)=eval o X.env:=by rfl) (hline:(apos.endLine==cpos.line)=true:=by rfl)
  (hs:starEach [.Call (.Attribute o "values" apos) [] [] cpos] X.env = [(false,eval (.Call (.Attribute o "values" apos) [] [] cpos) X.env)]:=by rfl):PE X (.Call (.Name "sum" p) [.Call (.Attribute o "values" apos) [] [] cpos] [] pos) (aHY to):=by
 intro pins s σ H Q I h
 refine Tx (iL I hg hm hv ?_ (by decide) (by decide))
 refine PyProof.Rows.callWith_builtin1 ?_ hs rfl
 rw [hs]
 show wpAny _ _ (spliced ((false,eval (.Call (.Attribute o "values" apos) [] [] cpos) X.env)::backTo pos [])) _ _ s
 refine Calls.spliced_cons ?_
 refine wpAny_Call_method0_late hbase hline (thn (ho pins s σ H _ I h) λv s1 hx9=>?_)
 obtain ⟨x,H1,I1,r1,a,kvs,ns,ex,ha,hk,hb,hl,q⟩:=hx9
 subst ex
 cases r1
 obtain ⟨h1,h2⟩:=aDp (T := "dict") I1 (show bS (.ref a) (.ref a) from rfl) (.inr (.inr (.inl ⟨rfl,.inr ⟨_,ha⟩⟩)))
 obtain ⟨hz,hs,xs,kt,ob,es,ep,g,gx,gd,q4,q5⟩:bL X.prog X.w H1 s1.heap a (.dT kvs):=I1.hok a _ ha
 refine ⟨"dict", "dict.values",Mf,Mc,PySem.F.type_dict_values,h1,h2,Calls.callWith_builtin rfl (PySem.evalArgs_none ?_)⟩
 have ty:s1.TypeIs (.ref a) "dict" := ⟨ob,g,gx.1⟩
 refine call_meetsIn Mc ty PySem.F.entry_dict_values (PySem.F.args_dict_values_1 _) (yW a hs) ⟨ty,?_⟩
 refine Calls.spliced_nil ?_
 have hnl:ns.length=kvs.length:=by
  have z:=congrArg Zy hk
  rw [Qb,Qb] at z
  exact z.symm
 have hz2:es.size=ns.length:=(Ub q4).trans ((KT.length kt).symm.trans hnl.symm)
 have hlt:a < s1.heap.objs.size:=Qp g
 have hval:∀ (i:Nat) (v:Int),ns[i]?=some v->(ns[i]?).getD 0=v:=λi v e=>by rw [e]; rfl
 have gp:(s1.heap.push { cls:=.type "dict_values",data:=.fields #[.ref a] }).get? a=some ob:=Qa _ g
 refine call_sum_walk (aCO (v:=s1.heap.objs.size) ⟨_,Qh _ rfl,rfl,rfl⟩ gp gd ?_)
 have hsz1:(s1.heap.push { cls:=.type "dict_values",data:=.fields #[.ref a] }).objs.size=s1.heap.objs.size+1:=Jo ..
 refine ⟨(s1.heap.push { cls:=.type "dict_values",data:=.fields #[.ref a] }).objs.size,_,_,_,_,_,λi=>(ns[i]?).getD 0,rfl,aAC (A:=X.A.in1) (d:=a) (I1.ok.hd hc) (Ja (by rw [hsz1]; exact Xb hlt)) gd,⟨⟨_,Qh _ rfl,rfl,rfl⟩,Qa _ gp⟩,?_,?_,?_,λh' tk t' hk2=>?_⟩
 ·intro b hb'
  show b < (Heap.push _ _).objs.size
  rw [Jo,hsz1]
  rcases Qm.mp hb' with e | e
  ·rw [e,hsz1]; exact Zv _
  ·have e':b=a:=by simpa using e
   rw [e']; exact Xb (Xb hlt)
 ·intro i v hP
  obtain ⟨e,he,rfl⟩:=hP
  have hi:i < es.size:=by
   rcases Wr i es.size with h | h
   ·exact h
   ·rw [Array.getElem?_eq_none h] at he; cases he
  have hik:kvs[i]?=some (kvs[i]'(by omega)):=Qc (by omega)
  have hix:xs[i]?=some (xs[i]'(by have:=Ub q4; omega)):=Qc (by have:=Ub q4; omega)
  have rv:=KT.vals kt hik hix
  have z:=entry_at q4 i
  rw [hix,he] at z
  have ev:e.val=(xs[i]'(by have:=Ub q4; omega)).2.2:=by rw [Option.some.inj z]; rfl
  have kn:(kvs[i]'(by omega)).2=.int (ns[i]'(by omega)):=by
   have y:(kvs.map (·.2))[i]?=(ns.map V.int)[i]?:=by rw [hk]
   rw [Qe,Qe,hik,Qc (show i < ns.length by omega)] at y
   exact Option.some.inj y
  rw [kn] at rv
  obtain ⟨t,et⟩:=rv
  exact ⟨t,by rw [ev,et]; show Value.int _ t=Value.int ((ns[i]?).getD 0) t; rw [Qc (show i < ns.length by omega)]; rfl⟩
 ·intro j hj
  have hj':j < ns.length:=by omega
  have e:ns[j]?=some ns[j]:=Qc hj'
  have h1:=hb _ (Xf hj')
  have h2:=aCQ (ns.take (j+1)) λn hn=>hb n (Xv hn)
  rw [lD ns _ hval (j+1) (by omega)]
  have h3:(ns.take (j+1)).length<=10000000:=by rw [Qw]; omega
  unfold InLong
  have e5:(λi:Nat=>(ns[i]?).getD 0) j=ns[j]:=by show (ns[j]?).getD 0=_; rw [e]; rfl
  rw [e5]
  have h4:((ns.take (j+1)).length:Int)*10000000000<=10000000*10000000000:=by omega
  omega
 ·have e:preSum (λi=>(ns[i]?).getD 0) es.size=aK ns:=by
   rw [hz2,lD ns _ hval ns.length (Qg _),Jj]
  rw [e]
  refine ⟨.int _,H1,I1.kept (h':=h') λb o e=>hk2 b o ?_ (Qa _ (Qa _ e)),⟨_,rfl⟩,q⟩
  intro z
  have z':b=s1.heap.objs.size+1:=by rw [<- hsz1]; simpa using z
  have y:=Qp e
  rw [z'] at y
  exact Jx _ (Yx y (Zv _))
end
structure KsU (ks:List (Int×Tok)) (ns:List Int):Prop where
 nd:(ks.map (·.1)).Nodup
 mem:∀ k,k∈ks.map (·.1)↔k∈ns
theorem mD:∀ {l m:List Int},l.Nodup->(∀ x∈l,x∈m)->l.length<=m.length
 | [],m,_,_=>Jn _
 | x::l,m,h,k=>by
  obtain ⟨h1,h2⟩:=Xd.mp h
  have hx:=k x (Qi ..)
  have hl:=mD (l:=l) (m:=m.erase x) h2 λy hy=>(List.mem_erase_of_ne (a:=y) (b:=x) (λe=>h1 (by rw [<- e]; exact hy))).mpr (k y (Qk _ hy))
  have he:=Qab hx
  have hp:0 < m.length:=List.length_pos_of_mem hx
  rw [Qx]
  omega
theorem KsU.few {ks:List (Int×Tok)} (h:KsU ks ns) (hU:U.length<=11) (k:∀ n∈ns,n∈U):ks.length<=11:=by
 have:=mD h.nd λx hx=>k x ((h.mem x).mp hx)
 rw [Qb] at this
 omega
theorem KsU.old {ks:List (Int×Tok)} {k:Int} (h:KsU ks ns) (q:∃ p∈ks,p.1=k):KsU ks (ns++[k]):=⟨h.nd,λx=>by
 rw [h.mem,Jg,Qs]
 refine ⟨.inl,λz=>?_⟩
 rcases z with z | z
 ·exact z
 ·obtain ⟨p,hp,e⟩:=q
  rw [z,<- e]
  exact (h.mem _).mp (Qv.mpr ⟨p,hp,rfl⟩)⟩
theorem KsU.new {ks:List (Int×Tok)} {k:Int} {t:Tok} (h:KsU ks ns) (q:∀ p∈ks,p.1≠k):KsU ((k,t)::ks) (ns++[k]):=⟨by
 rw [Qz]
 refine Xd.mpr ⟨λm=>?_,h.nd⟩
 obtain ⟨p,hp,e⟩:=Qv.mp m
 exact q p hp e,λx=>by
 rw [Qz,Qm,h.mem,Jg,Qs]
 exact Or.comm⟩
theorem aD3 (h:Q (.ref s.heap.objs.size) { s with heap:=s.heap.push { cls:=.type "set",dict:=none,data:=.set #[] 0 (.fresh 0 0 (Led w)) } }):wpAny (model prog w) A (newSet (.type "set")) Q E s:=by
 unfold newSet setsByText
 refine Ra (Ra (Vc (Rb ?_)))
 dsimp only
 simp only [newObj]
 exact Ra (Ral (Rb h))
theorem yX {ks:List (Int×Tok)} {k:Int} {t:Tok} (hS:SG L s.heap a ks) (hlen:ks.length<=11) (hQ:∀ h',Heap.SameBut a s.heap h'->((∃ p∈ks,p.1=k)->SG L h' a ks)->((∀ p∈ks,p.1≠k)->SG L h' a ((k,t)::ks))->Q .none { s with heap:=h',toks:=s.toks+1 }) :
  wpAny (model prog w) A (call (.builtin "set.add") [.ref a,.int k t]) Q E s:=by
 obtain ⟨o,ep,es,tb,ho,hex,_⟩:=id hS
 have ty:s.TypeIs (.ref a) "set" := ⟨o,ho,hex.1⟩
 refine Rh F.slot_set_add ty F.entry_set_add ?_ (F.args_set_add_2 _ _)
 unfold Builtin.«set.add» Builtin.Frozenset.oneOther
 simp only [Wb,bind_assoc]
 unfold Builtin.Frozenset.addrOf
 refine Ra (Rb ?_)
 try dsimp only
 refine Ra (Rb ?_)
 try dsimp only
 refine Ra (aAA hS (by omega) λh' b sb x1 x2=>?_)
 show wpAny _ _ (ret Value.none) _ _ _
 exact Rb ⟨_,rfl,hQ h' sb x1 x2⟩
theorem wF (elt target iter:Expr) (ifs:List Expr) (scope:Scope) (pos:Pos) (it:Value) (D:Addr) (env:Env) :
  compTurn (.SetComp elt [⟨target,iter,ifs,0⟩] scope pos) 0 it (.ref D) env=(do
   standAt iter.pos
   match<-pyNext it with
   | none=>pure (.done .next)
   | some v =>
    letOwnedTupleGo target it v
    assign target env v
    let mut ok:=true
    for c in ifs do
     if ok then ok<-isTrue c env (eval c env)
    if ok then
     (do
      let u<-eval elt env
      standAt elt.pos
      let _<-call (.builtin "set.add") [.ref D,u])
    again (.compLoop (.SetComp elt [⟨target,iter,ifs,0⟩] scope pos) 0 it (.ref D) env)):=by rfl
theorem tY {elt target iter ifs iW scope pos it acc env} (h0:codeAny (model prog w) A (.compLoop (.SetComp elt (⟨target,iter,ifs,0⟩::iW) scope pos) 0 it acc env) R s) (h:wpAny (model prog w) A (pyIter it) (λit' s'=>codeAny (model prog w) A (.compLoop (.SetComp elt (⟨target,iter,ifs,0⟩::iW) scope pos) 0 it' acc env) R s') (notedBy (model prog w) A env λx s'=>R (.error x) s') s) :
  codeAny (model prog w) A (.compStart (.SetComp elt (⟨target,iter,ifs,0⟩::iW) scope pos) 0 it acc env) R s:=by
 refine Vy ?_
 show wpAny _ A ((compStart (.SetComp elt (⟨target,iter,ifs,0⟩::iW) scope pos) 0 it acc env).onRaise (λx=>do noteFrame x env; standAt theWindowsPlace)) _ _ s
 refine wpAny_notedAt ?_
 unfold compStart
 show wpAny _ A (ask >>= _) _ _ s
 refine Ra (Vc (wpAny_ite ?_))
 split
 ·first
   | exact Ra (Rb (Rb (And.intro rfl h0)))
   | exact Rb (And.intro rfl h0)
 ·first
   | exact Ra (Uh (Ra (Tj (Ra (Rr h (λit' s' h'=>Rb (And.intro rfl h')) λ_ _ x=>x)))))
   | (refine Ra (Uh ?_); show wpAny _ _ (standAt iter.pos >>= _) _ _ s; exact Ra (Tj (Ra (Rr h (λit' s' h'=>Rb (And.intro rfl h')) λ_ _ x=>x))))
def PS1 (U:List Int) (te:TE) (ys:List Int) (σ:St) (H:Hp) (R:List Int->St->Hp->Prop):Prop:=te σ H λy H4=>∃ k,y=.int k/\k∈U/\R (ys++[k]) σ H4
def aGZ (w:World) (own:Nat) (fr:List Nat) (wi:TI) (g:TG) (tt:TT) (te:TE) (U:List Int):TE:=λσ H Q=>wi σ H λJ H1=>Wlk J [] (blk own fr σ) H1 (λys _ H=>∀ p us,H p=none->us.Nodup->(∀ k,k∈us↔k∈ys)->us.length<=11->Q (.ref p) (upd H p (pH w p us))) g tt (PS1 U te)
def OkS (w:World) (U:List Int) (D:Addr) (ys:List Int) (h:Heap):Prop:=(∀ n∈ys,n∈U)/\∃ its,KsU its ys/\SG (Led w) h D its
section
variable {wi:TI}
def bdS (elt:Expr) (env:Env) (D:Addr):Sem Unit:=do
 let u<-eval elt env
 standAt elt.pos
 let _<-call (.builtin "set.add") [.ref D,u]
theorem aHZ:LoopOk P w A (.SetComp elt [⟨tg,iter,ifs,0⟩] scope pos) 0 tg iter ifs (bdS elt) where
 und:=λ_ _ _=>⟨rfl,rfl⟩
 turn:=λit D env=>wF elt tg iter ifs scope pos it D env
 start:=tY
theorem aG0:AccOk P w A (newSet (.type "set")) [] (OkS w U) where
 new:=⟨{ cls:=.type "set",dict:=none,data:=.set #[] 0 (.fresh 0 0 (Led w)) },λv z=>(by cases z),rfl,λh D e=>⟨λ_ h=>(Qt h).elim,[],⟨Zw,λk=>by simp⟩,_,0,#[],_,e,⟨rfl,rfl,rfl⟩,rfl,List.Perm.refl _,⟨.inl ⟨rfl,Jn _⟩,rfl,rfl,rfl,rfl,List.Pairwise.nil⟩⟩,λh=>aD3 h⟩
 keep:=λ⟨hl,its,v,d⟩ f=>⟨hl,its,v,d.keep f⟩
 obj:=λ⟨_,its,_,o,ep,es,tb,h1,h2,h3,_⟩=>⟨o,h1,λv z=>by rw [h3] at z; cases z⟩
theorem aH0 (hU:U.length<=11) (he:PE Y elt te):lC Y (bdS elt) (OkS Y.w U) (PS1 U te):=by
 intro ps s σ H D o ys R dn I pl h
 refine Ra (thn (he _ s σ H _ I h) λy s1 hx=>Ra (Tj (Ra ?_)))
 obtain ⟨yv,H1,I1,r1,k,ek,hkU,q⟩:=hx
 subst ek
 obtain ⟨tk,rfl⟩:∃ t,y=Value.int k t:=r1
 obtain ⟨z5,its,v,d⟩:=aG0.stay I I1 pl
 refine yX d (v.few hU z5) λh11 sb11 x1 x2=>Rb ?_
 have ok:OkS Y.w U D (ys++[k]) h11:=by
  refine ⟨λn hn=>?_,?_⟩
  ·rcases Jg.mp hn with h | h
   ·exact z5 n h
   ·rw [Qs.mp h]; exact hkU
  by_cases hkm:∃ p∈its,p.1=k
  ·exact ⟨its,v.old hkm,x1 hkm⟩
  ·exact ⟨(k,tk)::its,v.new λp hp e=>hkm ⟨p,hp,e⟩,x2 λp hp e=>hkm ⟨p,hp,e⟩⟩
 obtain ⟨o',I'⟩:=dn.put aG0 I1 sb11 ok
 exact ⟨σ,H1,_,o',I',ok,q⟩
theorem aD4 (hU:U.length<=11) (S:CompOk X scope z own fr frn) (hc:X.calm=true) (hi:PI X tg iter wi) (hg:∀ C s0 H0 fp,PG (bP X scope z (own++frn) C s0 H0 fp) tg g) (ht:∀ C s0 H0 fp,PF (bP X scope z (own++frn) C s0 H0 fp) ifs tt)
  (he:∀ C s0 H0 fp,PE (bP X scope z (own++frn) C s0 H0 fp) elt te) (hs:∀ x,foldedSetIterable iter X.env x=pure x:=by intro _; rfl) :
  PE X (.SetComp elt [⟨tg,iter,ifs,0⟩] scope pos) (aGZ X.w own.length fr wi g tt te U) :=
 rF S rfl aHZ aG0 hc (arm_eval_SetComp ..) hi hg ht (λC s0 H0 fp=>aH0 hU (he C s0 H0 fp)) hs λ{D a H h Q} ⟨z5,its,v,d⟩ hn _ q=>⟨pH X.w D (its.map (·.1)),by
  obtain ⟨o,ep,es,t,e1,r1⟩:=id d
  exact ⟨⟨its,d,⟨v.1,λk=>Iff.rfl,by rw [Qb]; exact Qg _⟩⟩,⟨o,e1⟩,λh1 h2 ⟨ks,z,y⟩ k=>⟨ks,z.keep k,y⟩⟩,q D _ hn v.1 v.2 (by rw [Qb]; exact v.few hU z5)⟩
end
def aBx (w:World) (own:Nat) (fr:List Nat) (td:TE) (g:TG) (tt:TT) (te:TE):TE:=λσ H Q=>∃ U:List Int,U.length<=11/\td σ H λx H1=>∃ a kvs,x=.ref a/\H1 a=some (.dT kvs)/\∀ o:Obj,Wlk (Itx a o kvs) [] (blk own fr σ) (upd H1 a (.frz o (.dT kvs))) (λys _ H=>∀ p us,H p=none->us.Nodup->(∀ k,k∈us↔k∈ys)->us.length<=11->Q (.ref p) (upd (upd H p (pH w p us)) a (.dT kvs))) g tt (PS1 U te)
section
variable {d:Expr}
theorem aCR (S:CompOk X scope z own fr frn) (hc:X.calm=true) (hi:PE X d td) (hg:∀ C s0 H0 fp,PG (bP X scope z (own++frn) C s0 H0 fp) tg g) (ht:∀ C s0 H0 fp,PF (bP X scope z (own++frn) C s0 H0 fp) ifs tt)
  (he:∀ C s0 H0 fp,PE (bP X scope z (own++frn) C s0 H0 fp) elt te) (hs:∀ x,foldedSetIterable d X.env x=pure x:=by intro _; rfl) :
  PE X (.SetComp elt [⟨tg,d,ifs,0⟩] scope pos) (aBx X.w own.length fr td g tt te):=by
 intro pins s σ H Q I ⟨U,hU,h⟩
 refine yU (aD4 hU S hc (rW (aGi hi)) hg ht he hs) pins s σ H Q I ⟨_,h,λx H1 q=>?_⟩
 obtain ⟨a,kvs,ex,hx,k⟩:=q
 refine ⟨a,kvs,ex,hx,λo nf=>?_⟩
 obtain ⟨W,w0,wk⟩:=k o
 refine ⟨W,w0,λi m ys σ' H' w=>?_⟩
 rcases wk i m ys σ' H' w with ⟨st,q⟩ | z
 ·refine .inl ⟨st,λp us hp h1 h2 h3=>⟨a,o,kvs,?_,nf,q p us hp h1 h2 h3⟩⟩
  rw [aF (λz=>by rw [<- z,st.1] at hp; cases hp)]
  exact st.1
 ·exact .inr z
end
theorem yY {own:Nat} {σ:St} {Q:Hp->List Int->Prop} (SH:St->Prop) (Pv:Nat->List Int->Hp->Prop) (hσ:SH (blk own fr σ)) (h0:Pv 0 [] H) (hl:∀ i ys H,Pv i ys H->H a=some (.frz o (.dT kvs))) (hs:∀ i ys σ p b H,kvs[i]?=some p->H b=some (.tup (p.1.map kV))->SH σ->Pv i ys H->g (.ref b) σ H λσ2 H2=>tt σ2 H2 λc H3=>if c=true then te σ2 H3 λy H4=>∃ k,y=.int k/\k∈U/\SH σ2/\Pv (i+1) (ys++[k]) H4 else SH σ2/\Pv (i+1) ys H3) (hd:∀ ys H,Pv kvs.length ys H->Q H ys) :
  Wlk (Itx a o kvs) [] (blk own fr σ) H (λys _ H=>Q H ys) g tt (PS1 U te) :=
 vR kvs.length SH Pv hσ h0 (λys H p=>⟨hl _ _ _ p,rfl⟩) (λi ys H hi p=>⟨hl _ _ _ p,hi⟩) (λi ys σ x H H' hi sh p y=>by
  obtain ⟨rfl,v,b,hv,rfl,hb⟩:=y
  exact hs i ys σ v b _ hv hb sh p) hd
def aH1:V->List V->Hp->VK->Prop:=λx vs H Q=>∃ (a b:Addr) (kvs:List (List Key×V)) (k:List Key) (df:V),x=.ref a/\vs = [.ref b,df]/\Rd H a (.dT kvs)/\H b=some (.tup (k.map kV))/\Q ((dO kvs k).getD df) H
theorem aFx (hu:X.A.units+1 < cLine):MtR X "dict.get" aH1:=by
 intro pins s σ H x vs v us Q I rx rv h
 obtain ⟨a,b,kvs,k,df,rfl,rfl,e,eb,q⟩:=h
 cases rx
 obtain ⟨u,ud,rfl,ru,rd⟩:=nM rv
 cases (show u=Value.ref b from ru)
 obtain ⟨z,hd,xs,rel,dd⟩:=yH I.hok e
 refine call_meetsIn Mr dd.typeIs PySem.F.entry_dict_get (PySem.F.args_dict_get_3 _ _ _) (meetsH_dict_get_default (tupleKind (cA X.prog X.w)) a b hd ud) ⟨Vk hu,k,xs,lL I.hok eb,dd,?_⟩
 have rel2:=rel.val k
 cases hv:dO kvs k with
 | some y =>
  rw [hv] at q
  obtain ⟨w',hw,rw'⟩:=nK.some_of (v:=y) (o:=(atKey xs k).map (·.2)) (by rw [<- hv]; exact rel2)
  exact ⟨y,H,I.tok _,by rw [hw]; exact rw',q⟩
 | none =>
  rw [hv] at q
  have hn:(atKey xs k).map (·.2)=none:=nK.none_of (by rw [<- hv]; exact rel2)
  exact ⟨df,H,I.tok _,by rw [hn]; exact rd,q⟩
def aD5 (K:Rc):R2:=λx y H Q=>∃ a b xs ys,x=.ref a/\y=.ref b/\SqT K H a xs/\SqT K H b ys/\xs.length+ys.length<=sizeLine/\(xs = []->Q (.ref b) H)/\(xs≠[]->ys = []->Q (.ref a) H)/\(xs≠[]->ys≠[]->∀ p,H p=none->Q (.ref p) (upd H p (.tup (xs++ys))))
theorem aBy (hK:X.K=K):OpR X (binaryOp .Add) (aD5 K):=by
 subst hK
 intro pins s σ H x y v u Q I rx ry h
 obtain ⟨a,b,xs,ys,rfl,rfl,ha,hb,hz,q1,q2,q3⟩:=h
 by_cases hx:xs = []
 ·have q:=q1 hx
  subst hx
  cases rx
  cases ry
  obtain ⟨its,r1,⟨⟨cls,dd,data,sl⟩,ho,hc,n,hd⟩,_⟩:=I.tuple ha
  obtain ⟨its2,r2,⟨⟨cls2,dd2,data2,sl2⟩,ho2,hc2,n2,hd2⟩,_⟩:=I.tuple hb
  simp only at hc hd hc2 hd2
  subst hc hd hc2 hd2
  cases r1
  exact Iz ⟨_,ho,rfl⟩ ⟨_,ho2,rfl⟩ Vs Ik Up Uj (Ug _ _) (mR a b _ _ n n2 dd dd2 sl sl2 rfl) ⟨ho,ho2,⟨.ref b,H,I,rfl,q⟩⟩
 ·exact aBh pins s σ H _ _ v u Q I rx ry ⟨a,b,xs,ys,rfl,rfl,ha,hb,hx,hz,λe=>q2 hx e,λe p hp=>q3 hx e p hp⟩
theorem aFy {Q:VK} (ha:SqT K H a xs) (hb:H b=some (.tup [y])) (hz:xs.length<=1000) (k:∀ p H',aE H H'->H' p=some (.tup (xs++[y]))->Q (.ref p) H'):aD5 K (.ref a) (.ref b) H Q :=
 ⟨a,b,xs,[y],rfl,rfl,ha,SqT.of hb,by rw [Rf]; show _+1<=_; omega,λe=>k b H (aE.refl H) (by rw [e]; exact hb),λ_ e=>absurd e (by simp),λ_ _ p hp=>k p _ (aE.new hp) aB⟩
theorem aD6 {Q:VK} (ha:H a=some (.tup xs)) (hx:xs≠[]) (hb:SqT K H b ys) (hz:xs.length+ys.length<=1000) (k:∀ p H',aE H H'->H' p=some (.tup (xs++ys))->Q (.ref p) H'):aD5 K (.ref a) (.ref b) H Q :=
 ⟨a,b,xs,ys,rfl,rfl,SqT.of ha,hb,by rw [Rf]; omega,λe=>absurd e hx,λ_ e=>k a H (aE.refl H) (by rw [e,Zk]; exact ha),λ_ _ p hp=>k p _ (aE.new hp) aB⟩
def aH2:R2:=λx y H Q=>∃ a,∃ k:Nat,∃ xs,x=.ref a/\y=.int k/\H a=some (.tup xs)/\xs≠[]/\1<=k/\k<=1000/\xs.length<=1000/\∀ p H',aE H H'->H' p=some (.tup (List.replicate k xs).flatten)->Q (.ref p) H'
theorem aFz:OpR X (binaryOp .Mult) aH2:=by
 intro pins s σ H x y v u Q I rx ry h
 obtain ⟨a,k,xs,rfl,rfl,ha,hx,h1,h2,hz,q⟩:=h
 cases rx
 obtain ⟨t,rfl⟩:=ry
 obtain ⟨its,r,⟨⟨cls,dd,data,sl⟩,ho,hc,n,hd⟩,hzz⟩:=I.tuple (SqT.of ha)
 simp only at hc hd
 subst hc hd
 have hl:=r.length
 refine Um (T := "tuple") (U := "int") (by decide) ⟨_,ho,rfl⟩ (λs'=>Uw s' k t) gM Vm Ti jZ PySem.F.slot_int_index.lookup
  (Tc Ti (Uw s k t) Vl (Vi _ _) (iR k t a its.toArray n dd sl) ⟨ho,rfl,⟨_,ho,rfl⟩,?_⟩)
 by_cases hk1:k=1
 ·subst hk1
  refine Tc PySem.F.slot_tuple_mul ⟨_,ho,rfl⟩ Rz (Rv _ _) (mX a its.toArray n dd sl t) ⟨ho,?_⟩
  exact ⟨.ref a,H,I,rfl,q a H (aE.refl H) (by simpa using ha)⟩
 ·have hne:its.toArray.isEmpty=false:=by
   cases its with
   | nil=>cases r; exact absurd rfl hx
   | cons _ _=>rfl
  refine Tc PySem.F.slot_tuple_mul ⟨_,ho,rfl⟩ Rz (Rv _ _) (lI a its.toArray n dd sl k t (by omega) (by omega) hne (by rw [Ql]; omega)) ⟨ho,?_⟩
  have hnew:List.foldl (λx1 x2=>x1++x2) #[] (List.replicate ((k:Int)).toNat its.toArray)=(List.replicate k its).flatten.toArray:=by
   have z:=jJ its k []
   rw [Zl] at z
   rw [Jc]
   exact z
  rw [hnew]
  have hlen:(List.replicate k xs).flatten.length<=sizeLine:=by
   rw [qL,Rf]
   have:k*xs.length<=1000*1000:=Qaw h2 hz
   omega
  refine ⟨.ref _,_,I.laid (t':=s.toks) (o:=.tup (List.replicate k xs).flatten) (λb ob q=>Qa _ q) (Qg _) ?_,rfl,q _ _ (aE.new (I.hok.fresh (Qg _))) aB⟩
  exact ⟨hlen,(List.replicate k its).flatten,0,r.rep k,Qh _ rfl⟩
theorem wG {l:Addr} {its:Array Value} (hh:A.handled=none) (hl:s.heap.IsList l its) (hi:IntsAre its.toList ns) (hU:U.length<=11) (hlen:∀ n∈ns,n∈U) (h:∀ (h':Heap) (tk:Nat) (ks:List (Int×Tok)),SG (Led w) h' s.heap.objs.size ks->KsU ks ns->(∀ b o,b < s.heap.objs.size->s.heap.get? b=some o->h'.get? b=some o)->Q (.ref s.heap.objs.size) { s with heap:=h',toks:=tk }) :
  wpAny (model prog w) A (call (.type "set") [.ref l]) Q E s:=by
 refine rQ (Z:=λi h=>∃ ks,SG (Led w) h s.heap.objs.size ks/\KsU ks (ns.take i)) hh hl hi (λh e=>⟨[],⟨_,0,#[],_,e,⟨rfl,rfl,rfl⟩,rfl,List.Perm.refl _,⟨.inl ⟨rfl,Jn _⟩,rfl,rfl,rfl,rfl,List.Pairwise.nil⟩⟩,Zw,λk=>by simp⟩) (λi h h' ⟨ks,z,y⟩ k=>⟨ks,z.keep k,y⟩) (λi k t _ _ s' Q' hn hS q=>?_) λh' tk ⟨ks,z,y⟩=>h h' tk ks z (by rw [Jj] at y; exact y)
 obtain ⟨ks,hS,hk⟩:=hS
 have hl:=hk.few hU λn hn=>hlen n (Xv hn)
 have et:ns.take (i+1)=ns.take i++[k]:=by rw [Jp,hn]; rfl
 refine aAA hS (by omega) λh3 b sb x1 x2=>q h3 b sb ?_
 by_cases hkm:∃ p∈ks,p.1=k
 ·exact ⟨ks,x1 hkm,by rw [et]; exact hk.old hkm⟩
 ·have hno:∀ p∈ks,p.1≠k:=λp hp e=>hkm ⟨p,hp,e⟩
  exact ⟨(k,t)::ks,x2 hno,by rw [et]; exact hk.new hno⟩
theorem aAD (hw:X.w=w) (hK:X.K=K) (hc:X.calm=true):dF X (.type "set") (λxs H Q=>∃ (l:Addr) (ns U:List Int),xs = [.ref l]/\SqL K H l (ns.map V.int)/\U.length<=11/\(∀ n∈ns,n∈U)/\∀ p us,H p=none->us.Nodup->(∀ k,k∈us↔k∈ns)->us.length<=11->Q (.ref p) (upd H p (pH w p us))):=by
 subst hK hw
 intro pins s σ H xs us Q I r h
 obtain ⟨l,ns,U,rfl,hL,hU,hn,q⟩:=h
 obtain ⟨u,rfl,rx⟩:=eX r
 cases rx
 obtain ⟨its,rv,pl,hz⟩:=I.list hL
 refine wG (I.ok.hd hc) pl.isList (mC rv) hU hn λh' tk ks x y kp=>?_
 have kp':∀ b o,s.heap.get? b=some o->h'.get? b=some o:=λb o e=>kp b o (Qp e) e
 have hf:=I.hok.fresh (Qg s.heap.objs.size)
 refine ⟨.ref s.heap.objs.size,_,I.laid (t':=tk) kp' (Qg _) ?_,rfl,q _ (ks.map (·.1)) hf y.1 y.2 (by rw [Qb]; exact y.few hU hn)⟩
 refine ⟨⟨ks,x,⟨y.1,λk=>Iff.rfl,by rw [Qb]; exact Qg _⟩⟩,?_,λh1 h2 ⟨ks,z,y⟩ k=>⟨ks,z.keep k,y⟩⟩
 obtain ⟨o,ep,es,t,e,_⟩:=x
 exact ⟨o,e⟩
structure Fn (K:Rc) (mg:Str->Option Value) (x:Str) (st:Stmt) (ps:List Str) (f:Addr) (fd:FuncData):Prop where
 fn:Fun K x x st f fd
 mgx:mg x=some (.ref f)
 kp:Uo K (.ref f)=true
 bd:uI K fd ps []
theorem bB {x:Str} {k:Nat} {t:TA} (G:Fn X.K X.mg x st ps f fd) (ok:FnOk X.prog X.w X.K X.mg X.base CX0 k f fd ps sp) (hr:Room k X.A) (hg:Gl X x) (ha:PA X (e::es) t) (hdb:(x==("__debug__" : Str))=false:=by decide) (he:starEach (e::es) X.env=(false,eval e X.env)::starEach es X.env:=by rfl) (hpl:(backTo pos (starEach es X.env)).any (·.1)=false:=by rfl) :
  PE X (.Call (.Name x p) (e::es) [] pos) (aGa sp [] E0 t):=aE2 ok hr hg G.mgx G.kp G.bd .nil aHD ha hdb he hpl
structure Bl (mg:Str->Option Value):Prop where
 isinstance:mg "isinstance" = none
 int:mg "int" = none
 bool:mg "bool" = none
 tuple:mg "tuple" = none
 list:mg "list" = none
 len:mg "len" = none
 all:mg "all" = none
 zip:mg "zip" = none
 range:mg "range" = none
 sorted:mg "sorted" = none
 set:mg "set" = none
 sum:mg "sum" = none
 repr:mg "repr" = none
 enumerate:mg "enumerate" = none
 min:mg "min" = none
 any:mg "any" = none
 max:mg "max" = none
 hands:∃ t,mg "MOST_HANDS" = some (.int 6 t)
 works:∃ t,mg "MOST_WORKS" = some (.int 12 t)
theorem aGj:bootBuiltins "any" = some (.builtin "any"):=by decide +kernel
theorem aGk:bootBuiltins "max" = some (.builtin "max"):=by decide +kernel
theorem pX:bootBuiltins "isinstance" = some (.builtin "isinstance"):=by decide +kernel
theorem aGl:bootBuiltins "int" = some (.type "int"):=by decide +kernel
theorem aG1:bootBuiltins "bool" = some (.type "bool"):=by decide +kernel
theorem cJ:bootBuiltins "tuple" = some (.type "tuple"):=by decide +kernel
theorem aAE:bootBuiltins "list" = some (.type "list"):=by decide +kernel
theorem fV:bootBuiltins "len" = some (.builtin "len"):=by decide +kernel
theorem rX:bootBuiltins "all" = some (.builtin "all"):=by decide +kernel
theorem aBz:bootBuiltins "range" = some (.type "range"):=by decide +kernel
theorem nY:bootBuiltins "sorted" = some (.builtin "sorted"):=by decide +kernel
theorem aD7:bootBuiltins "set" = some (.type "set"):=by decide +kernel
theorem aH3:bootBuiltins "sum" = some (.builtin "sum"):=by decide +kernel
end L2
namespace Ab
open PySem L2
def top (i:Nat):Stmt:=PySem.Challenge.pw_ablehands_k15_whole_counted_by_one_work.main.body.getD i (.Pass ⟨0,0,0,0⟩)
abbrev nE:Stmt:=top 8
abbrev rY:Stmt:=top 9
abbrev rZ:Stmt:=top 10
abbrev sA:Stmt:=top 11
abbrev wH:Stmt:=top 12
abbrev aAF:Stmt:=top 13
abbrev aAG:Stmt:=top 14
abbrev lO:Stmt:=top 16
abbrev aAH:Stmt:=top 17
abbrev jN:Stmt:=top 18
abbrev lP:Stmt:=top 20
abbrev nZ:Stmt:=top 21
abbrev wI:Stmt:=top 22
abbrev uU:Stmt:=top 24
abbrev aAI:Stmt:=top 25
abbrev wJ:Stmt:=top 26
abbrev aBA:Stmt:=top 27
abbrev aD8:Stmt:=top 29
abbrev iH:Stmt:=top 30
abbrev hJ:Stmt:=top 31
abbrev qQ:Stmt:=top 33
abbrev sB:Stmt:=top 34
abbrev wK:Stmt:=top 35
abbrev iS:Stmt:=top 36
abbrev fF:Stmt:=top 37
abbrev lQ:Stmt:=top 38
abbrev aBB:Stmt:=top 40
abbrev nF:Stmt:=top 41
abbrev uV:Stmt:=top 42
abbrev aBC:Stmt:=top 43
abbrev qR:Stmt:=top 45
abbrev mE:Stmt:=top 46
abbrev iD:Stmt:=top 47
abbrev aBD:Stmt:=top 48
abbrev aFA:Stmt:=top 49
abbrev aAJ:Stmt:=top 50
def gW:PyData->Bool
 | .int _=>true
 | _=>false
def iT:PyData->Bool
 | .int i=>decide (1<=i) && decide (i<=6)
 | _=>false
def eF (hands:Int):Int->List PyData->Bool
 | _,[]=>true
 | last,.int i::r=>decide (last < i) && decide (i < hands) && eF hands i r
 | _,_::_=>false
def cE (hands:Int):PyData->Bool
 | .tuple ds=>!ds.isEmpty && eF hands (-1) ds
 | _=>false
def aG2:PyData->PyData->Bool
 | .int h,.tuple ws=>decide (1<=h) && decide (h<=6) && decide (ws.length<=12) && ws.all (cE h)
 | _,_=>false
def aS:PyData->Bool
 | .tuple [dh,dw]=>aG2 dh dw
 | _=>false
def oA (K:Rc):Sp:=λvs H Q _=>∃ x d,vs = [x]/\Den K H d x/\Q (.bl (gW d)) H
theorem aFB:FnScope ["thing"] ["thing"] (aH nE):=⟨rfl,rfl,rfl,by decide +kernel,rfl,by decide +kernel,by decide +kernel⟩
theorem oB (G:Fn K mg "is_whole" nE ["thing"] f fd) (B:Bl mg):FnOk P w K mg base CX0 1 f fd ["thing"] (oA K):=by
 refine G.fn.ok aFB (λvs H Q E h=>?_) (λcdv A outer s H vs Q E hr h=>?_)
 ·obtain ⟨x,d,rfl,_⟩:=h
  rfl
 ·obtain ⟨x,d,rfl,hd,k⟩:=h
  refine ⟨_,aI (aW (kW (aP vQ rfl B.isinstance pX (aA (pv 0) (aA (iY (v:=.ty "int") rfl B.int aGl rfl) aC)))
   (kU (aGz (aP tM rfl B.isinstance pX (aA (pv 0) (aA (iY (v:=.ty "bool") rfl B.bool aG1 rfl) aC))))))),?_⟩
  refine ⟨_,rfl,x,kQ d,rfl,hd.kd,_,rfl,?_⟩
  refine dJ (λc=>?_) (λc=>?_)
  ·refine ⟨_,rfl,x,kQ d,rfl,hd.kd,_,rfl,?_⟩
   have e:(!decide (kQ d=Kd.bl))=gW d:=by
    cases d <;> first | rfl | (exfalso; simp [kQ] at c)
   rw [e]
   exact k
  ·have e:false=gW d:=by
    cases d <;> first | rfl | (exfalso; simp [kQ] at c)
   rw [e]
   exact k
def aBE (K:Rc):Sp:=λvs H Q _=>∃ x d,vs = [x]/\Den K H d x/\Q (.bl (iT d)) H
theorem aFC:FnScope ["thing"] ["thing"] (aH rY):=⟨rfl,rfl,rfl,by decide +kernel,rfl,by decide +kernel,by decide +kernel⟩
theorem aD9 (G:Fn K mg "are_hands" rY ["thing"] f fd) (B:Bl mg) (W:Fn K mg "is_whole" nE ["thing"] fW fdW):FnOk P w K mg base CX0 2 f fd ["thing"] (aBE K):=by
 have GW:FnOk P w K mg base CX0 1 fW fdW ["thing"] (oA K):=oB W B
 obtain ⟨t6,h6⟩:=B.hands
 refine G.fn.ok aFC (λvs H Q E h=>?_) (λcdv A outer s H vs Q E hr h=>?_)
 ·obtain ⟨x,d,rfl,_⟩:=h
  rfl
 ·obtain ⟨x,d,rfl,hd,k⟩:=h
  refine ⟨_,aI (aW (kW (bB W GW hr rfl (aA (pv 0) aC))
   (kU (aDk xH xH aG (pv 0) (aA8 (v:=.int 6) rfl h6 ⟨t6,rfl⟩))))),?_⟩
  refine ⟨_,rfl,x,d,rfl,hd,_,rfl,?_⟩
  refine dJ (λc=>?_) (λc=>?_)
  ·obtain ⟨i,rfl⟩:∃ i,d=.int i:=by cases d <;> first | exact ⟨_,rfl⟩ | (exfalso; simp [gW] at c)
   obtain rfl:=eW.mp hd
   refine ⟨_,rfl,_,_,rfl,rfl,_,rfl,?_⟩
   refine dJ (λc1=>?_) (λc1=>?_)
   ·refine ⟨_,_,rfl,rfl,?_⟩
    have e:decide (i<=6)=iT (.int i):=by
     show _=(decide (1<=i) && decide (i<=6))
     rw [c1,Zs]
    show Q (.bl (decide (i<=6))) H
    rw [e]; exact k
   ·have e:false=iT (.int i):=by
     show _=(decide (1<=i) && decide (i<=6))
     have c2:decide (1<=i)=false:=by simpa using c1
     rw [c2,Bool.false_and]
    rw [e]; exact k
  ·have e:false=iT d:=by cases d <;> first | rfl | (exfalso; simp [gW] at c)
   rw [e]; exact k
theorem iA (h l i:Int) (r:List PyData):eF h l (.int i::r)=(decide (l < i) && decide (i < h) && eF h i r):=by rw [eF]
theorem sC (h l:Int) (d:PyData) (r:List PyData) (n:gW d=false):eF h l (d::r)=false:=by
 cases d <;> first | rfl | (simp [gW] at n)
def aBF (K:Rc):Sp:=λvs H Q _=>∃ n x d,vs = [.int n,x]/\Den K H d x/\Q (.bl (cE n d)) H
theorem qS:FnScope ["hands", "thing", "last", "hand"] ["hands", "thing"] (aH rZ):=⟨rfl,rfl,rfl,by decide +kernel,rfl,by decide +kernel,by decide +kernel⟩
theorem aEa (G:Fn K mg "is_work" rZ ["hands", "thing"] f fd) (B:Bl mg) (W:Fn K mg "is_whole" nE ["thing"] fW fdW):FnOk P w K mg base CX0 2 f fd ["hands", "thing"] (aBF K):=by
 have GW:FnOk P w K mg base CX0 1 fW fdW ["thing"] (oA K):=oB W B
 refine G.fn.ok qS (λvs H Q E h=>?_) (λcdv A outer s H vs Q E hr h=>?_)
 ·obtain ⟨n,x,d,rfl,_⟩:=h
  rfl
 ·obtain ⟨n,x,d,rfl,hd,k⟩:=h
  refine ⟨_,aD (cG (PW.pt (kT (eQ (eE (aP eR rfl B.isinstance pX (aA (pv 1) (aA (iY (v:=.ty "tuple") rfl B.tuple cJ rfl) aC)))))
    (jD (bJ gH (aP bC rfl B.len fV (aA (pv 1) aC)) aG (bE _))))) (aI (aW eY)) bI)
   (aD (aL (i:=2) qS.nd rfl (Or.inl rfl) (aF8 aDh aG))
   (aD (eC PassesOwn.never rfl (fY (pv 1)) (aJ (i:=3) qS.nd rfl (Or.inl rfl))
    (aD (cG (PW.pt (kT (eQ (eE (bB W GW hr rfl (aA (pv 3) aC)))) (kT (bJ xH (pv 3) (pv 2) (bE _)) (jD (bJ aBf (pv 3) (pv 0) (bE _)))))) (aI (aW eY)) bI)
    (aI (aL (i:=2) qS.nd rfl (Or.inl rfl) (pv 3)))))
   (aI (aW eY)))),?_⟩
  refine ⟨_,rfl,x,kQ d,rfl,hd.kd,_,rfl,?_⟩
  refine dJ (λc=>?_) (λc=>?_)
  ·-- not a tuple
   refine iN ?_
   have e:false=cE n d:=by
    cases d <;> first | rfl | (exfalso; simp [kQ] at c)
   rw [e]; exact k
  ·obtain ⟨ds,rfl⟩:∃ ds,d=.tuple ds:=by cases d <;> first | exact ⟨_,rfl⟩ | (exfalso; simp [kQ] at c)
   obtain ⟨a,xs,rfl,ha,hds⟩:=cF.mp hd
   have hl:=aQ hds
   refine ⟨_,rfl,a,xs,rfl,.inr ha,rfl,_,rfl,?_⟩
   refine dJ (λc2=>?_) (λc2=>?_)
   ·have e:false=cE n (.tuple ds):=by
     have e1:ds = []:=by
      have:(xs.length:Int)=0:=by simpa using c2
      exact Jt.mp (by omega)
     rw [e1]; rfl
    rw [e]; exact k
   ·have hne:ds≠[]:=by
     intro z
     apply c2
     rw [z] at hl
     simp [hl]
    have e0:cE n (.tuple ds)=eF n (-1) ds:=by
     show (!ds.isEmpty && eF n (-1) ds)=_
     cases ds with
     | nil=>exact absurd rfl hne
     | cons _ _=>rfl
    rw [e0] at k
    refine ⟨_,rfl,?_⟩
    refine ⟨_,rfl,a,rfl,⟨xs,ha⟩,qI (K:=K) (a:=a) (xs:=xs) (λi σ H2=>∃ (last:Int) (v:Option V),σ = [some (.int n),some (.ref a),some (.int last),v]/\H2=H/\eF n (-1) ds=eF n last (ds.drop i))
     ⟨-1,none,rfl,rfl,rfl⟩ (λi σ H2 _ ⟨_,_,_,e,_⟩=>by rw [e]; exact ha) ?_ ?_⟩
    ·rintro i y σ H2 hi ⟨last,v,rfl,rfl,hr2⟩
     obtain ⟨dy,hdy,hden⟩:=cT hds hi
     have hdrop:ds.drop i=dy::ds.drop (i+1):=by
      obtain ⟨hlt,e⟩:=Qd.mp hdy
      rw [Ww hlt,e]
     rw [hdrop] at hr2
     refine ⟨_,rfl,y,dy,rfl,hden,_,rfl,?_⟩
     refine dJ (λc3=>?_) (λc3=>?_)
     ·refine iN ?_
      have e:false=eF n (-1) ds:=by rw [hr2,sC]; simpa using c3
      rw [e]; exact k
     ·obtain ⟨j,rfl⟩:∃ j,dy=.int j:=by cases dy <;> first | exact ⟨_,rfl⟩ | (exfalso; simp [gW] at c3)
      obtain rfl:=eW.mp hden
      rw [iA] at hr2
      refine ⟨_,rfl,_,rfl,_,_,rfl,rfl,_,rfl,?_⟩
      refine dJ (λc4=>?_) (λc4=>?_)
      ·refine iN ?_
       have c4':j<=last:=of_decide_eq_true c4
       have e:false=eF n (-1) ds:=by rw [hr2,decide_eq_false (by omega:¬ last < j)]; rfl
       rw [e]; exact k
      ·have c4':¬ j<=last:=λz=>c4 (decide_eq_true z)
       refine ⟨_,rfl,_,rfl,_,_,rfl,rfl,_,rfl,?_⟩
       refine dJ (λc5=>?_) (λc5=>?_)
       ·have c5':n<=j:=of_decide_eq_true c5
        have e:false=eF n (-1) ds:=by rw [hr2,decide_eq_false (by omega:¬ j < n),Bool.and_false]; rfl
        rw [e]; exact k
       ·have c5':¬ n<=j:=λz=>c5 (decide_eq_true z)
        refine ⟨_,rfl,j,some (.int j),rfl,rfl,?_⟩
        rw [hr2,decide_eq_true (by omega:last < j),decide_eq_true (by omega:j < n)]
        rfl
    ·rintro σ H2 ⟨last,v,rfl,rfl,hr2⟩
     have e:true=eF n (-1) ds:=by
      rw [hr2,hl,List.drop_length]
      rfl
     show Q (.bl true) _
     rw [e]; exact k
theorem aFD {σ:St} {A B:Hp->Prop} (h:A H):vO σ H λb H3=>if b=true then A H3 else B H3:=by
 show if true=true then A H else B H
 exact iN h
theorem cB {σ:St} {A B:St->Hp->Prop} (h:A (σ.set i (some x)) H):cO i x σ H λσ2 H2=>vO σ2 H2 λb H3=>if b=true then A σ2 H3 else B σ2 H3:=by
 show if true=true then A (σ.set i (some x)) H else B (σ.set i (some x)) H
 exact iN h
def aBG (K:Rc):Sp:=λvs H Q _=>∃ x d,vs = [x]/\Den K H d x/\∀ H',aE H H'->Q (.bl (aS d)) H'
theorem wL:FnScope ["thing", "hands", "works"] ["thing"] (aH sA):=⟨rfl,rfl,rfl,by decide +kernel,rfl,by decide +kernel,by decide +kernel⟩
theorem aEb {fdH fdK:FuncData} (G:Fn K mg "is_book" sA ["thing"] f fd) (B:Bl mg) (W:Fn K mg "is_whole" nE ["thing"] fW fdW) (GH:Fn K mg "are_hands" rY ["thing"] fH fdH) (GK:Fn K mg "is_work" rZ ["hands", "thing"] fK fdK):FnOk P w K mg base CX0 3 f fd ["thing"] (aBG K):=by
 have OH:FnOk P w K mg base CX0 2 fH fdH ["thing"] (aBE K):=aD9 GH B W
 have OK:FnOk P w K mg base CX0 2 fK fdK ["hands", "thing"] (aBF K):=aEa GK B W
 obtain ⟨t12,h12⟩:=B.works
 refine G.fn.ok wL (λvs H Q E h=>?_) (λcdv A outer s H vs Q E hr h=>?_)
 ·obtain ⟨x,d,rfl,_⟩:=h
  rfl
 ·obtain ⟨x,d,rfl,hd,k⟩:=h
  refine ⟨_,aD (cG (PW.pt (kT (eQ (eE (aP eR rfl B.isinstance pX (aA (pv 0) (aA (iY (v:=.ty "tuple") rfl B.tuple cJ rfl) aC)))))
    (jD (bJ rB (aP bC rfl B.len fV (aA (pv 0) aC)) aG (bE _))))) (aI (aW eY)) bI)
   (aD (iM (pv 0) (fX rfl (aZ (aJ (i:=1) wL.nd rfl (Or.inr rfl)) (aZ (aJ (i:=2) wL.nd rfl (Or.inl rfl)) dP))))
   (aD (cG (eQ (eE (bB GH OH hr rfl (aA (pv 1) aC)))) (aI (aW eY)) bI)
   (aD (cG (PW.pt (kT (eQ (eE (aP eR rfl B.isinstance pX (aA (pv 2) (aA (iY (v:=.ty "tuple") rfl B.tuple cJ rfl) aC)))))
    (jD (bJ aBe (aP bC rfl B.len fV (aA (pv 2) aC)) (aA8 (v:=.int 12) rfl h12 ⟨t12,rfl⟩) (bE _))))) (aI (aW eY)) bI)
   (aI (aW (aP (iP rfl) rfl B.all rX (aA
    (bX (own:=["work"]) (fr:=[1]) (frn:=["hands"]) (bD (aH sA) ["thing", "hands", "works"] rfl rfl (by decide +kernel)) rfl (fY (pv 2))
     (λ_ _ _ _=>aJ (i:=0) (show (["work", "hands"]:List Str).Nodup by decide +kernel) rfl (Or.inl rfl)) (λ_ _ _ _=>dM) (λ_ _ _ _=>bB GK OK hr rfl (aA (pv 1) (aA (pv 0) aC)))) aC))))))),?_⟩
  refine ⟨_,rfl,x,kQ d,rfl,hd.kd,_,rfl,?_⟩
  refine dJ (λc=>?_) (λc=>?_)
  ·refine iN ?_
   have e:false=aS d:=by
    cases d <;> first | rfl | (exfalso; simp [kQ] at c)
   rw [e]; exact k H (aE.refl H)
  ·obtain ⟨ds,rfl⟩:∃ ds,d=.tuple ds:=by cases d <;> first | exact ⟨_,rfl⟩ | (exfalso; simp [kQ] at c)
   obtain ⟨a,xs,rfl,ha,hds⟩:=cF.mp hd
   have hl:=aQ hds
   refine ⟨_,rfl,a,xs,rfl,.inr ha,rfl,_,rfl,?_⟩
   refine dJ (λc2=>?_) (λc2=>?_)
   ·have e:false=aS (.tuple ds):=by
     match ds,hl,c2 with
     | [],_,_=>rfl
     | [_],_,_=>rfl
     | [_,_],hl,c2=>exfalso; rw [hl] at c2; simp at c2
     | _::_::_::_,_,_=>rfl
    rw [e]; exact k H (aE.refl H)
   ·obtain ⟨dh,dw,rfl⟩:∃ dh dw,ds = [dh,dw]:=by
     match ds,hl,c2 with
     | [],hl,c2=>exfalso; rw [hl] at c2; simp at c2
     | [_],hl,c2=>exfalso; rw [hl] at c2; simp at c2
     | [p,q],_,_=>exact ⟨p,q,rfl⟩
     | p::q::r::t,hl,c2=>exfalso; apply c2; rw [hl]; simp; omega
    obtain ⟨xh,r1,rfl,hh,h2⟩:=aN.mp hds
    obtain ⟨xw,r2,rfl,hw,h3⟩:=aN.mp h2
    obtain rfl:=aU.mp h3
    -- hands,works=thing
    refine ⟨_,rfl,a,_,rfl,ha,rfl,_,_,rfl,_,_,rfl,rfl,?_⟩
    -- are_hands(hands)
    refine ⟨_,rfl,xh,dh,rfl,hh,_,rfl,?_⟩
    refine dJ (λc3=>?_) (λc3=>?_)
    ·have e:false=aS (.tuple [dh,dw]):=by
      have c3':iT dh=false:=by simpa using c3
      cases dh with
      | int n =>
       cases dw with
       | tuple ws =>
        have c4:(decide (1<=n) && decide (n<=6))=false:=c3'
        show _=(decide (1<=n) && decide (n<=6) && decide (ws.length<=12) && ws.all (cE n))
        rw [c4]; rfl
       | _=>rfl
      | _=>rfl
     rw [e]; exact k H (aE.refl H)
    ·obtain ⟨n,rfl,hn⟩:∃ n,dh=.int n/\(decide (1<=n) && decide (n<=6))=true:=by
      cases dh <;> first | exact ⟨_,rfl,by simpa [iT] using c3⟩ | (exfalso; simp [iT] at c3)
     obtain rfl:=eW.mp hh
     refine ⟨_,rfl,xw,kQ dw,rfl,hw.kd,_,rfl,?_⟩
     refine dJ (λc5=>?_) (λc5=>?_)
     ·refine iN ?_
      have e:false=aS (.tuple [.int n,dw]):=by
       cases dw <;> first | rfl | (exfalso; simp [kQ] at c5)
      rw [e]; exact k H (aE.refl H)
     ·obtain ⟨ws,rfl⟩:∃ ws,dw=.tuple ws:=by cases dw <;> first | exact ⟨_,rfl⟩ | (exfalso; simp [kQ] at c5)
      obtain ⟨b,ys,rfl,hb,hws⟩:=cF.mp hw
      have hlw:=aQ hws
      have eB:aS (.tuple [.int n,.tuple ws])=(decide (ws.length<=12) && ws.all (cE n)):=by
       show (decide (1<=n) && decide (n<=6) && decide (ws.length<=12) && ws.all (cE n))=_
       rw [hn,Zs]
      rw [eB] at k
      refine ⟨_,rfl,b,ys,rfl,.inr hb,_,_,rfl,rfl,_,rfl,?_⟩
      refine dJ (λc6=>?_) (λc6=>?_)
      ·have c6':(12:Int) < ys.length:=of_decide_eq_true c6
       have e:false=(decide (ws.length<=12) && ws.all (cE n)):=by rw [decide_eq_false (by omega:¬ ws.length<=12)]; rfl
       rw [e]; exact k H (aE.refl H)
      ·have c6':¬ (12:Int) < ys.length:=λz=>c6 (decide_eq_true z)
       have e1:decide (ws.length<=12)=true:=decide_eq_true (by omega)
       rw [e1,Zs] at k
       refine ⟨_,rfl,b,rfl,⟨ys,hb⟩,gY (K:=K) (a:=b) (xs:=ys) (λσ=>∃ v,σ = [v,some (.int n)]) (λi zs H2=>H2=H/\zs=((ws.take i).map (cE n)).map V.bl) ?_ ⟨none,rfl⟩ ⟨rfl,rfl⟩ ?_ ?_ ?_ ?_⟩
       ·rw [Rf]; omega
       ·rintro i zs H2 ⟨_,rfl⟩
        rw [Qb,Qb,Qw]; omega
       ·rintro i zs H2 ⟨rfl,_⟩
        exact hb
       ·rintro i zs σ x H2 hx ⟨v,rfl⟩ ⟨rfl,rfl⟩ hz
        obtain ⟨dx,hdx,hden⟩:=cT hws hx
        refine cB ?_
        refine ⟨_,rfl,_,rfl,n,x,dx,rfl,hden,hz,⟨some x,rfl⟩,rfl,?_⟩
        rw [Jp,hdx]
        simp
       ·rintro zs H2 ⟨rfl,rfl⟩ p hp
        refine ⟨p,_,rfl,SqL.of aB,?_⟩
        have e2:((ws.take ys.length).map (cE n)).all id=ws.all (cE n):=by
         rw [hlw,Jj,Yy]
         rfl
        rw [e2]
        exact k _ (aE.new hp)
def bM (l:List Int):PyData:=.tuple (l.map .int)
def aT (n:Int) (ws:List (List Int)):PyData:=.tuple [.int n,.tuple (ws.map bM)]
def aV (hs:List Int):PyData:=.tuple (hs.map .int)
def gC:PyData->List Int->Bool
 | .int i,l=>l.any (·==i)
 | _,_=>false
def aX (ws:List (List Int)):PyData->Bool
 | .tuple hs=>decide (hs.length=ws.length) && (hs.zip ws).all λp=>gC p.1 p.2
 | _=>false
theorem gN (l:List Int):(l.map V.int).all nQ=true:=by
 rw [Yy]
 exact Jr.mpr λ_ _=>rfl
theorem wM (i:Int) (l:List Int):inV (.int i) (l.map V.int)=l.any (·==i):=by
 unfold inV
 rw [Qan]
 rfl
theorem cU {n:Int} (h:Den K H (aT n ws) x):∃ a b ys,x=.ref a/\SqT K H a [.int n,.ref b]/\SqT K H b ys/\bG K H (ws.map bM) ys:=by
 obtain ⟨a,xs,rfl,ha,hds⟩:=cF.mp h
 obtain ⟨xh,r1,rfl,hh,h2⟩:=aN.mp hds
 obtain ⟨xw,r2,rfl,hw,h3⟩:=aN.mp h2
 obtain rfl:=aU.mp h3
 obtain rfl:=eW.mp hh
 obtain ⟨b,ys,rfl,hb,hys⟩:=cF.mp hw
 exact ⟨a,b,ys,rfl,ha,hb,hys⟩
theorem bF {n:Int} (h:aS (aT n ws)=true):1<=n/\n<=6/\ws.length<=12/\∀ l∈ws,cE n (bM l)=true:=by
 have h':(decide (1<=n) && decide (n<=6) && decide ((ws.map bM).length<=12) && (ws.map bM).all (cE n))=true:=h
 simp only [Ji,decide_eq_true_eq,Qb,Jr] at h'
 exact ⟨h'.1.1.1,h'.1.1.2,h'.1.2,λl hl=>h'.2 _ (Qv.mpr ⟨l,hl,rfl⟩)⟩
theorem qT {k:Nat} {t:TGs} (hK:X.K=K) (hc:X.calm=true) (h:PGs X es t) (hn:(assignEach es X.env).length=n:=by rfl) (hst:(assignEach es X.env).findIdx? (·.1)=none:=by rfl):PG X (.Tuple es k pos) (aHr K n t):=by
 subst hK
 exact fX hc h hn hst
theorem kA (hK:X.K=K):OpR X (compareOp .In) (rIn K false):=by subst hK; exact uN
theorem dU (hK:X.K=K):IxR X (aHB K):=by subst hK; exact bT
theorem sD (hK:X.K=K):dF X (.type "tuple") (λxs H Q=>∃ p ys,xs = [.ref p]/\((SqL K H p ys/\∀ l,H l=none->Q (.ref l) (upd H l (.tup ys)))∨(SqT K H p ys/\Q (.ref p) H))):=by subst hK; exact bQ
theorem aAK (hK:X.K=K):MtR X "tuple.count" (λx vs H Q=>∃ (a:Addr) (ns:List Int) (n:Int),x=.ref a/\vs = [.int n]/\SqT K H a (ns.map V.int)/\Q (.int (ns.count n:Nat)) H):=by subst hK; exact aCm
structure Pr (K:Rc) (mg:Str->Option Value) (fW fH fK fB fNB fD fND fL:Addr) (dW dH dK dB dNB dD dND dL:FuncData):Prop where
 W:Fn K mg "is_whole" nE ["thing"] fW dW
 H:Fn K mg "are_hands" rY ["thing"] fH dH
 Kw:Fn K mg "is_work" rZ ["hands", "thing"] fK dK
 B:Fn K mg "is_book" sA ["thing"] fB dB
 NB:Fn K mg "need_book" aAF ["book"] fNB dNB
 D:Fn K mg "is_deal" wH ["book", "thing"] fD dD
 ND:Fn K mg "need_deal" aAG ["book", "deal"] fND dND
 C:∃ f d,Fn K mg "counted" lO ["hands", "deal"] f d
 L:Fn K mg "loads" aAH ["book", "deal"] fL dL
def wN (K:Rc):Sp:=λvs H Q _=>∃ x d,vs = [x]/\Den K H d x/\aS d=true/\∀ H',aE H H'->Q .non H'
theorem aFE:FnScope ["book"] ["book"] (aH aAF):=⟨rfl,rfl,rfl,by decide +kernel,rfl,by decide +kernel,by decide +kernel⟩
theorem yZ (B:Bl mg) (R:Pr K mg fW fH fK fB fNB fD fND fL dW dH dK dB dNB dD dND dL):FnOk P w K mg base CX0 4 fNB dNB ["book"] (wN K):=by
 have OB:FnOk P w K mg base CX0 3 fB dB ["thing"] (aBG K):=aEb R.B B R.W R.H R.Kw
 refine R.NB.fn.ok aFE (λvs H Q E h=>?_) (λcdv A outer s H vs Q E hr h=>?_)
 ·obtain ⟨x,d,rfl,_⟩:=h
  rfl
 ·obtain ⟨x,d,rfl,hd,hb,k⟩:=h
  refine ⟨_,aI (cG (eQ (eE (bB R.B OB hr rfl (aA (pv 0) aC)))) oW bI),?_⟩
  refine ⟨_,rfl,x,d,rfl,hd,λH' hs=>⟨_,rfl,?_⟩⟩
  rw [hb]
  refine gF ?_
  exact k H' hs
def aBH (K:Rc):Sp:=λvs H Q _=>∃ x y n ws d,vs = [x,y]/\Den K H (aT n ws) x/\aS (aT n ws)=true/\Den K H d y/\∀ H',aE H H'->Q (.bl (aX ws d)) H'
theorem aBI:FnScope ["book", "thing", "works"] ["book", "thing"] (aH wH):=⟨rfl,rfl,rfl,by decide +kernel,rfl,by decide +kernel,by decide +kernel⟩
theorem aEc (B:Bl mg) (R:Pr K mg fW fH fK fB fNB fD fND fL dW dH dK dB dNB dD dND dL):FnOk P w K mg base CX0 5 fD dD ["book", "thing"] (aBH K):=by
 have ON:FnOk P w K mg base CX0 4 fNB dNB ["book"] (wN K):=yZ B R
 have OW:FnOk P w K mg base CX0 1 fW dW ["thing"] (oA K):=oB R.W B
 refine R.D.fn.ok aBI (λvs H Q E h=>?_) (λcdv A outer s H vs Q E hr h=>?_)
 ·obtain ⟨x,y,n,ws,d,rfl,_⟩:=h
  rfl
 ·obtain ⟨x,y,n,ws,d,rfl,hx,hb,hd,k⟩:=h
  have hr1:Room 1 _:=hr.mono (by decide)
  refine ⟨_,aD (eT (bB R.NB ON hr rfl (aA (pv 0) aC)))
   (aD (aL (i:=2) aBI.nd rfl (Or.inl rfl) (bA bT (pv 0) aG (λ_ _=>rfl)))
   (aD (cG (PW.pt (kT (eQ (eE (aP eR rfl B.isinstance pX (aA (pv 1) (aA (iY (v:=.ty "tuple") rfl B.tuple cJ rfl) aC)))))
    (jD (bJ rB (aP bC rfl B.len fV (aA (pv 1) aC)) (aP bC rfl B.len fV (aA (pv 2) aC)) (bE _))))) (aI (aW eY)) bI)
   (aI (aW (aP (iP rfl) rfl B.all rX (aA
    (bX (own:=["hand", "able"]) (fr:=[]) (frn:=[]) (bD (aH wH) ["book", "thing", "works"] rfl rfl (by decide +kernel)) rfl (rN .t .t rfl B.zip (aA (pv 1) (aA (pv 2) aC)))
     (λ_ _ _ _=>qT (K:=K) (n:=2) rfl rfl (aZ (aJ (i:=0) (show (["hand", "able"]:List Str).Nodup by decide +kernel) rfl (Or.inl rfl)) (aZ (aJ (i:=1) (show (["hand", "able"]:List Str).Nodup by decide +kernel) rfl (Or.inl rfl)) dP)))
     (λ_ _ _ _=>dM) (λ_ _ _ _=>kW (bB R.W OW hr1 rfl (aA (pv 0) aC)) (kU (cP (kA (K:=K) rfl) (pv 0) (pv 1) (by with_unfolding_all rfl))))) aC)))))),?_⟩
  refine ⟨_,rfl,x,aT n ws,rfl,hx,hb,λH1 s1=>?_⟩
  have hx1:=s1.den _ _ hx
  have hd1:=s1.den _ _ hd
  obtain ⟨a,b,ys,rfl,ha,hb2,hys⟩:=cU hx1
  have hlw:=aQ hys
  rw [Qb] at hlw
  refine ⟨_,rfl,a,_,1,.ref b,rfl,rfl,ha,rfl,?_⟩
  refine ⟨_,rfl,y,kQ d,rfl,hd1.kd,_,rfl,?_⟩
  refine dJ (λc=>?_) (λc=>?_)
  ·refine iN ?_
   have e:false=aX ws d:=by
    cases d <;> first | rfl | (exfalso; simp [kQ] at c)
   rw [e]; exact k H1 s1
  ·obtain ⟨hs,rfl⟩:∃ hs,d=.tuple hs:=by cases d <;> first | exact ⟨_,rfl⟩ | (exfalso; simp [kQ] at c)
   obtain ⟨a2,xs,rfl,ha2,hxs⟩:=cF.mp hd1
   have hlx:=aQ hxs
   refine ⟨_,rfl,a2,xs,rfl,.inr ha2,_,rfl,b,ys,rfl,.inr hb2,rfl,_,rfl,?_⟩
   refine dJ (λc2=>?_) (λc2=>?_)
   ·have e:false=aX ws (.tuple hs):=by
     show _=(decide (hs.length=ws.length) && (hs.zip ws).all λp=>gC p.1 p.2)
     rw [decide_eq_false]
     ·rfl
     ·intro z
      have:(V.int (xs.length:Int)=V.int (ys.length:Int)):=by rw [hlx,hlw,z]
      simp [this] at c2
    rw [e]; exact k H1 s1
   ·have heq:xs.length=ys.length:=by
     have:V.int (xs.length:Int)=V.int (ys.length:Int):=by simpa using c2
     injection this with this
     omega
    have e0:aX ws (.tuple hs)=(hs.zip ws).all λp=>gC p.1 p.2:=by
     show (decide (hs.length=ws.length) && _)=_
     rw [decide_eq_true (by omega:hs.length=ws.length),Zs]
    rw [e0] at k
    obtain ⟨_,_,h12,_⟩:=bF hb
    refine ⟨_,rfl,_,rfl,a2,b,xs,ys,rfl,ha2,hb2,xY (K:=K) (k1:=.t) (k2:=.t) (a:=a2) (b:=b) (xs:=xs) (ys:=ys) (λσ=>∃ u v,σ = [u,v]) (λi zs H2=>aE H1 H2/\zs=(((hs.zip ws).take i).map λp=>gC p.1 p.2).map V.bl) ?_ heq ⟨none,none,rfl⟩ ⟨aE.refl H1,rfl⟩ ?_ ?_ ?_ ?_⟩
    ·rw [Rf]; omega
    ·rintro i zs H2 ⟨_,rfl⟩
     rw [Qb,Qb,Qw]; omega
    ·rintro i zs H2 ⟨s2,_⟩
     exact ⟨s2.seqT ha2,s2.seqT hb2⟩
    ·rintro i zs σ u v p H2 hu hv ⟨u0,v0,rfl⟩ ⟨s2,rfl⟩ hp hz
     obtain ⟨du,hdu,denu⟩:=cT hxs hu
     obtain ⟨dv,hdv,denv⟩:=cT hys hv
     rw [Qe] at hdv
     obtain ⟨l,hl,rfl⟩:∃ l,ws[i]?=some l/\bM l=dv:=by
      cases q:ws[i]? with
      | none=>rw [q] at hdv; cases hdv
      | some l=>rw [q] at hdv; exact ⟨l,rfl,Option.some.inj hdv⟩
     have s3:aE H1 (upd H2 p (.tup [u,v])):=s2.trans (aE.new hp)
     have hzip:(hs.zip ws)[i]?=some (du,l):=by rw [Js]; exact ⟨hdu,hl⟩
     have enext:(((hs.zip ws).take (i+1)).map λp=>gC p.1 p.2).map V.bl=(((hs.zip ws).take i).map λp=>gC p.1 p.2).map V.bl++[V.bl (gC du l)]:=by
      rw [Jp,hzip]; simp
     refine ⟨p,_,rfl,SqT.of aB,rfl,_,_,rfl,_,_,rfl,rfl,?_⟩
     refine aFD ?_
     refine ⟨_,rfl,u,du,rfl,s3.den _ _ denu,_,rfl,?_⟩
     refine dJ (λc3=>?_) (λc3=>?_)
     ·obtain ⟨j,rfl⟩:∃ j,du=.int j:=by cases du <;> first | exact ⟨_,rfl⟩ | (exfalso; simp [gW] at c3)
      obtain rfl:=eW.mp denu
      obtain ⟨av,rfl,hav⟩:=aO.mp denv
      refine ⟨_,rfl,_,rfl,av,_,rfl,.inr (s3.seqT hav),rfl,gN l,hz,⟨_,_,rfl⟩,s3,?_⟩
      rw [enext]
      show _++[V.bl (inV (.int j) (l.map V.int))]=_
      rw [wM]
      rfl
     ·have e:gC du l=false:=by cases du <;> first | rfl | (exfalso; simp [gW] at c3)
      refine ⟨hz,⟨_,_,rfl⟩,s3,?_⟩
      rw [enext,e]
    ·rintro zs H2 ⟨s2,rfl⟩ p hp
     refine ⟨p,_,rfl,SqL.of aB,?_⟩
     have e2:(((hs.zip ws).take xs.length).map λp=>gC p.1 p.2).all id=(hs.zip ws).all λp=>gC p.1 p.2:=by
      rw [Jm (by rw [List.length_zip]; omega),Yy]
      rfl
     rw [e2]
     exact k _ (s1.trans (s2.trans (aE.new hp)))
def aM (n:Int) (hs:List Int):List Int:=(bR n.toNat).map λh=>((hs.count h:Nat):Int)
theorem sE (h:i < n):(bR n)[i]?=some (i:Int):=by
 unfold bR
 rw [Qe,Xk h]
 rfl
theorem cK (n:Nat):(bR n).length=n:=by unfold bR; rw [Qb,Jz]
theorem aG3 {o:Expr} {t:TA} {id:String} {r:V->List V->Hp->VK->Prop} (hK:X.K=K) (pa:PlainAttrs T) (slot:Slot T name id) (hty:typeOf (.builtin id)=pure (.type "method_descriptor")) (hm:MtR X id r) (ho:PE X o to) (ha:PA X (e::es) t) (hbase:attributeBase o name X.env (eval o X.env)=eval o X.env:=by rfl) (hfew:((backTo cpos (starEach (e::es) X.env)).all (λx=>!x.1) && (backToKw cpos (keywordEach [] X.env)).all (λx=>x.1.isSome)
   && decide ((e::es).length+([]:List Keyword).length+(if ([]:List Keyword).isEmpty then 0 else 1) < 30))=true:=by rfl) (hline:(apos.endLine==cpos.line)=true:=by rfl) (hs:starEach (e::es) X.env=(false,eval e X.env)::starEach es X.env:=by rfl) (hplain:(backTo cpos (starEach es X.env)).any (·.1)=false:=by rfl) :
  PE X (.Call (.Attribute o name apos) (e::es) [] cpos) (tBM K T r to t):=by
 subst hK
 exact kY pa slot hty hm ho ha hbase hfew hline hs hplain
def fI (K:Rc) (H:Hp) (x y:V) (n:Int) (ws:List (List Int)) (hs:List Int):Prop:=Den K H (aT n ws) x/\aS (aT n ws)=true/\Den K H (aV hs) y/\aX ws (aV hs)=true
theorem fI.same {n:Int} (g:fI K H x y n ws hs) (e:aE H H'):fI K H' x y n ws hs:=⟨e.den _ _ g.1,g.2.1,e.den _ _ g.2.2.1,g.2.2.2⟩
theorem fI.len {n:Int} (g:fI K H x y n ws hs):hs.length<=12/\1<=n/\n<=6:=by
 obtain ⟨h1,h2,h3,_⟩:=bF g.2.1
 have h:(decide ((hs.map PyData.int).length=ws.length) && ((hs.map PyData.int).zip ws).all λp=>gC p.1 p.2)=true:=g.2.2.2
 simp only [Ji,decide_eq_true_eq,Qb] at h
 omega
def wO (K:Rc):Sp:=λvs H Q _=>∃ x y n ws hs,vs = [x,y]/\fI K H x y n ws hs/\∀ H',aE H H'->Q .non H'
theorem aFF:FnScope ["book", "deal"] ["book", "deal"] (aH aAG):=⟨rfl,rfl,rfl,by decide +kernel,rfl,by decide +kernel,by decide +kernel⟩
theorem zC (B:Bl mg) (R:Pr K mg fW fH fK fB fNB fD fND fL dW dH dK dB dNB dD dND dL):FnOk P w K mg base CX0 6 fND dND ["book", "deal"] (wO K):=by
 have OD:FnOk P w K mg base CX0 5 fD dD ["book", "thing"] (aBH K):=aEc B R
 refine R.ND.fn.ok aFF (λvs H Q E h=>?_) (λcdv A outer s H vs Q E hr h=>?_)
 ·obtain ⟨x,y,n,ws,hs,rfl,_⟩:=h
  rfl
 ·obtain ⟨x,y,n,ws,hs,rfl,⟨g1,g2,g3,g4⟩,k⟩:=h
  refine ⟨_,aI (cG (eQ (eE (bB R.D OD hr rfl (aA (pv 0) (aA (pv 1) aC))))) oW bI),?_⟩
  refine ⟨_,rfl,_,rfl,x,y,n,ws,aV hs,rfl,g1,g2,g3,λH' hs=>⟨_,rfl,?_⟩⟩
  rw [g4]
  refine gF ?_
  exact k H' hs
def uW (K:Rc):Sp:=λvs H Q _=>∃ (n:Int) (b:Addr) (hs:List Int),vs = [.int n,.ref b]/\SqT K H b (hs.map V.int)/\0<=n/\n<=6/\∀ p H',aE H H'->H' p=some (.tup ((aM n hs).map V.int))->Q (.ref p) H'
theorem aCS:FnScope ["hands", "deal"] ["hands", "deal"] (aH lO):=⟨rfl,rfl,rfl,by decide +kernel,rfl,by decide +kernel,by decide +kernel⟩
theorem aAL (G:Fn K mg "counted" lO ["hands", "deal"] f fd) (B:Bl mg):FnOk P w K mg base CX0 1 f fd ["hands", "deal"] (uW K):=by
 refine G.fn.ok aCS (λvs H Q E h=>?_) (λcdv A outer s H vs Q E hr h=>?_)
 ·obtain ⟨n,b,hs,rfl,_⟩:=h
  rfl
 ·obtain ⟨n,c,hs,rfl,hc,hn1,hn6,k⟩:=h
  refine ⟨_,aI (aW (bK bQ rfl B.tuple cJ (aA
    (bX (own:=["hand"]) (fr:=[1]) (frn:=["deal"]) (bD (aH lO) ["hands", "deal"] rfl rfl (by decide +kernel)) rfl (cC rfl B.range (aA (pv 0) aC))
     (λ_ _ _ _=>aJ (i:=0) (show (["hand", "deal"]:List Str).Nodup by decide +kernel) rfl (Or.inl rfl)) (λ_ _ _ _=>dM)
     (λ_ _ _ _=>aG3 (K:=K) rfl PySem.F.plainAttrs_tuple Ma PySem.F.type_tuple_count (aAK (K:=K) rfl) (pv 1) (aA (pv 0) aC))) aC))),?_⟩
  refine ⟨_,rfl,n,rfl,by omega,by omega,fP (lo:=0) (n:=n.toNat) (λσ=>∃ v,σ = [v,some (.ref c)]) (λi zs H2=>H2=H/\zs=(((bR n.toNat).take i).map λh=>((hs.count h:Nat):Int)).map V.int) ?_ ⟨none,rfl⟩ ⟨rfl,rfl⟩ ?_ ?_ ?_⟩
  ·rw [Rf]; omega
  ·rintro i zs H2 ⟨_,rfl⟩
   rw [Qb,Qb,Qw]; omega
  ·rintro i zs σ H2 hi ⟨v,rfl⟩ ⟨rfl,rfl⟩ hz
   refine cB ?_
   refine ⟨_,rfl,.inr (.inl ⟨rfl,_,hc⟩),_,rfl,c,hs,_,rfl,rfl,hc,hz,⟨_,rfl⟩,rfl,?_⟩
   rw [Jp,sE hi]
   simp
  ·rintro zs H2 ⟨rfl,rfl⟩ p hp
   refine ⟨p,_,rfl,.inl ⟨SqL.of aB,λl hl=>?_⟩⟩
   refine k l _ ((aE.new hp).trans (aE.new hl)) ?_
   rw [aB,Jm (by rw [cK]; exact Qg _)]
   rfl
def qU (K:Rc):Sp:=λvs H Q _=>∃ x y n ws hs,vs = [x,y]/\fI K H x y n ws hs/\∀ p H',aE H H'->H' p=some (.tup ((aM n hs).map V.int))->Q (.ref p) H'
theorem aFG:FnScope ["book", "deal"] ["book", "deal"] (aH aAH):=⟨rfl,rfl,rfl,by decide +kernel,rfl,by decide +kernel,by decide +kernel⟩
theorem sF (B:Bl mg) (R:Pr K mg fW fH fK fB fNB fD fND fL dW dH dK dB dNB dD dND dL):FnOk P w K mg base CX0 7 fL dL ["book", "deal"] (qU K):=by
 have ON:FnOk P w K mg base CX0 6 fND dND ["book", "deal"] (wO K):=zC B R
 obtain ⟨fC,dC,GC⟩:=R.C
 have OC:FnOk P w K mg base CX0 1 fC dC ["hands", "deal"] (uW K):=aAL GC B
 refine R.L.fn.ok aFG (λvs H Q E h=>?_) (λcdv A outer s H vs Q E hr h=>?_)
 ·obtain ⟨x,y,n,ws,hs,rfl,_⟩:=h
  rfl
 ·obtain ⟨x,y,n,ws,hs,rfl,g,k⟩:=h
  have r1:Room 1 _:=hr.mono (by decide)
  refine ⟨_,aD (eT (bB R.ND ON hr rfl (aA (pv 0) (aA (pv 1) aC))))
   (aI (aW (bB GC OC r1 rfl (aA (bA bT (pv 0) aG (λ_ _=>rfl)) (aA (pv 1) aC))))),?_⟩
  refine ⟨_,rfl,_,rfl,x,y,n,ws,hs,rfl,g,λH1 s1=>?_⟩
  have g1:=g.same s1
  obtain ⟨hl,hn1,hn6⟩:=g.len
  obtain ⟨a,b,ys,rfl,ha,hb2,hys⟩:=cU g1.1
  obtain ⟨c,rfl,hc⟩:=aO.mp g1.2.2.1
  refine ⟨_,rfl,a,_,0,.int n,rfl,rfl,ha,rfl,_,rfl,n,c,hs,rfl,hc,by omega,hn6,λp H2 s2 hp=>?_⟩
  exact k p H2 (s1.trans s2) hp
theorem tZ (n:Int) (hs:List Int):(aM n hs).length=n.toNat:=by unfold aM; rw [Qb,cK]
def But (t:Addr) (H H':Hp):Prop:=∀ b o,b≠t->H b=some o->H' b=some o
theorem But.refl (t:Addr) (H:Hp):But t H H:=λ_ _ _ h=>h
theorem But.trans {t:Addr} (a:But t H H1) (b:But t H1 H2):But t H H2:=λc o n h=>b c o n (a c o n h)
theorem But.of {t:Addr} (a:aE H H'):But t H H':=λc o _ h=>a c o h
theorem But.at {t:Addr} {u:HO}:But t H (upd H t u):=λc o n h=>by rw [aF n]; exact h
theorem But.free {t:Addr} (e:But t H H') {l:Addr} (h:H' l=none) (n:l≠t):H l=none:=by
 cases q:H l with
 | none=>rfl
 | some o=>rw [e l o n q] at h; cases h
theorem But.rdL {t:Addr} (e:But t H H') (n:a≠t) (h:Rd H a (.lst xs)):Rd H' a (.lst xs):=by
 rcases h with h | ⟨o,h⟩
 ·exact .inl (e a _ n h)
 ·exact .inr ⟨o,e a _ n h⟩
section
variable {t:Addr}
theorem But.seqT (e:But t H H') (ht:H t=some (.lst ys)) (h:SqT K H a xs):SqT K H' a xs:=by
 rcases h with (h | ⟨o,h⟩) | h
 ·exact .inl (.inl (e a _ (λz=>by rw [z,ht] at h; cases h) h))
 ·exact .inl (.inr ⟨o,e a _ (λz=>by rw [z,ht] at h; cases h) h⟩)
 ·exact .inr h
theorem But.seqL (e:But t H H') (n:a≠t) (h:SqL K H a xs):SqL K H' a xs:=by
 rcases h with h | h
 ·exact .inl (e.rdL n h)
 ·exact .inr h
mutual
def fQ:PyData->Bool
 | .dict _=>false
 | .list _=>false
 | .tuple ds=>gX ds
 | _=>true
def gX:List PyData->Bool
 | []=>true
 | d::ds=>fQ d && gX ds
end
mutual
theorem But.den (e:But t H H') (ht:H t=some (.lst ys)):∀ (d:PyData) (v:V),fQ d=true->Den K H d v->Den K H' d v
 | .none,v,_,h=>by unfold Den at h ⊢; exact h
 | .bool b,v,_,h=>by unfold Den at h ⊢; exact h
 | .int i,v,_,h=>by unfold Den at h ⊢; exact h
 | .str x,v,_,h=>by unfold Den at h ⊢; exact h
 | .list ds,v,n,h=>by unfold fQ at n; cases n
 | .tuple ds,v,n,h=>by unfold fQ at n; unfold Den at h ⊢; obtain ⟨a,xs,h1,h2,h3⟩:=h; exact ⟨a,xs,h1,e.seqT ht h2,But.denAll e ht ds xs n h3⟩
 | .dict kvs,v,n,h=>by unfold fQ at n; cases n
theorem But.denAll (e:But t H H') (ht:H t=some (.lst ys)):∀ (ds:List PyData) (xs:List V),gX ds=true->bG K H ds xs->bG K H' ds xs
 | [],xs,_,h=>by unfold bG at h ⊢; exact h
 | d::ds,xs,n,h=>by
  unfold gX at n; rw [Ji] at n
  unfold bG at h ⊢; obtain ⟨x,r,h1,h2,h3⟩:=h; exact ⟨x,r,h1,But.den e ht d x n.1 h2,But.denAll e ht ds r n.2 h3⟩
end
end
theorem cM (f:α->PyData) (h:∀ x,fQ (f x)=true):∀ l:List α,gX (l.map f)=true
 | []=>by unfold List.map gX; rfl
 | x::r=>by rw [Qz]; unfold gX; rw [h x,cM f h r]; rfl
theorem sG (i:Int):fQ (.int i)=true:=by unfold fQ; rfl
theorem cN (l:List Int):fQ (bM l)=true:=by unfold bM fQ; exact cM _ sG l
theorem zD (l:List Int):fQ (aV l)=true:=cN l
theorem lR (n:Int) (ws:List (List Int)):fQ (aT n ws)=true:=by
 unfold aT fQ gX
 rw [sG]
 unfold gX fQ
 rw [cM _ cN ws]
 unfold gX
 rfl
def gG (K:Rc) (H:Hp) (t a:Addr) (ns:List Int):Prop:=(∃ p q:Int,0<=p/\H t=some (.lst [.ref a,.int p,.int q]))/\SqL K H a (ns.map V.int)
theorem gG.same {t:Addr} (h:gG K H t a ns) (e:aE H H'):gG K H' t a ns:=by
 obtain ⟨⟨p,q,h1,h2⟩,h3⟩:=h
 exact ⟨⟨p,q,h1,e t _ h2⟩,e.seqL h3⟩
theorem gG.den {t:Addr} (h:gG K H t a ns) (e:But t H H') {d:PyData} (n:fQ d=true) (hd:Den K H d v):Den K H' d v:=by
 obtain ⟨⟨p,q,h1,h2⟩,h3⟩:=h
 exact e.den h2 d v n hd
theorem gG.seqT {t:Addr} (h:gG K H t a ns) (e:But t H H') (hd:SqT K H b xs):SqT K H' b xs:=by
 obtain ⟨⟨p,q,h1,h2⟩,h3⟩:=h
 exact e.seqT h2 hd
theorem gG.ne {t:Addr} (h:gG K H t a ns) (hb:H b=none):b≠t:=by
 obtain ⟨⟨p,q,h1,h2⟩,h3⟩:=h
 intro z
 rw [z,h2] at hb
 cases hb
theorem aAM {r:List V} (h:ns.map V.int=.ref a::r):False:=by
 cases ns with
 | nil=>cases h
 | cons _ _=>rw [Qz] at h; cases h
theorem fJ {t:Addr} {p q:Int} {u:HO} (h2:H t=some (.lst [.ref a,.int p,.int q])) (h:SqL K H a (ns.map V.int)):SqL K (upd H t u) a (ns.map V.int):=by
 rcases h with (h | ⟨o,h⟩) | h
 ·have n:a≠t:=λz=>by
   rw [z,h2] at h
   injection h with h
   injection h with h
   exact aAM h.symm
  exact .inl (.inl (by rw [aF n]; exact h))
 ·have n:a≠t:=λz=>by
   rw [z,h2] at h
   cases h
  exact .inl (.inr ⟨o,by rw [aF n]; exact h⟩)
 ·exact .inr h
theorem cS (ns:List Int):eO (.list (ns.map .int))=true:=by
 unfold eO
 induction ns with
 | nil=>unfold List.map gU; rfl
 | cons n r ih=>rw [Qz]; unfold gU; rw [ih]; unfold eO; rfl
theorem kB (f:α->PyData) (h:∀ x,(f x).canLay0=true):∀ l:List α,PyData.canLayAll0 (l.map f)=true
 | []=>by unfold List.map PyData.canLayAll0; rfl
 | x::r=>by rw [Qz]; unfold PyData.canLayAll0; rw [h x,kB f h r]; rfl
theorem mF {k:Nat} (f:α->PyData) (h:∀ x,(f x).depth<=k):∀ l:List α,PyData.depthAll (l.map f)<=k
 | []=>by unfold List.map PyData.depthAll; exact Jn _
 | x::r=>by rw [Qz]; unfold PyData.depthAll; exact Nat.max_le.mpr ⟨h x,mF f h r⟩
theorem sH (i:Int):(PyData.int i).canLay0=true:=by unfold PyData.canLay0; rfl
theorem uX (i:Int):(PyData.int i).depth<=0:=by unfold PyData.depth; exact Qg _
theorem wP (ns:List Int):(PyData.list (ns.map .int)).canLay0=true:=by unfold PyData.canLay0; exact kB _ sH ns
theorem oC (ns:List Int):(PyData.tuple (ns.map .int)).canLay0=true:=by unfold PyData.canLay0; exact kB _ sH ns
theorem zE (ns:List Int):(PyData.list (ns.map .int)).depth<=1:=by unfold PyData.depth; exact Yf (mF _ uX ns)
theorem pY (ns:List Int):(PyData.tuple (ns.map .int)).depth<=1:=by unfold PyData.depth; exact Yf (mF _ uX ns)
theorem pI {d:PyData} (h1:d.canLay0=true) (h2:d.depth<=64):SeqAt.shaped d=true:=by
 unfold SeqAt.shaped
 rw [h1,decide_eq_true h2]
 rfl
theorem dX (ns:List Int):SeqAt.shaped (.list (ns.map .int))=true:=pI (wP ns) (Jl (zE ns) (by decide))
theorem oE (ns:List Int):SeqAt.shaped (.tuple (ns.map .int))=true:=pI (oC ns) (Jl (pY ns) (by decide))
theorem kC (ns:List Int):eO (.tuple (ns.map .int))=true:=by
 have h:=cS ns
 unfold eO at h ⊢
 exact h
def aEd:Sp:=λvs H Q _=>∃ c a:Int,vs = [.int c,.int a]/\∀ r,Q (.int r) H
theorem wQ:FnScope ["cell", "at", "first", "second", "third"] ["cell", "at"] (aH aBB):=⟨rfl,rfl,rfl,by decide +kernel,rfl,by decide +kernel,by decide +kernel⟩
theorem aFH (G:Fn K mg "_law_b_stirred" aBB ["cell", "at"] f fd):FnOk P w K mg base CX0 1 f fd ["cell", "at"] aEd:=by
 refine G.fn.ok wQ (λvs H Q E h=>?_) (λcdv A outer s H vs Q E hr h=>?_)
 ·obtain ⟨c,a,rfl,_⟩:=h
  rfl
 ·obtain ⟨c,a,rfl,k⟩:=h
  refine ⟨_,aD (cG (bJ aBf (pv 0) (aY aGF aG aG) (bE _)) (aI (aW (pv 0))) bI)
   (aD (aL (i:=2) wQ.nd rfl (Or.inl rfl) (aY jE (aY bY (aY bY (aY hX (aY jE (pv 0) aG) aG) (aY hX (pv 1) aG)) aG) aG))
   (aD (aL (i:=3) wQ.nd rfl (Or.inl rfl) (aY jE (aY bY (aY bY (aY hX (pv 2) (pv 2)) (aY hX aG (pv 1))) aG) aG))
   (aD (aL (i:=4) wQ.nd rfl (Or.inl rfl) (aY jE (aY bY (aY bY (aY hX (pv 3) (pv 3)) (aY hX aG (pv 2))) (pv 1)) aG))
   (aI (aW (aY bY (aY hX (pv 3) aG) (pv 4))))))),?_⟩
  refine ⟨_,rfl,_,_,rfl,rfl,⟨by decide,by decide,by decide⟩,_,_,rfl,rfl,_,rfl,?_⟩
  refine dJ (λc1=>?_) (λc1=>?_)
  ·exact ⟨_,rfl,k _⟩
  ·refine ⟨_,rfl,_,_,rfl,rfl,(show (0:Int) < _ by decide),_,_,rfl,rfl,.inr ⟨by decide,by decide⟩,_,rfl,_,_,rfl,rfl,.inr ⟨by decide,by decide⟩,_,_,rfl,rfl,_,_,rfl,rfl,_,_,rfl,rfl,(show (0:Int) < _ by decide),?_⟩
   generalize hf:((c % 2147483629*43591+a*6661+353) % 2147483587:Int)=f1
   have b1:0<=f1/\f1 < 2147483587:=by rw [<- hf]; exact ⟨Xo _ (by decide),Xh _ (by decide)⟩
   refine ⟨_,rfl,_,rfl,_,_,rfl,rfl,.inl ⟨by omega,by omega⟩,_,rfl,_,_,rfl,rfl,.inl ⟨by decide,by decide⟩,_,_,rfl,rfl,_,_,rfl,rfl,_,_,rfl,rfl,(show (0:Int) < _ by decide),?_⟩
   generalize hg:((f1*f1+727*a+89) % 2147483579:Int)=f2
   have b2:0<=f2/\f2 < 2147483579:=by rw [<- hg]; exact ⟨Xo _ (by decide),Xh _ (by decide)⟩
   refine ⟨_,rfl,_,rfl,_,_,rfl,rfl,.inl ⟨by omega,by omega⟩,_,rfl,_,_,rfl,rfl,.inl ⟨by decide,by decide⟩,_,_,rfl,rfl,_,rfl,_,_,rfl,rfl,_,_,rfl,rfl,(show (0:Int) < _ by decide),?_⟩
   exact ⟨_,rfl,_,_,rfl,rfl,.inr ⟨by decide,by decide⟩,_,rfl,_,_,rfl,rfl,k _⟩
def mG (K:Rc):Sp:=λvs H Q _=>∃ (t a:Addr) (ns:List Int) (m:Int),vs = [.ref t,.int m]/\gG K H t a ns/\0 < m/\m < 1267650600228229401496703205376/\∀ r H',0<=r->r < m->But t H H'->gG K H' t a ns->Q (.int r) H'
theorem _root_.L2.Room.u64 {k:Nat} (r:Room k A):A.units+64 < cLine:=by have:=r.un; omega
theorem mH:FnScope ["tape", "many", "at", "cell", "found"] ["tape", "many"] (aH nF):=⟨rfl,rfl,rfl,by decide +kernel,rfl,by decide +kernel,by decide +kernel⟩
theorem aEe {fdS:FuncData} (G:Fn K mg "_law_b_digit" nF ["tape", "many"] f fd) (B:Bl mg) (GS:Fn K mg "_law_b_stirred" aBB ["cell", "at"] fS fdS):FnOk P w K mg base CX0 2 f fd ["tape", "many"] (mG K):=by
 have OS:FnOk P w K mg base CX0 1 fS fdS ["cell", "at"] aEd:=aFH GS
 refine G.fn.ok mH (λvs H Q E h=>?_) (λcdv A outer s H vs Q E hr h=>?_)
 ·obtain ⟨t,a,ns,m,rfl,_⟩:=h
  rfl
 ·obtain ⟨t,a,ns,m,rfl,⟨⟨p,q,hp,ht⟩,hns⟩,hm1,hm2,k⟩:=h
  refine ⟨_,aD (cG (bJ xG (bA cY (pv 0) aG (λ_ _=>rfl)) (pv 1) (bE _))
    (aD (aL (i:=2) mH.nd rfl (Or.inl rfl) (bA cY (pv 0) aG (λ_ _=>rfl)))
    (aD (aL (i:=3) mH.nd rfl (Or.inl rfl) (aY bY (aY hX aG (pv 2)) aG))
    (aD (cG (bJ xG (pv 2) (aP bC rfl B.len fV (aA (bA cY (pv 0) aG (λ_ _=>rfl)) aC)) (bE _))
      (aI (aL (i:=3) mH.nd rfl (Or.inl rfl) (bA cY (bA cY (pv 0) aG (λ_ _=>rfl)) (pv 2) (λ_ _=>rfl))))
      (aI (cG (bJ (aAr hr.u64) (bA cY (pv 0) aG (λ_ _=>rfl)) (fO aC) (bE _))
       (aI (aL (i:=3) mH.nd rfl (Or.inl rfl) (aY bY (aY jE (bA cY (bA cY (pv 0) aG (λ_ _=>rfl)) (aY jE (aY hX (pv 2) aG) (aP bC rfl B.len fV (aA (bA cY (pv 0) aG (λ_ _=>rfl)) aC))) (λ_ _=>rfl)) aG) (aY hX (pv 2) aG))))
       bI)))
    (aD (iM (aY bY (pv 2) aG) (vL (pv 0) aG nO))
    (aI (iM (bB GS OS hr rfl (aA (pv 3) (aA (pv 2) aC))) (vL (pv 0) aG nO)))))))
    bI)
   (aD (aL (i:=4) mH.nd rfl (Or.inl rfl) (aY jE (bA cY (pv 0) aG (λ_ _=>rfl)) (pv 1)))
   (aD (iM (aY aDz (bA cY (pv 0) aG (λ_ _=>rfl)) (pv 1)) (vL (pv 0) aG nO))
   (aI (aW (pv 4))))),?_⟩
  refine ⟨_,rfl,t,_,2,.int q,rfl,rfl,SqL.of ht,rfl,_,rfl,_,_,rfl,rfl,_,rfl,?_⟩
  refine dJ (λc1=>?_) (λc1=>?_)
  ·refine ⟨_,rfl,t,_,1,.int p,rfl,rfl,SqL.of ht,rfl,?_⟩
   refine ⟨_,rfl,_,_,rfl,rfl,.inl ⟨by decide,by decide⟩,_,_,rfl,rfl,?_⟩
   refine ⟨_,rfl,_,rfl,t,_,0,.ref a,rfl,rfl,SqL.of ht,rfl,a,_,rfl,.inl hns,_,_,rfl,rfl,_,rfl,?_⟩
   refine dJ (λc2=>?_) (λc2=>?_)
   ·have c2':p < ((ns.map V.int).length:Int):=of_decide_eq_true c2
    rw [Qb] at c2'
    have hlt:p.toNat < ns.length:=by omega
    have hat:atI (ns.map V.int) p=some (.int (ns[p.toNat])):=by
     have h1:(ns.map V.int)[p.toNat]?=some (.int (ns[p.toNat])):=by rw [Qe,Qc hlt]; rfl
     have h2:=cH h1
     rwa [Zt hp] at h2
    refine ⟨_,rfl,t,_,0,.ref a,rfl,rfl,SqL.of ht,rfl,_,rfl,a,_,_,_,rfl,rfl,hns,hat,?_⟩
    refine ⟨_,rfl,_,_,rfl,rfl,_,rfl,t,_,_,1,rfl,rfl,ht,rfl,?_⟩
    refine ⟨_,rfl,_,rfl,_,_,rfl,λr=>⟨_,rfl,t,_,_,2,rfl,rfl,aB,rfl,?_⟩⟩
    refine ⟨_,rfl,t,_,2,.int r,rfl,rfl,SqL.of aB,rfl,_,rfl,_,_,rfl,rfl,hm1,?_⟩
    refine ⟨_,rfl,t,_,2,.int r,rfl,rfl,SqL.of aB,rfl,_,rfl,_,_,rfl,rfl,⟨hm1,hm2⟩,_,rfl,t,_,_,2,rfl,rfl,aB,rfl,?_⟩
    exact ⟨_,rfl,k _ _ (Xo _ (by omega)) (Xh _ hm1) ((But.refl t H).trans (But.at.trans (But.at.trans But.at))) ⟨⟨p+1,r / m,by omega,aB⟩,fJ (p:=p+1) (q:=r) aB (fJ (p:=p+1) (q:=q) aB (fJ ht hns))⟩⟩
   ·refine ⟨_,rfl,t,_,0,.ref a,rfl,rfl,SqL.of ht,rfl,by decide,λl hl=>?_⟩
    have ntl:t≠l:=λz=>by rw [<- z,ht] at hl; cases hl
    have ht':upd H l (.lst []) t=some (.lst [.ref a,.int p,.int q]):=by rw [aF ntl]; exact ht
    have hns':SqL K (upd H l (.lst [])) a (ns.map V.int):=(aE.new hl).seqL hns
    have bl:But t H (upd H l (.lst [])):=But.of (aE.new hl)
    refine ⟨.list (ns.map .int),.list [],oZ.mpr ⟨a,rfl,hns'⟩,dQ.mpr ⟨l,[],rfl,SqL.of aB,aU.mpr rfl⟩,cS ns,rfl,dX ns,rfl,_,rfl,?_⟩
    refine dJ (λc3=>?_) (λc3=>?_)
    ·have hpos:0 < ns.length:=by
      cases ns with
      | nil=>simp [PyData.eqv,PyData.eqvAll] at c3
      | cons _ _=>simp
     have hlt:(p*3 % (ns.length:Int)).toNat < ns.length:=by
      have:=Xo (p*3) (show (ns.length:Int)≠0 by omega)
      have:=Xh (p*3) (show (0:Int) < ns.length by omega)
      omega
     have hat:atI (ns.map V.int) (p*3 % ((ns.map V.int).length:Int))=some (.int (ns[(p*3 % (ns.length:Int)).toNat])):=by
      have h1:(ns.map V.int)[(p*3 % (ns.length:Int)).toNat]?=some (.int (ns[(p*3 % (ns.length:Int)).toNat])):=by rw [Qe,Qc hlt]; rfl
      have h2:=cH h1
      rw [Qb]
      rwa [Zt (Xo _ (by omega))] at h2
     refine ⟨_,rfl,t,_,0,.ref a,rfl,rfl,SqL.of ht',rfl,_,rfl,_,_,rfl,rfl,.inr ⟨by decide,by decide⟩,_,rfl,t,_,0,.ref a,rfl,rfl,SqL.of ht',rfl,a,_,rfl,.inl hns',_,_,rfl,rfl,(show (0:Int) < ((ns.map V.int).length:Int) by rw [Qb]; omega),a,_,_,_,rfl,rfl,hns',hat,_,_,rfl,rfl,(show (0:Int) < _ by decide),_,rfl,_,_,rfl,rfl,.inr ⟨by decide,by decide⟩,_,_,rfl,rfl,?_⟩
     refine ⟨_,rfl,_,_,rfl,rfl,_,rfl,t,_,_,1,rfl,rfl,ht',rfl,?_⟩
     refine ⟨_,rfl,_,rfl,_,_,rfl,λr=>⟨_,rfl,t,_,_,2,rfl,rfl,aB,rfl,?_⟩⟩
     refine ⟨_,rfl,t,_,2,.int r,rfl,rfl,SqL.of aB,rfl,_,rfl,_,_,rfl,rfl,hm1,?_⟩
     refine ⟨_,rfl,t,_,2,.int r,rfl,rfl,SqL.of aB,rfl,_,rfl,_,_,rfl,rfl,⟨hm1,hm2⟩,_,rfl,t,_,_,2,rfl,rfl,aB,rfl,?_⟩
     exact ⟨_,rfl,k _ _ (Xo _ (by omega)) (Xh _ hm1) (bl.trans (But.at.trans (But.at.trans But.at))) ⟨⟨p+1,r / m,by omega,aB⟩,fJ (p:=p+1) (q:=r) aB (fJ (p:=p+1) (q:=q) aB (fJ ht' hns'))⟩⟩
    ·show _
     refine ⟨_,rfl,_,_,rfl,rfl,_,rfl,t,_,_,1,rfl,rfl,ht',rfl,?_⟩
     refine ⟨_,rfl,_,rfl,_,_,rfl,λr=>⟨_,rfl,t,_,_,2,rfl,rfl,aB,rfl,?_⟩⟩
     refine ⟨_,rfl,t,_,2,.int r,rfl,rfl,SqL.of aB,rfl,_,rfl,_,_,rfl,rfl,hm1,?_⟩
     refine ⟨_,rfl,t,_,2,.int r,rfl,rfl,SqL.of aB,rfl,_,rfl,_,_,rfl,rfl,⟨hm1,hm2⟩,_,rfl,t,_,_,2,rfl,rfl,aB,rfl,?_⟩
     exact ⟨_,rfl,k _ _ (Xo _ (by omega)) (Xh _ hm1) (bl.trans (But.at.trans (But.at.trans But.at))) ⟨⟨p+1,r / m,by omega,aB⟩,fJ (p:=p+1) (q:=r) aB (fJ (p:=p+1) (q:=q) aB (fJ ht' hns'))⟩⟩
  ·show _
   refine ⟨_,rfl,t,_,2,.int q,rfl,rfl,SqL.of ht,rfl,_,rfl,_,_,rfl,rfl,hm1,?_⟩
   refine ⟨_,rfl,t,_,2,.int q,rfl,rfl,SqL.of ht,rfl,_,rfl,_,_,rfl,rfl,⟨hm1,hm2⟩,_,rfl,t,_,_,2,rfl,rfl,ht,rfl,?_⟩
   exact ⟨_,rfl,k _ _ (Xo _ (by omega)) (Xh _ hm1) (But.at) ⟨⟨p,q / m,by omega,aB⟩,fJ ht hns⟩⟩
theorem zF (n:Int):∀ (l:List Int) (last:Int),(∀ x∈l,last < x)->l.Pairwise (· < ·)->(∀ x∈l,x < n)->eF n last (l.map .int)=true
 | [],_,_,_,_=>rfl
 | x::r,last,h1,h2,h3=>by
  rw [Qz,iA]
  have h2':=Xm.mp h2
  rw [decide_eq_true (h1 x (Qi ..)),decide_eq_true (h3 x (Qi ..)),zF n r x h2'.1 h2'.2 (λy hy=>h3 y (Qk _ hy))]
  rfl
theorem iE {n:Int} (h0:l≠[]) (h1:∀ x∈l,0<=x/\x < n) (h2:l.Pairwise (· < ·)):cE n (bM l)=true:=by
 have e:cE n (bM l)=(!(l.map PyData.int).isEmpty && eF n (-1) (l.map .int)):=rfl
 rw [e,zF n l (-1) (λx hx=>by have:=(h1 x hx).1; omega) h2 (λx hx=>(h1 x hx).2)]
 cases l with
 | nil=>exact absurd rfl h0
 | cons _ _=>rfl
theorem pZ (n:Int):∀ (l:List Int) (last:Int),eF n last (l.map .int)=true->l.Pairwise (· < ·)/\∀ x∈l,last < x/\x < n
 | [],_,_=>⟨.nil,λ_ h=>by cases h⟩
 | x::r,last,h=>by
  rw [Qz,iA,Ji,Ji] at h
  obtain ⟨⟨h1,h2⟩,h3⟩:=h
  have h1:=of_decide_eq_true h1
  have h2:=of_decide_eq_true h2
  obtain ⟨i1,i2⟩:=pZ n r x h3
  refine ⟨Xm.mpr ⟨λy hy=>(i2 y hy).1,i1⟩,λy hy=>?_⟩
  rcases Qm.mp hy with rfl | hy
  ·exact ⟨h1,h2⟩
  ·exact ⟨by have:=(i2 y hy).1; omega,(i2 y hy).2⟩
theorem bH {n:Int} (h:cE n (bM l)=true):l≠[]/\(∀ x∈l,0<=x/\x < n)/\l.Pairwise (· < ·):=by
 have e:(!(l.map PyData.int).isEmpty && eF n (-1) (l.map .int))=true:=h
 rw [Ji] at e
 obtain ⟨h1,h2⟩:=pZ n l (-1) e.2
 refine ⟨λz=>by rw [z] at e; simp at e,λx hx=>⟨by have:=(h2 x hx).1; omega,(h2 x hx).2⟩,h1⟩
theorem sI {n:Int}:∀ (l:List Int) (lo:Int),lo<=n->(∀ x∈l,lo<=x/\x < n)->l.Pairwise (· < ·)->(l.length:Int)<=n - lo
 | [],lo,h,_,_=>by simp; omega
 | x::r,lo,h,h1,h2=>by
  have h2':=Xm.mp h2
  have hx:=h1 x (Qi ..)
  have:=sI r (x+1) (by omega) (λy hy=>⟨by have:=h2'.1 y hy; omega,(h1 y (Qk _ hy)).2⟩) h2'.2
  rw [Qx]
  omega
theorem eK {n:Int} (hn:0<=n) (h1:∀ x∈l,0<=x/\x < n) (h2:l.Pairwise (· < ·)):(l.length:Int)<=n:=by
 have:=sI l 0 hn h1 h2
 omega
theorem oF {x:Int}:x∈bR n↔0<=x/\x < n:=by
 unfold bR
 rw [Qv]
 constructor
 ·rintro ⟨i,hi,rfl⟩
  have:=Jf.mp hi
  show 0<=(i:Int)/\(i:Int) < n
  omega
 ·rintro ⟨h1,h2⟩
  exact ⟨x.toNat,Jf.mpr (by omega),by show ((x.toNat:Nat):Int)=x; omega⟩
theorem sJ (n:Nat):(bR n).Pairwise (· < ·):=by
 unfold bR
 rw [Yc]
 refine Yq.imp λh=>?_
 show ((_:Nat):Int) < ((_:Nat):Int)
 omega
theorem aFI (hK:X.K=K) (hu:X.A.units+64 < cLine):OpR X (compareOp .Eq) (λx y H Q=>∃ d e,Den K H d x/\Den K H e y/\eO d=true/\eO e=true/\SeqAt.shaped d=true/\SeqAt.shaped e=true/\Q (.bl (PyData.eqv d e)) H):=by subst hK; exact rJ hu
theorem lT:∀ (a b:List Int),PyData.eqvAll (a.map .int) (b.map .int)=decide (a=b)
 | [],[]=>by simp [PyData.eqvAll]
 | [],_::_=>by simp [PyData.eqvAll]
 | _::_,[]=>by simp [PyData.eqvAll]
 | x::r,y::s=>by
  rw [Qz,Qz,PyData.eqvAll,lT r s,PyData.eqv]
  by_cases h:x=y
  ·by_cases h2:r=s
   ·simp [h,h2]
   ·simp [h,h2]
  ·simp [h]
theorem mI (a b:List Int):PyData.eqv (.list (a.map .int)) (.list (b.map .int))=decide (a=b):=by rw [PyData.eqv,lT]
theorem uY (a b:List Int):PyData.eqv (.tuple (a.map .int)) (.tuple (b.map .int))=decide (a=b):=by rw [PyData.eqv,lT]
theorem sz1 (x:V) : [x].length<=sizeLine:=by rw [Rf]; simp
theorem sz2 (x y:V) : [x,y].length<=sizeLine:=by rw [Rf]; simp
theorem eG (h:n<=1000):n<=sizeLine:=by rw [Rf]; omega
def aAN (K:Rc):Sp:=λvs H Q _=>∃ (t a:Addr) (ns:List Int) (n kd:Int),vs = [.ref t,.int n,.int kd]/\gG K H t a ns/\1<=n/\n<=6/\∀ l p H',cE n (bM l)=true->But t H H'->gG K H' t a ns->SqT K H' p (l.map V.int)->Q (.ref p) H'
theorem sK:FnScope ["tape", "hands", "kind", "first", "often", "some"] ["tape", "hands", "kind"] (aH uV):=⟨rfl,rfl,rfl,by decide +kernel,rfl,by decide +kernel,by decide +kernel⟩
theorem aFJ (G:Fn K mg "_law_b_work" uV ["tape", "hands", "kind"] f fd) (B:Bl mg) (GD:Fn K mg "_law_b_digit" nF ["tape", "many"] fD fdD) (OD:FnOk P w K mg base CX0 2 fD fdD ["tape", "many"] (mG K)):FnOk P w K mg base CX0 3 f fd ["tape", "hands", "kind"] (aAN K):=by
 refine G.fn.ok sK (λvs H Q E h=>?_) (λcdv A outer s H vs Q E hr h=>?_)
 ·obtain ⟨t,a,ns,n,kd,rfl,_⟩:=h
  rfl
 ·obtain ⟨t,a,ns,n,kd,rfl,hT,hn1,hn6,k⟩:=h
  refine ⟨_,aD (aL (i:=3) sK.nd rfl (Or.inr rfl) (bB GD OD hr rfl (aA (pv 0) (aA (pv 1) aC))))
   (aD (cG (bJ gH (pv 2) aG (bE _)) (aI (aW (dI (aA (pv 3) aC)))) bI)
   (aD (cG (bJ gH (pv 2) aG (bE _)) (aI (aW (bK bQ rfl B.tuple cJ (aA (aP (nX rfl) rfl B.sorted nY (aA (bK (aAD (w:=w) (K:=K) rfl rfl rfl) rfl B.set aD7 (aA (fO (aA (pv 3) (aA (aY jE (aY bY (pv 3) aG) (pv 1)) aC))) aC)) aC)) aC)))) bI)
   (aD (cG (bJ gH (pv 2) aG (bE _)) (aI (aW (bK (lG rfl) rfl B.tuple cJ (aA (bK pU rfl B.range aBz (aA (pv 1) aC)) aC)))) bI)
   (aD (aL (i:=4) sK.nd rfl (Or.inr rfl) (aY bY aG (bB GD OD hr rfl (aA (pv 0) (aA aG aC)))))
   (aD (aL (i:=5) sK.nd rfl (Or.inr rfl)
    (bX (own:=["hand"]) (fr:=[3,4,0]) (frn:=["first", "often", "tape"]) (bD (aH uV) ["tape", "hands", "kind", "first", "often", "some"] rfl rfl (by decide +kernel)) rfl (cC rfl B.range (aA (pv 1) aC))
     (λ_ _ _ _=>aJ (i:=0) (show (["hand", "first", "often", "tape"]:List Str).Nodup by decide +kernel) rfl (Or.inl rfl))
     (λ_ _ _ _=>oY (PW.pt (kT (bJ gH (pv 0) (pv 1) (bE _)) (jD (bJ gH (bB GD OD hr rfl (aA (pv 3) (aA (pv 2) aC))) aG (bE _))))))
     (λ_ _ _ _=>pv 0)))
   (aD (cG (PW.pt (aDe (bJ gH (pv 2) aG (bE _)) (aA9 (bJ xG (aP bC rfl B.len fV (aA (pv 5) aC)) (pv 1) (bE _)))))
    (aI (aL (i:=5) sK.nd rfl (Or.inr rfl)
     (bX (own:=["hand"]) (fr:=[5]) (frn:=["some"]) (bD (aH uV) ["tape", "hands", "kind", "first", "often", "some"] rfl rfl (by decide +kernel)) rfl (jX (pv 5))
      (λ_ _ _ _=>aJ (i:=0) (show (["hand", "some"]:List Str).Nodup by decide +kernel) rfl (Or.inl rfl))
      (λ_ _ _ _=>oY (PW.pt (kT (bJ aBe (pv 0) aG (bE _)) (jD (bJ (aFI (K:=K) rfl hr.u64) (pv 1) (fO (aA aG aC)) (bE _))))))
      (λ_ _ _ _=>pv 0)))) bI)
   (aI (aW (bK bQ rfl B.tuple cJ (aA (pv 5) aC)))))))))),?_⟩
  refine ⟨_,rfl,_,rfl,t,a,ns,n,rfl,hT,by omega,by omega,λfirst H1 hf0 hf1 b1 T1=>?_⟩
  obtain ⟨fn,rfl⟩:∃ fn:Nat,first=fn:=⟨first.toNat,by omega⟩
  obtain ⟨m,rfl⟩:∃ m:Nat,n=m:=⟨n.toNat,by omega⟩
  refine ⟨_,rfl,rfl,_,rfl,?_⟩
  refine dJ (λc1=>?_) (λc1=>?_)
  ·refine ⟨_,rfl,sz1 _,λp hp=>?_⟩
   refine k [(fn:Int)] p _ (iE (by simp) (λx hx=>?_) (by simp)) (b1.trans (But.of (aE.new hp))) (T1.same (aE.new hp)) (SqT.of aB)
   rw [Qs] at hx
   omega
  refine ⟨_,rfl,rfl,_,rfl,?_⟩
  refine dJ (λc2=>?_) (λc2=>?_)
  ·have hmod0:0<=((fn:Int)+1) % (m:Int):=Xo _ (by omega)
   have hmod1:((fn:Int)+1) % (m:Int) < m:=Xh _ (by omega)
   have hg:∃ g:Nat,((fn:Int)+1) % (m:Int)=g:=⟨(((fn:Int)+1) % (m:Int)).toNat,by omega⟩
   obtain ⟨g,hg⟩:=hg
   refine ⟨_,rfl,_,rfl,_,_,rfl,rfl,_,rfl,_,_,rfl,rfl,(show (0:Int) < (m:Int) by omega),sz2 _ _,λl hl=>?_⟩
   rw [hg] at hmod0 hmod1
   refine ⟨l,[(fn:Int),(g:Int)],[(fn:Int),(g:Int)],rfl,SqL.of (by rw [aB]; show some (HO.lst [V.int (fn:Int),V.int (((fn:Int)+1) % (m:Int))])=_; rw [hg]; rfl),by show 2<=11; decide,λ_ h=>h,λp us hp _ hu hle=>⟨p,us,rfl,aB,by omega,λq out hso hq=>⟨q,_,rfl,.inl ⟨SqL.of aB,λr hr2=>?_⟩⟩⟩⟩
   have sm:=((aE.new (o:=.lst [.int (fn:Int),.int (((fn:Int)+1) % (m:Int))]) hl).trans ((aE.new hp).trans ((aE.new hq).trans (aE.new (o:=.tup (out.map V.int)) hr2))))
   have mo:∀ x,x∈out↔x∈[(fn:Int),(g:Int)]:=λx=>(hso.2 x).trans (hu x)
   refine k out r _ (iE (List.ne_nil_of_mem ((mo fn).mpr (Qi ..))) (λx hx=>?_) hso.1) (b1.trans (But.of sm)) (T1.same sm) (SqT.of aB)
   have e:=(mo x).mp hx
   simp only [Qm,Qt,or_false] at e
   rcases e with e | e <;> omega
  refine ⟨_,rfl,rfl,_,rfl,?_⟩
  refine dJ (λc3=>?_) (λc3=>?_)
  ·refine ⟨_,rfl,(m:Int),rfl,λp hp=>⟨p,m,rfl,aB,by omega,λq H' s' hq=>?_⟩⟩
   have sm:=(aE.new hp).trans s'
   refine k (bR m) q H' (iE (λz=>?_) (λx hx=>oF.mp hx) (sJ m)) (b1.trans (But.of sm)) (T1.same sm) hq
   have:=cK m
   rw [z] at this
   simp at this
   omega
  refine ⟨_,rfl,t,a,ns,3,rfl,T1,by decide,by decide,λr H2 hr0 hr1 b2 T2=>⟨_,_,rfl,rfl,?_⟩⟩
  have b02:=b1.trans b2
  refine ⟨_,rfl,(m:Int),rfl,by omega,by omega,fP (lo:=0) (n:=((m:Int)).toNat) (λσ=>∃ v,σ = [v,some (.int (fn:Int)),some (.int (2+r)),some (.ref t)])
   (λi ys H3=>∃ l:List Int,ys=l.map V.int/\l.Pairwise (· < ·)/\(∀ x∈l,0<=x/\x < i)/\(fn < i->l≠[])/\But t H H3/\gG K H3 t a ns) (eG (by omega)) ⟨none,rfl⟩
   ⟨[],rfl,.nil,λ_ h=>(Qt h).elim,λh=>(Xn _ h).elim,b02,T2⟩ ?_ ?_ ?_⟩
  ·rintro i ys H3 ⟨l,rfl,h1,h2,_⟩
   rw [Qb]
   have:=eK (n:=(i:Int)) (by omega) h2 h1
   omega
  ·rintro i ys σ H3 hi ⟨v,rfl⟩ ⟨l,rfl,h1,h2,h3,b3,T3⟩ hz
   have hnext:(l++[(i:Int)]).Pairwise (· < ·)/\∀ x∈l++[(i:Int)],0<=x/\x < ((i+1:Nat):Int):=by
    refine ⟨Qat.mpr ⟨h1,by simp,λx hx y hy=>?_⟩,λx hx=>?_⟩
    ·rw [Qs] at hy
     have:=(h2 x hx).2
     omega
    ·rcases Jg.mp hx with hx | hx
     ·have:=h2 x hx
      omega
     ·rw [Qs] at hx
      omega
   refine ⟨_,rfl,_,rfl,rfl,_,rfl,?_⟩
   refine dJ (λc4=>?_) (λc4=>?_)
   ·refine iN ?_
    refine ⟨_,rfl,hz,⟨_,rfl⟩,l++[(i:Int)],by simp,hnext.1,hnext.2,λ_=>by simp,b3,T3⟩
   ·have c4':¬ (fn:Int)=i:=λz=>c4 (by simp [z])
    refine ⟨_,rfl,_,rfl,t,a,ns,2+r,rfl,T3,by omega,by omega,λr4 H4 hr40 hr41 b4 T4=>⟨rfl,_,rfl,?_⟩⟩
    refine dJ (λc5=>?_) (λc5=>?_)
    ·refine ⟨_,rfl,hz,⟨_,rfl⟩,l++[(i:Int)],by simp,hnext.1,hnext.2,λ_=>by simp,b3.trans b4,T4⟩
    ·refine ⟨⟨_,rfl⟩,l,rfl,h1,λx hx=>?_,λh=>h3 (by omega),b3.trans b4,T4⟩
     have:=h2 x hx
     omega
  ·rintro ys H3 ⟨l,rfl,h1,h2,h3,b3,T3⟩ p hp
   have hl0:l≠[]:=h3 (by omega)
   have h2':∀ x∈l,0<=x/\x < (m:Int):=λx hx=>by have:=h2 x hx; omega
   have hshort:=eK (by omega) h2' h1
   have sp:=aE.new (o:=.lst (l.map V.int)) hp
   have T3':=T3.same sp
   have b3':=b3.trans (But.of sp)
   have ntp:p≠t:=T3.ne hp
   have hpl:upd H3 p (.lst (l.map V.int)) p=some (.lst (l.map V.int)):=aB
   generalize hH5:upd H3 p (.lst (l.map V.int))=H5 at T3' b3' hpl ⊢
   refine ⟨_,rfl,rfl,_,rfl,?_⟩
   refine dJ (λc4=>?_) (λc4=>?_)
   ·refine ⟨_,rfl,p,_,rfl,.inl (SqL.of hpl),_,rfl,_,_,rfl,rfl,_,rfl,?_⟩
    refine dJ (λc5=>?_) (λc5=>?_)
    ·refine ⟨_,rfl,p,rfl,⟨_,SqL.of hpl⟩,pC (K:=K) (a:=p) (xs:=l.map V.int) (λσ=>∃ v,σ = [v,some (.ref p)]) (λi ys H6=>aE H5 H6/\ys=((l.take i).filter λh=>decide (0 < h) || decide (l = [0])).map V.int) (eG (by rw [Qb]; omega)) ⟨none,rfl⟩ ⟨aE.refl _,rfl⟩ ?_ ?_ ?_ ?_⟩
     ·rintro i ys H6 ⟨_,rfl⟩
      rw [Qb]
      exact Jl (Za _ _) (by rw [Qw]; omega)
     ·rintro i ys H6 ⟨s6,_⟩
      exact s6.seqL (SqL.of hpl)
     ·rintro i ys σ x H6 hx ⟨v,rfl⟩ ⟨s6,rfl⟩ hz
      rw [Qe] at hx
      obtain ⟨h,hh,rfl⟩:∃ h,l[i]?=some h/\V.int h=x:=by
       cases q:l[i]? with
       | none=>rw [q] at hx; cases hx
       | some h=>rw [q] at hx; exact ⟨h,rfl,Option.some.inj hx⟩
      have etake:l.take (i+1)=l.take i++[h]:=by rw [Jp,hh]; rfl
      refine ⟨_,rfl,_,_,rfl,rfl,_,rfl,?_⟩
      refine dJ (λc6=>?_) (λc6=>?_)
      ·refine iN ?_
       refine ⟨_,rfl,hz,⟨_,rfl⟩,s6,?_⟩
       rw [etake,Xi,Qo]
       simp [of_decide_eq_true c6]
      ·refine ⟨_,rfl,sz1 _,λq hq=>?_⟩
       have s7:=s6.trans (aE.new (o:=.lst [V.int 0]) hq)
       refine ⟨.list (l.map .int),.list ([0].map .int),oZ.mpr ⟨p,rfl,s7.seqL (SqL.of hpl)⟩,oZ.mpr ⟨q,rfl,SqL.of aB⟩,cS _,cS _,dX _,dX _,_,rfl,?_⟩
       rw [mI]
       refine dJ (λc7=>?_) (λc7=>?_)
       ·refine ⟨_,rfl,hz,⟨_,rfl⟩,s7,?_⟩
        rw [etake,Xi,Qo]
        simp [of_decide_eq_true c7]
       ·refine ⟨⟨_,rfl⟩,s7,?_⟩
        rw [etake,Xi,Qo]
        have c6':¬ 0 < h:=λz=>c6 (decide_eq_true z)
        have c7':¬ l = [0]:=λz=>c7 (decide_eq_true z)
        simp [c6',c7']
     ·rintro ys H6 ⟨s6,rfl⟩ q hq
      rw [Qb,Jj]
      have hsub:(l.filter λh=>decide (0 < h) || decide (l = [0])).Sublist l:=Qaz
      refine ⟨_,rfl,q,_,rfl,.inl ⟨SqL.of aB,λr5 hr5=>?_⟩⟩
      have sm:=s6.trans ((aE.new (o:=.lst ((l.filter λh=>decide (0 < h) || decide (l = [0])).map V.int)) hq).trans (aE.new (o:=.tup ((l.filter λh=>decide (0 < h) || decide (l = [0])).map V.int)) hr5))
      refine k (l.filter λh=>decide (0 < h) || decide (l = [0])) r5 _ (iE ?_ (λx hx=>h2' x (hsub.mem hx)) (h1.sublist hsub)) (b3'.trans (But.of sm)) (T3'.same sm) (SqT.of aB)
      intro z
      rw [Yr] at z
      by_cases hl:l = [0]
      ·have:=z 0 (by rw [hl]; simp)
       simp [hl] at this
      ·apply hl
       have hall:∀ x∈l,x=0:=λx hx=>by
        have hz:=z x hx
        have:=(h2' x hx).1
        simp [hl] at hz
        omega
       match l,hl0,h1,hall with
       | [x],_,_,ha=>rw [ha x (Qs.mpr rfl)]
       | x::y::r,_,hp,ha =>
        exfalso
        have h3:=(Xm.mp hp).1 y (Qi ..)
        rw [ha x (Qi ..),ha y (Qk _ (Qi ..))] at h3
        omega
    ·refine ⟨_,rfl,p,_,rfl,.inl ⟨SqL.of hpl,λq hq=>?_⟩⟩
     exact k l q _ (iE hl0 h2' h1) (b3'.trans (But.of (aE.new hq))) (T3'.same (aE.new hq)) (SqT.of aB)
   ·refine gF ?_
    refine ⟨_,rfl,p,_,rfl,.inl ⟨SqL.of hpl,λq hq=>?_⟩⟩
    exact k l q _ (iE hl0 h2' h1) (b3'.trans (But.of (aE.new hq))) (T3'.same (aE.new hq)) (SqT.of aB)
def Far (K:Rc) (a f:Addr) (ns:List Int):Prop:=a≠f∨∀ H,SqL K H a (ns.map V.int)
theorem aEf (h:SqL K H a (ns.map V.int)) (hf:H f=none):Far K a f ns:=by
 rcases h with (h | ⟨o,h⟩) | h
 ·exact .inl λz=>by rw [z,hf] at h; cases h
 ·exact .inl λz=>by rw [z,hf] at h; cases h
 ·exact .inr λ_=>.inr h
theorem gG.wr {t:Addr} (T:gG K H t a ns) (b:But f H H') (n:t≠f) (F:Far K a f ns):gG K H' t a ns:=by
 obtain ⟨⟨p,q,h1,h2⟩,h3⟩:=T
 refine ⟨⟨p,q,h1,b t _ n h2⟩,?_⟩
 rcases F with F | F
 ·exact b.seqL F h3
 ·exact F H'
theorem sL {h:Int}:gC (.int h) l=true↔h∈l:=by
 show (l.any (·==h))=true↔_
 rw [Zc]
 constructor
 ·rintro ⟨x,hx,e⟩
  have:x=h:=by simpa using e
  exact this ▸ hx
 ·exact λhx=>⟨h,hx,by simp⟩
theorem fM (h1:hs.length=ws.length) (h2:∀ (j:Nat) (h:Int) (l:List Int),hs[j]?=some h->ws[j]?=some l->h∈l):aX ws (aV hs)=true:=by
 show (decide ((hs.map PyData.int).length=ws.length) && ((hs.map PyData.int).zip ws).all λp=>gC p.1 p.2)=true
 rw [Qb,decide_eq_true h1,Zs,Jr]
 rintro ⟨d,l⟩ hm
 obtain ⟨j,hj⟩:=Jb.mp hm
 rw [Js] at hj
 obtain ⟨hj1,hj2⟩:=hj
 have hj1:(hs.map PyData.int)[j]?=some d:=hj1
 have hj2:ws[j]?=some l:=hj2
 rw [Qe] at hj1
 cases q:hs[j]? with
 | none=>rw [q] at hj1; cases hj1
 | some h =>
  rw [q] at hj1
  obtain rfl:PyData.int h=d:=Option.some.inj hj1
  exact sL.mpr (h2 j h l q hj2)
theorem aR (h:aX ws (aV hs)=true):hs.length=ws.length/\∀ (j:Nat) (h:Int) (l:List Int),hs[j]?=some h->ws[j]?=some l->h∈l:=by
 have h':(decide ((hs.map PyData.int).length=ws.length) && ((hs.map PyData.int).zip ws).all λp=>gC p.1 p.2)=true:=h
 rw [Qb,Ji,Jr] at h'
 refine ⟨of_decide_eq_true h'.1,λj h l hj hl=>?_⟩
 refine sL.mp (h'.2 (.int h,l) (Qj (i:=j) ?_))
 rw [Js]
 exact ⟨by rw [Qe,hj]; rfl,hl⟩
theorem oG {n:Int} (h1:1<=n) (h2:n<=6) (h3:ws.length<=12) (h4:∀ l∈ws,cE n (bM l)=true):aS (aT n ws)=true:=by
 show (decide (1<=n) && decide (n<=6) && decide ((ws.map bM).length<=12) && (ws.map bM).all (cE n))=true
 rw [decide_eq_true h1,decide_eq_true h2,Qb,decide_eq_true h3,Zs,Zs,Zs,Jr]
 intro d hd
 obtain ⟨l,hl,rfl⟩:=Qv.mp hd
 exact h4 l hl
theorem mJ {n:Int} (h1:SqT K H a [.int n,.ref b]) (h2:SqT K H b ys) (h3:bG K H (ws.map bM) ys):Den K H (aT n ws) (.ref a) :=
 cF.mpr ⟨a,_,rfl,h1,aN.mpr ⟨_,_,rfl,eW.mpr rfl,aN.mpr ⟨_,_,rfl,cF.mpr ⟨b,ys,rfl,h2,h3⟩,aU.mpr rfl⟩⟩⟩
def aEg (K:Rc):Sp:=λvs H Q _=>∃ (t a:Addr) (ns:List Int),vs = [.ref t,.int 6,.int 12]/\gG K H t a ns/\∀ n ws p H',aS (aT n ws)=true->But t H H'->gG K H' t a ns->Den K H' (aT n ws) (.ref p)->Q (.ref p) H'
theorem nG:FnScope ["tape", "hands", "works", "many", "kind", "found", "k", "sort"] ["tape", "hands", "works"] (aH aBC):=⟨rfl,rfl,rfl,by decide +kernel,rfl,by decide +kernel,by decide +kernel⟩
theorem aFK {fdK:FuncData} (G:Fn K mg "_law_b_book" aBC ["tape", "hands", "works"] f fd) (B:Bl mg) (GD:Fn K mg "_law_b_digit" nF ["tape", "many"] fD fdD) (OD:FnOk P w K mg base CX0 2 fD fdD ["tape", "many"] (mG K)) (GK:Fn K mg "_law_b_work" uV ["tape", "hands", "kind"] fK fdK) (OK:FnOk P w K mg base CX0 3 fK fdK ["tape", "hands", "kind"] (aAN K)):FnOk P w K mg base CX0 4 f fd ["tape", "hands", "works"] (aEg K):=by
 refine G.fn.ok nG (λvs H Q E h=>?_) (λcdv A outer s H vs Q E hr h=>?_)
 ·obtain ⟨t,a,ns,rfl,_⟩:=h
  rfl
 ·obtain ⟨t,a,ns,rfl,hT,k⟩:=h
  have hr2:Room 2 _:=hr.mono (by decide)
  refine ⟨_,aD (aL (i:=3) nG.nd rfl (Or.inl rfl) (aY bY aG (bB GD OD hr2 rfl (aA (pv 0) (aA (pv 1) aC)))))
   (aD (aL (i:=4) nG.nd rfl (Or.inl rfl) (bB GD OD hr2 rfl (aA (pv 0) (aA aG aC))))
   (aD (aL (i:=5) nG.nd rfl (Or.inl rfl) (fO aC))
   (aD (eC PassesOwn.never rfl (cC rfl B.range (aA (bB GD OD hr2 rfl (aA (pv 0) (aA (aY bY (pv 2) aG) aC))) aC)) (aJ (i:=6) nG.nd rfl (Or.inl rfl))
    (aD (aL (i:=7) nG.nd rfl (Or.inl rfl) (pv 4))
    (aD (cG (bJ aBe (pv 4) aG (bE _)) (aI (aL (i:=7) nG.nd rfl (Or.inl rfl) (bB GD OD hr2 rfl (aA (pv 0) (aA aG aC))))) bI)
    (aI (eT (kY Rt Rx Ry gL (pv 5) (aA (bB GK OK hr rfl (aA (pv 0) (aA (pv 3) (aA (pv 7) aC)))) aC)))))))
   (aI (aW (dI (aA (pv 3) (aA (bK bQ rfl B.tuple cJ (aA (pv 5) aC)) aC)))))))),?_⟩
  refine ⟨_,rfl,_,rfl,t,a,ns,6,rfl,hT,by decide,by decide,λr H1 hr0 hr1 b1 T1=>⟨_,_,rfl,rfl,?_⟩⟩
  refine ⟨_,rfl,t,a,ns,8,rfl,T1,by decide,by decide,λkd H2 hk0 hk1 b2 T2=>?_⟩
  refine ⟨eG (Jn _),λfl hfl=>?_⟩
  have ntf:t≠fl:=λz=>T2.ne hfl z.symm
  have F:Far K a fl ns:=aEf T2.2 hfl
  have s3:=aE.new (o:=.lst []) hfl
  have hfl0:H fl=none:=(b1.trans b2).free hfl (Ne.symm ntf)
  have T3:=T2.same s3
  have b03:=b1.trans (b2.trans (But.of s3))
  have hfl3:upd H2 fl (.lst []) fl=some (.lst []):=aB
  generalize hH3:upd H2 fl (.lst [])=H3 at T3 b03 hfl3 ⊢
  refine ⟨_,rfl,_,rfl,_,_,rfl,rfl,t,a,ns,13,rfl,T3,by decide,by decide,λm H4 hm0 hm1 b4 T4=>?_⟩
  refine ⟨m,rfl,by omega,by omega,eU (lo:=0) (n:=m.toNat) (λi σ H5=>∃ (ws:List (List Int)) (xs:List V) (v v2:Option V),σ = [some (.ref t),some (.int 6),some (.int 12),some (.int (1+r)),some (.int kd),some (.ref fl),v,v2]/\ws.length=i /\
   (∀ l∈ws,cE (1+r) (bM l)=true)/\H5 fl=some (.lst xs)/\bG K H5 (ws.map bM) xs/\But t H H5/\gG K H5 t a ns)
   ⟨[],[],none,none,rfl,rfl,λ_ h=>(Qt h).elim,b4 fl _ (Ne.symm ntf) hfl3,aU.mpr rfl,b03.trans b4,T4⟩ ?_ ?_⟩
  ·rintro i σ H5 hi ⟨ws,xs,v,v2,rfl,hl,hw,hx,hd,b5,T5⟩
   have hxl:xs.length=i:=by rw [aQ hd,Qb,hl]
   refine ⟨_,rfl,?_⟩
   refine ⟨_,rfl,_,_,rfl,rfl,_,rfl,?_⟩
   refine dJ (λc1=>?_) (λc1=>?_)
   ·refine ⟨_,rfl,t,a,ns,5,rfl,T5,by decide,by decide,λr2 H6 hr20 hr21 b6 T6=>?_⟩
    obtain ⟨⟨p5,q5,h5,ht5⟩,hs5⟩:=id T5
    have hx6:H6 fl=some (.lst xs):=b6 fl _ (Ne.symm ntf) hx
    have hd6:=b6.denAll ht5 _ _ (cM _ cN ws) hd
    refine ⟨_,rfl,.inl ⟨rfl,_,SqL.of hx6⟩,_,rfl,_,rfl,_,rfl,t,a,ns,1+r,r2,rfl,T6,by omega,by omega,λl p H7 hwk b7 T7 hp7=>?_⟩
    obtain ⟨⟨p6,q6,h6,ht6⟩,hs6⟩:=id T6
    have hx7:H7 fl=some (.lst xs):=b7 fl _ (Ne.symm ntf) hx6
    have hd7:=b7.denAll ht6 _ _ (cM _ cN ws) hd6
    refine ⟨fl,xs,.ref p,rfl,rfl,hx7,by rw [Rf]; omega,?_⟩
    have b8:But fl H7 (upd H7 fl (.lst (xs++[.ref p]))):=But.at
    refine ⟨ws++[l],xs++[.ref p],_,_,rfl,by rw [Qn,hl]; rfl,λl2 hl2=>?_,aB,?_,(λb o nb hb=>by rw [aF (λz=>by rw [z,hfl0] at hb; cases hb)]; exact ((b5.trans b6).trans b7) b o nb hb),T7.wr b8 ntf F⟩
    ·rcases Jg.mp hl2 with h | h
     ·exact hw l2 h
     ·rw [Qs.mp h]; exact hwk
    ·rw [Qo]
     refine cI (b8.denAll hx7 _ _ (cM _ cN ws) hd7) (aN.mpr ⟨_,_,rfl,?_,aU.mpr rfl⟩)
     exact aO.mpr ⟨p,rfl,b8.seqT hx7 hp7⟩
   ·show _
    obtain ⟨⟨p5,q5,h5,ht5⟩,hs5⟩:=id T5
    have hx6:H5 fl=some (.lst xs):=(But.refl t H5) fl _ (Ne.symm ntf) hx
    have hd6:=(But.refl t H5).denAll ht5 _ _ (cM _ cN ws) hd
    refine ⟨_,rfl,.inl ⟨rfl,_,SqL.of hx6⟩,_,rfl,_,rfl,_,rfl,t,a,ns,1+r,kd,rfl,T5,by omega,by omega,λl p H7 hwk b7 T7 hp7=>?_⟩
    obtain ⟨⟨p6,q6,h6,ht6⟩,hs6⟩:=id T5
    have hx7:H7 fl=some (.lst xs):=b7 fl _ (Ne.symm ntf) hx6
    have hd7:=b7.denAll ht6 _ _ (cM _ cN ws) hd6
    refine ⟨fl,xs,.ref p,rfl,rfl,hx7,by rw [Rf]; omega,?_⟩
    have b8:But fl H7 (upd H7 fl (.lst (xs++[.ref p]))):=But.at
    refine ⟨ws++[l],xs++[.ref p],_,_,rfl,by rw [Qn,hl]; rfl,λl2 hl2=>?_,aB,?_,(λb o nb hb=>by rw [aF (λz=>by rw [z,hfl0] at hb; cases hb)]; exact ((b5.trans (But.refl t H5)).trans b7) b o nb hb),T7.wr b8 ntf F⟩
    ·rcases Jg.mp hl2 with h | h
     ·exact hw l2 h
     ·rw [Qs.mp h]; exact hwk
    ·rw [Qo]
     refine cI (b8.denAll hx7 _ _ (cM _ cN ws) hd7) (aN.mpr ⟨_,_,rfl,?_,aU.mpr rfl⟩)
     exact aO.mpr ⟨p,rfl,b8.seqT hx7 hp7⟩
  ·rintro σ H5 ⟨ws,xs,v,v2,rfl,hl,hw,hx,hd,b5,T5⟩
   refine ⟨_,rfl,_,rfl,fl,_,rfl,.inl ⟨SqL.of hx,λq hq=>⟨sz2 _ _,λp hp=>?_⟩⟩⟩
   have sm:=(aE.new (o:=.tup xs) hq).trans (aE.new (o:=.tup [.int (1+r),.ref q]) hp)
   refine k (1+r) ws p _ (oG (by omega) (by omega) (by omega) hw) (b5.trans (But.of sm)) (T5.same sm) ?_
   refine mJ (SqT.of aB) ((aE.new hp).seqT (SqT.of aB)) (sm.denAll _ _ hd)
theorem fI.hand {n:Int} (g:fI K H x y n ws hs) {h:Int} (e:hs[i]?=some h):0<=h/\h < n:=by
 obtain ⟨_,_,_,hw⟩:=bF g.2.1
 obtain ⟨hl,hd⟩:=aR g.2.2.2
 have hi:i < ws.length:=by rw [<- hl]; exact (Qd.mp e).1
 have hm:=hd i h ws[i] e (Qc hi)
 exact (bH (hw _ (Xf hi))).2.1 h hm
theorem nH {n:Int} (h:j < n.toNat):(aM n hs)[j]?=some ((hs.count (j:Int):Nat):Int):=by
 unfold aM
 rw [Qe,sE h]
 rfl
def gD (ws:List (List Int)) (hs:List Int):List Int->Bool
 | [k,g,t]=>decide (0<=k) && (decide (k < hs.length) && (hs[k.toNat]?==some g && (!decide (t=g) && decide (t∈ws.getD k.toNat []))))
 | _=>false
def kD (st:List Int):Int:=st.getD 1 0
def sM (st:List Int):Int:=st.getD 2 0
def bW:List (List Int)->List Int
 | []=>[]
 | s::r=>kD s::(s::r).map sM
def qV (L:List (List Int)):Bool:=(L.zip (bW L)).all λp=>kD p.1==p.2
def sN (ws:List (List Int)) (hs:List Int) (L:List (List Int)):Bool:=!L.isEmpty && (L.all (gD ws hs) && (qV L && decide ((bW L).Nodup)))
theorem uZ {st:List Int} (h:gD ws hs st=true):∃ k g t,st = [k,g,t]:=by
 match st,h with
 | [k,g,t],_=>exact ⟨k,g,t,rfl⟩
theorem aCT {st:List Int} (h:st.length≠3):gD ws hs st=false:=by
 match st,h with
 | [],_=>rfl
 | [_],_=>rfl
 | [_,_],_=>rfl
 | [_,_,_],h=>exact absurd rfl h
 | _::_::_::_::_,_=>rfl
theorem aIu {st:List Int} (h:st.length=3):∃ k g t,st = [k,g,t]:=by
 match st,h with
 | [k,g,t],_=>exact ⟨k,g,t,rfl⟩
theorem kE (h:bG K H (ws.map bM) ys) (e:ws[i]?=some l):∃ c,ys[i]?=some (.ref c)/\SqT K H c (l.map V.int):=by
 have hl:=aQ h
 rw [Qb] at hl
 have hi:i < ys.length:=by rw [hl]; exact (Qd.mp e).1
 obtain ⟨d,e1,e2⟩:=cT h (Qc hi)
 rw [Qe,e] at e1
 obtain rfl:=(Option.some.inj e1).symm
 obtain ⟨c,e3,e4⟩:=aO.mp e2
 exact ⟨c,by rw [Qc hi,e3],e4⟩
theorem aEh {k:Int} {x:Int} (h0:0<=k) (h:l[k.toNat]?=some x):atI (l.map V.int) k=some (.int x):=by
 have h1:(l.map V.int)[k.toNat]?=some (.int x):=by rw [Qe,h]; rfl
 have h2:=cH h1
 rwa [Zt h0] at h2
theorem aG4 {l:List V} {k:Int} (h0:0<=k) (h:l[k.toNat]?=some x):atI l k=some x:=by
 have h2:=cH h
 rwa [Zt h0] at h2
def aEi (K:Rc):Sp:=λvs H Q _=>∃ x y b n ws hs l,vs = [x,y,.ref b]/\fI K H x y n ws hs/\SqT K H b (l.map V.int)/\l.length<=1000/\∀ H',aE H H'->Q (.bl (gD ws hs l)) H'
theorem wR:FnScope ["book", "deal", "step", "work", "giver", "taker"] ["book", "deal", "step"] (aH uU):=⟨rfl,rfl,rfl,by decide +kernel,rfl,by decide +kernel,by decide +kernel⟩
theorem aEj {k g t:Int} {h:Int} (k0:0<=k) (k1:k < hs.length) (eh:hs[k.toNat]?=some h) (el:ws[k.toNat]?=some l):gD ws hs [k,g,t]=(decide (V.int h=V.int g) && (!decide (V.int t=V.int g) && l.any (·==t))):=by
 show (decide (0<=k) && (decide (k < hs.length) && (hs[k.toNat]?==some g && (!decide (t=g) && decide (t∈ws.getD k.toNat [])))))=_
 rw [decide_eq_true k0,decide_eq_true k1,eh]
 have e1:ws.getD k.toNat []=l:=by rw [Qq,el]; rfl
 rw [e1]
 have e2:(some h==some g)=decide (V.int h=V.int g):=by
  by_cases z:h=g
  ·subst z; simp
  ·rw [decide_eq_false (λq=>z (V.int.inj q))]; simpa using z
 have e3:decide (t=g)=decide (V.int t=V.int g):=by
  by_cases z:t=g
  ·subst z; simp
  ·rw [decide_eq_false z,decide_eq_false (λq=>z (V.int.inj q))]
 have e4:decide (t∈l)=l.any (·==t):=by
  rw [Xc,decide_eq_true_iff,Zc]
  constructor
  ·intro h; exact ⟨t,h,by simp⟩
  ·rintro ⟨y,hy,e⟩; have:y=t:=by simpa using e
   rw [<- this]; exact hy
 rw [e2,e3,e4]
 rfl
theorem aFL (G:Fn K mg "is_step" uU ["book", "deal", "step"] f fd) (B:Bl mg) (R:Pr K mg fW fH fK fB fNB fD fND fL dW dH dK dB dNB dD dND dL):FnOk P w K mg base CX0 2 f fd ["book", "deal", "step"] (aEi K):=by
 have OW:FnOk P w K mg base CX0 1 fW dW ["thing"] (oA K):=oB R.W B
 refine G.fn.ok wR (λvs H Q E h=>?_) (λcdv A outer s H vs Q E hr h=>?_)
 ·obtain ⟨x,y,b,n,ws,hs,l,rfl,_⟩:=h
  rfl
 ·obtain ⟨x,y,b,n,ws,hs,l,rfl,g,hb,hl,k⟩:=h
  have r1:Room 1 _:=hr
  refine ⟨_,(aD (cG (PW.pt (kT (eQ (eE (aP eR rfl B.isinstance pX (aA (pv 2) (aA (iY (v:=.ty "tuple") rfl B.tuple cJ rfl) aC))))) (jD (bJ rB (aP bC rfl B.len fV (aA (pv 2) aC)) aG (bE _)))))
   (aI (aW eY))
   bI)
  (aD (cG (eQ (eE (aP (iP rfl) rfl B.all rX (aA (bX (own:=["part"]) (fr:=[]) (frn:=[]) (bD (aH uU) ["book", "deal", "step", "work", "giver", "taker"] rfl rfl (by decide +kernel)) rfl (fY (pv 2))
    (λ_ _ _ _=>(aJ (i:=0) (show (["part"]:List Str).Nodup by decide +kernel) rfl (Or.inl rfl))) (λ_ _ _ _=>dM)
    (λ_ _ _ _=>(bB R.W OW r1 rfl (aA (pv 0) aC)))) aC))))
   (aI (aW eY))
   bI)
  (aD (iM (pv 2) (fX rfl (aZ (aJ (i:=3) wR.nd rfl (Or.inl rfl)) (aZ (aJ (i:=4) wR.nd rfl (Or.inl rfl)) (aZ (aJ (i:=5) wR.nd rfl (Or.inl rfl)) dP)))))
  (aD (cG (eQ (aDl xH xG aG (pv 3) (aP bC rfl B.len fV (aA (pv 1) aC))))
   (aI (aW eY))
   bI)
  (aI (aW (kW (cP gH (bA bT (pv 1) (pv 3) (λ_ _=>rfl)) (pv 4) (bE _)) (kW (cP rB (pv 5) (pv 4) (bE _)) (kU (cP uN (pv 5) (bA bT (bA bT (pv 0) aG (λ_ _=>rfl)) (pv 3) (λ_ _=>rfl)) (by with_unfolding_all rfl))))))))))),?_⟩
  refine ⟨_,rfl,.ref b,.tup,rfl,.inr (.inl ⟨rfl,_,hb⟩),true,rfl,?_⟩
  refine gF ?_
  refine ⟨_,rfl,b,_,rfl,.inr hb,rfl,_,rfl,?_⟩
  refine dJ (λc=>?_) (λc=>?_)
  ·have hne:l.length≠3:=λz=>by rw [Qb,z] at c; simp at c
   rw [aCT hne] at k
   exact k H (aE.refl H)
  have h3:l.length=3:=by
   have:V.int ((l.map V.int).length:Nat)=V.int 3:=by simpa using c
   have:=V.int.inj this
   rw [Qb] at this
   omega
  obtain ⟨wk,gv,tk,rfl⟩:=aIu h3
  refine ⟨_,rfl,b,rfl,⟨_,hb⟩,gY (K:=K) (a:=b) (xs:=[V.int wk,V.int gv,V.int tk]) (λσ=>σ.length=1) (λi ys H'=>ys=(List.replicate i true).map V.bl/\aE H H') (eG (show 3<=1000 by decide)) rfl ⟨rfl,aE.refl H⟩ (λi ys H' p=>by rw [p.1]; simp) (λi ys H' p=>p.2.seqT hb) (λi ys σ x H' hx hσ p hz=>?_) (λys H' p=>?_)⟩
  ·obtain ⟨v,rfl⟩:∃ v,σ = [v]:=by match σ,hσ with | [v],_=>exact ⟨v,rfl⟩
   obtain ⟨q1,q2⟩:=p
   obtain ⟨m,rfl⟩:∃ m,x=.int m:=by
    have hm:=Qj hx
    simp only [Qm,Qt,or_false] at hm
    rcases hm with rfl | rfl | rfl
    ·exact ⟨_,rfl⟩
    ·exact ⟨_,rfl⟩
    ·exact ⟨_,rfl⟩
   refine cB ?_
   refine ⟨_,rfl,.int m,.int m,rfl,eW.mpr rfl,hz,rfl,?_,q2⟩
   rw [q1,We,Qo]
   rfl
  ·obtain ⟨rfl,s1⟩:=p
   intro p hp
   have s2:=aE.new (o:=.lst ((List.replicate [V.int wk,V.int gv,V.int tk].length true).map V.bl)) hp
   refine ⟨p,List.replicate 3 true,rfl,SqL.of aB,_,rfl,?_⟩
   refine gF ?_
   have s3:=s1.trans s2
   generalize upd H' p (.lst ((List.replicate [V.int wk,V.int gv,V.int tk].length true).map V.bl))=H2 at s2 s3 ⊢
   refine ⟨_,rfl,b,_,rfl,s3.seqT hb,rfl,_,_,rfl,_,_,rfl,_,_,rfl,rfl,?_⟩
   have g3:=g.same s3
   obtain ⟨hdl,hdg⟩:=aR g.2.2.2
   obtain ⟨ba,bb,ys2,rfl,ha,hb2,hys⟩:=cU g3.1
   obtain ⟨c,rfl,hc⟩:=aO.mp g3.2.2.1
   refine ⟨_,rfl,_,_,rfl,rfl,_,rfl,?_⟩
   by_cases k0:0<=wk
   ·rw [decide_eq_true k0]
    refine iN ?_
    refine ⟨_,rfl,c,_,rfl,.inr hc,_,_,rfl,rfl,_,rfl,?_⟩
    rw [Qb]
    by_cases k1:wk < hs.length
    ·rw [decide_eq_true k1]
     refine gF ?_
     have hlt:wk.toNat < hs.length:=by omega
     have eh:=Qc hlt
     have el:=Qc (l:=ws) (i:=wk.toNat) (by omega)
     obtain ⟨cw,e1,e2⟩:=kE hys el
     have sv:=aEj (g:=gv) (t:=tk) k0 k1 eh el
     have kk:=k H2 s3
     rw [sv] at kk
     refine ⟨_,rfl,_,rfl,c,_,_,_,rfl,rfl,hc,aEh k0 eh,_,rfl,rfl,_,rfl,?_⟩
     refine dJ (λc1=>?_) (λc1=>?_)
     ·rw [c1] at kk
      refine ⟨_,rfl,_,rfl,rfl,_,rfl,?_⟩
      refine dJ (λc2=>?_) (λc2=>?_)
      ·rw [c2] at kk
       refine ⟨_,rfl,_,rfl,ba,_,1,.ref bb,rfl,rfl,ha,rfl,_,rfl,bb,_,_,_,rfl,rfl,hb2,aG4 k0 e1,cw,_,rfl,.inr e2,rfl,gN _,?_⟩
       rw [show inV (V.int tk) (ws[wk.toNat].map V.int)=_ from wM tk _]
       exact kk
      ·rw [Yh] at c2
       rw [c2] at kk
       exact kk
     ·rw [Yh] at c1
      rw [c1] at kk
      exact kk
    ·rw [decide_eq_false k1]
     refine iN ?_
     have e:gD ws hs [wk,gv,tk]=false:=by
      show (decide (0<=wk) && (decide (wk < hs.length) && _))=false
      rw [decide_eq_false k1]; simp
     rw [e] at k
     exact k H2 s3
   ·rw [decide_eq_false k0]
    refine gF ?_
    refine ⟨_,rfl,?_⟩
    refine iN ?_
    have e:gD ws hs [wk,gv,tk]=false:=by
     show (decide (0<=wk) && _)=false
     rw [decide_eq_false k0]; rfl
    rw [e] at k
    exact k H2 s3
theorem aAO {L:List (List Int)} (h:L≠[]):(bW L).length=L.length+1:=by
 cases L with
 | nil=>exact absurd rfl h
 | cons s r=>simp [bW]
def aGm (K:Rc):Sp:=λvs H Q _=>∃ x y p xs n ws hs L,vs = [x,y,.ref p]/\fI K H x y n ws hs/\SqL K H p xs/\bG K H (L.map bM) xs/\L.length<=30/\(∀ l∈L,l.length<=1000)/\∀ H',aE H H'->Q (.bl (sN ws hs L)) H'
theorem aEk:FnScope ["book", "deal", "some", "passed", "follow"] ["book", "deal", "some"] (aH aAI):=⟨rfl,rfl,rfl,by decide +kernel,rfl,by decide +kernel,by decide +kernel⟩
theorem aG5 {dS:FuncData} (G:Fn K mg "is_way" aAI ["book", "deal", "some"] f fd) (B:Bl mg) (R:Pr K mg fW fH fK fB fNB fD fND fL dW dH dK dB dNB dD dND dL) (GS:Fn K mg "is_step" uU ["book", "deal", "step"] fS dS):FnOk P w K mg base CX0 7 f fd ["book", "deal", "some"] (aGm K):=by
 have OS:FnOk P w K mg base CX0 2 fS dS ["book", "deal", "step"] (aEi K):=aFL GS B R
 have OND:FnOk P w K mg base CX0 6 fND dND ["book", "deal"] (wO K):=zC B R
 refine G.fn.ok aEk (λvs H Q E h=>?_) (λcdv A outer s H vs Q E hr h=>?_)
 ·obtain ⟨x,y,p,xs,n,ws,hs,L,rfl,_⟩:=h
  rfl
 ·obtain ⟨x,y,p,xs,n,ws,hs,L,rfl,g,hp,hd,hL,hl1000,k⟩:=h
  have r2:Room 2 _:=hr.mono (by decide)
  have r6:Room 6 _:=hr
  refine ⟨_,(aD (eT (bB R.ND OND r6 rfl (aA (pv 0) (aA (pv 1) aC))))
  (aD (cG (PW.pt (kT (eQ (eE (aP tN rfl B.isinstance pX (aA (pv 2) (aA (iY (v:=.ty "list") rfl B.list aAE rfl) aC))))) (jD (bJ gH (aP bC rfl B.len fV (aA (pv 2) aC)) aG (bE _)))))
   (aI (aW eY))
   bI)
  (aD (cG (eQ (eE (aP (iP rfl) rfl B.all rX (aA (bX (own:=["step"]) (fr:=[0,1]) (frn:=["book", "deal"]) (bD (aH aAI) ["book", "deal", "some", "passed", "follow"] rfl rfl (by decide +kernel)) rfl (jX (pv 2))
    (λ_ _ _ _=>(aJ (i:=0) (show (["step", "book", "deal"]:List Str).Nodup by decide +kernel) rfl (Or.inl rfl))) (λ_ _ _ _=>dM)
    (λ_ _ _ _=>(bB GS OS r2 rfl (aA (pv 1) (aA (pv 2) (aA (pv 0) aC)))))) aC))))
   (aI (aW eY))
   bI)
  (aD (aL (i:=3) aEk.nd rfl (Or.inl rfl) (aY aGN (fO (aA (bA bT (bA cY (pv 2) aG (λ_ _=>rfl)) aG (λ_ _=>rfl)) aC)) (bX (own:=["step"]) (fr:=[]) (frn:=[]) (bD (aH aAI) ["book", "deal", "some", "passed", "follow"] rfl rfl (by decide +kernel)) rfl (jX (pv 2))
    (λ_ _ _ _=>(aJ (i:=0) (show (["step"]:List Str).Nodup by decide +kernel) rfl (Or.inl rfl))) (λ_ _ _ _=>dM)
    (λ_ _ _ _=>(bA (dU (K:=K) rfl) (pv 0) aG (λ_ _=>rfl))))))
  (aD (aL (i:=4) aEk.nd rfl (Or.inl rfl) (aP (iP rfl) rfl B.all rX (aA (bX (own:=["step", "hand"]) (fr:=[]) (frn:=[]) (bD (aH aAI) ["book", "deal", "some", "passed", "follow"] rfl rfl (by decide +kernel)) rfl (rN .l .l rfl B.zip (aA (pv 2) (aA (pv 3) aC)))
    (λ_ _ _ _=>(qT (K:=K) (n:=2) rfl rfl (aZ (aJ (i:=0) (show (["step", "hand"]:List Str).Nodup by decide +kernel) rfl (Or.inl rfl)) (aZ (aJ (i:=1) (show (["step", "hand"]:List Str).Nodup by decide +kernel) rfl (Or.inl rfl)) dP)))) (λ_ _ _ _=>dM)
    (λ_ _ _ _=>(cP gH (bA (dU (K:=K) rfl) (pv 0) aG (λ_ _=>rfl)) (pv 1) (bE _)))) aC)))
  (aI (aW (kW (pv 4) (kU (cP gH (aP tT rfl B.len fV (aA (bK (aCr (K:=K) rfl rfl) rfl B.set aD7 (aA (pv 3) aC)) aC)) (aP bC rfl B.len fV (aA (pv 3) aC)) (bE _))))))))))),?_⟩
  refine ⟨_,rfl,_,rfl,x,y,n,ws,hs,rfl,g,λH1 s1=>?_⟩
  have hxl:=aQ hd
  rw [Qb] at hxl
  have hp1:=s1.seqL hp
  have hd1:=s1.denAll _ _ hd
  refine ⟨_,rfl,.ref p,.lst,rfl,.inl ⟨rfl,_,hp1⟩,true,rfl,?_⟩
  refine gF ?_
  refine ⟨_,rfl,p,_,rfl,.inl hp1,rfl,_,rfl,?_⟩
  refine dJ (λc=>?_) (λc=>?_)
  ·have e0:L = []:=by
    have:V.int (xs.length:Nat)=V.int 0:=by simpa using c
    have:=V.int.inj this
    exact Jt.mp (by omega)
   subst e0
   exact k H1 s1
  have hne:L≠[]:=λz=>by
   subst z
   have:xs.length=0:=by simpa using hxl
   rw [this] at c
   simp at c
  have g1:=g.same s1
  refine ⟨_,rfl,p,rfl,⟨_,hp1⟩,yB (K:=K) (a:=p) (xs:=xs) (vs:=(L.map (gD ws hs)).map V.bl) (λσ=>∃ v,σ = [v,some x,some y]) (by omega) (by simp [hxl]) hp1 ⟨none,rfl⟩ ?_ ?_⟩
  ·rintro i u v σ H2 hu hv ⟨v0,rfl⟩ s2 Q' k'
   have hlt:i < L.length:=by have:=(Qd.mp hu).1; omega
   have el:L[i]?=some L[i]:=Qc hlt
   obtain ⟨c1,e1,e2⟩:=kE (s2.denAll _ _ hd1) el
   rw [hu] at e1
   obtain rfl:=Option.some.inj e1
   have ev:v=.bl (gD ws hs L[i]):=by
    rw [Qe,Qe,el] at hv
    exact (Option.some.inj hv).symm
   subst ev
   refine ⟨_,rfl,_,rfl,_,rfl,x,y,c1,n,ws,hs,L[i],rfl,g1.same s2,e2,hl1000 _ (Xf hlt),λH3 s3=>?_⟩
   exact k' _ H3 ⟨_,rfl⟩ s3
  ·intro H2 s2 q hq
   refine ⟨q,L.map (gD ws hs),rfl,SqL.of aB,_,rfl,?_⟩
   have s3:=s2.trans (aE.new (o:=.lst ((L.map (gD ws hs)).map V.bl)) hq)
   generalize upd H2 q (.lst ((L.map (gD ws hs)).map V.bl))=H3 at s3 ⊢
   have eall:(L.map (gD ws hs)).all id=L.all (gD ws hs):=by rw [Yy]; rfl
   rw [eall]
   by_cases ha:L.all (gD ws hs)=true
   ·rw [ha]
    refine gF ?_
    have hok:∀ st∈L,gD ws hs st=true:=λst h=>Jr.mp ha st h
    have hp3:∀ {H':Hp},aE H3 H'->SqL K H' p xs:=λz=>z.seqL (s3.seqL hp1)
    have nth:∀ {H':Hp} {i:Nat} {u:V},aE H3 H'->xs[i]?=some u->∃ (c:Addr) (st:List Int) (kk gg tt:Int),u=.ref c/\L[i]?=some st/\st = [kk,gg,tt]/\SqT K H' c [.int kk,.int gg,.int tt]:=λ{H' i u} z hu=>by
     have hlt:i < L.length:=by have:=(Qd.mp hu).1; omega
     have el:L[i]?=some L[i]:=Qc hlt
     obtain ⟨c1,e1,e2⟩:=kE (z.denAll _ _ (s3.denAll _ _ hd1)) el
     rw [hu] at e1
     obtain ⟨kk,gg,tt,e3⟩:=uZ (hok _ (Xf hlt))
     rw [e3] at e2
     exact ⟨c1,L[i],kk,gg,tt,Option.some.inj e1,el,e3,e2⟩
    have h0:0 < xs.length:=by
     have:=Zu.mpr hne
     omega
    obtain ⟨c0,st0,k0,g0,t0,e0,el0,es0,q0⟩:=nth (aE.refl H3) (Qc h0)
    refine ⟨_,rfl,p,_,0,.ref c0,rfl,rfl,hp3 (aE.refl H3),cH (by rw [Qc h0,e0]),c0,_,1,.int g0,rfl,rfl,q0,rfl,sz1 _,λl1 hl1=>?_⟩
    have s4:=aE.new (o:=.lst [.int g0]) hl1
    have a4:upd H3 l1 (.lst [.int g0]) l1=some (.lst [.int g0]):=aB
    generalize upd H3 l1 (.lst [.int g0])=H4 at s4 a4 ⊢
    refine ⟨_,rfl,p,rfl,⟨_,hp3 s4⟩,yB (K:=K) (a:=p) (xs:=xs) (vs:=(L.map sM).map V.int) (λσ=>∃ v,σ = [v]) (by omega) (by simp [hxl]) (hp3 s4) ⟨none,rfl⟩ ?_ ?_⟩
    ·rintro i u v σ H5 hu hv ⟨v0,rfl⟩ s5 Q' k'
     obtain ⟨c1,st,kk,gg,tt,rfl,el,rfl,q1⟩:=nth (s4.trans s5) hu
     have ev:v=.int tt:=by
      rw [Qe,Qe,el] at hv
      exact (Option.some.inj hv).symm
     subst ev
     exact ⟨_,rfl,c1,_,2,.int tt,rfl,rfl,q1,rfl,k' _ H5 ⟨_,rfl⟩ (aE.refl H5)⟩
    ·intro H5 s5 l2 hl2
     have s6:=aE.new (o:=.lst ((L.map sM).map V.int)) hl2
     have a6:=s6 _ _ (s5 _ _ a4)
     have b6:upd H5 l2 (.lst ((L.map sM).map V.int)) l2=some (.lst ((L.map sM).map V.int)):=aB
     generalize upd H5 l2 (.lst ((L.map sM).map V.int))=H6 at s6 a6 b6 ⊢
     refine ⟨l1,l2,_,_,rfl,rfl,a6,b6,aDE (by simp; omega),λl3 hl3=>?_⟩
     have epass : [V.int g0]++(L.map sM).map V.int=(bW L).map V.int:=by
      cases L with
      | nil=>exact absurd rfl hne
      | cons s r =>
       have:s=st0:=Option.some.inj el0
       subst this
       rw [es0]
       rfl
     rw [epass]
     have s7:=aE.new (o:=.lst ((bW L).map V.int)) hl3
     have b7:upd H6 l3 (.lst ((bW L).map V.int)) l3=some (.lst ((bW L).map V.int)):=aB
     generalize upd H6 l3 (.lst ((bW L).map V.int))=H7 at s7 b7 ⊢
     have s37:=((s4.trans s5).trans s6).trans s7
     have pl:=aAO hne
     refine ⟨_,rfl,_,rfl,p,l3,xs,_,rfl,hp3 s37,SqL.of b7,aDF (K:=K) (k1:=.l) (k2:=.l) (a:=p) (b:=l3) (xs:=xs) (zs:=(bW L).map V.int) (vs:=((L.zip (bW L)).map λq=>kD q.1==q.2).map V.bl) (λσ=>∃ u v,σ = [u,v]) (by omega) (by simp; omega) (by simp [pl]; omega)
      (λH' z=>⟨hp3 (s37.trans z),SqL.of (z _ _ b7)⟩) ⟨none,none,rfl⟩ ?_ ?_⟩
     ·rintro i u z v q σ H8 hu hz hv hq ⟨u0,v0,rfl⟩ s8 Q' k'
      have s9:=aE.new (o:=.tup [u,z]) hq
      obtain ⟨c1,st,kk,gg,tt,rfl,el,rfl,q1⟩:=nth ((s37.trans s8).trans s9) hu
      obtain ⟨zz,hzz,rfl⟩:∃ zz,(bW L)[i]?=some zz/\V.int zz=z:=by
       rw [Qe] at hz
       cases e:(bW L)[i]? with
       | none=>rw [e] at hz; cases hz
       | some zz=>rw [e] at hz; exact ⟨zz,rfl,Option.some.inj hz⟩
      have ev:v=.bl (gg==zz):=by
       have e1:(L.zip (bW L))[i]?=some ([kk,gg,tt],zz):=by rw [Js]; exact ⟨el,hzz⟩
       rw [Qe,Qe,e1] at hv
       exact (Option.some.inj hv).symm
      subst ev
      refine ⟨q,_,rfl,SqT.of aB,rfl,_,_,rfl,_,_,rfl,rfl,?_⟩
      refine ⟨_,rfl,c1,_,1,.int gg,rfl,rfl,q1,rfl,_,rfl,rfl,?_⟩
      have eb:decide (V.int gg=V.int zz)=(gg==zz):=by
       by_cases e:gg=zz
       ·subst e; simp
       ·rw [decide_eq_false (λq=>e (V.int.inj q))]; exact (beq_eq_false_iff_ne.mpr e).symm
      rw [eb]
      exact k' _ _ ⟨_,_,rfl⟩ s9
     ·intro H8 s8 l4 hl4
      refine ⟨l4,(L.zip (bW L)).map (λq=>kD q.1==q.2),rfl,SqL.of aB,?_⟩
      have s9:=s8.trans (aE.new (o:=.lst (((L.zip (bW L)).map λq=>kD q.1==q.2).map V.bl)) hl4)
      generalize upd H8 l4 (.lst (((L.zip (bW L)).map λq=>kD q.1==q.2).map V.bl))=H9 at s9 ⊢
      have ef:((L.zip (bW L)).map λq=>kD q.1==q.2).all id=qV L:=by rw [Yy]; rfl
      rw [ef]
      have kk:=λH' (z:aE H9 H')=>k H' ((s1.trans (s3.trans s37)).trans (s9.trans z))
      have ew:sN ws hs L=(qV L && decide ((bW L).Nodup)):=by
       unfold sN
       rw [ha]
       cases L with
       | nil=>exact absurd rfl hne
       | cons _ _=>rfl
      rw [ew] at kk
      refine ⟨_,rfl,_,rfl,?_⟩
      refine dJ (λc1=>?_) (λc1=>?_)
      ·rw [c1] at kk
       refine ⟨_,rfl,l3,bW L,rfl,SqL.of (s9 _ _ b7),by omega,λl5 hl5=>?_⟩
       have s10:=aE.new (o:=.set (λk=>decide (k∈bW L)) (nD (bW L))) hl5
       refine ⟨l5,_,_,rfl,aB,_,rfl,l3,_,rfl,.inl (SqL.of (s10 _ _ (s9 _ _ b7))),rfl,?_⟩
       have e2:decide (V.int (nD (bW L):Nat)=V.int ((bW L).map V.int).length)=decide ((bW L).Nodup):=by
        rw [Xc,decide_eq_true_iff,decide_eq_true_iff,<- aAt,Qb]
        constructor
        ·intro z; have:=V.int.inj z; omega
        ·intro z; rw [z]
       rw [e2]
       exact kk _ s10
      ·rw [Yh] at c1
       rw [c1] at kk
       exact kk H9 (aE.refl _)
   ·rw [Yh] at ha
    rw [ha]
    refine iN ?_
    have e:sN ws hs L=false:=by unfold sN; rw [ha]; simp
    rw [e] at k
    exact k H3 (s1.trans s3)
end Ab
namespace Ab
def jI (ws:List (List Int)) (hs:List Int) (g:Int) (w:Nat) (t:Int):Prop:=hs[w]?=some g/\∃ l,ws[w]?=some l/\t∈l/\t≠g
def RL (ws:List (List Int)) (hs:List Int):Nat->Int->Int->Prop
 | 0,h,x=>h=x
 | k+1,h,x=>h=x∨∃ w o,jI ws hs h w o/\RL ws hs k o x
def gO (ws:List (List Int)) (hs:List Int):Int->List (Nat×Int×Int)->Int->Prop
 | h,[],x=>h=x
 | h,s::r,x=>s.2.1=h/\jI ws hs h s.1 s.2.2/\gO ws hs s.2.2 r x
theorem RL.refl:∀ (k:Nat) (h:Int),RL ws hs k h h
 | 0,_=>rfl
 | _+1,_=>.inl rfl
theorem RL.succ:∀ {k:Nat} {h x:Int},RL ws hs k h x->RL ws hs (k+1) h x
 | 0,_,_,e=>.inl e
 | k+1,_,_,.inl e=>.inl e
 | k+1,_,_,.inr ⟨w,o,e,r⟩=>.inr ⟨w,o,e,RL.succ r⟩
theorem RL.mono {k:Nat} {h x:Int} (r:RL ws hs k h x) (le:k<=m):RL ws hs m h x:=by
 induction le with
 | refl=>exact r
 | step _ ih=>exact ih.succ
theorem RL.snoc:∀ {k:Nat} {h g t:Int} {w:Nat},RL ws hs k h g->jI ws hs g w t->RL ws hs (k+1) h t
 | 0,_,_,_,w,e,d=>by subst e; exact .inr ⟨w,_,d,rfl⟩
 | k+1,_,_,_,w,.inl e,d=>by subst e; exact .inr ⟨w,_,d,RL.refl _ _⟩
 | k+1,_,_,_,_,.inr ⟨w',o,e,r⟩,d=>.inr ⟨w',o,e,RL.snoc r d⟩
theorem RL.closed {S:Int->Prop} (hc:∀ g w t,S g->jI ws hs g w t->S t):∀ {k:Nat} {h x:Int},S h->RL ws hs k h x->S x
 | 0,_,_,s,e=>e ▸ s
 | _+1,_,_,s,.inl e=>e ▸ s
 | _+1,_,_,s,.inr ⟨w,o,e,r⟩=>RL.closed hc (hc _ w o s e) r
def oH (ws:List (List Int)) (hs:List Int) (n:Nat) (h v:Int):Prop:=(∃ x,RL ws hs n h x/\v=((hs.count x:Nat):Int))/\∀ k x,RL ws hs k h x->v<=((hs.count x:Nat):Int)
theorem oH.le {h v:Int} (m:oH ws hs n h v):v<=((hs.count h:Nat):Int):=m.2 0 h rfl
theorem oH.edge {h o v u:Int} {w:Nat} (m:oH ws hs n h v) (m2:oH ws hs n o u) (e:jI ws hs h w o):v<=u:=by
 obtain ⟨x,r,rfl⟩:=m2.1
 exact m.2 (n+1) x (show RL ws hs (n+1) h x from .inr ⟨w,o,e,r⟩)
def hV (n:Int) (ws:List (List Int)) (hs lv:List Int):Prop:=lv.length=n.toNat/\∀ (h:Nat) (v:Int),lv[h]?=some v->oH ws hs n.toNat h v/\((hs.count (h:Int):Nat):Int) - v < 2
def qA (n:Int) (ws:List (List Int)) (hs:List Int) (ss:List (Nat×Int×Int)):Prop :=
 ∃ h x,ss≠[]/\gO ws hs h ss x/\(h::ss.map (·.2.2)).Nodup/\0<=h/\h < n/\RL ws hs n.toNat h x/\2<=((hs.count h:Nat):Int) - ((hs.count x:Nat):Int)
theorem mK:∀ (n:Nat) (l:List Int),l.Nodup->(∀ x∈l,0<=x/\x < (n:Int))->l.length<=n
 | 0,[],_,_=>Qg _
 | 0,x::_,_,h=>by have:=h x (.head _); omega
 | n+1,l,hn,h=>by
  by_cases hm:(n:Int)∈l
  ·have h1:=mK n (l.erase (n:Int)) (hn.erase _) λx hx=>by
    have h2:=(hn.mem_erase_iff).mp hx
    have h3:=h x h2.2
    have:=h2.1
    omega
   rw [Qab hm] at h1
   omega
  ·have h1:=mK n l hn λx hx=>by
    have h3:=h x hx
    have:x≠(n:Int):=λz=>hm (z ▸ hx)
    omega
   omega
end Ab
namespace L2
open PySem
theorem aE.wr {u:HO} (e:aE H H') (h:H a=none):aE H (upd H' a u):=λb o q=>by
 rw [aF (λz=>by rw [z,h] at q; cases q)]
 exact e b o q
end L2
namespace Ab
open PySem L2
theorem aBJ {xs:List Int} (h:(xs.map V.int)[i]?=some v):∃ a,xs[i]?=some a/\v=.int a:=by
 rw [Qe] at h
 cases q:xs[i]? with
 | none=>rw [q] at h; cases h
 | some a=>rw [q] at h; exact ⟨a,rfl,(Option.some.inj h).symm⟩
theorem aG6 {k:Int} (h0:0<=k) (h1:k < n):ixN n k=some k.toNat:=by
 unfold ixN
 rw [if_pos h0,if_pos (by omega)]
def uA (E:Nat->Int->Prop) (r:List (Key×V)):Prop:=(∀ k v,dO r k=some v->∃ (w:Nat) (t:Int),k=.inl t/\v=.int (w:Nat)/\E w t)/\∀ w t,E w t->(dO r (.inl t)).isSome=true
theorem uA.nil {E:Nat->Int->Prop} (h:∀ w t,¬ E w t):uA E []:=⟨λk v e=>(by rw [aDG] at e; cases e),λw t e=>(h w t e).elim⟩
theorem uA.put {E:Nat->Int->Prop} {r:List (Key×V)} (h:uA E r) (w:Nat) (t:Int):uA (λw' t'=>E w' t'∨(w'=w/\t'=t)) (jG r (.inl t) (.int (w:Nat))):=by
 refine ⟨λk v e=>?_,λw' t' e=>?_⟩
 ·rw [yF] at e
  by_cases hk:k=Sum.inl t
  ·rw [if_pos hk] at e
   exact ⟨w,t,hk,(Option.some.inj e).symm,.inr ⟨rfl,rfl⟩⟩
  ·rw [if_neg hk] at e
   obtain ⟨w',t',h1,h2,h3⟩:=h.1 k v e
   exact ⟨w',t',h1,h2,.inl h3⟩
 ·rw [yF]
  by_cases hk:(Sum.inl t':Key)=Sum.inl t
  ·rw [if_pos hk]; rfl
  ·rw [if_neg hk]
   rcases e with e | ⟨_,e⟩
   ·exact h.2 w' t' e
   ·exact absurd (by rw [e]) hk
theorem uA.congr {E E':Nat->Int->Prop} {r:List (Key×V)} (h:uA E r) (e:∀ w t,E w t↔E' w t):uA E' r:=⟨λk v q=>let ⟨w,t,a,b,c⟩:=h.1 k v q; ⟨w,t,a,b,(e w t).mp c⟩,λw t q=>h.2 w t ((e w t).mpr q)⟩
structure Rows (H:Hp) (rp:Addr) (qs:List Addr) (rs:List (List (Key×V))):Prop where
 lst:H rp=some (.lst (qs.map V.ref))
 len:qs.length=rs.length
 nd:qs.Nodup
 row:∀ (g:Nat) q r,qs[g]?=some q->rs[g]?=some r->H q=some (.dK r)
theorem Rows.same {rp:Addr} {rs:List (List (Key×V))} (h:Rows H rp qs rs) (s:aE H H'):Rows H' rp qs rs:=⟨s _ _ h.lst,h.len,h.nd,λg q r a b=>s _ _ (h.row g q r a b)⟩
theorem Rows.put {rp:Addr} {rs:List (List (Key×V))} (h:Rows H rp qs rs) {g:Nat} {q:Addr} {r r':List (Key×V)} (hq:qs[g]?=some q) (hr:rs[g]?=some r):Rows (upd H q (.dK r')) rp qs (rs.set g r'):=by
 have hg:=h.row g q r hq hr
 have nq:rp≠q:=λz=>by have:=h.lst; rw [z,hg] at this; cases this
 refine ⟨by rw [aF nq]; exact h.lst,by rw [Yj]; exact h.len,h.nd,λg2 q2 r2 h1 h2=>?_⟩
 rw [Yu] at h2
 by_cases e:g=g2
 ·subst e
  rw [if_pos rfl] at h2
  rw [hq] at h1
  cases h1
  by_cases hl:g < rs.length
  ·rw [if_pos hl] at h2; cases h2; exact aB
  ·rw [if_neg hl] at h2; cases h2
 ·rw [if_neg e] at h2
  have n2:q2≠q:=λz=>by
   subst z
   have hlt:g < qs.length:=(Qd.mp hq).1
   exact e ((Yv hlt h.nd).mp (hq.trans h1.symm))
  rw [aF n2]
  exact h.row g2 q2 r2 h1 h2
def aBK (E:Int->Nat->Int->Prop) (rs:List (List (Key×V))) (m:Nat):Prop:=∀ (g:Nat) r,rs[g]?=some r->uA (E g) r/\r.length<=m
def vA (K:Rc):Sp:=λvs H Q _=>∃ x y n ws hs,vs = [x,y]/\fI K H x y n ws hs/\∀ rp H' qs rs,aE H H'->H rp=none->(∀ q∈qs,H q=none)->Rows H' rp qs rs->rs.length=n.toNat->aBK (jI ws hs) rs 100->Q (.ref rp) H'
theorem iI:FnScope ["book", "deal", "rows", "work", "giver", "able", "taker"] ["book", "deal"] (aH lP):=⟨rfl,rfl,rfl,by decide +kernel,rfl,by decide +kernel,by decide +kernel⟩
theorem aAP (G:Fn K mg "handing" lP ["book", "deal"] f fd) (B:Bl mg):FnOk P w K mg base CX0 1 f fd ["book", "deal"] (vA K):=by
 refine G.fn.ok iI (λvs H Q E h=>?_) (λcdv A outer s H vs Q E hr h=>?_)
 ·obtain ⟨x,y,n,ws,hs,rfl,_⟩:=h
  rfl
 ·obtain ⟨x,y,n,ws,hs,rfl,g,k⟩:=h
  refine ⟨_,(aD (rG (i:=2) (own:=["hand"]) (fr:=[]) (frn:=[]) (bD (aH lP) ["book", "deal", "rows", "work", "giver", "able", "taker"] rfl rfl (by decide +kernel)) rfl iI.nd rfl rfl rfl (cC rfl B.range (aA (bA bT (pv 0) aG (λ_ _=>rfl)) aC))
    (λ_ _ _ _=>(aJ (i:=0) (show (["hand"]:List Str).Nodup by decide +kernel) rfl (Or.inl rfl))) (λ_ _ _ _=>dM)
    (λ_ _ _ _=>aDJ))
   (aD (eC PassesOwn.never rfl (aAw .t .t rfl B.enumerate rfl B.zip (aA (pv 1) (aA (bA bT (pv 0) aG (λ_ _=>rfl)) aC))) (fX rfl (aZ (aJ (i:=3) iI.nd rfl (Or.inl rfl)) (aZ (fX rfl (aZ (aJ (i:=4) iI.nd rfl (Or.inl rfl)) (aZ (aJ (i:=5) iI.nd rfl (Or.inl rfl)) dP))) dP)))
    (aI (eC PassesOwn.never rfl (fY (pv 5)) (aJ (i:=6) iI.nd rfl (Or.inl rfl))
     (aI (cG (bJ rB (pv 6) (pv 4) (bE _))
      (aI (vT (kO hr) (bA cY (pv 2) (pv 4) (λ_ _=>rfl)) (pv 6) (pv 3) rfl))
      bI)))))
   (aI (aW (pv 2))))),?_⟩
  obtain ⟨hl12,hn1,hn6⟩:=g.len
  obtain ⟨a,b,ys,rfl,ha,hb2,hys⟩:=cU g.1
  obtain ⟨c0,rfl,hc0⟩:=aO.mp g.2.2.1
  obtain ⟨hdl,hdg⟩:=aR g.2.2.2
  obtain ⟨_,_,hw12,hws⟩:=bF g.2.1
  have hlw:=aQ hys
  rw [Qb] at hlw
  refine ⟨_,rfl,a,_,0,.int n,rfl,rfl,ha,rfl,n,rfl,by omega,by omega,fP (lo:=0) (n:=n.toNat) (λσ=>∃ v,σ = [v]) (λi zs H2=>∃ qs:List Addr,zs=qs.map V.ref/\qs.length=i/\aE H H2/\qs.Nodup/\∀ q∈qs,H q=none/\H2 q=some (.dK [])) ?_ ⟨none,rfl⟩ ⟨[],rfl,rfl,aE.refl H,Zw,λ_ h=>(Qt h).elim⟩ ?_ ?_ ?_⟩
  ·rw [Rf]; omega
  ·rintro i zs H2 ⟨qs,rfl,hq,_⟩
   rw [Qb]; omega
  ·rintro i zs σ H2 hi ⟨v,rfl⟩ ⟨qs,rfl,hq,s2,nd,hqs⟩ hz
   refine cB ?_
   intro p hp
   refine ⟨hz,⟨_,rfl⟩,qs++[p],by rw [Qo]; rfl,by rw [Qn,hq]; rfl,s2.trans (aE.new hp),?_,λq hq'=>?_⟩
   ·rw [Qac]
    refine ⟨nd,by simp,λx hx y hy e=>?_⟩
    rw [Qs.mp hy] at e
    have:=(hqs x hx).2
    rw [e,hp] at this; cases this
   ·rcases Jg.mp hq' with h | h
    ·exact ⟨(hqs q h).1,(aE.new hp) _ _ (hqs q h).2⟩
    ·rw [Qs.mp h]
     exact ⟨s2.free hp,aB⟩
  ·rintro zs H2 ⟨qs,rfl,hq,s2,nd,hqs⟩ rp hrp
   have s3:=s2.trans (aE.new (o:=.lst (qs.map V.ref)) hrp)
   have hrp0:H rp=none:=s2.free hrp
   have R3:Rows (upd H2 rp (.lst (qs.map V.ref))) rp qs (List.replicate n.toNat []):=⟨aB,by rw [Ju]; exact hq,nd,λg q r h1 h2=>by
    have er:r = []:=by
     rw [Ze] at h2
     split at h2
     ·exact (Option.some.inj h2).symm
     ·cases h2
    rw [er]
    exact (aE.new hrp) _ _ (hqs q (Qj h1)).2⟩
   generalize upd H2 rp (.lst (qs.map V.ref))=H3 at s3 R3 ⊢
   have h6:∀ l∈ws,l.length<=6:=λl hl=>by
    obtain ⟨_,w2,w3⟩:=bH (hws l hl)
    have:=eK (by omega) w2 w3
    omega
   refine ⟨_,rfl,_,rfl,a,_,1,.ref b,rfl,rfl,s3.seqT ha,rfl,c0,b,_,_,rfl,s3.seqT hc0,s3.seqT hb2,yO (K:=K) (k1:=.t) (k2:=.t) (a:=c0) (b:=b) (xs:=hs.map V.int) (ys:=ys)
    (λi σ H4=>(∃ v3 v4 v5 v6,σ = [some (.ref a),some (.ref c0),some (.ref rp),v3,v4,v5,v6])/\aE H H4/\∃ rs,Rows H4 rp qs rs/\rs.length=n.toNat/\aBK (λg w t=>w < i/\jI ws hs g w t) rs (6*i))
    (by rw [Qb]; omega) ⟨⟨_,_,_,_,rfl⟩,s3,_,R3,Ju,λg r hr=>?_⟩ (λ_ σ H4 _ ⟨_,s4,_⟩=>⟨s4.seqT hc0,s4.seqT hb2⟩) ?_ ?_⟩
   ·have er:r = []:=by
     rw [Ze] at hr
     split at hr
     ·exact (Option.some.inj hr).symm
     ·cases hr
    rw [er]
    exact ⟨uA.nil λw t h=>by omega,Jn _⟩
   ·rintro i u v p q σ H4 hu hv ⟨⟨v3,v4,v5,v6,rfl⟩,s4,rs,R4,hl4,E4⟩ hp hq hne
    obtain ⟨h,hh,rfl⟩:=aBJ hu
    obtain ⟨dv,hdv,denv⟩:=cT hys hv
    rw [Qe] at hdv
    obtain ⟨l,hl,rfl⟩:∃ l,ws[i]?=some l/\bM l=dv:=by
     cases q:ws[i]? with
     | none=>rw [q] at hdv; cases hdv
     | some l=>rw [q] at hdv; exact ⟨l,rfl,Option.some.inj hdv⟩
    obtain ⟨aw,rfl,haw⟩:=aO.mp denv
    obtain ⟨hh0,hh1⟩:=g.hand hh
    have hl6:=h6 l (Qj hl)
    have hi12:i < 12:=by
     have:=(Qd.mp hh).1
     omega
    have sp:=aE.new (o:=.tup [.int h,.ref aw]) hp
    have hq1:upd H4 p (.tup [.int h,.ref aw]) q=none:=by rw [aF hne]; exact hq
    have sq:=aE.new (o:=.tup [.int (i:Nat),.ref p]) hq1
    have ep:upd (upd H4 p (.tup [.int h,.ref aw])) q (.tup [.int (i:Nat),.ref p]) p=some (.tup [.int h,.ref aw]):=sq _ _ aB
    have eq:upd (upd H4 p (.tup [.int h,.ref aw])) q (.tup [.int (i:Nat),.ref p]) q=some (.tup [.int (i:Nat),.ref p]):=aB
    have s5:=s4.trans (sp.trans sq)
    have R5:=R4.same (sp.trans sq)
    generalize upd (upd H4 p (.tup [.int h,.ref aw])) q (.tup [.int (i:Nat),.ref p])=H5 at ep eq s5 R5 ⊢
    refine ⟨q,_,rfl,SqT.of eq,rfl,_,_,rfl,_,_,rfl,p,_,rfl,SqT.of ep,rfl,_,_,rfl,_,_,rfl,rfl,rfl,?_⟩
    have hgl:h.toNat < qs.length:=by rw [R5.len,hl4]; omega
    obtain ⟨qh,hqh⟩:∃ qh,qs[h.toNat]?=some qh:=⟨_,Qc hgl⟩
    have hcast:((h.toNat:Nat):Int)=h:=by omega
    refine ⟨_,rfl,aw,rfl,⟨_,s5.seqT haw⟩,qI (K:=K) (a:=aw) (xs:=l.map V.int) (λj σ H6=>(∃ v6,σ = [some (.ref a),some (.ref c0),some (.ref rp),some (.int (i:Nat)),some (.int h),some (.ref aw),v6])/\aE H H6/\∃ rs,Rows H6 rp qs rs/\rs.length=n.toNat/\aBK (λg w t=>(w < i/\jI ws hs g w t)∨(w=i/\g=h/\t∈l.take j/\t≠h)) rs (6*i+j))
     ⟨⟨_,rfl⟩,s5,rs,R5,hl4,λg r hr=>⟨(E4 g r hr).1.congr λw t=>⟨.inl,λz=>z.elim id λz=>by rw [Ye] at z; exact (Qt z.2.2.1).elim⟩,(E4 g r hr).2⟩⟩ (λ_ σ H6 _ ⟨_,s6,_⟩=>s6.seqT haw) ?_ ?_⟩
    ·rintro j tv σ H6 htv ⟨⟨v6,rfl⟩,s6,rs,R6,hl6',E6⟩
     obtain ⟨t,ht,rfl⟩:=aBJ htv
     have hj:j < l.length:=(Qd.mp ht).1
     have etake:l.take (j+1)=l.take j++[t]:=by rw [Jp,ht]; rfl
     refine ⟨_,rfl,_,rfl,rfl,_,rfl,?_⟩
     refine dJ (λc=>?_) (λc=>?_)
     ·have hth:t≠h:=λz=>by rw [z] at c; simp at c
      obtain ⟨r,hr⟩:∃ r,rs[h.toNat]?=some r:=⟨_,Qc (by rw [hl6']; omega)⟩
      have hat:atI (qs.map V.ref) h=some (.ref qh):=by
       have:=cH (xs:=qs.map V.ref) (j:=h.toNat) (v:=.ref qh) (by rw [Qe,hqh]; rfl)
       rwa [hcast] at this
      have hrow:=R6.row _ _ _ hqh hr
      have hrl:=(E6 _ _ hr).2
      have hqH:H qh=none:=(hqs qh (Qj hqh)).1
      refine ⟨_,rfl,_,rfl,_,rfl,rp,_,h,_,rfl,rfl,SqL.of R6.lst,hat,_,rfl,qh,_,rfl,vS.k (k:=.inl t) hrow (by rw [Rf]; omega),?_⟩
      refine ⟨⟨_,rfl⟩,s6.wr hqH,rs.set h.toNat (jG r (.inl t) (.int (i:Nat))),R6.put hqh hr,by rw [Yj]; exact hl6',λg2 r2 hr2=>?_⟩
      rw [Yu] at hr2
      by_cases eg:h.toNat=g2
      ·rw [if_pos eg,if_pos (by rw [hl6']; omega)] at hr2
       cases hr2
       have eg':((g2:Nat):Int)=h:=by omega
       refine ⟨((E6 _ _ hr).1.put i t).congr λw t'=>?_,Jl (lK _ _ _) (by omega)⟩
       rw [hcast,eg',etake]
       constructor
       ·rintro ((z | ⟨z1,z2,z3,z4⟩) | ⟨z1,z2⟩)
        ·exact .inl z
        ·exact .inr ⟨z1,z2,Jw _ z3,z4⟩
        ·exact .inr ⟨z1,rfl,by rw [z2]; simp,by rw [z2]; exact hth⟩
       ·rintro (z | ⟨z1,z2,z3,z4⟩)
        ·exact .inl (.inl z)
        ·rcases Jg.mp z3 with z3 | z3
         ·exact .inl (.inr ⟨z1,z2,z3,z4⟩)
         ·exact .inr ⟨z1,Qs.mp z3⟩
      ·rw [if_neg eg] at hr2
       refine ⟨(E6 _ _ hr2).1.congr λw t'=>?_,Jl (E6 _ _ hr2).2 (by omega)⟩
       have ng:¬ ((g2:Nat):Int)=h:=by omega
       constructor
       ·rintro (z | ⟨_,z2,_⟩)
        ·exact .inl z
        ·exact absurd z2 ng
       ·rintro (z | ⟨_,z2,_⟩)
        ·exact .inl z
        ·exact absurd z2 ng
     ·have hth:t=h:=by simpa using c
      refine ⟨⟨_,rfl⟩,s6,rs,R6,hl6',λg2 r2 hr2=>⟨(E6 _ _ hr2).1.congr λw t'=>?_,Jl (E6 _ _ hr2).2 (by omega)⟩⟩
      rw [etake]
      constructor
      ·rintro (z | ⟨z1,z2,z3,z4⟩)
       ·exact .inl z
       ·exact .inr ⟨z1,z2,Jw _ z3,z4⟩
      ·rintro (z | ⟨z1,z2,z3,z4⟩)
       ·exact .inl z
       ·rcases Jg.mp z3 with z3 | z3
        ·exact .inr ⟨z1,z2,z3,z4⟩
        ·exact absurd ((Qs.mp z3).trans hth) z4
    ·rintro σ H6 ⟨⟨v6,rfl⟩,s6,rs,R6,hl6',E6⟩
     refine ⟨⟨_,_,_,_,rfl⟩,s6,rs,R6,hl6',λg2 r2 hr2=>⟨(E6 _ _ hr2).1.congr λw t'=>?_,Jl (E6 _ _ hr2).2 (by rw [Qb]; omega)⟩⟩
     rw [Qb,Jj]
     constructor
     ·rintro (⟨z1,z2⟩ | ⟨z1,z2,z3,z4⟩)
      ·exact ⟨by omega,z2⟩
      ·subst z1
       exact ⟨by omega,by rw [hh,z2],l,hl,z3,by rw [z2]; exact z4⟩
     ·rintro ⟨z1,z2⟩
      by_cases hw:w < i
      ·exact .inl ⟨hw,z2⟩
      ·have ew:w=i:=by omega
       subst ew
       obtain ⟨z3,l',z4,z5,z6⟩:=z2
       rw [hh] at z3
       rw [hl] at z4
       cases z4
       have ez:h=g2:=Option.some.inj z3
       exact .inr ⟨rfl,ez.symm,z5,by rw [ez]; exact z6⟩
   ·rintro σ H4 ⟨⟨v3,v4,v5,v6,rfl⟩,s4,rs,R4,hl4,E4⟩
    refine ⟨_,rfl,k rp H4 qs rs s4 hrp0 (λq hq=>(hqs q hq).1) R4 hl4 λg r hr=>⟨(E4 g r hr).1.congr λw t=>⟨λz=>z.2,λz=>⟨?_,z⟩⟩,Jl (E4 g r hr).2 (by rw [Qb]; omega)⟩⟩
    rw [Qb]
    exact (Qd.mp z.1).1
def Tp (H H':Hp):Prop:=∀ p xs,H p=some (.tup xs)->H' p=some (.tup xs)
theorem Tp.of (s:aE H H'):Tp H H':=λ_ _ h=>s _ _ h
theorem Tp.upd {u:HO} (h:∀ xs,H a≠some (.tup xs)):Tp H (upd H a u):=λp xs e=>by
 have ne:p≠a:=λz=>h xs (by rw [<- z]; exact e)
 rw [aF ne]; exact e
theorem wS {fs:List (Key×V)} {os:List Int} (h:fs.map (·.1)=os.map Sum.inl) (t:Int):(dO fs (.inl t)).isSome=decide (t∈os):=by
 rw [<- hG]
 have:(fs.any λkv=>decide (kv.1=Sum.inl t))=((fs.map (·.1)).any λk=>decide (k=Sum.inl t)):=by rw [Qan]; rfl
 rw [this,h,Qan,Xc]
 simp
structure Tree (ws:List (List Int)) (hs:List Int) (n first:Int) (H:Hp) (fs:List (Key×V)) (os:List Int):Prop where
 keys:fs.map (·.1)=os.map Sum.inl
 nd:os.Nodup
 rng:∀ o∈os,0<=o/\o < n
 head:os[0]?=some first
 v0:dO fs (.inl first)=some .non
 par:∀ (j:Nat) (t:Int),0 < j->os[j]?=some t->∃ (p:Addr) (w:Nat) (g:Int) (i:Nat),dO fs (.inl t)=some (.ref p)/\H p=some (.tup [.int (w:Nat),.int g,.int t])/\jI ws hs g w t/\i < j/\os[i]?=some g
section
variable {n first:Int} {fs:List (Key×V)} {os:List Int}
theorem Tree.tp (T:Tree ws hs n first H fs os) (e:Tp H H'):Tree ws hs n first H' fs os :=
 ⟨T.keys,T.nd,T.rng,T.head,T.v0,λj t h0 h1=>let ⟨p,w,g,i,a,b,c⟩:=T.par j t h0 h1; ⟨p,w,g,i,a,e _ _ b,c⟩⟩
theorem Tree.len (T:Tree ws hs n first H fs os):os.length<=n.toNat:=mK _ _ T.nd λx hx=>by have:=T.rng x hx; omega
theorem Tree.flen (T:Tree ws hs n first H fs os):fs.length=os.length:=by
 have:=congrArg Zy T.keys
 rwa [Qb,Qb] at this
theorem Tree.one (h0:0<=first) (h1:first < n):Tree ws hs n first H [(.inl first,.non)] [first] :=
 ⟨rfl,by simp,λo ho=>by rw [Qs.mp ho]; exact ⟨h0,h1⟩,rfl,eM rfl,λj t h2 h3=>by
  cases j with
  | zero=>omega
  | succ j=>simp at h3⟩
theorem Tree.grow (T:Tree ws hs n first H fs os) {p:Addr} {w:Nat} {g t:Int} (hp:H p=some (.tup [.int (w:Nat),.int g,.int t])) (e:jI ws hs g w t) (hi:os[i]?=some g) (ht:t∉os) (r0:0<=t) (r1:t < n) :
  Tree ws hs n first H (fs++[(.inl t,.ref p)]) (os++[t]):=by
 have hv:dO fs (.inl t)=none:=by
  have:=wS T.keys t
  rw [decide_eq_false ht] at this
  cases q:dO fs (.inl t) with
  | none=>rfl
  | some v=>rw [q] at this; cases this
 have hlt:i < os.length:=(Qd.mp hi).1
 have val:∀ j:Key,dO (fs++[(.inl t,.ref p)]) j=if j=.inl t then some (.ref p) else dO fs j:=λj=>pD _ _ _ _ hv
 have hf:first∈os:=Qj T.head
 refine ⟨by rw [Qo,Qo,T.keys]; rfl,?_,λo ho=>?_,?_,?_,λj t' h0 h1=>?_⟩
 ·rw [Qac]
  exact ⟨T.nd,by simp,λx hx y hy z=>ht (by rw [<- Qs.mp hy,<- z]; exact hx)⟩
 ·rcases Jg.mp ho with h | h
  ·exact T.rng o h
  ·rw [Qs.mp h]; exact ⟨r0,r1⟩
 ·rw [Qu (by omega)]; exact T.head
 ·rw [val,if_neg (λz=>ht (by have:first=t:=(by simpa using z); rw [<- this]; exact hf))]
  exact T.v0
 ·by_cases hj:j < os.length
  ·rw [Qu hj] at h1
   obtain ⟨p',w',g',i',a,b,c,d,e'⟩:=T.par j t' h0 h1
   have ne:(Sum.inl t':Key)≠Sum.inl t:=λz=>ht (by have:t'=t:=(by simpa using z); rw [<- this]; exact Qj h1)
   exact ⟨p',w',g',i',by rw [val,if_neg ne]; exact a,b,c,d,by rw [Qu (by omega)]; exact e'⟩
  ·have ej:j=os.length:=by
    have:=(Qd.mp h1).1
    rw [Qn] at this
    simp at this
    omega
   subst ej
   rw [Je (Qg _),QaQ] at h1
   have et:t'=t:=by simpa using h1.symm
   subst et
   exact ⟨p,w,g,i,by rw [val,if_pos rfl],hp,e,hlt,by rw [Qu hlt]; exact hi⟩
theorem Tree.rl (T:Tree ws hs n first H fs os):∀ (j:Nat) (t:Int),os[j]?=some t->RL ws hs j first t:=by
 intro j
 induction j using Nat.strongRecOn with
 | ind j ih =>
  intro t ht
  by_cases h0:j=0
  ·subst h0
   rw [T.head] at ht
   exact Option.some.inj ht
  ·obtain ⟨p,w,g,i,_,_,e,hi,hg⟩:=T.par j t (by omega) ht
   exact ((ih i hi g hg).snoc e).mono (by omega)
end
def aG7 (ws:List (List Int)) (hs os:List Int):Prop:=∀ g∈os,∀ w t,jI ws hs g w t->t∈os
def vB (K:Rc):Sp:=λvs H Q _=>∃ rp first qs rs n ws hs,vs = [.ref rp,.int first]/\Rows H rp qs rs/\rs.length=n.toNat/\aBK (jI ws hs) rs 100/\(∀ g w t,jI ws hs g w t->0<=t/\t < n)/\n<=6/\0<=first/\first < n /\
 ∀ fd H' fs os,aE H H'->H fd=none->H' fd=some (.dK fs)->Tree ws hs n first H' fs os->aG7 ws hs os->Q (.ref fd) H'
theorem jO:FnScope ["rows", "first", "found", "waiting", "giver", "taker"] ["rows", "first"] (aH nZ):=⟨rfl,rfl,rfl,by decide +kernel,rfl,by decide +kernel,by decide +kernel⟩
theorem aAQ (G:Fn K mg "reached" nZ ["rows", "first"] f fd) (B:Bl mg):FnOk P w K mg base CX0 1 f fd ["rows", "first"] (vB K):=by
 refine G.fn.ok jO (λvs H Q E h=>?_) (λcdv A outer s H vs Q E hr h=>?_)
 ·obtain ⟨rp,first,qs,rs,n,ws,hs,rfl,_⟩:=h
  rfl
 ·obtain ⟨rp,first,qs,rs,n,ws,hs,rfl,R,hlr,ER,hedge,hn6,hf0,hf1,k⟩:=h
  refine ⟨_,(aD (aL (i:=2) jO.nd rfl (Or.inl rfl) (aDM (pv 1) aGy))
   (aD (aL (i:=3) jO.nd rfl (Or.inl rfl) (fO (aA (pv 1) aC)))
   (aD (rA PassesOwn.never (aDm (pv 3) (λ_=>rfl))
    (aD (aL (i:=4) jO.nd rfl (Or.inl rfl) (kY Rt PySem.F.slot_list_pop PySem.F.type_list_pop aDr (pv 3) (aA aG aC)))
    (aI (aFj (eC PassesOwn.never rfl (aFi (bA cY (pv 0) (pv 4) (λ_ _=>rfl))) (aJ (i:=5) jO.nd rfl (Or.inl rfl))
     (aI (cG (aDd (aCx (kO hr) (pv 5) (pv 2)) (by with_unfolding_all rfl))
      (aD (vT (kO hr) (pv 2) (pv 5) (dI (aA (nU (kO hr) (bA cY (pv 0) (pv 4) (λ_ _=>rfl)) (pv 5) (λ_ _=>rfl)) (aA (pv 4) (aA (pv 5) aC)))) rfl)
      (aI (eT (kY Rt Rx Ry gL (pv 3) (aA (pv 5) aC)))))
      bI)))))))
   (aI (aW (pv 2)))))),?_⟩
  intro fd0 hfd0
  refine ⟨_,rfl,.inl first,rfl,aB,?_⟩
  rw [aEW]
  have s1:=aE.new (o:=.dK [(.inl first,.non)]) hfd0
  have e1:upd H fd0 (.dK [(.inl first,.non)]) fd0=some (.dK [(.inl first,.non)]):=aB
  generalize upd H fd0 (.dK [(.inl first,.non)])=H1 at s1 e1 ⊢
  refine ⟨_,rfl,sz1 _,λwt hwt=>?_⟩
  have hwt0:H wt=none:=s1.free hwt
  have nfw:fd0≠wt:=λz=>by rw [z,hwt] at e1; cases e1
  have s2:=s1.trans (aE.new (o:=.lst [.int first]) hwt)
  have e2:=(aE.new (o:=.lst [.int first]) hwt) _ _ e1
  have w2:upd H1 wt (.lst [.int first]) wt=some (.lst [.int first]):=aB
  generalize upd H1 wt (.lst [.int first])=H2 at s2 e2 w2 ⊢
  -- the while
  refine ⟨λm σ H3=>∃ (v4 v5:Option V) (mm:Nat) (fs:List (Key×V)) (os:List Int),σ = [some (.ref rp),some (.int first),some (.ref fd0),some (.ref wt),v4,v5]/\m=n.toNat - mm/\aE H H3/\H3 fd0=some (.dK fs)/\H3 wt=some (.lst ((os.drop mm).map V.int))/\Tree ws hs n first H3 fs os/\mm<=os.length /\
    ∀ (i:Nat) (g:Int),i < mm->os[i]?=some g->∀ w t,jI ws hs g w t->t∈os,
   ⟨n.toNat - 0,none,none,0,_,[first],rfl,rfl,s2,e2,w2,Tree.one hf0 hf1,Jn _,λi g hi=>absurd hi (Xn _)⟩,?_⟩
  rintro m σ H3 ⟨v4,v5,mm,fs,os,rfl,rfl,s3,e3,w3,T3,hmm,pr3⟩
  refine ⟨_,rfl,!((os.drop mm).map V.int).isEmpty,.inl ⟨_,SqL.of w3,rfl⟩,?_⟩
  by_cases hend:mm < os.length
  ·-- a turn
   have hne:(os.drop mm)≠[]:=by
    intro z
    have:=congrArg Zy z
    rw [Jq] at this
    simp at this
    omega
   have hb:(!((os.drop mm).map V.int).isEmpty)=true:=by
    cases q:os.drop mm with
    | nil=>exact absurd q hne
    | cons _ _=>rfl
   rw [hb]
   refine iN ?_
   have hdrop:os.drop mm=os[mm]::os.drop (mm+1):=Ww hend
   have hgm:os[mm]?=some (os[mm]):=Qc hend
   generalize os[mm]=g at hdrop hgm
   obtain ⟨hg0,hg1⟩:=T3.rng g (Qj hgm)
   have holen:=T3.len
   refine ⟨λσ' H'=>∃ m',m' < n.toNat - mm/\∃ (v4 v5:Option V) (mm:Nat) (fs:List (Key×V)) (os:List Int),σ' = [some (.ref rp),some (.int first),some (.ref fd0),some (.ref wt),v4,v5]/\m'=n.toNat - mm/\aE H H'/\H' fd0=some (.dK fs)/\H' wt=some (.lst ((os.drop mm).map V.int))/\Tree ws hs n first H' fs os/\mm<=os.length /\
    ∀ (i:Nat) (g:Int),i < mm->os[i]?=some g->∀ w t,jI ws hs g w t->t∈os,λσ' H' z=>z,?_⟩
   refine ⟨_,rfl,.inl ⟨rfl,_,SqL.of w3⟩,?_⟩
   have hx0:((os.drop mm).map V.int)[0]?=some (.int g):=by rw [hdrop]; rfl
   have hxl:0 < ((os.drop mm).map V.int).length:=(Qd.mp hx0).1
   refine ⟨wt,_,0,0,.int g,rfl,rfl,w3,by decide,by decide,nV (i:=0) (by decide) hxl,hx0,?_⟩
   have her:((os.drop mm).map V.int).eraseIdx 0=(os.drop (mm+1)).map V.int:=by rw [hdrop]; rfl
   rw [her]
   have s4:=s3.wr (u:=.lst ((os.drop (mm+1)).map V.int)) hwt0
   have e4:upd H3 wt (.lst ((os.drop (mm+1)).map V.int)) fd0=some (.dK fs):=by rw [aF nfw]; exact e3
   have w4:upd H3 wt (.lst ((os.drop (mm+1)).map V.int)) wt=some (.lst ((os.drop (mm+1)).map V.int)):=aB
   have T4:=T3.tp (Tp.upd (a:=wt) (u:=.lst ((os.drop (mm+1)).map V.int)) λxs z=>by rw [w3] at z; cases z)
   generalize upd H3 wt (.lst ((os.drop (mm+1)).map V.int))=H4 at s4 e4 w4 T4 ⊢
   -- the row
   have R4:=R.same s4
   have hgl:g.toNat < qs.length:=by rw [R.len,hlr]; omega
   have hcast:((g.toNat:Nat):Int)=g:=by omega
   obtain ⟨qg,hqg⟩:∃ q,qs[g.toNat]?=some q:=⟨_,Qc hgl⟩
   obtain ⟨r,hr⟩:∃ r,rs[g.toNat]?=some r:=⟨_,Qc (by rw [hlr]; omega)⟩
   have hat:atI (qs.map V.ref) g=some (.ref qg):=by
    have:=cH (xs:=qs.map V.ref) (j:=g.toNat) (v:=.ref qg) (by rw [Qe,hqg]; rfl)
    rwa [hcast] at this
   have hrow:=R.row _ _ _ hqg hr
   have hrow4:=s4 _ _ hrow
   obtain ⟨hRE,hRl⟩:=ER _ _ hr
   rw [hcast] at hRE
   have nqf:qg≠fd0:=λz=>by rw [z,hfd0] at hrow; cases hrow
   have nqw:qg≠wt:=λz=>by rw [z,hwt0] at hrow; cases hrow
   have nqr:rp≠qg:=λz=>by have:=R.lst; rw [z,hrow] at this; cases this
   refine ⟨_,rfl,_,rfl,rp,_,g,_,rfl,rfl,SqL.of R4.lst,hat,qg,r,rfl,hrow4,λo nf=>?_⟩
   have z5:upd H4 qg (.frz o (.dK r)) qg=some (.frz o (.dK r)):=aB
   have b5:But qg H (upd H4 qg (.frz o (.dK r))):=λb u nb hb=>by rw [aF nb]; exact s4 _ _ hb
   have e5:upd H4 qg (.frz o (.dK r)) fd0=some (.dK fs):=by rw [aF (Ne.symm nqf)]; exact e4
   have w5:upd H4 qg (.frz o (.dK r)) wt=some (.lst ((os.drop (mm+1)).map V.int)):=by rw [aF (Ne.symm nqw)]; exact w4
   have T5:=T4.tp (Tp.upd (a:=qg) (u:=.frz o (.dK r)) λxs z=>by rw [hrow4] at z; cases z)
   generalize upd H4 qg (.frz o (.dK r))=H5 at z5 b5 e5 w5 T5 ⊢
   refine aDL (a:=qg) (o:=o) (kvs:=r) (λj σ H6=>∃ (v5:Option V) (fs:List (Key×V)) (os:List Int),σ = [some (.ref rp),some (.int first),some (.ref fd0),some (.ref wt),some (.int g),v5]/\H6 qg=some (.frz o (.dK r))/\But qg H H6/\H6 fd0=some (.dK fs)/\H6 wt=some (.lst ((os.drop (mm+1)).map V.int))/\Tree ws hs n first H6 fs os/\mm+1<=os.length/\os[mm]?=some g /\
     (∀ (i:Nat) (g:Int),i < mm->os[i]?=some g->∀ w t,jI ws hs g w t->t∈os)/\∀ (i:Nat) k v t,i < j->r[i]?=some (k,v)->k=.inl t->t∈os)
    ⟨v5,fs,os,rfl,z5,b5,e5,w5,T5,hend,hgm,pr3,λi k v t hi=>absurd hi (Xn _)⟩ (λj σ H6 _ ⟨_,_,_,_,h,_⟩=>h) ?_ ?_
   ·rintro j ⟨key,val⟩ σ H6 hj ⟨v5,fs,os,rfl,z6,b6,e6,w6,T6,hl6,hg6,pr6,dn6⟩
    -- the key is a hand,its value a work
    obtain ⟨val',hval⟩:∃ v,dO r key=some v:=by
     have:(dO r key).isSome=true:=by
      rw [<- hG,Zc]
      exact ⟨_,Qj hj,by simp⟩
     cases q:dO r key with
     | none=>rw [q] at this; cases this
     | some v=>exact ⟨v,rfl⟩
    obtain ⟨wk,t,rfl,rfl,hE⟩:=hRE.1 _ _ hval
    obtain ⟨ht0,ht1⟩:=hedge _ _ _ hE
    dsimp only [kV]
    have dn:∀ (os':List Int),t∈os'->(∀ x∈os,x∈os')->∀ (i:Nat) k v t',i < j+1->r[i]?=some (k,v)->k=.inl t'->t'∈os':=λos' h1 h2 i k v t' hi hk he=>by
     by_cases hij:i < j
     ·exact h2 _ (dn6 i k v t' hij hk he)
     ·have:i=j:=by omega
      subst this
      rw [hj] at hk
      cases hk
      have:t=t':=by simpa using he
      rw [<- this]; exact h1
    refine ⟨_,rfl,_,rfl,fd0,_,rfl,yI.k (k:=.inl t) e6,_,rfl,?_⟩
    rw [wS T6.keys]
    by_cases htm:t∈os
    ·rw [decide_eq_true htm]
     refine gF ?_
     exact ⟨_,fs,os,rfl,z6,b6,e6,w6,T6,hl6,hg6,pr6,dn os htm λ_ h=>h⟩
    ·rw [decide_eq_false htm]
     refine iN ?_
     have hR6:H6 rp=some (.lst (qs.map V.ref)):=b6 _ _ nqr R.lst
     refine ⟨_,rfl,_,rfl,rp,_,g,_,rfl,rfl,SqL.of hR6,hat,_,rfl,qg,.int (wk:Nat),rfl,.inl ⟨r,.inl t,.inr ⟨o,z6⟩,rfl,hval.symm⟩,_,rfl,_,rfl,eG (show 3<=1000 by decide),λp hp=>?_⟩
     have sp:=aE.new (o:=.tup [.int (wk:Nat),.int g,.int t]) hp
     have ep:upd H6 p (.tup [.int (wk:Nat),.int g,.int t]) p=_:=aB
     have b7:But qg H (upd H6 p (.tup [.int (wk:Nat),.int g,.int t])):=b6.trans (But.of sp)
     have z7:=sp _ _ z6
     have e7:=sp _ _ e6
     have w7:=sp _ _ w6
     have T7:=T6.tp (Tp.of sp)
     generalize upd H6 p (.tup [.int (wk:Nat),.int g,.int t])=H7 at sp ep b7 z7 e7 w7 T7 ⊢
     have hv:dO fs (.inl t)=none:=by
      have:=wS T7.keys t
      rw [decide_eq_false htm] at this
      cases q:dO fs (.inl t) with
      | none=>rfl
      | some v=>rw [q] at this; cases this
     have T7l:=T7.len
     have T7f:=T7.flen
     have T8:=T7.grow ep hE hg6 htm ht0 ht1
     have hput:jG fs (.inl t) (.ref p)=fs++[(.inl t,.ref p)]:=aDH _ hv
     refine ⟨_,rfl,_,rfl,fd0,_,rfl,vS.k (k:=.inl t) e7 (by rw [Rf]; omega),?_⟩
     rw [hput]
     have b8:But qg H (upd H7 fd0 (.dK (fs++[(.inl t,.ref p)]))):=λb u nb hb=>by
      rw [aF (λz=>by rw [z,hfd0] at hb; cases hb)]
      exact b7 b u nb hb
     have z8:upd H7 fd0 (.dK (fs++[(.inl t,.ref p)])) qg=some (.frz o (.dK r)):=by rw [aF nqf]; exact z7
     have e8:upd H7 fd0 (.dK (fs++[(.inl t,.ref p)])) fd0=_:=aB
     have w8:upd H7 fd0 (.dK (fs++[(.inl t,.ref p)])) wt=some (.lst ((os.drop (mm+1)).map V.int)):=by rw [aF (Ne.symm nfw)]; exact w7
     have T8':=T8.tp (Tp.upd (a:=fd0) (u:=.dK (fs++[(.inl t,.ref p)])) λxs z=>by rw [e7] at z; cases z)
     generalize upd H7 fd0 (.dK (fs++[(.inl t,.ref p)]))=H8 at b8 z8 e8 w8 T8' ⊢
     refine ⟨_,rfl,.inl ⟨rfl,_,SqL.of w8⟩,_,rfl,wt,_,.int t,rfl,rfl,w8,by rw [Qb,Jq,Rf]; omega,?_⟩
     have hdr:(os.drop (mm+1)).map V.int++[V.int t]=((os++[t]).drop (mm+1)).map V.int:=by
      rw [List.drop_append_of_le_length hl6,Qo]; rfl
     rw [hdr]
     refine ⟨_,_,os++[t],rfl,by rw [aF nqw]; exact z8,λb u nb hb=>?_,by rw [aF nfw]; exact e8,aB,T8'.tp (Tp.upd λxs z=>by rw [w8] at z; cases z),by rw [Qn]; omega,by rw [Qu (by omega)]; exact hg6,λi g' hi hg' w t' e'=>?_,dn _ (by simp) λx hx=>Jw _ hx⟩
     ·rw [aF (λz=>by rw [z,hwt0] at hb; cases hb)]
      exact b8 b u nb hb
     ·rw [Qu (by omega)] at hg'
      exact Jw _ (pr6 i g' hi hg' w t' e')
   ·rintro σ H6 ⟨v5,fs,os,rfl,z6,b6,e6,w6,T6,hl6,hg6,pr6,dn6⟩
    refine ⟨qg,o,r,z6,nf,?_⟩
    have hole:=T6.len
    have s7:aE H (upd H6 qg (.dK r)):=λb u hb=>by
     by_cases hbq:b=qg
     ·rw [hbq] at hb ⊢
      rw [aB,<- hrow]; exact hb
     ·rw [aF hbq]; exact b6 b u hbq hb
    refine ⟨n.toNat - (mm+1),by omega,_,_,mm+1,fs,os,rfl,rfl,s7,by rw [aF (Ne.symm nqf)]; exact e6,by rw [aF (Ne.symm nqw)]; exact w6,T6.tp (Tp.upd λxs z=>by rw [z6] at z; cases z),hl6,λi g' hi hg' w t e=>?_⟩
    by_cases him:i < mm
    ·exact pr6 i g' him hg' w t e
    ·have:i=mm:=by omega
     subst this
     rw [hg6] at hg'
     cases hg'
     have hs:=hRE.2 w t e
     rw [<- hG,Zc] at hs
     obtain ⟨⟨k,v⟩,hk,he⟩:=hs
     obtain ⟨j,hj⟩:=Jb.mp hk
     exact dn6 j k v t (Qd.mp hj).1 hj (by simpa using he)
  ·have hlen:mm=os.length:=by omega
   have hb:(!((os.drop mm).map V.int).isEmpty)=false:=by rw [hlen,List.drop_length]; rfl
   rw [hb]
   refine gF ?_
   refine ⟨_,rfl,k fd0 H3 fs os s3 hfd0 e3 T3 λg hg w t e=>?_⟩
   obtain ⟨i,hi⟩:=Jb.mp hg
   exact pr3 i g (by have:=(Qd.mp hi).1; omega) hi w t e
structure StepsAt (H:Hp) (ps:List Addr) (ss:List (Nat×Int×Int)):Prop where
 len:ps.length=ss.length
 at_:∀ (i:Nat) p s,ps[i]?=some p->ss[i]?=some s->H p=some (.tup [.int (s.1:Nat),.int s.2.1,.int s.2.2])
theorem StepsAt.nil:StepsAt H [] []:=⟨rfl,λi p s h=>by simp at h⟩
theorem StepsAt.cons {ps:List Addr} (h:StepsAt H ps ss) {p:Addr} {w:Nat} {g t:Int} (hp:H p=some (.tup [.int (w:Nat),.int g,.int t])):StepsAt H (p::ps) ((w,g,t)::ss):=by
 refine ⟨by rw [Qx,Qx,h.len],λi p' s h1 h2=>?_⟩
 cases i with
 | zero =>
  have e1:p=p':=by simpa using h1
  have e2:(w,g,t)=s:=by simpa using h2
  subst e1 e2
  exact hp
 | succ i=>exact h.at_ i p' s (by simpa using h1) (by simpa using h2)
theorem StepsAt.tp {ps:List Addr} (h:StepsAt H ps ss) (e:Tp H H'):StepsAt H' ps ss:=⟨h.len,λi p s a b=>e _ _ (h.at_ i p s a b)⟩
def aBL (K:Rc):Sp:=λvs H Q _=>∃ fdp last fs os first n ws hs jl,vs = [.ref fdp,.int last]/\H fdp=some (.dK fs)/\Tree ws hs n first H fs os/\n<=6/\os[jl]?=some last /\
 ∀ p H' ps ss,aE H H'->H p=none->H' p=some (.lst (ps.map V.ref))->StepsAt H' ps ss->gO ws hs first ss last->(first::ss.map (·.2.2)).Nodup->(∀ s∈ss,s.2.2∈os)->(0 < jl->ss≠[])->Q (.ref p) H'
theorem qW:FnScope ["found", "last", "some", "step"] ["found", "last"] (aH wI):=⟨rfl,rfl,rfl,by decide +kernel,rfl,by decide +kernel,by decide +kernel⟩
theorem aEl (G:Fn K mg "way_to" wI ["found", "last"] f fd) (B:Bl mg):FnOk P w K mg base CX0 1 f fd ["found", "last"] (aBL K):=by
 refine G.fn.ok qW (λvs H Q E h=>?_) (λcdv A outer s H vs Q E hr h=>?_)
 ·obtain ⟨fdp,last,fs,os,first,n,ws,hs,jl,rfl,_⟩:=h
  rfl
 ·obtain ⟨fdp,last,fs,os,first,n,ws,hs,jl,rfl,hfd,T,hn6,hjl,k⟩:=h
  refine ⟨_,(aD (aL (i:=2) qW.nd rfl (Or.inl rfl) (fO aC))
   (aD (aL (i:=3) qW.nd rfl (Or.inl rfl) (nU (kO hr) (pv 0) (pv 1) (λ_ _=>rfl)))
   (aD (rA PassesOwn.never (aDd (aEZ (pv 3)))
    (aD (eT (kY Rt Rx Ry gL (pv 2) (aA (pv 3) aC)))
    (aI (aL (i:=3) qW.nd rfl (Or.inl rfl) (nU (kO hr) (pv 0) (bA bT (pv 3) aG (λ_ _=>rfl)) (λ_ _=>rfl))))))
   (aI (aW (aFe (pv 2) (aF8 aDh aG))))))),?_⟩
  have Tl:=T.len
  have hnsz:n.toNat < sizeLine:=by rw [Rf]; omega
  refine ⟨eG (show 0<=1000 by decide),λsm hsm=>?_⟩
  have s1:=aE.new (o:=.lst []) hsm
  have e1:upd H sm (.lst []) sm=some (.lst []):=aB
  generalize upd H sm (.lst [])=H1 at s1 e1 ⊢
  -- what stands at a found hand
  have vals:∀ (j:Nat) (t:Int),os[j]?=some t->∃ v,dO fs (.inl t)=some v/\((j=0/\v=.non)∨∃ p w g i,0 < j/\v=.ref p/\H p=some (.tup [.int (w:Nat),.int g,.int t])/\jI ws hs g w t/\i < j/\os[i]?=some g):=λj t ht=>by
   by_cases hj:j=0
   ·subst hj
    rw [T.head] at ht
    cases ht
    exact ⟨_,T.v0,.inl ⟨rfl,rfl⟩⟩
   ·obtain ⟨p,w,g,i,a,b,c,d,e⟩:=T.par j t (by omega) ht
    exact ⟨_,a,.inr ⟨p,w,g,i,by omega,rfl,b,c,d,e⟩⟩
  obtain ⟨v0,hv0,_⟩:=vals jl last hjl
  refine ⟨_,rfl,_,rfl,fdp,v0,rfl,.inl ⟨fs,.inl last,.inl (s1 _ _ hfd),rfl,hv0.symm⟩,?_⟩
  refine ⟨λm σ H2=>∃ (j:Nat) (t:Int) (v:V) (rps:List Addr) (ss:List (Nat×Int×Int)),m=j/\σ = [some (.ref fdp),some (.int last),some (.ref sm),some v]/\os[j]?=some t/\dO fs (.inl t)=some v/\aE H H2/\H2 sm=some (.lst (rps.map V.ref))/\StepsAt H2 rps.reverse ss/\gO ws hs t ss last/\(t::ss.map (·.2.2)).Nodup /\
    (∀ x∈ss.map (·.2.2),∃ i:Nat,j < i/\os[i]?=some x)/\rps.length+j<=jl/\(j < jl->ss≠[]),
   ⟨jl,jl,last,v0,[],[],rfl,rfl,hjl,hv0,s1,e1,StepsAt.nil,rfl,by simp,λx h=>by simp at h,by simp,λh=>by omega⟩,?_⟩
  rintro j σ H2 ⟨_,t,v,rps,ss,rfl,rfl,hj,hv,s2,e2,S2,P2,N2,I2,L2',L3⟩
  have hjo:jl < os.length:=(Qd.mp hjl).1
  obtain ⟨v',hv',cs⟩:=vals j t hj
  rw [hv] at hv'
  cases hv'
  rcases cs with ⟨rfl,rfl⟩ | ⟨p,w,g,i,hj0,rfl,hp,hE,hij,hg⟩
  ·refine ⟨_,rfl,_,rfl,?_⟩
   refine gF ?_
   rw [T.head] at hj
   cases hj
   refine ⟨_,rfl,_,rfl,rfl,sm,_,rfl,SqL.of e2,λp hp=>?_⟩
   have s3:=aE.new (o:=.lst (rps.map V.ref).reverse) hp
   refine k p _ rps.reverse ss (s2.trans s3) (s2.free hp) (by rw [aB,List.map_reverse]) (S2.tp (Tp.of s3)) P2 N2 (λx hx=>?_) L3
   obtain ⟨i,_,hi⟩:=I2 _ (Qv.mpr ⟨x,hx,rfl⟩)
   exact Qj hi
  ·refine ⟨_,rfl,_,rfl,?_⟩
   refine iN ?_
   obtain ⟨vg,hvg,_⟩:=vals i g hg
   refine ⟨λσ' H'=>∃ m',m' < j/\∃ (j:Nat) (t:Int) (v:V) (rps:List Addr) (ss:List (Nat×Int×Int)),m'=j/\σ' = [some (.ref fdp),some (.int last),some (.ref sm),some v]/\os[j]?=some t/\dO fs (.inl t)=some v/\aE H H'/\H' sm=some (.lst (rps.map V.ref))/\StepsAt H' rps.reverse ss/\gO ws hs t ss last/\(t::ss.map (·.2.2)).Nodup /\
    (∀ x∈ss.map (·.2.2),∃ i:Nat,j < i/\os[i]?=some x)/\rps.length+j<=jl/\(j < jl->ss≠[]),λσ' H' z=>z,?_⟩
   have hsz:(rps.map V.ref).length < sizeLine:=by
    rw [Qb]
    exact Yk (Jl (Jl (Zb _ _) L2') (Jl (Yw hjo) Tl)) hnsz
   refine ⟨_,rfl,.inl ⟨rfl,_,SqL.of e2⟩,_,rfl,sm,_,.ref p,rfl,rfl,e2,hsz,?_⟩
   have s3:aE H (upd H2 sm (.lst (rps.map V.ref++[.ref p]))):=s2.wr hsm
   have e3:upd H2 sm (.lst (rps.map V.ref++[.ref p])) sm=_:=aB
   have S3:=S2.tp (Tp.upd (a:=sm) (u:=.lst (rps.map V.ref++[.ref p])) λxs z=>by rw [e2] at z; cases z)
   generalize upd H2 sm (.lst (rps.map V.ref++[.ref p]))=H3 at s3 e3 S3 ⊢
   have hp3:=s3 _ _ hp
   refine ⟨_,rfl,_,rfl,p,_,1,.int g,rfl,rfl,SqT.of hp3,rfl,fdp,vg,rfl,.inl ⟨fs,.inl g,.inl (s3 _ _ hfd),rfl,hvg.symm⟩,?_⟩
   refine ⟨i,hij,i,g,vg,rps++[p],(w,g,t)::ss,rfl,rfl,hg,hvg,s3,by rw [Qo]; exact e3,?_,⟨rfl,hE,P2⟩,?_,?_,?_,λ_=>by simp⟩
   ·rw [Qay]
    exact S3.cons hp3
   ·show (g::t::ss.map (·.2.2)).Nodup
    rw [Xd]
    refine ⟨λhm=>?_,N2⟩
    have inj:∀ i',i < i'->os[i']?=some g->False:=λi' h1 h2=>by
     have:=(Yv (Qd.mp hg).1 T.nd).mp (hg.trans h2.symm)
     omega
    rcases Qm.mp hm with e | hm
    ·exact inj j hij (by rw [e]; exact hj)
    ·obtain ⟨i',h1,h2⟩:=I2 g hm
     exact inj i' (by omega) h2
   ·intro x hx
    rcases Qm.mp (show x∈t::ss.map (·.2.2) from hx) with rfl | hx
    ·exact ⟨j,hij,hj⟩
    ·obtain ⟨i',h1,h2⟩:=I2 x hx
     exact ⟨i',by omega,h2⟩
   ·rw [Qn]
    show rps.length+1+i<=jl
    omega
def mQ:Str:=("levels_or_way" : Str) ++ ".<locals>." ++ "<lambda>"
theorem sO {n:Int} {h:Int} (h0:0<=h) (h1:h < n):atI ((aM n hs).map V.int) h=some (.int ((hs.count h:Nat):Int)):=by
 have hlt:h.toNat < n.toNat:=by omega
 have hcast:((h.toNat:Nat):Int)=h:=by omega
 have h1:((aM n hs).map V.int)[h.toNat]?=some (.int ((hs.count h:Nat):Int)):=by rw [Qe,nH hlt,hcast]; rfl
 have h2:=cH h1
 rwa [hcast] at h2
def aH4 (n:Int) (ws:List (List Int)) (hs:List Int) (H H':Hp) (p:Addr):Prop :=
 (∃ q lv,H' p=some (.tup [.str "levels",.ref q])/\H' q=some (.tup (lv.map V.int))/\hV n ws hs lv) ∨
 ∃ q ps ss,H' p=some (.tup [.str "way",.ref q])/\H q=none/\H' q=some (.lst (ps.map V.ref))/\StepsAt H' ps ss/\qA n ws hs ss
def aBM (K:Rc) (Pt:Addr):Sp:=λvs H Q _=>∃ x y n ws hs,vs = [x,y]/\fI K H x y n ws hs/\H Pt=some (.tab mQ)/\∀ p H',aE H H'->aH4 n ws hs H H' p->Q (.ref p) H'
theorem sP:FnScope ["book", "deal", "many", "rows", "levels", "hand", "found", "last"] ["book", "deal"] (aH aD8):=⟨rfl,rfl,rfl,by decide +kernel,rfl,by decide +kernel,by decide +kernel⟩
theorem aG8 {fHd fR fW':Addr} {dHd dR dW':FuncData} (G:Fn K mg "levels_or_way" aD8 ["book", "deal"] f fd) (hc:fd.code=.ref c) (Z:Lm K mg base c Pt) (B:Bl mg) (R:Pr K mg fW fH fK fB fNB fD fND fL dW dH dK dB dNB dD dND dL) (GH:Fn K mg "handing" lP ["book", "deal"] fHd dHd) (GR:Fn K mg "reached" nZ ["rows", "first"] fR dR) (GW:Fn K mg "way_to" wI ["found", "last"] fW' dW'):FnOk P w K mg base CX0 8 f fd ["book", "deal"] (aBM K Pt):=by
 have OL:FnOk P w K mg base CX0 7 fL dL ["book", "deal"] (qU K):=sF B R
 have OH:FnOk P w K mg base CX0 1 fHd dHd ["book", "deal"] (vA K):=aAP GH B
 have OR:FnOk P w K mg base CX0 1 fR dR ["rows", "first"] (vB K):=aAQ GR B
 have OW:FnOk P w K mg base CX0 1 fW' dW' ["found", "last"] (aBL K):=aEl GW B
 refine G.fn.okC hc sP (λvs H Q E h=>?_) (λA outer s H vs Q E hr h=>?_)
 ·obtain ⟨x,y,n,ws,hs,rfl,_⟩:=h
  rfl
 ·obtain ⟨x,y,n,ws,hs,rfl,g,hT,k⟩:=h
  have r1:Room 1 _:=hr.mono (by decide)
  refine ⟨_,(aD (aL (i:=2) sP.nd rfl (Or.inr rfl) (bB R.L OL hr rfl (aA (pv 0) (aA (pv 1) aC))))
   (aD (aL (i:=3) sP.nd rfl (Or.inl rfl) (bB GH OH r1 rfl (aA (pv 0) (aA (pv 1) aC))))
   (aD (aL (i:=4) sP.nd rfl (Or.inl rfl) (fO aC))
   (aD (eC PassesOwn.never rfl (cC rfl B.range (aA (bA bT (pv 0) aG (λ_ _=>rfl)) aC)) (aJ (i:=5) sP.nd rfl (Or.inl rfl))
    (aD (aL (i:=6) sP.nd rfl (Or.inl rfl) (bB GR OR r1 rfl (aA (pv 3) (aA (pv 5) aC))))
    (aD (aL (i:=7) sP.nd rfl (Or.inl rfl) (aCz 2 rfl r1 rfl B.min Z rfl (q:=mQ) rfl (pv 6) rfl rfl))
    (aD (cG (bJ aBf (aY aAj (bA bT (pv 2) (pv 5) (λ_ _=>rfl)) (bA bT (pv 2) (pv 7) (λ_ _=>rfl))) aG (bE _))
     (aI (aW (dI (aA aAg (aA (bB GW OW r1 rfl (aA (pv 6) (aA (pv 7) aC))) aC)))))
     bI)
    (aI (eT (kY Rt Rx Ry gL (pv 4) (aA (bA bT (pv 2) (pv 7) (λ_ _=>rfl)) aC))))))))
   (aI (aW (dI (aA aAg (aA (bK bQ rfl B.tuple cJ (aA (pv 4) aC)) aC))))))))),?_⟩
  obtain ⟨hl12,hn1,hn6⟩:=g.len
  obtain ⟨a,b,ys,ex,ha,hb2,hys⟩:=cU g.1
  obtain ⟨_,_,hw12,hws⟩:=bF g.2.1
  have hedge:∀ g w t,jI ws hs g w t->0<=t/\t < n:=λg w t e=>by
   obtain ⟨_,l,h1,h2,_⟩:=e
   exact (bH (hws l (Qj h1))).2.1 t h2
  refine ⟨_,rfl,_,rfl,x,y,n,ws,hs,rfl,g,λmp H1 s1 hmp=>?_⟩
  have g1:=g.same s1
  refine ⟨_,rfl,_,rfl,x,y,n,ws,hs,rfl,g1,λrp H2 qs rs s2 hrp hqs R2 hlr ER=>?_⟩
  refine ⟨eG (show 0<=1000 by decide),λlp hlp=>?_⟩
  have s12:=s1.trans s2
  have s3:=s12.trans (aE.new (o:=.lst []) hlp)
  have hlp0:H lp=none:=s12.free hlp
  have R3:=R2.same (aE.new (o:=.lst []) hlp)
  have m3:=(s2.trans (aE.new (o:=.lst []) hlp)) _ _ hmp
  have e3:upd H2 lp (.lst []) lp=some (.lst []):=aB
  have hrp0:H rp=none:=s1.free hrp
  have nrl:rp≠lp:=λz=>by have:=R2.lst; rw [z,hlp] at this; cases this
  have nql:∀ q∈qs,q≠lp:=λq hq z=>by
   obtain ⟨i,hi⟩:=Jb.mp hq
   have hil:i < rs.length:=by rw [<- R2.len]; exact (Qd.mp hi).1
   have:=R2.row i q _ hi (Qc hil)
   rw [z,hlp] at this; cases this
  have nml:mp≠lp:=λz=>by have:=s2 _ _ hmp; rw [z,hlp] at this; cases this
  generalize upd H2 lp (.lst [])=H3 at s3 R3 m3 e3 ⊢
  subst ex
  refine ⟨_,rfl,a,_,0,.int n,rfl,rfl,s3.seqT ha,rfl,n,rfl,by omega,by omega,eU (lo:=0) (n:=n.toNat) (λi σ H4=>∃ (v5 v6 v7:Option V) (lv:List Int),σ = [some (.ref a),some y,some (.ref mp),some (.ref rp),some (.ref lp),v5,v6,v7]/\aE H H4/\Rows H4 rp qs rs/\H4 mp=some (.tup ((aM n hs).map V.int))/\H4 lp=some (.lst (lv.map V.int))/\lv.length=i /\
    ∀ (h:Nat) (v:Int),lv[h]?=some v->oH ws hs n.toNat h v/\((hs.count (h:Int):Nat):Int) - v < 2)
   ⟨none,none,none,[],rfl,s3,R3,m3,e3,rfl,λh v e=>by simp at e⟩ ?_ ?_⟩
  ·rintro i σ H4 hi ⟨v5,v6,v7,lv,rfl,s4,R4,m4,e4,hlv,L4⟩
   have hi0:(0:Int)<=0+(i:Int):=by omega
   have hi1:0+(i:Int) < n:=by omega
   refine ⟨_,rfl,_,rfl,rp,0+(i:Int),qs,rs,n,ws,hs,rfl,R4,hlr,ER,hedge,hn6,hi0,hi1,λfdp H5 fs os s5 hfd e5 T5 C5=>?_⟩
   have s45:=s4.trans s5
   have R5:=R4.same s5
   have m5:=s5 _ _ m4
   have l5:=s5 _ _ e4
   have T5l:=T5.len
   have hpos:0 < os.length:=(Qd.mp T5.head).1
   refine ⟨_,rfl,os,λo=>((hs.count o:Nat):Int),.ref mp,⟨fdp,rfl,.inr (.inr ⟨fs,e5,T5.keys⟩)⟩,hpos,s45 _ _ hT,rfl,λo ho=>?_,λj m H6 s6 hj hmin _=>?_⟩
   ·obtain ⟨o0,o1⟩:=T5.rng o ho
    refine ⟨o0,by omega,mp,_,rfl,.inl (SqT.of m5),?_⟩
    rw [Qe,nH (by omega),show ((o.toNat:Nat):Int)=o by omega]
    rfl
   have hjl:j < os.length:=(Qd.mp hj).1
   obtain ⟨m0,m1⟩:=T5.rng m (Qj hj)
   have s46:=s45.trans s6
   have R6:=R5.same s6
   have m6:=s6 _ _ m5
   have l6:=s6 _ _ l5
   have e6:=s6 _ _ e5
   have T6:=T5.tp (Tp.of s6)
   have hRL:RL ws hs n.toNat (0+(i:Int)) m:=(T6.rl j m hj).mono (by omega)
   have hmin2:oH ws hs n.toNat (0+(i:Int)) ((hs.count m:Nat):Int):=by
    refine ⟨⟨m,hRL,rfl⟩,λk x hx=>?_⟩
    exact hmin x (hx.closed (S:=λo=>o∈os) (λg w t hg e=>C5 g hg w t e) (Qj T5.head))
   refine ⟨_,rfl,_,rfl,mp,_,_,_,rfl,rfl,SqT.of m6,sO hi0 hi1,_,rfl,_,rfl,mp,_,_,_,rfl,rfl,SqT.of m6,sO m0 m1,_,_,rfl,rfl,_,_,rfl,rfl,_,rfl,?_⟩
   refine dJ (λc=>?_) (λc=>?_)
   ·have hge:((hs.count (0+(i:Int)):Nat):Int) - ((hs.count m:Nat):Int)≥2:=of_decide_eq_true c
    refine ⟨_,rfl,_,rfl,fdp,m,fs,os,0+(i:Int),n,ws,hs,j,rfl,e6,T6,hn6,hj,λp H7 ps ss s7 hp hps S7 P7 N7 _ ne7=>⟨sz2 _ _,λq hq=>?_⟩⟩
    have s8:=aE.new (o:=.tup [.str "way",.ref p]) hq
    refine k q _ ((s46.trans s7).trans s8) (.inr ⟨p,ps,ss,aB,s46.free hp,s8 _ _ hps,S7.tp (Tp.of s8),0+(i:Int),m,ne7 ?_,P7,N7,hi0,hi1,hRL,hge⟩)
    rcases Nat.eq_zero_or_pos j with z | z
    ·rw [z,T5.head] at hj
     cases hj
     omega
    ·exact z
   ·have hlt:¬ ((hs.count (0+(i:Int)):Nat):Int) - ((hs.count m:Nat):Int)≥2:=λz=>c (decide_eq_true z)
    refine ⟨_,rfl,.inl ⟨rfl,_,SqL.of l6⟩,_,rfl,_,rfl,mp,_,_,_,rfl,rfl,SqT.of m6,sO m0 m1,lp,_,_,rfl,rfl,l6,by rw [Qb,Rf]; omega,?_⟩
    refine ⟨_,_,_,lv++[((hs.count m:Nat):Int)],rfl,s46.wr hlp0,?_,by rw [aF nml]; exact m6,by rw [aB,Qo]; rfl,by rw [Qn,hlv]; rfl,λh v e=>?_⟩
    ·refine ⟨by rw [aF nrl]; exact R6.lst,R6.len,R6.nd,λg q r h1 h2=>?_⟩
     rw [aF (nql q (Qj h1))]
     exact R6.row g q r h1 h2
    ·by_cases hh:h < lv.length
     ·rw [Qu hh] at e
      exact L4 h v e
     ·have eh:h=i:=by
       have:=(Qd.mp e).1
       rw [Qn] at this
       simp at this
       omega
      subst eh
      rw [Je (by omega),hlv,QaQ] at e
      have ev:((hs.count m:Nat):Int)=v:=by simpa using e
      rw [<- ev]
      rw [Xp] at hmin2 hlt
      exact ⟨hmin2,by omega⟩
  ·rintro σ H4 ⟨v5,v6,v7,lv,rfl,s4,R4,m4,e4,hlv,L4⟩
   refine ⟨_,rfl,lp,_,rfl,.inl ⟨SqL.of e4,λq hq=>⟨sz2 _ _,λp hp=>?_⟩⟩⟩
   have s5:=(aE.new (o:=.tup (lv.map V.int)) hq).trans (aE.new (o:=.tup [.str "levels",.ref q]) hp)
   exact k p _ (s4.trans s5) (.inl ⟨q,lv,aB,(aE.new hp) _ _ aB,hlv,L4⟩)
def d2 (n:Int) (ws:List (List Int)) (hs:List Int):PyData:=.list [aT n ws,aV hs]
theorem nI:∀ {h x:Int} {ss:List (Nat×Int×Int)},gO ws hs h ss x->ss.map (·.2.1)++[x]=h::ss.map (·.2.2)
 | _,_,[],e=>by cases e; rfl
 | _,_,s::r,⟨e1,_,e3⟩=>by rw [Qz,Yz,nI e3,e1]; rfl
theorem mL:∀ {h x:Int} {ss:List (Nat×Int×Int)},gO ws hs h ss x->∀ (i:Nat) s,ss[i]?=some s->jI ws hs s.2.1 s.1 s.2.2/\∀ s',0 < i->ss[i - 1]?=some s'->s'.2.2=s.2.1
 | _,_,[],_,i,s,hs=>by simp at hs
 | h,_,a::r,⟨e1,e2,e3⟩,0,s,hs'=>by
  have:a=s:=by simpa using hs'
  subst this
  exact ⟨by rw [e1]; exact e2,λs' h0=>by omega⟩
 | h,_,a::r,⟨e1,e2,e3⟩,i+1,s,hs'=>by
  have hr:r[i]?=some s:=by simpa using hs'
  obtain ⟨p1,p2⟩:=mL e3 i s hr
  refine ⟨p1,λs' _ hs2=>?_⟩
  cases i with
  | zero =>
   have e:a=s':=by simpa using hs2
   subst e
   cases r with
   | nil=>simp at hr
   | cons b r' =>
    have:b=s:=by simpa using hr
    subst this
    exact e3.1.symm
  | succ i=>exact p2 s' (by omega) (by simpa using hs2)
theorem vC:∀ {h x:Int} {ss:List (Nat×Int×Int)},gO ws hs h ss x->∀ s,ss[ss.length - 1]?=some s->s.2.2=x
 | _,_,[],_,s,e=>by simp at e
 | _,_,[a],⟨_,_,e3⟩,s,e=>by
  have:a=s:=by simpa using e
  subst this
  exact e3
 | _,_,a::b::r,⟨_,_,e3⟩,s,e=>vC e3 s (by simpa using e)
theorem mY:∀ L:List (List Int),gU (L.map bM)=true
 | []=>by unfold List.map gU; rfl
 | l::r=>by
  rw [Qz]
  unfold gU
  rw [mY r,QaF]
  exact kC l
theorem iF (L:List (List Int)):eO (.list (L.map bM))=true:=by unfold eO; exact mY L
theorem iG (L:List (List Int)):SeqAt.shaped (.list (L.map bM))=true:=by
 refine pI ?_ ?_
 ·unfold PyData.canLay0; exact kB _ oC L
 ·unfold PyData.depth; exact Jl (Yf (mF _ pY L)) (by decide)
def kP (s:Nat×Int×Int):List Int:=[(s.1:Int),s.2.1,s.2.2]
theorem StepsAt.den:∀ {ps:List Addr} {ss:List (Nat×Int×Int)},StepsAt H ps ss->bG K H ((ss.map kP).map bM) (ps.map V.ref)
 | [],[],_=>aU.mpr rfl
 | [],_::_,h=>by have:=h.len; simp at this
 | _::_,[],h=>by have:=h.len; simp at this
 | p::ps,s::ss,h=>by
  have h0:=h.at_ 0 p s rfl rfl
  have hr:StepsAt H ps ss:=⟨by have:=h.len; simpa using this,λi p' s' a b=>h.at_ (i+1) p' s' (by simpa using a) (by simpa using b)⟩
  exact aN.mpr ⟨_,_,rfl,aO.mpr ⟨p,rfl,SqT.of h0⟩,StepsAt.den hr⟩
end Ab
namespace L2
open PySem
end L2
namespace Ab
open PySem L2
theorem zG {k g t:Int} (h:gD ws hs [k,g,t]=true):0<=k/\k < hs.length/\hs[k.toNat]?=some g/\t≠g/\t∈ws.getD k.toNat []:=by
 have h':(decide (0<=k) && (decide (k < hs.length) && (hs[k.toNat]?==some g && (!decide (t=g) && decide (t∈ws.getD k.toNat [])))))=true:=h
 simp only [Ji,decide_eq_true_eq,beq_iff_eq,Bool.not_eq_true',decide_eq_false_iff_not] at h'
 exact ⟨h'.1,h'.2.1,h'.2.2.1,h'.2.2.2.1,h'.2.2.2.2⟩
def mZ (hs:List Int) (L:List (List Int)):List Int:=L.foldl (λh st=>h.set (st.getD 0 0).toNat (sM st)) hs
theorem aCU (L:List (List Int)):∀ hs:List Int,(mZ hs L).length=hs.length:=by
 induction L with
 | nil=>intro hs; rfl
 | cons s r ih=>intro hs; show (mZ (hs.set _ _) r).length=_; rw [ih,Yj]
theorem aAR (hs:List Int) (L:List (List Int)) (st:List Int):mZ hs (L++[st])=(mZ hs L).set (st.getD 0 0).toNat (sM st):=by unfold mZ; rw [Zf]; rfl
def WIn (K:Rc) (H:Hp) (x y:V) (p:Addr) (xs:List V) (n:Int) (ws:List (List Int)) (hs:List Int) (L:List (List Int)):Prop:=fI K H x y n ws hs/\SqL K H p xs/\bG K H (L.map bM) xs/\L.length<=30/\∀ l∈L,l.length<=1000
theorem WIn.same {p:Addr} {n:Int} {L:List (List Int)} (h:WIn K H x y p xs n ws hs L) (s:aE H H'):WIn K H' x y p xs n ws hs L:=⟨h.1.same s,s.seqL h.2.1,s.denAll _ _ h.2.2.1,h.2.2.2⟩
theorem WIn.nth {p:Addr} {n:Int} {L:List (List Int)} (h:WIn K H x y p xs n ws hs L) (hw:sN ws hs L=true) {u:V} (hu:xs[i]?=some u) :
  ∃ (c:Addr) (kk gg tt:Int),u=.ref c/\L[i]?=some [kk,gg,tt]/\SqT K H c [.int kk,.int gg,.int tt]/\gD ws hs [kk,gg,tt]=true:=by
 have hx:=aQ h.2.2.1
 rw [Qb] at hx
 have hlt:i < L.length:=by have:=(Qd.mp hu).1; omega
 have el:L[i]?=some L[i]:=Qc hlt
 obtain ⟨c1,e1,e2⟩:=kE h.2.2.1 el
 rw [hu] at e1
 have hall:L.all (gD ws hs)=true:=by unfold sN at hw; simp only [Ji] at hw; exact hw.2.1
 have hst:=Jr.mp hall _ (Xf hlt)
 obtain ⟨kk,gg,tt,e3⟩:=uZ hst
 rw [e3] at e2 el hst
 exact ⟨c1,kk,gg,tt,Option.some.inj e1,el,e2,hst⟩
def aBN (K:Rc):Sp:=λvs H Q _=>∃ x y p xs n ws hs L,vs = [x,y,.ref p]/\WIn K H x y p xs n ws hs L/\sN ws hs L=true/\∀ H',aE H H'->Q .non H'
theorem aFM:FnScope ["book", "deal", "some"] ["book", "deal", "some"] (aH wJ):=⟨rfl,rfl,rfl,by decide +kernel,rfl,by decide +kernel,by decide +kernel⟩
theorem aEm {fWy:Addr} {dWy dS:FuncData} (G:Fn K mg "need_way" wJ ["book", "deal", "some"] f fd) (B:Bl mg) (R:Pr K mg fW fH fK fB fNB fD fND fL dW dH dK dB dNB dD dND dL) (GW:Fn K mg "is_way" aAI ["book", "deal", "some"] fWy dWy) (GS:Fn K mg "is_step" uU ["book", "deal", "step"] fS dS):FnOk P w K mg base CX0 8 f fd ["book", "deal", "some"] (aBN K):=by
 have OWy:FnOk P w K mg base CX0 7 fWy dWy ["book", "deal", "some"] (aGm K):=aG5 GW B R GS
 refine G.fn.ok aFM (λvs H Q E h=>?_) (λcdv A outer s H vs Q E hr h=>?_)
 ·obtain ⟨x,y,p,xs,n,ws,hs,L,rfl,_⟩:=h
  rfl
 ·obtain ⟨x,y,p,xs,n,ws,hs,L,rfl,hi,hw,k⟩:=h
  refine ⟨_,aI (cG (eQ (eE (bB GW OWy hr rfl (aA (pv 0) (aA (pv 1) (aA (pv 2) aC)))))) oW bI),?_⟩
  refine ⟨_,rfl,_,rfl,_,rfl,x,y,p,xs,n,ws,hs,L,rfl,hi.1,hi.2.1,hi.2.2.1,hi.2.2.2.1,hi.2.2.2.2,λH' s1=>⟨_,rfl,?_⟩⟩
  rw [hw]
  refine gF ?_
  exact k H' s1
def aEn (K:Rc):Sp:=λvs H Q _=>∃ x y p xs n ws hs L,vs = [x,y,.ref p]/\WIn K H x y p xs n ws hs L/\sN ws hs L=true/\∀ q H',aE H H'->H q=none->H' q=some (.tup ((mZ hs L).map V.int))->Q (.ref q) H'
theorem sQ:FnScope ["book", "deal", "some", "behind", "work", "giver", "taker"] ["book", "deal", "some"] (aH aBA):=⟨rfl,rfl,rfl,by decide +kernel,rfl,by decide +kernel,by decide +kernel⟩
theorem aFN {fN:Addr} {dN:FuncData} (G:Fn K mg "gone" aBA ["book", "deal", "some"] f fd) (B:Bl mg) (GNW:Fn K mg "need_way" wJ ["book", "deal", "some"] fN dN) (ONW:FnOk P w K mg base CX0 8 fN dN ["book", "deal", "some"] (aBN K)):FnOk P w K mg base CX0 9 f fd ["book", "deal", "some"] (aEn K):=by
 refine G.fn.ok sQ (λvs H Q E h=>?_) (λcdv A outer s H vs Q E hr h=>?_)
 ·obtain ⟨x,y,p,xs,n,ws,hs,L,rfl,_⟩:=h
  rfl
 ·obtain ⟨x,y,p,xs,n,ws,hs,L,rfl,hi,hw,k⟩:=h
  have r8:Room 8 _:=hr
  refine ⟨_,(aD (eT (bB GNW ONW r8 rfl (aA (pv 0) (aA (pv 1) (aA (pv 2) aC)))))
  (aD (aL (i:=3) sQ.nd rfl (Or.inl rfl) (bK nR rfl B.list aAE (aA (pv 1) aC)))
  (aD (eC PassesOwn.never rfl (jX (pv 2)) (fX rfl (aZ (aJ (i:=4) sQ.nd rfl (Or.inl rfl)) (aZ (aJ (i:=5) sQ.nd rfl (Or.inl rfl)) (aZ (aJ (i:=6) sQ.nd rfl (Or.inl rfl)) dP))))
   (aI (iM (pv 6) (vL (pv 3) (pv 4) nO))))
  (aI (aW (bK bQ rfl B.tuple cJ (aA (pv 3) aC))))))),?_⟩
  refine ⟨_,rfl,_,rfl,_,rfl,x,y,p,xs,n,ws,hs,L,rfl,hi,hw,λH1 s1=>?_⟩
  have hi1:=hi.same s1
  obtain ⟨c0,rfl,hc0⟩:=aO.mp hi1.1.2.2.1
  have hxl:=aQ hi.2.2.1
  rw [Qb] at hxl
  refine ⟨_,rfl,c0,_,rfl,.inr hc0,λbh hbh=>?_⟩
  have s2:=aE.new (o:=.lst (hs.map V.int)) hbh
  have e2:upd H1 bh (.lst (hs.map V.int)) bh=some (.lst (hs.map V.int)):=aB
  generalize upd H1 bh (.lst (hs.map V.int))=H2 at s2 e2 ⊢
  refine ⟨_,rfl,p,rfl,⟨_,(hi1.same s2).2.1⟩,xF (K:=K) (a:=p) (xs:=xs) (λi σ H3=>∃ v4 v5 v6,σ = [some x,some (.ref c0),some (.ref p),some (.ref bh),v4,v5,v6]/\aE H1 H3/\H3 bh=some (.lst ((mZ hs (L.take i)).map V.int))) ⟨_,_,_,rfl,s2,e2⟩ (λi σ H3 _ ⟨_,_,_,_,s3,_⟩=>(hi1.same s3).2.1) ?_ ?_⟩
  ·rintro i u σ H3 hu ⟨v4,v5,v6,rfl,s3,e3⟩
   obtain ⟨c,kk,gg,tt,rfl,el,hc,hst⟩:=(hi1.same s3).nth hw hu
   obtain ⟨k0,k1,_⟩:=zG hst
   refine ⟨c,_,rfl,hc,rfl,_,_,rfl,_,_,rfl,_,_,rfl,rfl,?_⟩
   refine ⟨_,rfl,_,rfl,_,rfl,bh,_,kk,kk.toNat,rfl,rfl,e3,aG6 k0 (by rw [Qb,aCU]; exact k1),?_⟩
   refine ⟨_,_,_,rfl,s3.wr hbh,?_⟩
   rw [aB,Jp,el]
   show some (HO.lst _)=some (HO.lst ((mZ hs (L.take i++[[kk,gg,tt]])).map V.int))
   rw [aAR,List.map_set]
   rfl
  ·rintro σ H3 ⟨v4,v5,v6,rfl,s3,e3⟩
   rw [hxl,Jm (Qg _)] at e3
   refine ⟨_,rfl,bh,_,rfl,.inl ⟨SqL.of e3,λq hq=>k q _ ((s1.trans s3).trans (aE.new hq)) ((s1.trans s3).free hq) aB⟩⟩
end Ab
namespace Ab
def gI (hs:List Int) (ss:List (Nat×Int×Int)):List Int:=ss.foldl (λh s=>h.set s.1 s.2.2) hs
theorem pJ:∀ (ss:List (Nat×Int×Int)) (hs:List Int),(gI hs ss).length=hs.length
 | [],_=>rfl
 | s::r,hs=>by show (gI (hs.set s.1 s.2.2) r).length=_; rw [pJ r,Yj]
theorem sR:∀ (hs:List Int) (w:Nat) (g t c:Int),hs[w]?=some g->(((hs.set w t).count c:Nat):Int)=((hs.count c:Nat):Int) - (if c=g then 1 else 0)+(if c=t then 1 else 0)
 | [],w,g,t,c,h=>by simp at h
 | a::r,0,g,t,c,h=>by
  have e:a=g:=by simpa using h
  subst e
  rw [List.set_cons_zero,Zh,Zh]
  by_cases h1:c=a <;> by_cases h2:c=t
  ·subst h1; subst h2; simp
  ·subst h1; have:(t==c)=false:=by simpa using λz=>h2 z.symm
   simp [h2,this]
  ·subst h2; have:(a==c)=false:=by simpa using λz=>h1 z.symm
   simp [h1,this]
  ·have e1:(a==c)=false:=by simpa using λz=>h1 z.symm
   have e2:(t==c)=false:=by simpa using λz=>h2 z.symm
   simp [h1,h2,e1,e2]
 | a::r,w+1,g,t,c,h=>by
  have ih:=sR r w g t c (by simpa using h)
  rw [List.set_cons_succ,Zh,Zh]
  omega
theorem zH {w:Nat} {g u:Int} (hg:hs[w]?=some g):∀ {h x:Int} {r:List (Nat×Int×Int)},gO ws hs h r x->(∀ s∈r,s.2.1≠g)->gO ws (hs.set w u) h r x
 | _,_,[],e,_=>e
 | h,_,s::r,⟨e1,⟨e2,e3⟩,e4⟩,hn=>by
  refine ⟨e1,⟨?_,e3⟩,zH hg e4 λs' hs'=>hn s' (Qk _ hs')⟩
  have hne:w≠s.1:=λz=>by
   subst z
   rw [hg] at e2
   exact hn s (Qi ..) (e1.trans (Option.some.inj e2).symm)
  rw [Wd hne]
  exact e2
theorem zI {h x:Int} (hp:gO ws hs h ss x):∀ s∈ss,s.2.1∈h::ss.map (·.2.2):=λs hs'=>by
 rw [<- nI hp]
 exact Jw _ (Qv.mpr ⟨s,hs',rfl⟩)
theorem sS:∀ (ss:List (Nat×Int×Int)) {hs:List Int} {h x:Int},gO ws hs h ss x->(h::ss.map (·.2.2)).Nodup->∀ c:Int,(((gI hs ss).count c:Nat):Int)=((hs.count c:Nat):Int) - (if c=h then 1 else 0)+(if c=x then 1 else 0)
 | [],hs,h,x,hp,_,c=>by
  have e:h=x:=hp
  subst e
  show ((hs.count c:Nat):Int)=_
  omega
 | s::r,hs,h,x,⟨e1,e2,e3⟩,hn,c=>by
  rw [Qz,Xd] at hn
  have h1:=zH (u:=s.2.2) e2.1 e3 λs' hs' z=>hn.1 (by rw [<- z]; exact zI e3 s' hs')
  have ih:=sS r h1 hn.2 c
  have e:=sR hs s.1 h s.2.2 c e2.1
  show (((gI (hs.set s.1 s.2.2) r).count c:Nat):Int)=_
  omega
theorem pK:∀ (ss:List (Nat×Int×Int)) {hs:List Int},(∀ s∈ss,∃ l,ws[s.1]?=some l/\s.2.2∈l)->(∀ (j:Nat) (h:Int) (l:List Int),hs[j]?=some h->ws[j]?=some l->h∈l)->∀ (j:Nat) (h:Int) (l:List Int),(gI hs ss)[j]?=some h->ws[j]?=some l->h∈l
 | [],_,_,hd=>hd
 | s::r,hs,hl,hd=>pK r (λs' h'=>hl s' (Qk _ h')) λj h l e1 e2=>by
  obtain ⟨l',z1,z2⟩:=hl s (Qi ..)
  rw [Yu] at e1
  by_cases z:s.1=j
  ·subst z
   rw [if_pos rfl] at e1
   split at e1
   ·rw [z1] at e2
    rw [<- Option.some.inj e2,<- Option.some.inj e1]; exact z2
   ·cases e1
  ·rw [if_neg z] at e1
   exact hd j h l e1 e2
def Tri:Nat->Nat
 | 0=>0
 | k+1=>Tri k+k
def Sm (g:Nat->Nat):Nat->Nat
 | 0=>0
 | n+1=>Sm g n+g n
theorem aBO {g g':Nat->Nat}:∀ n:Nat,(∀ i,i < n->g' i=g i)->Sm g' n=Sm g n
 | 0,_=>rfl
 | n+1,h=>by show Sm g' n+g' n=Sm g n+g n; rw [aBO n λi hi=>h i (by omega),h n (by omega)]
theorem aAS {g g':Nat->Nat} {a:Nat}:∀ n:Nat,a < n->(∀ i,i < n->i≠a->g' i=g i)->Sm g' n+g a=Sm g n+g' a
 | 0,h,_=>by omega
 | n+1,h,hh=>by
  show Sm g' n+g' n+g a=Sm g n+g n+g' a
  by_cases e:a=n
  ·subst e
   rw [aBO a λi hi=>hh i (by omega) (by omega)]
   omega
  ·have ih:=aAS (g:=g) (g':=g') n (by omega) λi hi hn=>hh i (by omega) hn
   rw [hh n (by omega) (λz=>e z.symm)]
   omega
theorem aEo:∀ k:Nat,k<=12->Tri k<=12*k
 | 0,_=>Qg _
 | k+1,h=>by have:=aEo k (by omega); show Tri k+k<=_; omega
theorem aGn {g:Nat->Nat} {b:Nat} (h:∀ i,g i<=b):∀ n,Sm g n<=b*n
 | 0=>Jn _
 | n+1=>by have:=aGn h n; have:=h n; show Sm g n+g n<=_; rw [Nat.mul_succ]; omega
def Phi (n:Nat) (hs:List Int):Nat:=Sm (λi=>Tri (hs.count (i:Int))) n
theorem aG9 (h6:n<=6) (h:hs.length<=12):Phi n hs<=864:=by
 have:=aGn (g:=λi=>Tri (hs.count (i:Int))) (b:=144) (λi=>by
  have h1:hs.count (i:Int)<=hs.length:=Qau
  have h2:=aEo _ (Jl h1 h)
  show Tri (hs.count (i:Int))<=144
  omega) n
 unfold Phi
 omega
theorem aEp {n:Int} (W:qA n ws hs ss) (ht:∀ g w t,jI ws hs g w t->0<=t/\t < n):Phi n.toNat (gI hs ss) < Phi n.toNat hs:=by
 obtain ⟨h,x,hne,hP,hN,hh0,hh1,hRL,hge⟩:=W
 obtain ⟨s,hs'⟩:∃ s,ss[ss.length - 1]?=some s:=⟨_,Qc (by have:=Zu.mpr hne; omega)⟩
 have ex:=vC hP s hs'
 have hx:=ht _ _ _ (mL hP _ s hs').1
 rw [ex] at hx
 have hc:=sS ss hP hN
 have hhx:h≠x:=λz=>by rw [z] at hge; omega
 have e1:=aAS (g:=λi=>Tri (hs.count (i:Int))) (g':=λi=>if i=h.toNat then Tri (hs.count h - 1) else Tri (hs.count (i:Int))) (a:=h.toNat) n.toNat (by omega) (λi _ z=>if_neg z)
 have e2:=aAS (g:=λi=>if i=h.toNat then Tri (hs.count h - 1) else Tri (hs.count (i:Int))) (g':=λi=>Tri ((gI hs ss).count (i:Int))) (a:=x.toNat) n.toNat (by omega) (λi hi z=>by
  have hci:=hc (i:Int)
  by_cases zh:i=h.toNat
  ·have zi:(i:Int)=h:=by omega
   rw [if_pos zh]
   rw [zi,if_pos rfl,if_neg hhx] at hci
   rw [zi]
   show Tri ((gI hs ss).count h)=_
   congr 1
   omega
  ·rw [if_neg zh]
   rw [if_neg (show ¬ (i:Int)=h by omega),if_neg (show ¬ (i:Int)=x by omega)] at hci
   show Tri ((gI hs ss).count (i:Int))=_
   congr 1
   omega)
 have ch:((h.toNat:Nat):Int)=h:=by omega
 have cx:((x.toNat:Nat):Int)=x:=by omega
 simp only [if_pos,ch,cx,if_neg (show ¬ x.toNat=h.toNat by omega)] at e1 e2
 have hcx:=hc x
 rw [if_neg (λz=>hhx z.symm),if_pos rfl] at hcx
 have hcx':(gI hs ss).count x=hs.count x+1:=by omega
 rw [hcx'] at e2
 have t1:Tri (hs.count x+1)=Tri (hs.count x)+hs.count x:=rfl
 have t2:Tri (hs.count h)=Tri (hs.count h - 1)+(hs.count h - 1):=by
  have:hs.count h=(hs.count h - 1)+1:=by omega
  conv=>lhs; rw [this]
  rfl
 unfold Phi
 omega
def oI (n:Int) (ws:List (List Int)):List Int->List (List (Nat×Int×Int))->List Int->Prop
 | hs,[],he=>hs=he
 | hs,ss::r,he=>qA n ws hs ss/\oI n ws (gI hs ss) r he
theorem oI.snoc {n:Int}:∀ {hs:List Int} {W:List (List (Nat×Int×Int))} {hc:List Int} {ss:List (Nat×Int×Int)},oI n ws hs W hc->qA n ws hc ss->oI n ws hs (W++[ss]) (gI hc ss)
 | _,[],_,_,e,w=>by cases e; exact ⟨w,rfl⟩
 | _,_::_,_,_,⟨a,b⟩,w=>⟨a,oI.snoc b w⟩
end Ab
namespace Ab
open PySem L2
theorem aBP:∀ (ss:List (Nat×Int×Int)) (hs:List Int),mZ hs (ss.map kP)=gI hs ss
 | [],_=>rfl
 | s::r,hs=>by
  have e:((kP s).getD 0 0).toNat=s.1:=Jc _
  show mZ (hs.set ((kP s).getD 0 0).toNat (sM (kP s))) (r.map kP)=gI (hs.set s.1 s.2.2) r
  rw [e,aBP r]
  rfl
theorem aFO {h x:Int} (hne:ss≠[]) (hP:gO ws hs h ss x) (hN:(h::ss.map (·.2.2)).Nodup):sN ws hs (ss.map kP)=true:=by
 have hp:bW (ss.map kP)=h::ss.map (·.2.2):=by
  cases ss with
  | nil=>exact absurd rfl hne
  | cons s r =>
   show kD (kP s)::((s::r).map kP).map sM=_
   rw [Jv,show kD (kP s)=h from hP.1]
   rfl
 unfold sN qV
 rw [hp,decide_eq_true hN,QaF,Ji,Ji]
 refine ⟨?_,?_,?_⟩
 ·cases ss with
  | nil=>exact absurd rfl hne
  | cons _ _=>rfl
 ·rw [Jr]
  intro st hst
  obtain ⟨s,hs',rfl⟩:=Qv.mp hst
  obtain ⟨i,hi⟩:=Jb.mp hs'
  obtain ⟨⟨e1,l,e2,e3,e4⟩,_⟩:=mL hP i s hi
  have hlt:=(Qd.mp e1).1
  show (decide (0<=(s.1:Int)) && (decide ((s.1:Int) < hs.length) && (hs[(s.1:Int).toNat]?==some s.2.1 && (!decide (s.2.2=s.2.1) && decide (s.2.2∈ws.getD (s.1:Int).toNat [])))))=true
  rw [Jc,e1,Qq,e2,decide_eq_true (show (0:Int)<=s.1 by omega),decide_eq_true (show (s.1:Int) < hs.length by omega),decide_eq_false e4,decide_eq_true (show s.2.2∈(some l).getD [] from e3)]
  simp
 ·rw [<- nI hP,Jr]
  intro p hp'
  obtain ⟨i,hi⟩:=Jb.mp hp'
  rw [Js] at hi
  obtain ⟨h1,h2⟩:=hi
  rw [Qe] at h1
  cases q:ss[i]? with
  | none=>rw [q] at h1; cases h1
  | some s =>
   rw [q] at h1
   have hlt:=(Qd.mp q).1
   rw [Qu (by rw [Qb]; exact hlt),Qe,q] at h2
   rw [<- Option.some.inj h1,<- Option.some.inj h2]
   exact beq_self_eq_true _
structure WaysAt (H:Hp) (qs:List Addr) (Ws:List (List (Nat×Int×Int))):Prop where
 len:qs.length=Ws.length
 at_:∀ (i:Nat) q ss,qs[i]?=some q->Ws[i]?=some ss->∃ ps:List Addr,H q=some (.lst (ps.map V.ref))/\StepsAt H ps ss
theorem WaysAt.same (h:WaysAt H qs Ws) (s:aE H H'):WaysAt H' qs Ws:=⟨h.len,λi q ss a b=>let ⟨ps,h1,h2⟩:=h.at_ i q ss a b; ⟨ps,s _ _ h1,h2.tp (Tp.of s)⟩⟩
theorem Tp.but {t:Addr} (b:But t H H') (ht:H t=some (.lst zs)):Tp H H':=λp xs h=>b p _ (λz=>by rw [z,ht] at h; cases h) h
theorem WaysAt.but {t:Addr} (h:WaysAt H qs Ws) (b:But t H H') (ht:H t=some (.lst zs)) (hn:∀ q∈qs,q≠t):WaysAt H' qs Ws:=⟨h.len,λi q ss a e=>let ⟨ps,h1,h2⟩:=h.at_ i q ss a e; ⟨ps,b _ _ (hn q (Qj a)) h1,h2.tp (Tp.but b ht)⟩⟩
theorem WaysAt.snoc {q:Addr} {ps:List Addr} (h:WaysAt H qs Ws) (h1:H q=some (.lst (ps.map V.ref))) (h2:StepsAt H ps ss):WaysAt H (qs++[q]) (Ws++[ss]):=by
 refine ⟨by rw [Qn,Qn,h.len]; rfl,λi q' ss' a b=>?_⟩
 by_cases hi:i < qs.length
 ·rw [Qu hi] at a
  rw [Qu (by rw [<- h.len]; exact hi)] at b
  exact h.at_ i q' ss' a b
 ·rw [Je (by omega)] at a
  rw [Je (by rw [<- h.len]; omega)] at b
  have hlt:=(Qd.mp a).1
  have e0:i - qs.length=0:=by simp at hlt; omega
  rw [e0] at a
  rw [<- h.len,e0] at b
  have ea:q=q':=by simpa using a
  have eb:ss=ss':=by simpa using b
  subst ea; subst eb
  exact ⟨ps,h1,h2⟩
def aHa (n:Int) (ws:List (List Int)) (hs:List Int) (H':Hp) (p:Addr):Prop :=
 ∃ wl dl qs Ws he lv,H' p=some (.tup [.ref wl,.ref dl])/\H' wl=some (.lst (qs.map V.ref))/\WaysAt H' qs Ws/\Ws.length<=864/\H' dl=some (.tup (he.map V.int))/\oI n ws hs Ws he/\hV n ws he lv
def kF (K:Rc) (Pt:Addr):Sp:=λvs H Q _=>∃ x y n ws hs,vs = [x,y]/\fI K H x y n ws hs/\H Pt=some (.tab mQ)/\∀ p H',aE H H'->aHa n ws hs H' p->Q (.ref p) H'
theorem fI.but {n:Int} {t:Addr} (g:fI K H x y n ws hs) (b:But t H H') (ht:H t=some (.lst zs)):fI K H' x y n ws hs:=⟨b.den ht _ _ (lR n ws) g.1,g.2.1,b.den ht _ _ (zD hs) g.2.2.1,g.2.2.2⟩
theorem fI.edge {n:Int} (g:fI K H x y n ws hs):∀ a w t,jI ws hs a w t->0<=t/\t < n:=λa w t e=>by
 obtain ⟨_,_,hw12,hws⟩:=bF g.2.1
 obtain ⟨_,l,h1,h2,_⟩:=e
 exact (bH (hws l (Qj h1))).2.1 t h2
theorem fI.short {n:Int} (g:fI K H x y n ws hs) (W:qA n ws hs ss):ss.length<=12:=by
 obtain ⟨hl12,hn1,hn6⟩:=g.len
 obtain ⟨h,xx,hne,hP,hN,hh0,hh1,hRL,hge⟩:=W
 have:=mK n.toNat (h::ss.map (·.2.2)) hN λz hz=>by
  rcases Qm.mp hz with rfl | hz
  ·omega
  ·obtain ⟨s',hs',rfl⟩:=Qv.mp hz
   obtain ⟨i,hi⟩:=Jb.mp hs'
   have:=g.edge _ _ _ (mL hP i s' hi).1
   omega
 rw [Qx,Qb] at this
 omega
theorem fI.gone {n:Int} (g:fI K H x y n ws hs) (W:qA n ws hs ss) {d:Addr} (hd:SqT K H d ((gI hs ss).map V.int)):fI K H x (.ref d) n ws (gI hs ss):=by
 obtain ⟨hdl,hdg⟩:=aR g.2.2.2
 obtain ⟨h,xx,hne,hP,_⟩:=W
 refine ⟨g.1,g.2.1,aO.mpr ⟨d,rfl,hd⟩,fM (by rw [pJ]; exact hdl) (pK ss (λs hs'=>?_) hdg)⟩
 obtain ⟨i,hi⟩:=Jb.mp hs'
 obtain ⟨⟨_,l,e2,e3,_⟩,_⟩:=mL hP i s hi
 exact ⟨l,e2,e3⟩
theorem fT:FnScope ["book", "deal", "ways", "word", "shown"] ["book", "deal"] (aH iH):=⟨rfl,rfl,rfl,by decide +kernel,rfl,by decide +kernel,by decide +kernel⟩
theorem zJ {fLw fG:Addr} {dLw dG:FuncData} (G:Fn K mg "bettered" iH ["book", "deal"] f fd) (B:Bl mg) (GLw:Fn K mg "levels_or_way" aD8 ["book", "deal"] fLw dLw) (OLw:FnOk P w K mg base CX0 8 fLw dLw ["book", "deal"] (aBM K Pt)) (GG:Fn K mg "gone" aBA ["book", "deal", "some"] fG dG) (OG:FnOk P w K mg base CX0 9 fG dG ["book", "deal", "some"] (aEn K)):FnOk P w K mg base CX0 10 f fd ["book", "deal"] (kF K Pt):=by
 refine G.fn.ok fT (λvs H Q E h=>?_) (λcdv A outer s H vs Q E hr h=>?_)
 ·obtain ⟨x,y,n,ws,hs,rfl,_⟩:=h
  rfl
 ·obtain ⟨x,y,n,ws,hs,rfl,g,hT,k⟩:=h
  have r9:Room 9 _:=hr
  have r8:Room 8 _:=hr.mono (by decide)
  refine ⟨_,(aD (aL (i:=2) fT.nd rfl (Or.inl rfl) (fO aC))
  (aD (iM (bB GLw OLw r8 rfl (aA (pv 0) (aA (pv 1) aC))) (fX rfl (aZ (aJ (i:=3) fT.nd rfl (Or.inl rfl)) (aZ (aJ (i:=4) fT.nd rfl (Or.inl rfl)) dP))))
  (aD (rA PassesOwn.never (bJ gH (pv 3) aAg (bE _))
   (aD (eT (kY Rt Rx Ry gL (pv 2) (aA (pv 4) aC)))
  (aD (aL (i:=1) fT.nd rfl (Or.inl rfl) (bB GG OG r9 rfl (aA (pv 0) (aA (pv 1) (aA (pv 4) aC)))))
  (aI (iM (bB GLw OLw r8 rfl (aA (pv 0) (aA (pv 1) aC))) (fX rfl (aZ (aJ (i:=3) fT.nd rfl (Or.inl rfl)) (aZ (aJ (i:=4) fT.nd rfl (Or.inl rfl)) dP))))))))
  (aI (aW (dI (aA (pv 2) (aA (bK bQ rfl B.tuple cJ (aA (bX (own:=["hand"]) (fr:=[]) (frn:=[]) (bD (aH iH) ["book", "deal", "ways", "word", "shown"] rfl rfl (by decide +kernel)) rfl (fY (pv 1))
    (λ_ _ _ _=>(aJ (i:=0) (show (["hand"]:List Str).Nodup by decide +kernel) rfl (Or.inl rfl))) (λ_ _ _ _=>dM)
    (λ_ _ _ _=>(pv 0))) aC)) aC)))))))),?_⟩
  obtain ⟨hl12,hn1,hn6⟩:=g.len
  obtain ⟨c0,rfl,_⟩:=aO.mp g.2.2.1
  refine ⟨eG (Jn _),λwl hwl=>?_⟩
  have s0:=aE.new (o:=.lst []) hwl
  have e0:upd H wl (.lst []) wl=some (.lst []):=aB
  generalize upd H wl (.lst [])=H0 at s0 e0 ⊢
  refine ⟨_,rfl,_,rfl,x,.ref c0,n,ws,hs,rfl,g.same s0,s0 _ _ hT,λp1 H1 s1 TD=>?_⟩
  obtain ⟨W,hW⟩:∃ W:Nat->St->Hp->Prop,W=λm σ H1=>∃ (d q:Addr) (hc:List Int) (Ws:List (List (Nat×Int×Int))) (qs:List Addr) (word:Str),σ = [some x,some (.ref d),some (.ref wl),some (.str word),some (.ref q)]/\aE H H1/\fI K H1 x (.ref d) n ws hc/\H1 wl=some (.lst (qs.map V.ref))/\WaysAt H1 qs Ws/\(∀ z∈qs,z≠wl)/\oI n ws hs Ws hc/\Ws.length+Phi n.toNat hc<=864/\m=Phi n.toNat hc /\
    ((word = "levels" /\ ∃ lv,hV n ws hc lv)∨(word = "way" /\ q≠wl/\∃ ps ss,H1 q=some (.lst (ps.map V.ref))/\StepsAt H1 ps ss/\qA n ws hc ss)):=⟨_,rfl⟩
  -- what is told is taken up
  have take:∀ (d p1:Addr) (hc:List Int) (Ws:List (List (Nat×Int×Int))) (qs:List Addr) (Ha Hb:Hp),aE H Ha->aE Ha Hb->fI K Ha x (.ref d) n ws hc->Ha wl=some (.lst (qs.map V.ref))->WaysAt Ha qs Ws->(∀ z∈qs,z≠wl)->oI n ws hs Ws hc->Ws.length+Phi n.toNat hc<=864->aH4 n ws hc Ha Hb p1 ->
    ∃ word q,Hb p1=some (.tup [.str word,.ref q])/\W (Phi n.toNat hc) [some x,some (.ref d),some (.ref wl),some (.str word),some (.ref q)] Hb:=by
   intro d p1 hc Ws qs Ha Hb sa sb ga ea wa na ca la TD
   subst hW
   rcases TD with ⟨q,lv,h1,_,h2⟩ | ⟨q,ps,ss,h1,h2,h3,h4,h5⟩
   ·exact ⟨_,q,h1,d,q,hc,Ws,qs,_,rfl,sa.trans sb,ga.same sb,sb _ _ ea,wa.same sb,na,ca,la,rfl,.inl ⟨rfl,lv,h2⟩⟩
   ·exact ⟨_,q,h1,d,q,hc,Ws,qs,_,rfl,sa.trans sb,ga.same sb,sb _ _ ea,wa.same sb,na,ca,la,rfl,.inr ⟨rfl,(λz=>by rw [z,ea] at h2; cases h2),ps,ss,h3,h4,h5⟩⟩
  obtain ⟨word,q,h1,w1⟩:=take c0 p1 hs [] [] H0 H1 s0 s1 (g.same s0) e0 ⟨rfl,λi q ss a=>by simp at a⟩ (λ_ h=>(Qt h).elim) rfl (by have:=aG9 (n:=n.toNat) (hs:=hs) (by omega) hl12; simpa using this) TD
  refine ⟨p1,_,rfl,SqT.of h1,rfl,_,_,rfl,_,_,rfl,rfl,?_⟩
  refine ⟨W,⟨_,w1⟩,?_⟩
  intro m σ H2 w2
  have w2':=w2
  rw [hW] at w2'
  obtain ⟨d,q,hc,Ws,qs,word,rfl,s2,g2,e2,wa2,na2,ch2,le2,hm,alt⟩:=w2'
  refine ⟨_,rfl,rfl,_,rfl,?_⟩
  rcases alt with ⟨rfl,lv,hlv⟩ | ⟨rfl,nq,ps,ss,hq,hS,hWy⟩
  ·rw [decide_eq_false (show ¬ V.str "levels" = V.str "way" by intro z; injection z with z; revert z; decide)]
   refine gF ?_
   obtain ⟨c1,ec,hc1⟩:=aO.mp g2.2.2.1
   obtain rfl:d=c1:=by injection ec
   obtain ⟨hlc,_,_⟩:=g2.len
   refine ⟨_,rfl,_,rfl,d,rfl,⟨_,hc1⟩,yC (K:=K) (a:=d) (xs:=hc.map V.int) (vs:=hc.map V.int) (λσ=>∃ v,σ = [v]) (by rw [Qb]; omega) rfl hc1 ⟨none,rfl⟩ ?_ ?_⟩
   ·rintro j xv v σ H3 hx hv ⟨v',rfl⟩ s3 Q' hQ'
    rw [hx] at hv
    obtain rfl:=Option.some.inj hv
    exact ⟨_,rfl,hQ' _ _ ⟨_,rfl⟩ (aE.refl _)⟩
   ·rintro H3 s3 z hz
    have s4:=aE.new (o:=.lst (hc.map V.int)) hz
    refine ⟨z,_,rfl,.inl ⟨SqL.of aB,λdl hdl=>?_⟩⟩
    have s5:=aE.new (o:=.tup (hc.map V.int)) hdl
    refine ⟨sz2 _ _,λp hp=>?_⟩
    have s6:=aE.new (o:=.tup [.ref wl,.ref dl]) hp
    have s36:=((s3.trans s4).trans s5).trans s6
    exact k p _ (s2.trans s36) ⟨wl,dl,qs,Ws,hc,lv,aB,s36 _ _ e2,wa2.same s36,by omega,s6 _ _ aB,ch2,hlv⟩
  ·rw [decide_eq_true rfl]
   refine iN ?_
   refine ⟨λσ' H'=>∃ m',m' < m/\W m' σ' H',λ_ _ z=>z,?_⟩
   have hql:(qs.map V.ref).length < sizeLine:=by rw [Qb,wa2.len]; exact Yk (show Ws.length<=864 by omega) (by rw [Rf]; decide)
   refine ⟨_,rfl,.inl ⟨rfl,_,SqL.of e2⟩,_,rfl,wl,_,_,rfl,rfl,e2,hql,?_⟩
   have b3:But wl H2 (upd H2 wl (.lst (qs.map V.ref++[.ref q]))):=But.at
   have e3:upd H2 wl (.lst (qs.map V.ref++[.ref q])) wl=some (.lst ((qs++[q]).map V.ref)):=by rw [aB,Qo]; rfl
   have s3:aE H (upd H2 wl (.lst (qs.map V.ref++[.ref q]))):=s2.wr hwl
   have g3:=g2.but b3 e2
   have hq3:=b3 _ _ nq hq
   have hS3:=hS.tp (Tp.but b3 e2)
   have wa3:=(wa2.but b3 e2 na2).snoc hq3 hS3
   generalize upd H2 wl (.lst (qs.map V.ref++[.ref q]))=H3 at b3 e3 s3 g3 hq3 hS3 wa3 ⊢
   obtain ⟨h,xx,hne,hP,hN,hrest⟩:=id hWy
   have hsl:=g2.short hWy
   refine ⟨_,rfl,_,rfl,_,rfl,x,.ref d,q,ps.map V.ref,n,ws,hc,ss.map kP,rfl,⟨g3,SqL.of hq3,hS3.den,by rw [Qb]; omega,λl hl=>?_⟩,aFO hne hP hN,λd' H4 s4 hd' e4=>?_⟩
   ·obtain ⟨s',_,rfl⟩:=Qv.mp hl
    exact (show 3<=1000 by decide)
   rw [aBP] at e4
   have g4:=(g3.same s4).gone hWy (SqT.of e4)
   have hless:=aEp hWy g2.edge
   refine ⟨_,rfl,_,rfl,x,.ref d',n,ws,gI hc ss,rfl,g4,s4 _ _ (s3 _ _ hT),λp5 H5 s5 TD5=>?_⟩
   obtain ⟨word,q',h5,w5⟩:=take d' p5 (gI hc ss) (Ws++[ss]) (qs++[q]) H4 H5 (s3.trans s4) s5 g4 (s4 _ _ e3) (wa3.same s4) (λz hz=>by
    rcases Jg.mp hz with hz | hz
    ·exact na2 z hz
    ·rw [Qs.mp hz]; exact nq) (ch2.snoc hWy) (by rw [Qn]; show Ws.length+1+_<=864; omega) TD5
   refine ⟨p5,_,rfl,SqT.of h5,rfl,_,_,rfl,_,_,rfl,rfl,?_⟩
   exact ⟨_,by omega,w5⟩
def kG (a b:List Int):Bool:=(List.range (a.length+1)).all λk=>decide (aK (a.take k)<=aK (b.take k))
theorem zK {a b:List Int} (h:∀ k,k<=a.length->aK (a.take k)<=aK (b.take k)):kG a b=true:=by
 unfold kG
 rw [Jr]
 intro k hk
 have:=Jf.mp hk
 exact decide_eq_true (h k (by omega))
theorem aAT (h:(l.map V.int)[i]?=some v):∃ x,l[i]?=some x/\V.int x=v:=by
 rw [Qe] at h
 cases q:l[i]? with
 | none=>rw [q] at h; cases h
 | some x=>rw [q] at h; exact ⟨x,rfl,Option.some.inj h⟩
theorem aFP {l:Expr} (hK:X.K=K) (hl:PE X l tl):PI X tg l (aHt K tl):=by subst hK; exact fY hl
def jP (K:Rc):Sp:=λvs H Q _=>∃ x y n ws hs,vs = [x,y]/\fI K H x y n ws hs/\∀ p H' (ms:List Int),aE H H'->H p=none->H' p=some (.lst (ms.map V.int))->ms.Perm (aM n hs)->ms.Pairwise (·≥·)->Q (.ref p) H'
theorem aCV:FnScope ["book", "deal"] ["book", "deal"] (aH jN):=⟨rfl,rfl,rfl,by decide +kernel,rfl,by decide +kernel,by decide +kernel⟩
theorem aAU (G:Fn K mg "falling" jN ["book", "deal"] f fd) (B:Bl mg) (R:Pr K mg fW fH fK fB fNB fD fND fL dW dH dK dB dNB dD dND dL):FnOk P w K mg base CX0 8 f fd ["book", "deal"] (jP K):=by
 have OL:FnOk P w K mg base CX0 7 fL dL ["book", "deal"] (qU K):=sF B R
 refine G.fn.ok aCV (λvs H Q E h=>?_) (λcdv A outer s H vs Q E hr h=>?_)
 ·obtain ⟨x,y,n,ws,hs,rfl,_⟩:=h
  rfl
 ·obtain ⟨x,y,n,ws,hs,rfl,g,k⟩:=h
  refine ⟨_,aI (aW (tQ rfl B.sorted (bB R.L OL hr rfl (aA (pv 0) (aA (pv 1) aC))))),?_⟩
  obtain ⟨hl,hn1,hn6⟩:=g.len
  refine ⟨_,rfl,_,rfl,x,y,n,ws,hs,rfl,g,λp H1 s1 hp=>?_⟩
  refine ⟨p,aM n hs,rfl,.inr (SqT.of hp),by rw [tZ]; omega,λq ms hq hpm hpw=>?_⟩
  exact k q _ ms (s1.trans (aE.new hq)) (s1.free hq) aB hpm hpw
theorem dY:∀ (a b:List Int),aK (a++b)=aK a+aK b
 | [],b=>by rw [Zl,show aK ([]:List Int)=0 from rfl,Xp]
 | x::a,b=>by
  show x+aK (a++b)=x+aK a+aK b
  rw [dY a b]; omega
theorem aAV {a b:List Int} (h:a.Perm b):aK a=aK b:=by
 induction h with
 | nil=>rfl
 | cons x _ ih=>exact congrArg (x + ·) ih
 | swap x y l=>show y+(x+aK l)=x+(y+aK l); omega
 | trans _ _ h1 h2=>exact h1.trans h2
theorem oJ {f g:α->Int}:∀ {l:List α},(∀ x∈l,f x<=g x)->aK (l.map f)<=aK (l.map g)
 | [],_=>Xl _
 | x::l,h=>by
  show f x+aK (l.map f)<=g x+aK (l.map g)
  have h1:=h x (Qi ..)
  have h2:=oJ (l:=l) (f:=f) (g:=g) λy hy=>h y (Qk _ hy)
  omega
theorem bU {f g:α->Int} {l:List α} (h:∀ x∈l,f x=g x):aK (l.map f)=aK (l.map g):=by
 rw [Xj h]
theorem gQ (f g:α->Int):∀ (l:List α),aK (l.map λx=>f x+g x)=aK (l.map f)+aK (l.map g)
 | []=>rfl
 | x::l=>by
  show f x+g x+aK (l.map λx=>f x+g x)=f x+aK (l.map f)+(g x+aK (l.map g))
  rw [gQ f g l]; omega
theorem eD {f:α->Int}:∀ {l:List α},(∀ x∈l,f x=0)->aK (l.map f)=0
 | [],_=>rfl
 | x::l,h=>by
  show f x+aK (l.map f)=0
  rw [h x (Qi ..),eD λy hy=>h y (Qk _ hy)]; rfl
def ex (t:Int) (l:List Int):Int:=aK (l.map λx=>max (x - t) 0)
theorem vD (t:Int):∀ l:List Int,0<=ex t l
 | []=>Xl _
 | x::l=>by
  show 0<=max (x - t) 0+ex t l
  have:=vD t l
  omega
theorem kH {t:Int} {a b:List Int} (h:a.Perm b):ex t a=ex t b:=aAV (h.map _)
theorem zL (t:Int) (l:List Int) (k:Nat):ex t l=ex t (l.take k)+ex t (l.drop k):=by
 unfold ex
 rw [<- dY,<- Qo,Xz]
theorem aEq (t:Int):∀ l:List Int,aK l<=l.length*t+ex t l
 | []=>by show (0:Int)<=_; rw [Ya]; show (0:Int)<=0*t+0; omega
 | x::l=>by
  have h:=aEq t l
  show x+aK l<=((l.length+1:Nat):Int)*t+(max (x - t) 0+ex t l)
  have e:((l.length+1:Nat):Int)*t=(l.length:Int)*t+t:=by rw [Zn,Yi]; simp
  rw [e]
  generalize (l.length:Int)*t=z at h
  omega
theorem aEr {t:Int}:∀ {l:List Int},(∀ x∈l,t<=x)->l.length*t+ex t l=aK l
 | [],_=>by show (0:Int)*t+0=0; omega
 | x::l,h=>by
  have h1:=aEr (t:=t) (l:=l) λy hy=>h y (Qk _ hy)
  have h2:=h x (Qi ..)
  show ((l.length+1:Nat):Int)*t+(max (x - t) 0+ex t l)=x+aK l
  have e:((l.length+1:Nat):Int)*t=(l.length:Int)*t+t:=by rw [Zn,Yi]; simp
  rw [e]
  generalize (l.length:Int)*t=z at h1
  omega
theorem aFQ {t:Int} (h:∀ x∈l,x<=t):ex t l=0:=eD λx hx=>by have:=h x hx; omega
theorem aAW {a b ys:List Int} (hl:a.length=b.length) (h:∀ t,ex t a<=ex t b) (hm:ms.Perm a) (hy:ys.Perm b) (sy:ys.Pairwise (·≥·)) (k:Nat) (hk:k<=ms.length):aK (ms.take k)<=aK (ys.take k):=by
 cases k with
 | zero=>rw [Ye,Ye]; exact Xl _
 | succ k =>
  have hyl:ys.length=ms.length:=by rw [hy.length_eq,hm.length_eq,hl]
  have hlt:k < ys.length:=by omega
  have hd:=Xz (k+1) ys
  have hall:∀ i j,i<=j->∀ x y,ys[i]?=some x->ys[j]?=some y->y<=x:=λi j hij x y ea eb=>by
   rcases Wr i j with h | h
   ·obtain ⟨hi,rfl⟩:=Qd.mp ea
    obtain ⟨hj,rfl⟩:=Qd.mp eb
    exact Xx.mp sy i j hi hj h
   ·have:=Nat.le_antisymm hij h
    subst this
    rw [ea] at eb
    rw [Option.some.inj eb]; exact Xl _
  have et:ys[k]?=some ys[k]:=Qc hlt
  generalize ys[k]=t at et
  have h1:∀ x∈ys.take (k+1),t<=x:=λx hx=>by
   obtain ⟨i,hi⟩:=Jb.mp hx
   have hik:i < k+1:=by have:=(Qd.mp hi).1; rw [Qw] at this; omega
   rw [List.getElem?_take,if_pos hik] at hi
   exact hall i k (by omega) x t hi et
  have h2:∀ x∈ys.drop (k+1),x<=t:=λx hx=>by
   obtain ⟨i,hi⟩:=Jb.mp hx
   rw [QaD] at hi
   exact hall k (k+1+i) (by omega) t x et hi
  have e1:=aEq t (ms.take (k+1))
  have e2:=aEr h1
  have e3:=zL t ms (k+1)
  have e4:=zL t ys (k+1)
  have e5:=aFQ h2
  have e6:=vD t (ms.drop (k+1))
  have e7:=h t
  rw [<- kH hm,<- kH hy] at e7
  have l1:(ms.take (k+1)).length=(ys.take (k+1)).length:=by rw [Qw,Qw]; omega
  rw [l1] at e1
  omega
theorem oK {a b ys:List Int} (hl:a.length=b.length) (h:∀ t,ex t a<=ex t b) (hm:ms.Perm a) (hy:ys.Perm b) (sy:ys.Pairwise (·≥·)):kG ms ys=true:=zK λk hk=>aAW hl h hm hy sy k hk
def inS (p:Int->Bool) (hs:List Int):Int:=aK (hs.map λh=>if p h then 1 else 0)
theorem inS_le {p:Int->Bool}:∀ {hs hs':List Int},hs.length=hs'.length->(∀ (i:Nat) g t,hs[i]?=some g->hs'[i]?=some t->p g=true->p t=true)->inS p hs<=inS p hs'
 | [],[],_,_=>Xl _
 | g::hs,t::hs',hl,h=>by
  have h1:=inS_le (p:=p) (hs:=hs) (hs':=hs') (by simpa using hl) λi a b ha hb=>h (i+1) a b (by simpa using ha) (by simpa using hb)
  have h2:=h 0 g t rfl rfl
  show (if p g then (1:Int) else 0)+inS p hs<=(if p t then (1:Int) else 0)+inS p hs'
  cases hg:p g with
  | false =>
   simp only [Jh,if_false]
   split <;> omega
  | true =>
   rw [h2 hg]
   simp only [if_true]
   omega
 | [],_::_,hl,_=>by simp at hl
 | _::_,[],hl,_=>by simp at hl
theorem aFR {h:Int} (p:Int->Bool) (h0:0<=h) (h1:h < m):aK ((bR m).map λi=>if p i then (if h=i then 1 else 0) else 0)=if p h then 1 else 0:=by
 induction m with
 | zero=>omega
 | succ m ih =>
  have e:bR (m+1)=bR m++[(m:Int)]:=by unfold bR; rw [Zi,Qo]; rfl
  rw [e,Qo,dY]
  show _+((if p (m:Int) then (if h=(m:Int) then (1:Int) else 0) else 0)+0)=_
  by_cases hm:h=(m:Int)
  ·rw [eD (l:=bR m) (f:=λi=>if p i then (if h=i then 1 else 0) else 0) λx hx=>by
    unfold bR at hx
    obtain ⟨i,hi,rfl⟩:=Qv.mp hx
    have hi':=Jf.mp hi
    rw [if_neg (show ¬ h=((i:Nat):Int) by omega)]
    split <;> rfl]
   rw [if_pos hm,hm]
   omega
  ·rw [ih (by omega),if_neg hm]
   have:(if p (m:Int)=true then (0:Int) else 0)=0:=by split <;> rfl
   rw [this]
   omega
theorem pM {n:Int} (p:Int->Bool):∀ {hs:List Int},(∀ h∈hs,0<=h/\h < n)->aK ((bR n.toNat).map λh=>if p h then ((hs.count h:Nat):Int) else 0)=inS p hs
 | [],_=>by
  show _=(0:Int)
  exact eD λx _=>by
   rw [List.count_nil]
   split <;> rfl
 | h::hs,hh=>by
  have ih:=pM (n:=n) p (hs:=hs) λx hx=>hh x (Qk _ hx)
  have hb:=hh h (Qi ..)
  have e1:=aFR (m:=n.toNat) p hb.1 (by omega)
  show _=(if p h then (1:Int) else 0)+inS p hs
  rw [<- ih,<- e1,<- gQ]
  refine bU λi _=>?_
  rw [Zh]
  by_cases hp:p i=true
  ·rw [if_pos hp,if_pos hp,if_pos hp]
   by_cases hi:h=i
   ·rw [if_pos hi,if_pos (by rw [hi]; simp)]; omega
   ·rw [if_neg hi,if_neg (by simpa using hi)]; omega
  ·rw [if_neg hp,if_neg hp,if_neg hp]; rfl
end Ab
namespace Ab
open L2
theorem cV {n:Int} (hb:aS (aT n ws)=true) (hd:aX ws (aV hs)=true):∀ h∈hs,0<=h/\h < n:=λh hh=>by
 obtain ⟨_,_,_,hws⟩:=bF hb
 obtain ⟨hl,hm⟩:=aR hd
 obtain ⟨i,hi⟩:=Jb.mp hh
 have hlt:i < ws.length:=by rw [<- hl]; exact (Qd.mp hi).1
 have e:=Qc hlt
 exact (bH (hws _ (Qj e))).2.1 h (hm i h _ hi e)
theorem sT:∀ {a b:List Int},a.length=b.length->(∀ k,k<=a.length->aK (a.take k)=aK (b.take k))->a=b
 | [],[],_,_=>rfl
 | [],_::_,hl,_=>by simp at hl
 | _::_,[],hl,_=>by simp at hl
 | x::a,y::b,hl,h=>by
  have h1:x+0=y+0:=h 1 (by simp)
  have e:x=y:=by omega
  subst e
  refine congrArg _ (sT (by simpa using hl) λk hk=>?_)
  have h2:x+aK (a.take k)=x+aK (b.take k):=h (k+1) (by simpa using hk)
  omega
theorem sU {a b:List Int} (h:kG a b=true) (k:Nat) (hk:k<=a.length):aK (a.take k)<=aK (b.take k):=by
 unfold kG at h
 exact of_decide_eq_true (Jr.mp h k (Jf.mpr (by omega)))
theorem aCW {a b:List Int} (hl:a.length=b.length) (h1:kG a b=true) (h2:kG b a=true):a=b :=
 sT hl λk hk=>Int.le_antisymm (sU h1 k hk) (sU h2 k (by omega))
theorem sV {a b ys:List Int} (hl:a.length=b.length) (h1:∀ t,ex t a<=ex t b) (h2:∀ t,ex t b<=ex t a) (hm:ms.Perm a) (hy:ys.Perm b) (sm:ms.Pairwise (·≥·)) (sy:ys.Pairwise (·≥·)):ms=ys :=
 aCW (by rw [hm.length_eq,hy.length_eq,hl]) (oK hl h1 hm hy sy) (oK hl.symm h2 hy hm sm)
theorem sW (n:Nat):(bR n).Nodup:=by
 unfold bR
 exact List.Pairwise.map _ (λa b h z=>h (by omega)) List.nodup_range
theorem kI {p:Int->Int} {h:Int}:∀ {hs:List Int},(∀ x∈hs,p x=p h->x=h)->(hs.map p).count (p h)=hs.count h
 | [],_=>rfl
 | x::hs,hi=>by
  rw [Qz,Zh,Zh,kI λy hy=>hi y (Qk _ hy)]
  by_cases e:x=h
  ·rw [e]; simp
  ·have:¬ p x=p h:=λz=>e (hi x (Qi ..) z)
   simp [e,this]
theorem wT {n:Int} {p:Int->Int} (hp:((bR n.toNat).map p).Perm (bR n.toNat)) (hr:∀ h∈hs,0<=h/\h < n) (he:hs'.Perm (hs.map p)):(aM n hs').Perm (aM n hs):=by
 have hmem:∀ x:Int,0<=x->x < n->x∈bR n.toNat:=λx h0 h1=>by
  unfold bR
  exact Qv.mpr ⟨x.toNat,Jf.mpr (by omega),by omega⟩
 have hinj:∀ x∈bR n.toNat,∀ y∈bR n.toNat,p x=p y->x=y:=by
  have hn:((bR n.toNat).map p).Nodup:=hp.nodup_iff.mpr (sW _)
  intro x hx y hy e
  obtain ⟨i,hi⟩:=Jb.mp hx
  obtain ⟨j,hj⟩:=Jb.mp hy
  have ei:((bR n.toNat).map p)[i]?=some (p x):=by rw [Qe,hi]; rfl
  have ej:((bR n.toNat).map p)[j]?=some (p x):=by rw [Qe,hj,e]; rfl
  have hli:=(Qd.mp ei).1
  have:i=j:=(Yv hli hn).mp (by rw [ei,ej])
  subst this
  rw [hi] at hj
  exact Option.some.inj hj
 unfold aM
 have h1:((bR n.toNat).map λh=>((hs'.count h:Nat):Int)).Perm (((bR n.toNat).map p).map λh=>((hs'.count h:Nat):Int)):=(hp.map _).symm
 refine h1.trans (List.Perm.of_eq ?_)
 rw [Jv]
 refine Xj λh hh=>?_
 show ((hs'.count (p h):Nat):Int)=_
 rw [he.count_eq,kI λx hx e=>hinj x (hmem x (hr x hx).1 (hr x hx).2) h hh e]
theorem aBQ:∀ {a:List α} {b:List β},a.length=b.length->(a.zip b).map Prod.fst=a
 | [],[],_=>rfl
 | x::a,y::b,h=>congrArg (x::·) (aBQ (by simpa using h))
 | [],_::_,h=>by simp at h
 | _::_,[],h=>by simp at h
theorem aBR:∀ {a:List α} {b:List β},a.length=b.length->(a.zip b).map Prod.snd=b
 | [],[],_=>rfl
 | x::a,y::b,h=>congrArg (y::·) (aBR (by simpa using h))
 | [],_::_,h=>by simp at h
 | _::_,[],h=>by simp at h
end Ab
namespace Ab
open PySem L2
theorem iU {n:Int}:∀ {Ws:List (List (Nat×Int×Int))} {hs he:List Int},oI n ws hs Ws he->aX ws (aV hs)=true->aX ws (aV he)=true
 | [],hs,he,c,h=>by
  have e:hs=he:=c
  rw [<- e]; exact h
 | ss::Ws,hs,he,⟨W,c⟩,h=>by
  refine iU c ?_
  obtain ⟨hdl,hdg⟩:=aR h
  obtain ⟨h0,xx,hne,hP,_⟩:=W
  refine fM (by rw [pJ]; exact hdl) (pK ss (λs hs'=>?_) hdg)
  obtain ⟨i,hi⟩:=Jb.mp hs'
  obtain ⟨⟨_,l,e2,e3,_⟩,_⟩:=mL hP i s hi
  exact ⟨l,e2,e3⟩
theorem uB {n:Int} (L:hV n ws hs lv) (W:qA n ws hs ss):False:=by
 obtain ⟨h,x,hne,hP,hN,h0,h1,hRL,hge⟩:=W
 have hlt:h.toNat < lv.length:=by rw [L.1]; omega
 obtain ⟨m1,m2⟩:=L.2 h.toNat _ (Qc hlt)
 rw [show ((h.toNat:Nat):Int)=h by omega] at m1 m2
 have:=m1.2 _ x hRL
 omega
def iJ (K:Rc) (Pt:Addr):Sp:=λvs H Q _=>∃ (x:V) (n:Int) (ws:List (List Int)),vs = [x]/\Den K H (aT n ws) x/\aS (aT n ws)=true/\H Pt=some (.tab mQ) /\
 ∀ (p dp lp:Addr) (hs lv:List Int) H',aE H H'->H' p=some (.tup [.ref dp,.ref lp])->H' dp=some (.tup (hs.map V.int))->aX ws (aV hs)=true->H' lp=some (.tup (lv.map V.int))->hV n ws hs lv->Q (.ref p) H'
theorem pN:FnScope ["book", "ways", "deal"] ["book"] (aH hJ):=⟨rfl,rfl,rfl,by decide +kernel,rfl,by decide +kernel,by decide +kernel⟩
theorem aAX {fBt fLw:Addr} {dBt dLw:FuncData} (G:Fn K mg "evenest" hJ ["book"] f fd) (B:Bl mg) (R:Pr K mg fW fH fK fB fNB fD fND fL dW dH dK dB dNB dD dND dL) (GBt:Fn K mg "bettered" iH ["book", "deal"] fBt dBt) (OBt:FnOk P w K mg base CX0 10 fBt dBt ["book", "deal"] (kF K Pt)) (GLw:Fn K mg "levels_or_way" aD8 ["book", "deal"] fLw dLw) (OLw:FnOk P w K mg base CX0 8 fLw dLw ["book", "deal"] (aBM K Pt)):FnOk P w K mg base CX0 11 f fd ["book"] (iJ K Pt):=by
 have ONB:FnOk P w K mg base CX0 4 fNB dNB ["book"] (wN K):=yZ B R
 refine G.fn.ok pN (λvs H Q E h=>?_) (λcdv A outer s H vs Q E hr h=>?_)
 ·obtain ⟨x,n,ws,rfl,_⟩:=h
  rfl
 ·obtain ⟨x,n,ws,rfl,hx,hbk,hT,k⟩:=h
  have r4:Room 4 _:=hr.mono (by decide)
  have r8:Room 8 _:=hr.mono (by decide)
  have r10:Room 10 _:=hr
  refine ⟨_,(aD (eT (bB R.NB ONB r4 rfl (aA (pv 0) aC)))
  (aD (iM (bB GBt OBt r10 rfl (aA (pv 0) (aA (bK bQ rfl B.tuple cJ (aA (bX (own:=["able"]) (fr:=[]) (frn:=[]) (bD (aH hJ) ["book", "ways", "deal"] rfl rfl (by decide +kernel)) rfl (fY (bA bT (pv 0) aG (λ_ _=>rfl)))
    (λ_ _ _ _=>(aJ (i:=0) (show (["able"]:List Str).Nodup by decide +kernel) rfl (Or.inl rfl))) (λ_ _ _ _=>dM)
    (λ_ _ _ _=>(bA (dU (K:=K) rfl) (pv 0) aG (λ_ _=>rfl)))) aC)) aC))) (fX rfl (aZ (aJ (i:=1) pN.nd rfl (Or.inl rfl)) (aZ (aJ (i:=2) pN.nd rfl (Or.inl rfl)) dP))))
  (aI (aW (dI (aA (pv 2) (aA (bA bT (bB GLw OLw r8 rfl (aA (pv 0) (aA (pv 2) aC))) aG (λ_ _=>rfl)) aC))))))),?_⟩
  obtain ⟨hn1,hn6,hw12,hws⟩:=bF hbk
  refine ⟨_,rfl,x,aT n ws,rfl,hx,hbk,λH1 s1=>?_⟩
  have hx1:=s1.den _ _ hx
  obtain ⟨a,b,ys,rfl,ha,hb2,hys⟩:=cU hx1
  have hlw:=aQ hys
  rw [Qb] at hlw
  refine ⟨_,rfl,_,rfl,a,_,1,.ref b,rfl,rfl,ha,rfl,b,rfl,⟨_,hb2⟩,gY (K:=K) (a:=b) (xs:=ys) (λσ=>∃ v,σ = [v]) (λi zs H2=>H2=H1/\zs=((ws.take i).map λl=>l.headD 0).map V.int) (eG (by omega)) ⟨none,rfl⟩ ⟨rfl,rfl⟩ (λi zs H2 z=>by rw [z.2,Qb,Qb,Qw]; omega) (λi zs H2 z=>by rw [z.1]; exact hb2) ?_ ?_⟩
  ·rintro i zs σ u H2 hu ⟨v,rfl⟩ ⟨rfl,rfl⟩ hz
   obtain ⟨dv,hdv,denv⟩:=cT hys hu
   rw [Qe] at hdv
   obtain ⟨l,hl,rfl⟩:∃ l,ws[i]?=some l/\bM l=dv:=by
    cases q:ws[i]? with
    | none=>rw [q] at hdv; cases hdv
    | some l=>rw [q] at hdv; exact ⟨l,rfl,Option.some.inj hdv⟩
   obtain ⟨aw,rfl,haw⟩:=aO.mp denv
   obtain ⟨l0,_,_⟩:=bH (hws l (Qj hl))
   have hat:atI (l.map V.int) 0=some (.int (l.headD 0)):=by
    cases l with
    | nil=>exact absurd rfl l0
    | cons y l=>exact cH (j:=0) rfl
   refine cB ?_
   refine ⟨_,rfl,aw,_,0,_,rfl,rfl,haw,hat,hz,⟨_,rfl⟩,rfl,?_⟩
   rw [Jp,hl,Qo,Qo]
   rfl
  ·rintro zs H2 ⟨rfl,rfl⟩ lq hlq
   rw [Jm (show ws.length<=ys.length by omega)]
   refine ⟨lq,_,rfl,.inl ⟨SqL.of aB,λdq hdq=>?_⟩⟩
   have s3:=(aE.new (o:=.lst ((ws.map λl=>l.headD 0).map V.int)) hlq).trans (aE.new (o:=.tup ((ws.map λl=>l.headD 0).map V.int)) hdq)
   have d3:upd (upd H2 lq (.lst ((ws.map λl=>l.headD 0).map V.int))) dq (.tup ((ws.map λl=>l.headD 0).map V.int)) dq=some (.tup ((ws.map λl=>l.headD 0).map V.int)):=aB
   generalize upd (upd H2 lq (.lst ((ws.map λl=>l.headD 0).map V.int))) dq (.tup ((ws.map λl=>l.headD 0).map V.int))=H3 at s3 d3 ⊢
   have hd0:aX ws (aV (ws.map λl=>l.headD 0))=true:=fM (by rw [Qb]) λj h l e1 e2=>by
    rw [Qe,e2] at e1
    have e:l.headD 0=h:=Option.some.inj e1
    obtain ⟨l0,_,_⟩:=bH (hws l (Qj e2))
    cases l with
    | nil=>exact absurd rfl l0
    | cons y l=>rw [<- e]; exact Qi ..
   have s13:=s1.trans s3
   have g3:fI K H3 (.ref a) (.ref dq) n ws (ws.map λl=>l.headD 0):=⟨s3.den _ _ hx1,hbk,aO.mpr ⟨dq,rfl,SqT.of d3⟩,hd0⟩
   refine ⟨.ref a,.ref dq,n,ws,_,rfl,g3,s13 _ _ hT,λp H4 s4 hp=>?_⟩
   obtain ⟨wl,dl,qs,Ws,he,lv,hp4,_,_,_,hdl,hch,hlv⟩:=hp
   refine ⟨p,_,rfl,SqT.of hp4,rfl,_,_,rfl,_,_,rfl,rfl,?_⟩
   have hde:=iU hch hd0
   have s14:=s13.trans s4
   have g4:fI K H4 (.ref a) (.ref dl) n ws he:=⟨(s3.trans s4).den _ _ hx1,hbk,aO.mpr ⟨dl,rfl,SqT.of hdl⟩,hde⟩
   refine ⟨_,rfl,_,rfl,_,rfl,.ref a,.ref dl,n,ws,he,rfl,g4,s14 _ _ hT,λp2 H5 s5 hp2=>?_⟩
   rcases hp2 with ⟨lq2,lv2,e1,e2,e3⟩ | ⟨_,_,ss,_,_,_,_,hW⟩
   ·refine ⟨p2,_,1,.ref lq2,rfl,rfl,SqT.of e1,rfl,sz2 _ _,λr hr'=>?_⟩
    have s6:=aE.new (o:=.tup [.ref dl,.ref lq2]) hr'
    exact k r dl lq2 he lv2 _ (s14.trans (s5.trans s6)) aB ((s5.trans s6) _ _ hdl) hde (s6 _ _ e2) e3
   ·exact (uB hlv hW).elim
def lvA (lv:List Int) (h:Int):Int:=lv.getD h.toNat 0
structure Lvl (n:Int) (ws:List (List Int)) (hs lv:List Int):Prop where
 box:∀ h:Int,0<=h->h < n->lvA lv h<=((hs.count h:Nat):Int)/\((hs.count h:Nat):Int)<=lvA lv h+1
 low:∀ (i:Nat) g l,hs[i]?=some g->ws[i]?=some l->∀ u∈l,lvA lv g<=lvA lv u
def pL (lv:List Int) (t:Int):Int->Bool:=λh=>decide (t<=lvA lv h)
def cL (n:Int) (lv:List Int) (t:Int):Int:=aK ((bR n.toNat).map λh=>if pL lv t h then -t else 0)
theorem aEs {n:Int}:∀ x∈bR n.toNat,0<=x/\x < n:=λx hx=>by
 unfold bR at hx
 obtain ⟨i,hi,rfl⟩:=Qv.mp hx
 have:=Jf.mp hi
 omega
section
variable {n:Int}
theorem lU (L:hV n ws hs lv) (hr:∀ h∈hs,0<=h/\h < n) (hw:∀ l∈ws,∀ h∈l,0<=h/\h < n):Lvl n ws hs lv:=by
 obtain ⟨hlv,hL⟩:=L
 have at_:∀ h:Int,0<=h->h < n->oH ws hs n.toNat h (lvA lv h)/\((hs.count h:Nat):Int) - lvA lv h < 2:=λh h0 h1=>by
  have e:=Qc (show h.toNat < lv.length by omega)
  have m:=hL _ _ e
  rw [show ((h.toNat:Nat):Int)=h by omega] at m
  have e2:lvA lv h=lv[h.toNat]'(by omega):=by unfold lvA; rw [Qq,e]; rfl
  rw [e2]; exact m
 refine ⟨λh h0 h1=>?_,λi g l hg hl u hu=>?_⟩
 ·obtain ⟨m,d⟩:=at_ h h0 h1
  have:=m.le
  omega
 ·have gb:=hr g (Qj hg)
  have ub:=hw l (Qj hl) u hu
  by_cases e:u=g
  ·rw [e]; exact Xl _
  ·exact (at_ g gb.1 gb.2).1.edge (at_ u ub.1 ub.2).1 (w:=i) ⟨hg,l,hl,hu,e⟩
theorem Lvl.ex_eq (L:Lvl n ws hs lv) (hr:∀ h∈hs,0<=h/\h < n) (t:Int):ex t (aM n hs)=inS (pL lv t) hs+cL n lv t:=by
 rw [<- pM _ hr]
 unfold ex aM cL
 rw [Jv,<- gQ]
 refine bU λh hh=>?_
 obtain ⟨h0,h1⟩:=aEs h hh
 have b:=L.box h h0 h1
 show max (((hs.count h:Nat):Int) - t) 0=_
 unfold pL
 by_cases hp:t<=lvA lv h
 ·rw [decide_eq_true hp,if_pos rfl,if_pos rfl]; omega
 ·rw [decide_eq_false hp,if_neg Qr,if_neg Qr]; omega
theorem aBS (hr:∀ h∈hs',0<=h/\h < n) (t:Int):inS (pL lv t) hs'+cL n lv t=aK ((bR n.toNat).map λh=>if pL lv t h then ((hs'.count h:Nat):Int) - t else 0):=by
 rw [<- pM _ hr]
 unfold cL
 rw [<- gQ]
 refine bU λh hh=>?_
 split <;> omega
theorem aBT (t:Int):ex t (aM n hs')=aK ((bR n.toNat).map λh=>max (((hs'.count h:Nat):Int) - t) 0):=by
 unfold ex aM; rw [Jv]; rfl
theorem aGo (hr:∀ h∈hs',0<=h/\h < n) (t:Int):inS (pL lv t) hs'+cL n lv t<=ex t (aM n hs'):=by
 rw [aBS hr,aBT]
 exact oJ λh hh=>by split <;> omega
theorem Lvl.up (L:Lvl n ws hs lv) (ha:∀ (i:Nat) t,hs'[i]?=some t->∃ l,ws[i]?=some l/\t∈l) (t:Int):∀ (i:Nat) g u,hs[i]?=some g->hs'[i]?=some u->pL lv t g=true->pL lv t u=true:=λi g u hg hu hp=>by
 obtain ⟨l,el,hul⟩:=ha i u hu
 exact decide_eq_true (QaR (of_decide_eq_true hp) (L.low i g l hg el u hul))
theorem sX {f g:α->Int}:∀ {l:List α},(∀ x∈l,f x<=g x)->aK (l.map f)=aK (l.map g)->∀ x∈l,f x=g x
 | a::l,h,e,x,hx=>by
  have h1:=h a (Qi ..)
  have h2:=oJ (l:=l) λx hx=>h x (Qk _ hx)
  have e':f a+aK (l.map f)=g a+aK (l.map g):=e
  rcases Qm.mp hx with rfl | hx
  ·omega
  ·exact sX (λx hx=>h x (Qk _ hx)) (by omega) x hx
theorem aEt {p:Int->Bool} (hl:hs.length=hs'.length) (h:∀ (i:Nat) g t,hs[i]?=some g->hs'[i]?=some t->p g=true->p t=true) (e:inS p hs=inS p hs'):∀ (i:Nat) g t,hs[i]?=some g->hs'[i]?=some t->p t=true->p g=true:=by
 have e1:inS p hs=aK ((hs.zip hs').map λq=>if p q.1 then 1 else 0):=by
  unfold inS; conv=>lhs; rw [<- aBQ hl,Jv]
  rfl
 have e2:inS p hs'=aK ((hs.zip hs').map λq=>if p q.2 then 1 else 0):=by
  unfold inS; conv=>lhs; rw [<- aBR hl,Jv]
  rfl
 rw [e1,e2] at e
 intro i g t hg ht hp
 have hm:(hs.zip hs')[i]?=some (g,t):=Js.mpr ⟨hg,ht⟩
 have:=sX (f:=λq:Int×Int=>if p q.1 then (1:Int) else 0) (g:=λq=>if p q.2 then 1 else 0) (λq hq=>by
  obtain ⟨j,hj⟩:=Jb.mp hq
  obtain ⟨a,b⟩:=Js.mp hj
  have:=h j _ _ a b
  show (if p q.1 then (1:Int) else 0)<=if p q.2 then 1 else 0
  cases c:p q.1 with
  | false=>simp only [Jh,if_false]; split <;> omega
  | true=>rw [this c]; exact Xl _) e _ (Qj hm)
 simp only [hp,if_true] at this
 by_cases c:p g=true
 ·exact c
 ·rw [if_neg c] at this; omega
theorem aGp (hd':aX ws (aV hs')=true):∀ (i:Nat) t,hs'[i]?=some t->∃ l,ws[i]?=some l/\t∈l:=λi u hu=>by
 obtain ⟨hl',hm'⟩:=aR hd'
 have hlt:i < ws.length:=by rw [<- hl']; exact (Qd.mp hu).1
 have e:=Qc hlt
 exact ⟨_,e,hm' i u _ hu e⟩
theorem Lvl.inS_le (L:Lvl n ws hs lv) (hd:aX ws (aV hs)=true) (hd':aX ws (aV hs')=true) (t:Int):inS (pL lv t) hs<=inS (pL lv t) hs' :=
 Ab.inS_le ((aR hd).1.trans (aR hd').1.symm) (L.up (aGp hd') t)
theorem Lvl.least (L:Lvl n ws hs lv) (hb:aS (aT n ws)=true) (hd:aX ws (aV hs)=true) (hd':aX ws (aV hs')=true) (t:Int):ex t (aM n hs)<=ex t (aM n hs'):=by
 rw [L.ex_eq (cV hb hd)]
 have:=aGo (lv:=lv) (cV hb hd') t
 have:=L.inS_le hd hd' t
 omega
theorem Lvl.same (L:Lvl n ws hs lv) (hb:aS (aT n ws)=true) (hd:aX ws (aV hs)=true) (hd':aX ws (aV hs')=true) (h:∀ t,ex t (aM n hs')=ex t (aM n hs)):Lvl n ws hs' lv:=by
 have key:∀ t,inS (pL lv t) hs=inS (pL lv t) hs'/\inS (pL lv t) hs'+cL n lv t=ex t (aM n hs'):=λt=>by
  have h1:=L.ex_eq (cV hb hd) t
  have h2:=aGo (lv:=lv) (cV hb hd') t
  have h3:=L.inS_le hd hd' t
  have h4:=h t
  constructor <;> omega
 have tw:∀ t x:Int,0<=x->x < n->(if pL lv t x then ((hs'.count x:Nat):Int) - t else 0)=max (((hs'.count x:Nat):Int) - t) 0:=λt x h0 h1=>by
  have e:=(key t).2
  rw [aBS (cV hb hd'),aBT] at e
  exact sX (f:=λh=>if pL lv t h then ((hs'.count h:Nat):Int) - t else 0) (g:=λh=>max (((hs'.count h:Nat):Int) - t) 0) (λy _=>by by_cases c:pL lv t y=true <;> simp only [c,if_true,if_false,Jh] <;> exact (by omega)) e x (by
   unfold bR
   exact Qv.mpr ⟨x.toNat,Jf.mpr (by omega),by omega⟩)
 refine ⟨λx h0 h1=>?_,λi g l hg hl u hu=>?_⟩
 ·have a:=tw (lvA lv x) x h0 h1
  have b:=tw (lvA lv x+1) x h0 h1
  rw [show pL lv (lvA lv x) x=true from decide_eq_true (Xl _),if_pos rfl] at a
  rw [show pL lv (lvA lv x+1) x=false from decide_eq_false (by omega),if_neg Qr] at b
  omega
 ·have hlt:i < hs.length:=by rw [(aR hd).1,<- (aR hd').1]; exact (Qd.mp hg).1
  have eo:=Qc hlt
  have:=aEt ((aR hd).1.trans (aR hd').1.symm) (L.up (aGp hd') (lvA lv g)) (key _).1 i _ g eo hg (decide_eq_true (Xl _))
  exact QaR (of_decide_eq_true this) (L.low i _ l eo hl u hu)
theorem Lvl.iff (L:Lvl n ws hs lv) (hb:aS (aT n ws)=true) (hd:aX ws (aV hs)=true) (hd':aX ws (aV hs')=true):(aM n hs').Perm (aM n hs)↔Lvl n ws hs' lv:=by
 refine ⟨λp=>L.same hb hd hd' λt=>kH p,λL'=>?_⟩
 have a:=QaA (aM n hs) λa b=>decide (a≥b)
 have a':=QaA (aM n hs') λa b=>decide (a≥b)
 have so:∀ l:List Int,(l.mergeSort λa b=>decide (a≥b)).Pairwise (·≥·):=λl=>by
  have:=List.pairwise_mergeSort (le:=λa b:Int=>decide (a≥b)) (by intro a b c h1 h2; simp at *; omega) (by intro a b; simp; omega) l
  exact this.imp λh=>by simpa using h
 have:=sV (a:=aM n hs) (b:=aM n hs') (by unfold aM; rw [Qb,Qb]) (λt=>L.least hb hd hd' t) (λt=>L'.least hb hd' hd t) a a' (so _) (so _)
 exact a'.symm.trans ((List.Perm.of_eq this.symm).trans a)
end
def enc (m:List (List Int×Int)):List (List Key×V):=m.map λp=>(p.1.map Sum.inl,.int p.2)
def jQ (m:List (List Int×Int)) (k:List Int):Option Int:=(m.find? λp=>decide (p.1=k)).map (·.2)
def jR (m:List (List Int×Int)) (k:List Int) (v:Int):List (List Int×Int):=if (m.any λp=>decide (p.1=k))=true then m.map (λp=>if p.1=k then (p.1,v) else p) else m++[(k,v)]
def kS (l:List Int) (h:Nat):List Int:=l.take h++[l.getD h 0+1]++l.drop (h+1)
def iC (lv:List Int) (g:List (List Int×Int)) (p:List Int×Int) (h:Int):List (List Int×Int):=if p.1.getD h.toNat 0<=lv.getD h.toNat 0 then jR g (kS p.1 h.toNat) ((jQ g (kS p.1 h.toNat)).getD 0+p.2) else g
def withP (lv tk:List Int) (g:List (List Int×Int)) (p:List Int×Int):List (List Int×Int):=tk.foldl (λg h=>iC lv g p h) g
def withW (R:List (List Int×Int)) (tk lv:List Int):List (List Int×Int):=R.foldl (λg p=>withP lv tk g p) []
theorem oM {k j:List Int}:(k.map (Sum.inl:Int->Key)=j.map Sum.inl)↔k=j:=⟨λh=>(List.map_inj_right (λ_ _ e=>Sum.inl.inj e)).mp h,λh=>by rw [h]⟩
theorem pO (k:List Int):(k.map (Sum.inl:Int->Key)).map kV=k.map V.int:=by rw [Jv]; rfl
theorem sY (m:List (List Int×Int)) (k:List Int):dO (enc m) (k.map Sum.inl)=(jQ m k).map V.int:=by
 unfold dO jQ enc
 rw [List.find?_map,Option.map_map,Option.map_map]
 have e:((λkv:List Key×V=>decide (kv.1=k.map Sum.inl)) ∘ λp:List Int×Int=>(p.1.map Sum.inl,V.int p.2))=λp=>decide (p.1=k):=by
  funext p
  show decide (p.1.map Sum.inl=k.map Sum.inl)=_
  exact decide_eq_decide.mpr oM
 rw [e]
 rfl
theorem aEu (m:List (List Int×Int)) (k:List Int) (v:Int):jG (enc m) (k.map Sum.inl) (.int v)=enc (jR m k v):=by
 unfold jG jR enc
 have e:∀ p:List Int×Int,decide ((p.1.map (Sum.inl:Int->Key))=k.map Sum.inl)=decide (p.1=k):=λp=>decide_eq_decide.mpr oM
 have ea:((m.map λp=>(p.1.map (Sum.inl:Int->Key),V.int p.2)).any λkv=>decide (kv.1=k.map Sum.inl))=m.any λp=>decide (p.1=k):=by
  rw [Qan]
  congr 1
  funext p
  exact e p
 rw [ea]
 by_cases h:(m.any λp=>decide (p.1=k))=true
 ·rw [if_pos h,if_pos h,Jv,Jv]
  refine Xj λp _=>?_
  show (if p.1.map Sum.inl=k.map Sum.inl then _ else _)=_
  by_cases hp:p.1=k
  ·rw [if_pos (oM.mpr hp)]
   show _=(λp:List Int×Int=>(p.1.map (Sum.inl:Int->Key),V.int p.2)) (if p.1=k then (p.1,v) else p)
   rw [if_pos hp]
  ·rw [if_neg (λz=>hp (oM.mp z))]
   show _=(λp:List Int×Int=>(p.1.map (Sum.inl:Int->Key),V.int p.2)) (if p.1=k then (p.1,v) else p)
   rw [if_neg hp]
 ·rw [if_neg h,if_neg h,Qo]
  rfl
theorem aAY (lv tk:List Int) (g:List (List Int×Int)) (p:List Int×Int) {h:Int} (e:tk[i]?=some h):withP lv (tk.take (i+1)) g p=iC lv (withP lv (tk.take i) g p) p h:=by
 unfold withP
 rw [Jp,e,Zf]
 rfl
theorem aAZ (R:List (List Int×Int)) (tk lv:List Int) {p:List Int×Int} (e:R[i]?=some p):withW (R.take (i+1)) tk lv=withP lv tk (withW (R.take i) tk lv) p:=by
 unfold withW
 rw [Jp,e,Zf]
 rfl
structure KOk (n:Nat) (c:Int) (m:List (List Int×Int)):Prop where
 nd:(m.map (·.1)).Nodup
 box:∀ p∈m,p.1.length=n/\∀ x∈p.1,0<=x/\x<=c
 pos:∀ p∈m,0 < p.2
theorem aCX (m:List (List Int×Int)) (k:List Int) (v:Int):(jR m k v).map (·.1)=if k∈m.map (·.1) then m.map (·.1) else m.map (·.1)++[k]:=by
 unfold jR
 have e:(m.any λp=>decide (p.1=k))=true↔k∈m.map (·.1):=by simp [Zc]
 by_cases h:k∈m.map (·.1)
 ·rw [if_pos (e.mpr h),if_pos h,Jv]
  refine Xj λp _=>?_
  show (if p.1=k then (p.1,v) else p).1=p.1
  split <;> rfl
 ·rw [if_neg (λz=>h (e.mp z)),if_neg h,Qo]
  rfl
theorem zM {m:List (List Int×Int)} {k:List Int} {v:Int} {p:List Int×Int} (h:p∈jR m k v):p=(k,v)∨p∈m:=by
 unfold jR at h
 split at h
 ·obtain ⟨q,hq,rfl⟩:=Qv.mp h
  by_cases e:q.1=k
  ·rw [if_pos e]; exact .inl (by rw [e])
  ·rw [if_neg e]; exact .inr hq
 ·rcases Jg.mp h with h | h
  ·exact .inr h
  ·exact .inl (Qs.mp h)
theorem KOk.put {c:Int} {m:List (List Int×Int)} {k:List Int} {v:Int} (h:KOk n c m) (h1:k.length=n) (h2:∀ x∈k,0<=x/\x<=c) (h3:0 < v):KOk n c (jR m k v):=by
 refine ⟨?_,λp hp=>?_,λp hp=>?_⟩
 ·rw [aCX]
  split
  ·exact h.nd
  ·rename_i hk
   exact Qac.mpr ⟨h.nd,by simp,λx hx y hy e=>hk (by rw [<- Qs.mp hy,<- e]; exact hx)⟩
 ·rcases zM hp with rfl | hp
  ·exact ⟨h1,h2⟩
  ·exact h.box p hp
 ·rcases zM hp with rfl | hp
  ·exact h3
  ·exact h.pos p hp
theorem zN {c:Int} {m:List (List Int×Int)} (h:KOk n c m) (k:List Int):0<=(jQ m k).getD 0:=by
 unfold jQ
 cases q:m.find? λp=>decide (p.1=k) with
 | none=>exact Xl _
 | some p=>exact Int.le_of_lt <| h.pos p (List.mem_of_find?_eq_some q)
theorem aEv {h:Nat} (hl:h < l.length):(kS l h).length=l.length:=by
 unfold kS
 rw [Qn,Qn,Qw,Jq]
 show _+1+_=_
 omega
theorem aEw {h:Nat} {c:Int} (hb:∀ x∈l,0<=x/\x<=c) (hl:h < l.length):∀ x∈kS l h,0<=x/\x<=c+1:=by
 intro x hx
 unfold kS at hx
 rcases Jg.mp hx with hx | hx
 ·rcases Jg.mp hx with hx | hx
  ·have:=hb x (Xv hx); omega
  ·rw [Qs.mp hx,Qq,Qc hl]
   have:=hb _ (Xf hl)
   show 0<=l[h]+1/\l[h]+1<=c+1
   omega
 ·have:=hb x (Wf hx); omega
theorem KOk.step {c:Int} {g:List (List Int×Int)} {p:List Int×Int} {h:Int} (k:KOk n (c+1) g) (h1:p.1.length=n) (h2:∀ x∈p.1,0<=x/\x<=c) (h3:0 < p.2) (hh:0<=h/\h < n):KOk n (c+1) (iC lv g p h):=by
 unfold iC
 split
 ·exact k.put ((aEv (by omega)).trans h1) (aEw h2 (by omega)) (by have:=zN k (kS p.1 h.toNat); omega)
 ·exact k
theorem KOk.withP {c:Int} {p:List Int×Int} (h1:p.1.length=n) (h2:∀ x∈p.1,0<=x/\x<=c) (h3:0 < p.2):∀ (tk:List Int) (g:List (List Int×Int)),(∀ h∈tk,0<=h/\h < n)->KOk n (c+1) g->KOk n (c+1) (withP lv tk g p)
 | [],g,_,k=>k
 | h::tk,g,ht,k=>KOk.withP h1 h2 h3 tk _ (λx hx=>ht x (Qk _ hx)) (k.step h1 h2 h3 (ht h (Qi ..)))
theorem KOk.fold {c:Int} {tk:List Int} (ht:∀ h∈tk,0<=h/\h < n):∀ (R g:List (List Int×Int)),(∀ p∈R,p.1.length=n/\(∀ x∈p.1,0<=x/\x<=c)/\0 < p.2)->KOk n (c+1) g->KOk n (c+1) (R.foldl (λg p=>Ab.withP lv tk g p) g)
 | [],g,_,k=>k
 | p::R,g,hR,k=>KOk.fold ht R _ (λq hq=>hR q (Qk _ hq)) (KOk.withP (hR p (Qi ..)).1 (hR p (Qi ..)).2.1 (hR p (Qi ..)).2.2 tk g ht k)
theorem KOk.nil (n:Nat) (c:Int):KOk n c []:=⟨Zw,λ_ h=>(Qt h).elim,λ_ h=>(Qt h).elim⟩
theorem KOk.all {c:Int} {R:List (List Int×Int)} (k:KOk n c R):∀ p∈R,p.1.length=n/\(∀ x∈p.1,0<=x/\x<=c)/\0 < p.2:=λp hp=>⟨(k.box p hp).1,(k.box p hp).2,k.pos p hp⟩
theorem KOk.withW {c:Int} {tk:List Int} {R:List (List Int×Int)} (k:KOk n c R) (ht:∀ h∈tk,0<=h/\h < n):KOk n (c+1) (withW R tk lv):=KOk.fold ht R [] k.all (KOk.nil n _)
def gR:List Int->Int
 | []=>0
 | x::l=>x+13*gR l
theorem oN:∀ {l:List Int},(∀ x∈l,0<=x/\x<=12)->0<=gR l/\gR l < 13^l.length
 | [],_=>⟨Xl _,by decide⟩
 | x::l,h=>by
  have h1:=h x (Qi ..)
  have h2:=oN (l:=l) λy hy=>h y (Qk _ hy)
  have e:(13:Int)^(x::l).length=13^l.length*13:=by rw [Qx,Int.pow_succ]
  rw [e]
  unfold gR
  omega
theorem sZ:∀ {l m:List Int},l.length=m.length->(∀ x∈l,0<=x/\x<=12)->(∀ x∈m,0<=x/\x<=12)->gR l=gR m->l=m
 | [],[],_,_,_,_=>rfl
 | x::l,y::m,hl,h1,h2,e=>by
  have a1:=h1 x (Qi ..)
  have a2:=h2 y (Qi ..)
  unfold gR at e
  have ex:x=y:=by omega
  have el:gR l=gR m:=by omega
  rw [ex,sZ (by simpa using hl) (λz hz=>h1 z (Qk _ hz)) (λz hz=>h2 z (Qk _ hz)) el]
theorem KOk.len {m:List (List Int×Int)} (k:KOk n 12 m) (hn:n<=6):m.length<=4826809:=by
 have nd:((m.map (·.1)).map gR).Nodup:=by
  refine Yc.mpr (List.Pairwise.imp_of_mem (λ{x y} hx hy ne e=>ne ?_) k.nd)
  obtain ⟨p,hp,rfl⟩:=Qv.mp hx
  obtain ⟨q,hq,rfl⟩:=Qv.mp hy
  exact sZ ((k.box p hp).1.trans (k.box q hq).1.symm) (k.box p hp).2 (k.box q hq).2 e
 have sub:∀ z∈(m.map (·.1)).map gR,z∈(List.range 4826809).map Int.ofNat:=λz hz=>by
  obtain ⟨x,hx,rfl⟩:=Qv.mp hz
  obtain ⟨p,hp,rfl⟩:=Qv.mp hx
  have hb:=oN (k.box p hp).2
  have hle:(13:Int)^p.1.length<=13^6:=by
   rw [(k.box p hp).1]
   rcases (show n=0∨n=1∨n=2∨n=3∨n=4∨n=5∨n=6 by omega) with e | e | e | e | e | e | e <;> rw [e] <;> decide
  have h6:(13:Int)^6=4826809:=by decide
  exact Qv.mpr ⟨(gR p.1).toNat,Jf.mpr (by omega),by show ((gR p.1).toNat:Int)=_; omega⟩
 have:=mD nd sub
 rw [Qb,Qb,Qb,Jz] at this
 exact this
def Bt2 (a g:Addr) (H H':Hp):Prop:=∀ b u,b≠a->b≠g->H b=some u->H' b=some u
theorem Bt2.seqT {g:Addr} {R:List (List Key×V)} (e:Bt2 a g H H') (ha:H a=some (.dT R)) (hg:H g=none) (h:SqT K H c xs):SqT K H' c xs:=by
 rcases h with (h | ⟨o,h⟩) | h
 ·exact .inl (.inl (e c _ (λz=>by rw [z,ha] at h; cases h) (λz=>by rw [z,hg] at h; cases h) h))
 ·exact .inl (.inr ⟨o,e c _ (λz=>by rw [z,ha] at h; cases h) (λz=>by rw [z,hg] at h; cases h) h⟩)
 ·exact .inr h
theorem Bt2.seqL {g:Addr} {R:List (List Key×V)} (e:Bt2 a g H H') (ha:H a=some (.dT R)) (hg:H g=none) (h:SqL K H c xs):SqL K H' c xs:=by
 rcases h with (h | ⟨o,h⟩) | h
 ·exact .inl (.inl (e c _ (λz=>by rw [z,ha] at h; cases h) (λz=>by rw [z,hg] at h; cases h) h))
 ·exact .inl (.inr ⟨o,e c _ (λz=>by rw [z,ha] at h; cases h) (λz=>by rw [z,hg] at h; cases h) h⟩)
 ·exact .inr h
theorem wU:∀ {R:List (List Int×Int)} {i:Nat} {q:List Int×Int},(R.map (·.1)).Nodup->R[i]?=some q->jQ R q.1=some q.2
 | [],i,q,_,h=>by simp at h
 | p::R,0,q,_,h=>by
  have e:p=q:=by simpa using h
  subst e
  simp [jQ]
 | p::R,i+1,q,nd,h=>by
  have nd':p.1∉R.map (·.1)/\(R.map (·.1)).Nodup:=by rw [Qz] at nd; exact Xd.mp nd
  have h':R[i]?=some q:=by simpa using h
  have ne:p.1≠q.1:=λz=>nd'.1 (z ▸ Qv.mpr ⟨q,Qj h',rfl⟩)
  have ih:=wU nd'.2 h'
  unfold jQ at ih ⊢
  rw [Xs,decide_eq_false ne]
  exact ih
def aBU (K:Rc):Sp:=λvs H Q _=>∃ (a l lp:Addr) (R:List (List Int×Int)) (tk lv:List Int) (c:Int),vs = [.ref a,.ref l,.ref lp]/\H a=some (.dT (enc R))/\SqL K H l (tk.map V.int)/\SqT K H lp (lv.map V.int)/\lv.length<=6/\KOk lv.length c R/\c<=11/\(∀ h∈tk,0<=h/\h < lv.length) /\
 ∀ g H',aE H H'->H g=none->H' g=some (.dT (enc (withW R tk lv)))->Q (.ref g) H'
theorem oO:FnScope ["rows", "takers", "levels", "grown", "many", "hand", "key"] ["rows", "takers", "levels"] (aH wK):=⟨rfl,rfl,rfl,by decide +kernel,rfl,by decide +kernel,by decide +kernel⟩
set_option maxHeartbeats 2000000 in
theorem aEx (G:Fn K mg "with_work" wK ["rows", "takers", "levels"] f fd) (B:Bl mg):FnOk P w K mg base CX0 1 f fd ["rows", "takers", "levels"] (aBU K):=by
 refine G.fn.ok oO (λvs H Q E h=>?_) (λcdv A outer s H vs Q E hr h=>?_)
 ·obtain ⟨a,l,lp,R,tk,lv,c,rfl,_⟩:=h
  rfl
 ·obtain ⟨a,l,lp,R,tk,lv,c,rfl,ha,hl,hlp,h6,hK,hc11,htk,k⟩:=h
  have hR:∀ p∈R,p.1.length=lv.length:=λp hp=>(hK.box p hp).1
  have hnd:=hK.nd
  refine ⟨_,(aD (aL (i:=3) oO.nd rfl (Or.inl rfl) aDK)
   (aD (aD1 (eC PassesOwn.never rfl (rW (pv 0)) (aJ (i:=4) oO.nd rfl (Or.inl rfl))
    (aI (eC PassesOwn.never rfl (jX (pv 1)) (aJ (i:=5) oO.nd rfl (Or.inl rfl))
     (aI (cG (bJ xH (bA (dU (K:=K) rfl) (pv 4) (pv 5) (λ_ _=>rfl)) (bA (dU (K:=K) rfl) (pv 2) (pv 5) (λ_ _=>rfl)) (bE _))
      (aD (aL (i:=6) oO.nd rfl (Or.inl rfl) (aY (aBy (K:=K) rfl) (aY (aBy (K:=K) rfl) (fZ (gZ (K:=K) rfl) (pv 4) iZ (gT (pv 5))) (dI (aA (aY bY (bA (dU (K:=K) rfl) (pv 4) (pv 5) (λ_ _=>rfl)) aG) aC))) (fZ (gZ (K:=K) rfl) (pv 4) (gT (aY bY (pv 5) aG)) iZ)))
      (aI (vT (kO hr) (pv 3) (pv 6) (aY bY (kY Mf Mr PySem.F.type_dict_get (aFx (kO hr)) (pv 3) (aA (pv 6) (aA aG aC))) (nU (kO hr) (pv 0) (pv 4) (λ_ _=>rfl))) rfl)))
      bI))))))
   (aI (aW (pv 3))))),?_⟩
  intro g hg
  have nga:g≠a:=λz=>by rw [z,ha] at hg; cases hg
  refine ⟨_,rfl,a,enc R,rfl,by rw [aF (Ne.symm nga)]; exact ha,λo nf=>?_⟩
  have hRl:(enc R).length=R.length:=Qb ..
  have b0:Bt2 a g H (upd (upd H g (.dT [])) a (.frz o (.dT (enc R)))):=λb u n1 n2 h=>by rw [aF n1,aF n2]; exact h
  have f0:upd (upd H g (.dT [])) a (.frz o (.dT (enc R))) a=some (.frz o (.dT (enc R))):=aB
  have g0:upd (upd H g (.dT [])) a (.frz o (.dT (enc R))) g=some (.dT (enc [])):=by rw [aF nga,aB]; rfl
  generalize upd (upd H g (.dT [])) a (.frz o (.dT (enc R)))=H1 at b0 f0 g0 ⊢
  refine aCK (λi σ H2=>(∃ v4 v5 v6,σ = [some (.ref a),some (.ref l),some (.ref lp),some (.ref g),v4,v5,v6])/\Bt2 a g H H2/\H2 a=some (.frz o (.dT (enc R)))/\H2 g=some (.dT (enc (withW (R.take i) tk lv)))) ⟨⟨_,_,_,rfl⟩,b0,f0,g0⟩ (λi σ H2 _ h=>h.2.2.1) ?_ ?_
  ·rintro i p b σ H2 hp hb ⟨⟨v4,v5,v6,rfl⟩,b2,f2,g2⟩
   obtain ⟨q,hq,rfl⟩:∃ q,R[i]?=some q/\(q.1.map Sum.inl,V.int q.2)=p:=by
    unfold enc at hp
    rw [Qe] at hp
    cases hz:R[i]? with
    | none=>rw [hz] at hp; cases hp
    | some q=>rw [hz] at hp; exact ⟨q,rfl,Option.some.inj hp⟩
   have hi:i < R.length:=(Qd.mp hq).1
   have hql:=hR q (Qj hq)
   have hb':H2 b=some (.tup (q.1.map V.int)):=by rw [<- pO]; exact hb
   have hGk:KOk lv.length (c+1) (withW (R.take i) tk lv):=KOk.fold htk (R.take i) [] (λp hp=>hK.all p (Xv hp)) (KOk.nil _ _)
   have hqa:=hK.all q (Qj hq)
   have hnext:=aAZ R tk lv hq
   generalize withW (R.take i) tk lv=G at g2 hGk hnext
   dsimp only [cO]
   refine ⟨_,rfl,l,rfl,⟨_,b2.seqL ha hg hl⟩,xF (K:=K) (xs:=tk.map V.int) (λj σ H3=>(∃ v5 v6,σ = [some (.ref a),some (.ref l),some (.ref lp),some (.ref g),some (.ref b),v5,v6])/\Bt2 a g H H3/\H3 a=some (.frz o (.dT (enc R)))/\H3 b=some (.tup (q.1.map V.int))/\H3 g=some (.dT (enc (withP lv (tk.take j) G q)))) ⟨⟨_,_,rfl⟩,b2,f2,hb',g2⟩ (λj σ H3 _ h=>h.2.1.seqL ha hg hl) ?_ ?_⟩
   ·rintro j x σ H3 hx ⟨⟨w5,w6,rfl⟩,b3,f3,hb3,g3⟩
    obtain ⟨h,hh,rfl⟩:∃ h,tk[j]?=some h/\V.int h=x:=by
     rw [Qe] at hx
     cases hz:tk[j]? with
     | none=>rw [hz] at hx; cases hx
     | some h=>rw [hz] at hx; exact ⟨h,rfl,Option.some.inj hx⟩
    have hj:j < tk.length:=(Qd.mp hh).1
    have hhr:=htk h (Qj hh)
    obtain ⟨hn,rfl⟩:∃ hn:Nat,h=hn:=⟨h.toNat,by omega⟩
    have hnl:hn < lv.length:=by omega
    have hPk:=KOk.withP (lv:=lv) hqa.1 hqa.2.1 hqa.2.2 (tk.take j) G (λh hh=>htk h (Xv hh)) hGk
    have hPl:=KOk.len ⟨hPk.nd,λp hp=>⟨(hPk.box p hp).1,λx hx=>by have:=(hPk.box p hp).2 x hx; omega⟩,hPk.pos⟩ h6
    have hstep:=aAY lv tk G q hh
    clear hPk
    generalize withP lv (tk.take j) G q=G3 at g3 hPl hstep
    have at1:atI (q.1.map V.int) (hn:Int)=some (.int (q.1.getD hn 0)):=cH (by rw [Qe,Qq,Qc (by omega)]; rfl)
    have at2:atI (lv.map V.int) (hn:Int)=some (.int (lv.getD hn 0)):=cH (by rw [Qe,Qq,Qc hnl]; rfl)
    have hml:(q.1.map V.int).length=q.1.length:=Qb ..
    refine ⟨_,rfl,_,rfl,b,_,(hn:Int),_,rfl,rfl,SqT.of hb3,at1,_,rfl,_,rfl,lp,_,(hn:Int),_,rfl,rfl,b3.seqT ha hg hlp,at2,_,_,rfl,rfl,_,rfl,?_⟩
    refine dJ (λc1=>?_) (λc1=>?_)
    ·have c2:q.1.getD hn 0<=lv.getD hn 0:=of_decide_eq_true c1
     have est:iC lv G3 q (hn:Int)=jR G3 (kS q.1 hn) ((jQ G3 (kS q.1 hn)).getD 0+q.2):=by unfold iC; rw [Jc,if_pos c2]
     refine ⟨_,rfl,_,rfl,_,rfl,b,_,rfl,SqT.of hb3,λr1 H4 s4 g4=>?_⟩
     rw [qM] at g4
     refine ⟨_,rfl,_,rfl,b,_,(hn:Int),_,rfl,rfl,SqT.of (s4 _ _ hb3),at1,_,_,rfl,rfl,sz1 _,λr2 hr2=>?_⟩
     have s5:=aE.new (o:=.tup [.int (q.1.getD hn 0+1)]) hr2
     refine aFy (s5.seqT g4) aB (by rw [Qw]; omega) λr3 H6 s6 e6=>?_
     have s36:=s4.trans (s5.trans s6)
     refine ⟨_,rfl,_,rfl,_,_,rfl,rfl,_,rfl,b,_,rfl,SqT.of (s36 _ _ hb3),λr4 H7 s7 g7=>?_⟩
     rw [show (hn:Int)+1=((hn+1:Nat):Int) by omega,mB] at g7
     refine aD6 (s7 _ _ e6) (by simp) g7 (by rw [Qn,Qw,Jq]; show _+1+_<=_; omega) λkp H8 s8 e8=>?_
     have s38:=s36.trans (s7.trans s8)
     have e9:H8 kp=some (.tup (((kS q.1 hn).map Sum.inl).map kV)):=by
      rw [pO,e8]
      unfold kS
      rw [Qo,Qo,Ym,Yn]
      rfl
     have g8:=s38 _ _ g3
     have hv1:(dO (enc G3) ((kS q.1 hn).map Sum.inl)).getD (.int 0)=.int ((jQ G3 (kS q.1 hn)).getD 0):=by rw [sY]; cases jQ G3 (kS q.1 hn) <;> rfl
     have hv2:some (V.int q.2)=dO (enc R) (q.1.map Sum.inl):=by rw [sY,wU hnd hq]; rfl
     dsimp only [cO]
     refine ⟨_,rfl,.inr (.inr (.inl ⟨rfl,.inr ⟨_,g8⟩⟩)),_,rfl,g,kp,enc G3,(kS q.1 hn).map Sum.inl,.int 0,rfl,rfl,.inl g8,e9,?_⟩
     rw [hv1]
     refine ⟨_,rfl,_,rfl,a,.int q.2,rfl,.inr ⟨enc R,q.1.map Sum.inl,b,.inr ⟨o,s38 _ _ f3⟩,rfl,by rw [pO]; exact s38 _ _ hb3,hv2⟩,_,_,rfl,rfl,?_⟩
     refine ⟨_,rfl,_,rfl,g,_,rfl,vS.t g8 e9 (by unfold enc; rw [Qb,Rf]; omega),?_⟩
     rw [aEu,<- est,<- hstep]
     have nba:b≠g:=λz=>by rw [z,g3] at hb3; cases hb3
     refine ⟨⟨_,_,rfl⟩,λc u n1 n2 hc=>?_,?_,?_,aB⟩
     ·rw [aF n2]
      exact s38 _ _ (b3 c u n1 n2 hc)
     ·rw [aF (Ne.symm nga)]
      exact s38 _ _ f3
     ·rw [aF nba]
      exact s38 _ _ hb3
    ·have c2:¬ q.1.getD hn 0<=lv.getD hn 0:=λz=>c1 (decide_eq_true z)
     have est:iC lv G3 q (hn:Int)=G3:=by unfold iC; rw [Jc,if_neg c2]
     rw [est] at hstep
     exact ⟨⟨_,_,rfl⟩,b3,f3,hb3,by rw [hstep]; exact g3⟩
   ·rintro σ H3 ⟨⟨w5,w6,rfl⟩,b3,f3,hb3,g3⟩
    rw [Qb,Jj] at g3
    exact ⟨⟨_,_,_,rfl⟩,b3,f3,by rw [hnext]; exact g3⟩
  ·rintro σ H2 ⟨⟨v4,v5,v6,rfl⟩,b2,f2,g2⟩
   rw [hRl,Jj] at g2
   refine ⟨a,o,enc R,f2,nf,?_⟩
   refine ⟨_,rfl,k g _ (λb u h=>?_) hg (by rw [aF nga]; exact g2)⟩
   by_cases hba:b=a
   ·rw [hba] at h ⊢
    rw [aB,<- ha,h]
   ·rw [aF hba]
    exact b2 b u hba (λz=>by rw [z,hg] at h; cases h) h
end Ab
namespace L2
open PySem
theorem aFS (k1 k2:Sk) {a b:Expr} {ta:TA} (hK:X.K=K) (hg:Gl X "zip") (hm:X.mg "zip" = none) (ha:PA X [a,b] ta) (hs:starEach [a,b] X.env = [(false,eval a X.env),(false,eval b X.env)]:=by rfl) (hs2:starEach [b] X.env = [(false,eval b X.env)]:=by rfl) :
  PI X (.Tuple es x1 tpos) (.Call (.Name "zip" p) [a,b] [] pos) (aHG K k1 k2 ta):=by subst hK; exact rN k1 k2 hg hm ha hs hs2
theorem aCY (hK:X.K=K) (hc:X.calm=true):dF X (.builtin "all") (λxs H Q=>∃ (p:Addr) (bs:List Bool),xs = [.ref p]/\SqL K H p (bs.map V.bl)/\Q (.bl (bs.all id)) H):=by subst hK; exact iP hc
end L2
namespace Ab
open PySem L2
def cX (lv l:List Int):List Int:=l.filter λh=>decide (∀ j∈l,lv.getD h.toNat 0<=lv.getD j.toNat 0)
def cQ (n:Nat) (lv:List Int) (ws:List (List Int)):List (List Int×Int):=ws.foldl (λR l=>withW R (cX lv l) lv) [(List.replicate n 0,1)]
def eI (n:Nat) (lv:List Int) (ws:List (List Int)):List (List Int×Int):=(cQ n lv ws).filter λp=>(p.1.zip lv).all λq=>decide (q.2<=q.1)
theorem lV (n:Nat) (lv:List Int) (ws:List (List Int)) (e:ws[i]?=some l):cQ n lv (ws.take (i+1))=withW (cQ n lv (ws.take i)) (cX lv l) lv:=by
 unfold cQ
 rw [Jp,e,Zf]
 rfl
theorem iK (n:Nat) (lv:List Int) (ws:List (List Int)) (hw:∀ l∈ws,∀ h∈l,0<=h/\h < (n:Int)):∀ i:Nat,i<=ws.length->KOk n i (cQ n lv (ws.take i))
 | 0,_=>by
  refine ⟨by simp [cQ],λp hp=>?_,λp hp=>?_⟩
  ·have e:p=(List.replicate n 0,1):=by simpa [cQ] using hp
   subst e
   exact ⟨Ju,λx hx=>by rw [List.eq_of_mem_replicate hx]; exact ⟨Xl _,Xl _⟩⟩
  ·have e:p=(List.replicate n 0,1):=by simpa [cQ] using hp
   subst e
   show (0:Int) < 1
   decide
 | i+1,h=>by
  have hi:i < ws.length:=by omega
  rw [lV n lv ws (Qc hi)]
  have k:=iK n lv ws hw i (by omega)
  exact k.withW λh hh=>hw _ (Xf hi) h (Jy.mp hh).1
def aHb:Scope:=match (eV iS).getD 3 (.Pass ⟨0,0,0,0⟩) with
 | .Return (some (.DictComp _ _ _ sc _)) _=>sc
 | _=>aH iS
theorem aA0 {M:Int} (h1:M∈l.map λh=>lv.getD h.toNat 0) (h2:∀ a∈l.map λh=>lv.getD h.toNat 0,M<=a):(l.filter λh=>decide (lv.getD h.toNat 0=M))=cX lv l:=by
 unfold cX
 refine Zg λh hh=>decide_eq_decide.mpr ⟨λe j hj=>?_,λe=>?_⟩
 ·rw [e]
  exact h2 _ (Qv.mpr ⟨j,hj,rfl⟩)
 ·obtain ⟨j,hj,ej⟩:=Qv.mp h1
  have:=e j hj
  have:=h2 _ (Qv.mpr ⟨h,hh,rfl⟩)
  omega
def qX (K:Rc) (Pt:Addr):Sp:=λvs H Q _=>∃ (x:V) (n:Int) (ws:List (List Int)),vs = [x]/\Den K H (aT n ws) x/\aS (aT n ws)=true/\H Pt=some (.tab mQ) /\
 ∀ (p:Addr) (hs lv:List Int) H',aE H H'->aX ws (aV hs)=true->hV n ws hs lv->H' p=some (.dT (enc (eI n.toNat lv ws)))->Q (.ref p) H'
theorem mM:FnScope ["book", "levels", "rows", "able", "least"] ["book"] (aH iS):=⟨rfl,rfl,rfl,by decide +kernel,rfl,by decide +kernel,by decide +kernel⟩
set_option maxHeartbeats 4000000 in
theorem aEy {fWW:Addr} {dWW:FuncData} (G:Fn K mg "even_loads" iS ["book"] f fd) (B:Bl mg) (GEv:Fn K mg "evenest" hJ ["book"] fE dE) (OEv:FnOk P w K mg base CX0 11 fE dE ["book"] (iJ K Pt)) (GWW:Fn K mg "with_work" wK ["rows", "takers", "levels"] fWW dWW):FnOk P w K mg base CX0 12 f fd ["book"] (qX K Pt):=by
 have OWW:FnOk P w K mg base CX0 1 fWW dWW ["rows", "takers", "levels"] (aBU K):=aEx GWW B
 refine G.fn.ok mM (λvs H Q E h=>?_) (λcdv A outer s H vs Q E hr h=>?_)
 ·obtain ⟨x,n,ws,rfl,_⟩:=h
  rfl
 ·obtain ⟨x,n,ws,rfl,hx,hb,hP,k⟩:=h
  have r11:Room 11 _:=hr
  have r1:Room 1 _:=hr.mono (by decide)
  refine ⟨_,(aD (aL (i:=1) mM.nd rfl (Or.inr rfl) (bA (dU (K:=K) rfl) (bB GEv OEv r11 rfl (aA (pv 0) aC)) aG (λ_ _=>rfl)))
   (aD (aL (i:=2) mM.nd rfl (Or.inr rfl) (aCL (kO hr) (aY aFz (dI (aA aG aC)) (bA (dU (K:=K) rfl) (pv 0) aG (λ_ _=>rfl))) aG))
   (aD (eC PassesOwn.never rfl (fY (bA (dU (K:=K) rfl) (pv 0) aG (λ_ _=>rfl))) (aJ (i:=3) mM.nd rfl (Or.inl rfl))
    (aD (aL (i:=4) mM.nd rfl (Or.inr rfl) (aP (aCo rfl) rfl B.min aHJ (aA (bX (own:=["hand"]) (fr:=[1]) (frn:=["levels"]) (bD (aH iS) ["book", "levels", "rows", "able", "least"] rfl rfl (by decide +kernel)) rfl (fY (pv 3))
      (λ_ _ _ _=>aJ (i:=0) (show (["hand", "levels"]:List Str).Nodup by decide +kernel) rfl (Or.inl rfl)) (λ_ _ _ _=>dM) (λ_ _ _ _=>bA (dU (K:=K) rfl) (pv 1) (pv 0) (λ_ _=>rfl))) aC)))
    (aI (aL (i:=2) mM.nd rfl (Or.inr rfl) (bB GWW OWW r1 rfl (aA (pv 2) (aA (bX (own:=["hand"]) (fr:=[1,4]) (frn:=["levels", "least"]) (bD (aH iS) ["book", "levels", "rows", "able", "least"] rfl rfl (by decide +kernel)) rfl (fY (pv 3))
      (λ_ _ _ _=>aJ (i:=0) (show (["hand", "levels", "least"]:List Str).Nodup by decide +kernel) rfl (Or.inl rfl)) (λ_ _ _ _=>oY (bJ gH (bA (dU (K:=K) rfl) (pv 1) (pv 0) (λ_ _=>rfl)) (pv 2) (bE _))) (λ_ _ _ _=>pv 0)) (aA (pv 1) aC))))))))
   (aI (aW (aCN (kO hr) (own:=["many"]) (fr:=[1,2]) (frn:=["levels", "rows"]) (bD (aH iS) ["book", "levels", "rows", "able", "least"] rfl rfl (by decide +kernel)) rfl (pv 2)
     (λ_ _ _ _=>aJ (i:=0) (show (["many", "levels", "rows"]:List Str).Nodup by decide +kernel) rfl (Or.inl rfl))
     (λ_ _ _ _=>oY (eE (aP (aCY (K:=K) rfl rfl) rfl B.all rX (aA (bX (own:=["load", "level"]) (fr:=[]) (frn:=[]) (bD (aGQ aHb (aH iS)) ["many", "levels", "rows"] rfl rfl (by decide +kernel)) rfl (aFS (K:=K) .t .t rfl rfl B.zip (aA (pv 0) (aA (pv 1) aC)))
       (λ_ _ _ _=>qT (K:=K) (n:=2) rfl rfl (aZ (aJ (i:=0) (show (["load", "level"]:List Str).Nodup by decide +kernel) rfl (Or.inl rfl)) (aZ (aJ (i:=1) (show (["load", "level"]:List Str).Nodup by decide +kernel) rfl (Or.inl rfl)) dP))) (λ_ _ _ _=>dM) (λ_ _ _ _=>cP aBf (pv 0) (pv 1) (bE _))) aC))))
     (λ_ _ _ _=>pv 0) (λ_ _ _ _=>nU (kO hr) (pv 2) (pv 0) (λ_ _=>rfl)))))))),?_⟩
  obtain ⟨hn1,hn6,hw12,hws⟩:=bF hb
  refine ⟨_,rfl,x,n,ws,rfl,hx,hb,hP,λp dp lp hs lv H1 s1 hp hdp hd hlp L=>?_⟩
  refine ⟨p,_,1,.ref lp,rfl,rfl,SqT.of hp,rfl,?_⟩
  obtain ⟨ba,bb,ys,rfl,ha,hb2,hys⟩:=cU (s1.den _ _ hx)
  have hlw:=aQ hys
  rw [Qb] at hlw
  intro r0 hr0
  refine ⟨sz1 _,λz0 hz0=>?_⟩
  have s2:=aE.new (o:=.dT []) hr0
  have s3:=aE.new (o:=.tup [.int 0]) hz0
  refine ⟨_,rfl,ba,_,0,.int n,rfl,rfl,(s2.trans s3).seqT ha,rfl,?_⟩
  refine ⟨z0,n.toNat,[.int 0],rfl,by rw [Zt (by omega)],aB,by simp,by omega,by omega,by decide,λkp H3 s4 e3=>?_⟩
  have r3:H3 r0=some (.dT []):=(s3.trans s4) _ _ aB
  rw [Zj] at e3
  refine ⟨(List.replicate n.toNat 0).map Sum.inl,kp,rfl,by rw [pO,Wu]; exact e3,r3,?_⟩
  have s13:aE H1 (upd H3 r0 (.dT [((List.replicate n.toNat 0).map Sum.inl,.int 1)])):=λb u h=>by
   rw [aF (λz=>by rw [z,hr0] at h; cases h)]
   exact (s2.trans (s3.trans s4)) _ _ h
  have e4:upd H3 r0 (.dT [((List.replicate n.toNat 0).map Sum.inl,.int 1)]) r0=some (.dT (enc (cQ n.toNat lv (ws.take 0)))):=aB
  generalize upd H3 r0 (.dT [((List.replicate n.toNat 0).map Sum.inl,.int 1)])=H4 at s13 e4 ⊢
  have hwr:∀ l∈ws,∀ h∈l,0<=h/\h < ((n.toNat:Nat):Int):=λl hl h hh=>by have:=(bH (hws l hl)).2.1 h hh; omega
  have hlvl:lv.length=n.toNat:=L.1
  dsimp only [cO]
  refine ⟨_,rfl,ba,_,1,.ref bb,rfl,rfl,s13.seqT ha,rfl,bb,rfl,⟨_,s13.seqT hb2⟩,qI (K:=K) (a:=bb) (xs:=ys) (λi σ H5=>∃ (rp:Addr) (v3 v4:Option V),σ = [some (.ref ba),some (.ref lp),some (.ref rp),v3,v4]/\H5 rp=some (.dT (enc (cQ n.toNat lv (ws.take i))))/\aE H1 H5) ⟨r0,_,_,rfl,e4,s13⟩ (λi σ H5 _ ⟨_,_,_,_,_,s5⟩=>s5.seqT hb2) ?_ ?_⟩
  ·rintro i y σ H5 hy ⟨rp,v3,v4,rfl,e5,s5⟩
   obtain ⟨dv,hdv,denv⟩:=cT hys hy
   rw [Qe] at hdv
   obtain ⟨l,hl,rfl⟩:∃ l,ws[i]?=some l/\bM l=dv:=by
    cases q:ws[i]? with
    | none=>rw [q] at hdv; cases hdv
    | some l=>rw [q] at hdv; exact ⟨l,rfl,Option.some.inj hdv⟩
   obtain ⟨pw,rfl,hpw⟩:=aO.mp denv
   have hiw:i < ws.length:=(Qd.mp hl).1
   obtain ⟨l0,lr,l6⟩:=bH (hws l (Qj hl))
   have hlr:=hwr l (Qj hl)
   have hml:(l.map V.int).length=l.length:=Qb ..
   have hl12:l.length<=12:=by
    have z:=mD (l:=l) (m:=(List.range n.toNat).map Int.ofNat) (l6.imp λ{a b} h=>by omega) λh hh=>Qv.mpr ⟨h.toNat,Jf.mpr (by have:=hlr h hh; omega),by have:=hlr h hh; show ((h.toNat:Nat):Int)=h; omega⟩
    rw [Qb,Jz] at z
    omega
   have atl:∀ h∈l,atI (lv.map V.int) h=some (.int (lv.getD h.toNat 0)):=λh hh=>by
    have hr0:=hlr h hh
    obtain ⟨m,rfl⟩:∃ m:Nat,h=m:=⟨h.toNat,by omega⟩
    exact cH (by rw [Qe,Jc,Qq,Qc (by omega)]; rfl)
   refine ⟨_,rfl,pw,rfl,⟨_,s5.seqT hpw⟩,yC (K:=K) (a:=pw) (xs:=l.map V.int) (vs:=(l.map λh=>lv.getD h.toNat 0).map V.int) (λσ=>∃ v,σ = [v,some (.ref lp)]) (by omega) (by rw [Qb,Qb,Qb]) (s5.seqT hpw) ⟨none,rfl⟩ ?_ ?_⟩
   ·rintro j xv v σ H6 hxv hv ⟨v0,rfl⟩ s6 Q' hQ'
    rw [Qe] at hxv
    rw [Qe,Qe] at hv
    cases hlj:l[j]? with
    | none=>rw [hlj] at hxv; cases hxv
    | some h =>
     rw [hlj] at hxv hv
     obtain rfl:V.int h=xv:=Option.some.inj hxv
     obtain rfl:V.int (lv.getD h.toNat 0)=v:=Option.some.inj hv
     exact ⟨_,rfl,_,rfl,lp,_,h,_,rfl,rfl,SqT.of ((s5.trans s6) _ _ hlp),atl h (Qj hlj),hQ' _ _ ⟨_,rfl⟩ (aE.refl _)⟩
   ·rintro H6 s6 z hz
    refine ⟨z,_,rfl,SqL.of aB,by rw [Qb]; exact Zu.mpr l0,λM hM hmin=>?_⟩
    have s7:=s6.trans (aE.new (o:=.lst ((l.map λh=>lv.getD h.toNat 0).map V.int)) hz)
    generalize upd H6 z (.lst ((l.map λh=>lv.getD h.toNat 0).map V.int))=H7 at s7 ⊢
    have s17:=s5.trans s7
    have hK:=iK n.toNat lv ws hwr i (by omega)
    refine ⟨_,rfl,_,rfl,pw,rfl,⟨_,s17.seqT hpw⟩,gY (K:=K) (a:=pw) (xs:=l.map V.int) (λσ=>∃ v,σ = [v,some (.ref lp),some (.int M)]) (λj zs H8=>H8=H7/\zs=((l.take j).filter λh=>decide (lv.getD h.toNat 0=M)).map V.int) (eG (by omega)) ⟨none,rfl⟩ ⟨rfl,rfl⟩ ?_ ?_ ?_ ?_⟩
    ·rintro j zs H8 ⟨rfl,rfl⟩
     rw [Qb]
     exact Jl (Za ..) (by rw [Qw]; omega)
    ·rintro j zs H8 ⟨rfl,rfl⟩
     exact s17.seqT hpw
    ·rintro j zs σ xv H8 hxv ⟨v0,rfl⟩ ⟨rfl,rfl⟩ hz8
     rw [Qe] at hxv
     cases hlj:l[j]? with
     | none=>rw [hlj] at hxv; cases hxv
     | some h =>
      rw [hlj] at hxv
      obtain rfl:V.int h=xv:=Option.some.inj hxv
      have et:(l.take (j+1)).filter (λh=>decide (lv.getD h.toNat 0=M))=(l.take j).filter (λh=>decide (lv.getD h.toNat 0=M))++([h].filter λh=>decide (lv.getD h.toNat 0=M)):=by rw [Jp,hlj,Xi]; rfl
      refine ⟨_,rfl,_,rfl,lp,_,h,_,rfl,rfl,SqT.of (s17 _ _ hlp),atl h (Qj hlj),_,rfl,rfl,_,rfl,?_⟩
      refine dJ (λc1=>?_) (λc1=>?_)
      ·have c2:lv.getD h.toNat 0=M:=by
        have z:=of_decide_eq_true c1
        injection z
       refine ⟨_,rfl,hz8,⟨_,rfl⟩,rfl,?_⟩
       rw [et,Qo,Zd,if_pos (decide_eq_true c2)]
       rfl
      ·have c2:¬ lv.getD h.toNat 0=M:=λz=>c1 (decide_eq_true (by rw [z]))
       refine ⟨⟨_,rfl⟩,rfl,?_⟩
       rw [et,Zd,if_neg (λz=>c2 (of_decide_eq_true z))]
       simp
    ·rintro zs H8 ⟨rfl,rfl⟩ z2 hz2
     rw [hml,Jj,aA0 hM hmin]
     have s8:=aE.new (o:=.lst ((cX lv l).map V.int)) hz2
     have s18:=s17.trans s8
     refine ⟨_,rfl,rp,z2,lp,_,cX lv l,lv,(i:Int),rfl,(s7.trans s8) _ _ e5,SqL.of aB,SqT.of (s18 _ _ hlp),by omega,by rw [hlvl]; exact hK,by omega,λh hh=>by rw [hlvl]; exact hlr h (Jy.mp hh).1,λg H9 s9 hg e9=>?_⟩
     exact ⟨g,_,_,rfl,by rw [lV n.toNat lv ws hl]; exact e9,s18.trans s9⟩
  ·rintro σ H5 ⟨rp,v3,v4,rfl,e5,s5⟩
   rw [hlw,Jj] at e5
   have hKw:=iK n.toNat lv ws hwr ws.length (Qg _)
   rw [Jj] at hKw
   have hev:eI n.toNat lv ws=(cQ n.toNat lv ws).filter λp=>(p.1.zip lv).all λq=>decide (q.2<=q.1):=rfl
   have hRl:=KOk.len ⟨hKw.nd,λp hp=>⟨(hKw.box p hp).1,λx hx=>by have:=(hKw.box p hp).2 x hx; omega⟩,hKw.pos⟩ (show n.toNat<=6 by omega)
   generalize cQ n.toNat lv ws=R at e5 hKw hev hRl
   have hel:(enc R).length=R.length:=Qb ..
   refine ⟨_,rfl,rp,enc R,rfl,e5,λo=>?_⟩
   have f6:upd H5 rp (.frz o (.dT (enc R))) rp=some (.frz o (.dT (enc R))):=aB
   have b6:∀ b u,b≠rp->H5 b=some u->upd H5 rp (.frz o (.dT (enc R))) b=some u:=λb u nb h=>by rw [aF nb]; exact h
   generalize upd H5 rp (.frz o (.dT (enc R)))=H6 at f6 b6 ⊢
   have nlp:lp≠rp:=λz=>by have y:=s5 _ _ hlp; rw [z,e5] at y; cases y
   refine yV (λσ=>∃ v,σ = [v,some (.ref lp),some (.ref rp)]) (λi ys H7=>ys.map kvE=enc ((R.take i).filter λp=>(p.1.zip lv).all λq=>decide (q.2<=q.1))/\Kp ys H7/\H7 rp=some (.frz o (.dT (enc R)))/\∀ b u,b≠rp->H5 b=some u->H7 b=some u) (by rw [hel,Rf]; omega) ⟨none,rfl⟩ ⟨rfl,λ_ h=>(Qt h).elim,f6,b6⟩ ?_ (λi ys H7 h=>⟨h.2.2.1,h.2.1⟩) ?_ ?_
   ·rintro i ys H7 ⟨he,_⟩
    have z:=congrArg Zy he
    unfold enc at z
    rw [Qb,Qb] at z
    have z2:=Za (λp:List Int×Int=>(p.1.zip lv).all λq=>decide (q.2<=q.1)) (R.take i)
    rw [Qw] at z2
    omega
   ·rintro i ys σ p b H7 hp hb ⟨v,rfl⟩ ⟨he,hkp,f7,b7⟩ hz
    obtain ⟨q,hq,rfl⟩:∃ q,R[i]?=some q/\(q.1.map Sum.inl,V.int q.2)=p:=by
     unfold enc at hp
     rw [Qe] at hp
     cases hz:R[i]? with
     | none=>rw [hz] at hp; cases hp
     | some q=>rw [hz] at hp; exact ⟨q,rfl,Option.some.inj hp⟩
    have hql:=(hKw.box q (Qj hq)).1
    have hb':H7 b=some (.tup (q.1.map V.int)):=by rw [<- pO]; exact hb
    have hlp7:H7 lp=some (.tup (lv.map V.int)):=b7 _ _ nlp (s5 _ _ hlp)
    have et:(R.take (i+1)).filter (λp=>(p.1.zip lv).all λq=>decide (q.2<=q.1))=(R.take i).filter (λp=>(p.1.zip lv).all λq=>decide (q.2<=q.1))++([q].filter λp=>(p.1.zip lv).all λq=>decide (q.2<=q.1)):=by rw [Jp,hq,Xi]; rfl
    refine ⟨_,rfl,_,rfl,b,lp,_,_,rfl,SqT.of hb',SqT.of hlp7,aCI (K:=K) (k1:=.t) (k2:=.t) (a:=b) (b:=lp) (xs:=q.1.map V.int) (zs:=lv.map V.int) (vs:=((q.1.zip lv).map λr=>decide (r.2<=r.1)).map V.bl) (λσ=>∃ v0 v1,σ = [v0,v1]) (by rw [Qb]; omega) (by rw [Qb,Qb]; omega) (by rw [Qb,Qb,Qb,List.length_zip]; omega) (λH' s'=>⟨SqT.of (s' _ _ hb'),SqT.of (s' _ _ hlp7)⟩) ⟨none,none,rfl⟩ ?_ ?_⟩
    ·rintro j xv zv v pr σ H8 hxv hzv hv hpr ⟨v0,v1,rfl⟩ s8 Q' hQ'
     rw [Qe] at hxv hzv
     cases h1:q.1[j]? with
     | none=>rw [h1] at hxv; cases hxv
     | some x1 =>
      cases h2:lv[j]? with
      | none=>rw [h2] at hzv; cases hzv
      | some x2 =>
       rw [h1] at hxv
       rw [h2] at hzv
       obtain rfl:V.int x1=xv:=Option.some.inj hxv
       obtain rfl:V.int x2=zv:=Option.some.inj hzv
       rw [Qe,Qe,(Js (z:=(x1,x2))).mpr ⟨h1,h2⟩] at hv
       obtain rfl:V.bl (decide (x2<=x1))=v:=Option.some.inj hv
       refine ⟨pr,_,rfl,SqT.of aB,rfl,_,_,rfl,_,_,rfl,rfl,?_⟩
       refine ⟨_,rfl,_,rfl,_,_,rfl,rfl,?_⟩
       exact hQ' _ _ ⟨_,_,rfl⟩ (aE.new hpr)
    ·rintro H8 s8 z hz8
     refine ⟨z,_,rfl,SqL.of aB,_,rfl,?_⟩
     have s9:=s8.trans (aE.new (o:=.lst (((q.1.zip lv).map λr=>decide (r.2<=r.1)).map V.bl)) hz8)
     generalize upd H8 z (.lst (((q.1.zip lv).map λr=>decide (r.2<=r.1)).map V.bl))=H9 at s9 ⊢
     have ec:((q.1.zip lv).map λr=>decide (r.2<=r.1)).all id=(q.1.zip lv).all λr=>decide (r.2<=r.1):=by rw [Yy]; rfl
     rw [ec]
     have kp9:Kp ys H9:=λe h=>s9 _ _ (hkp e h)
     have b9:∀ b u,b≠rp->H5 b=some u->H9 b=some u:=λb u nb h=>s9 _ _ (b7 b u nb h)
     by_cases hc:((q.1.zip lv).all λr=>decide (r.2<=r.1))=true
     ·rw [hc]
      refine iN ?_
      refine ⟨_,rfl,_,rfl,_,rfl,rp,.int q.2,rfl,.inr ⟨enc R,q.1.map Sum.inl,b,.inr ⟨o,s9 _ _ f7⟩,rfl,s9 _ _ hb,by rw [sY,wU hKw.nd hq]; rfl⟩,?_⟩
      refine ⟨q.1.map Sum.inl,b,rfl,s9 _ _ hb,kp9,λhm=>?_,hz,⟨_,rfl⟩,?_,λe h=>?_,s9 _ _ f7,b9⟩
      ·have e1:ys.map (·.1)=((R.take i).filter λp=>(p.1.zip lv).all λq=>decide (q.2<=q.1)).map λp=>p.1.map Sum.inl:=by
        have z:=congrArg (List.map (·.1)) he
        unfold enc at z
        rw [Jv,Jv] at z
        exact z
       rw [e1] at hm
       obtain ⟨p,hp2,ep⟩:=Qv.mp hm
       have ep':p.1=q.1:=oM.mp ep
       obtain ⟨j,hj,ej⟩:=List.getElem_of_mem (Jy.mp hp2).1
       have hi:i < R.length:=(Qd.mp hq).1
       have hqe:R[i]=q:=(Qd.mp hq).2
       rw [Qw] at hj
       rw [List.getElem_take] at ej
       refine Xx.mp hKw.nd j i (by rw [Qb]; omega) (by rw [Qb]; exact hi) (by omega) ?_
       rw [Qag,Qag,ej,hqe]
       exact ep'
      ·rw [Qo,he,et,Zd,if_pos hc]
       unfold enc
       rw [Qo]
       rfl
      ·rcases Jg.mp h with h | h
       ·exact kp9 e h
       ·rw [Qs.mp h]
        exact s9 _ _ hb
     ·rw [Yh] at hc
      rw [hc]
      refine gF ?_
      refine ⟨⟨_,rfl⟩,?_,kp9,s9 _ _ f7,b9⟩
      rw [et,Zd,if_neg (by rw [hc]; decide)]
      simpa using he
   ·rintro ys H7 ⟨he,hkp,f7,b7⟩ p hp
    rw [hel,Jj,<- hev] at he
    rw [he]
    refine k p hs lv _ (λb u h=>?_) hd L (by rw [aF (λz=>by rw [z,f7] at hp; cases hp),aB])
    have y:=s5 _ _ (s1 _ _ h)
    by_cases hbr:b=rp
    ·rw [hbr] at y ⊢
     rw [aB,<- e5,y]
    ·rw [aF hbr,aF (λz=>by rw [<- z,b7 b u hbr y] at hp; cases hp)]
     exact b7 b u hbr y
def SM (m:List (List Int×Int)):Int:=aK (m.map (·.2))
theorem kJ (p:List Int×Int) (m:List (List Int×Int)):SM (p::m)=p.2+SM m:=rfl
theorem aBV {p:List Int×Int} {m:List (List Int×Int)} {k:List Int} {x:Int} (h:p.1≠k):jR (p::m) k x=p::jR m k x:=by
 unfold jR
 rw [Zq,decide_eq_false h,Bool.false_or]
 split
 ·rw [Qz,if_neg h]
 ·rfl
theorem aBW {p:List Int×Int} {m:List (List Int×Int)} {k:List Int} (h:p.1≠k):jQ (p::m) k=jQ m k:=by
 unfold jQ
 rw [Xs,decide_eq_false h]
theorem aEz {k:List Int} {v:Int}:∀ {m:List (List Int×Int)},(m.map (·.1)).Nodup->SM (jR m k ((jQ m k).getD 0+v))=SM m+v
 | [],_=>by
  show (0+v)+0=0+v
  omega
 | p::m,nd=>by
  rw [Qz] at nd
  obtain ⟨h1,h2⟩:=Xd.mp nd
  by_cases h:p.1=k
  ·have eg:jQ (p::m) k=some p.2:=by unfold jQ; rw [Xs,decide_eq_true h]; rfl
   have ep:jR (p::m) k (p.2+v)=(p.1,p.2+v)::m:=by
    unfold jR
    rw [Zq,decide_eq_true h,QaO,if_pos rfl,Qz,if_pos h]
    congr 1
    refine (Xj λq hq=>?_).trans (List.map_id' m)
    rw [if_neg (λz=>h1 (Qv.mpr ⟨q,hq,z.trans h.symm⟩))]
   rw [eg]
   show SM (jR (p::m) k (p.2+v))=_
   rw [ep,kJ,kJ]
   show p.2+v+SM m=_
   omega
  ·rw [aBW h,aBV h,kJ,kJ,aEz h2]
   omega
theorem aFT {g:List (List Int×Int)} {p:List Int×Int} {h:Int} (nd:(g.map (·.1)).Nodup) (h3:0 < p.2):SM (iC lv g p h)<=SM g+p.2:=by
 unfold iC
 split
 ·rw [aEz nd]; exact Xl _
 ·omega
theorem zO {c:Int} {p:List Int×Int} (h1:p.1.length=n) (h2:∀ x∈p.1,0<=x/\x<=c) (h3:0 < p.2):∀ (tk:List Int) (g:List (List Int×Int)),(∀ h∈tk,0<=h/\h < n)->KOk n (c+1) g->SM (withP lv tk g p)<=SM g+tk.length*p.2
 | [],g,_,_=>by
  show SM g<=SM g+(0:Nat)*p.2
  omega
 | h::tk,g,ht,k=>by
  have a:=zO h1 h2 h3 tk (iC lv g p h) (λx hx=>ht x (Qk _ hx)) (k.step h1 h2 h3 (ht h (Qi ..)))
  have b:=aFT (lv:=lv) (h:=h) k.nd h3
  show SM (withP lv tk (iC lv g p h) p)<=_
  rw [Qx,Zn,Yi]
  show _<=SM g+(tk.length*p.2+1*p.2)
  omega
theorem aBX {c:Int} {tk:List Int} (ht:∀ h∈tk,0<=h/\h < n):∀ (R g:List (List Int×Int)),(∀ p∈R,p.1.length=n/\(∀ x∈p.1,0<=x/\x<=c)/\0 < p.2)->KOk n (c+1) g->SM (R.foldl (λg p=>withP lv tk g p) g)<=SM g+tk.length*SM R
 | [],g,_,_=>by
  show SM g<=SM g+tk.length*0
  omega
 | p::R,g,hR,k=>by
  have hp:=hR p (Qi ..)
  have a:=aBX ht R _ (λq hq=>hR q (Qk _ hq)) (KOk.withP (lv:=lv) hp.1 hp.2.1 hp.2.2 tk g ht k)
  have b:=zO (lv:=lv) hp.1 hp.2.1 hp.2.2 tk g ht k
  rw [kJ,Int.mul_add]
  show SM (R.foldl (λg p=>withP lv tk g p) (withP lv tk g p))<=_
  omega
theorem pP:∀ {m:List (List Int×Int)},(∀ p∈m,0 < p.2)->0<=SM m
 | [],_=>Xl _
 | p::m,h=>by
  have a:=h p (Qi ..)
  have b:=pP (m:=m) λq hq=>h q (Qk _ hq)
  rw [kJ]
  omega
theorem aGq:∀ {m:List (List Int×Int)},(∀ p∈m,0 < p.2)->∀ p∈m,p.2<=SM m
 | q::m,h,p,hp=>by
  have a:=h q (Qi ..)
  have b:=pP (m:=m) λq hq=>h q (Qk _ hq)
  rw [kJ]
  rcases Qm.mp hp with rfl | hp
  ·omega
  ·have:=aGq (m:=m) (λq hq=>h q (Qk _ hq)) p hp
   omega
theorem aBY (n:Nat) (hn:n<=6) (lv:List Int) (ws:List (List Int)) (hw:∀ l∈ws,∀ h∈l,0<=h/\h < (n:Int)) (hl:∀ l∈ws,l.length<=6):∀ i:Nat,i<=ws.length->SM (cQ n lv (ws.take i))<=((6^i:Nat):Int)
 | 0,_=>by
  show (1:Int)+0<=1
  decide
 | i+1,h=>by
  have hi:i < ws.length:=by omega
  rw [lV n lv ws (Qc hi)]
  have k:=iK n lv ws hw i (by omega)
  have ih:=aBY n hn lv ws hw hl i (by omega)
  have ht:∀ h∈cX lv ws[i],0<=h/\h < (n:Int):=λh hh=>hw _ (Xf hi) h (Jy.mp hh).1
  have a:=aBX (lv:=lv) ht (cQ n lv (ws.take i)) [] k.all (KOk.nil n _)
  have tl:(cX lv ws[i]).length<=6:=Jl (Za ..) (hl _ (Xf hi))
  have nn:=pP k.pos
  have b:((cX lv ws[i]).length:Int)*SM (cQ n lv (ws.take i))<=6*SM (cQ n lv (ws.take i)):=Int.mul_le_mul_of_nonneg_right (by omega) nn
  have e:((6^(i+1):Nat):Int)=((6^i:Nat):Int)*6:=by rw [Nat.pow_succ]; exact Qao _ _
  rw [e]
  have a':SM (withW (cQ n lv (ws.take i)) (cX lv ws[i]) lv)<=0+((cX lv ws[i]).length:Int)*SM (cQ n lv (ws.take i)):=a
  omega
theorem tD {n:Int} (lv:List Int) (hb:aS (aT n ws)=true):KOk n.toNat 12 (eI n.toNat lv ws)/\∀ p∈eI n.toNat lv ws,p.2 < 10000000000:=by
 obtain ⟨hn1,hn6,hw12,hws⟩:=bF hb
 have hwr:∀ l∈ws,∀ h∈l,0<=h/\h < ((n.toNat:Nat):Int):=λl hl h hh=>by have:=(bH (hws l hl)).2.1 h hh; omega
 have hl6:∀ l∈ws,l.length<=6:=λl hl=>by
  have z:=mD (l:=l) (m:=(List.range n.toNat).map Int.ofNat) ((bH (hws l hl)).2.2.imp λ{a b} h=>by omega) λh hh=>Qv.mpr ⟨h.toNat,Jf.mpr (by have:=hwr l hl h hh; omega),by have:=hwr l hl h hh; show ((h.toNat:Nat):Int)=h; omega⟩
  rw [Qb,Jz] at z
  omega
 have k:=iK n.toNat lv ws hwr ws.length (Qg _)
 have b:=aBY n.toNat (by omega) lv ws hwr hl6 ws.length (Qg _)
 rw [Jj] at k b
 have pw:(6:Nat)^ws.length<=6^12:=Nat.pow_le_pow_right (by decide) hw12
 have e12:(6:Nat)^12=2176782336:=by decide
 refine ⟨⟨?_,λp hp=>?_,λp hp=>k.pos p (Jy.mp hp).1⟩,λp hp=>?_⟩
 ·exact List.Nodup.sublist (List.Sublist.map _ Qaz) k.nd
 ·have z:=k.box p (Jy.mp hp).1
  exact ⟨z.1,λx hx=>by have:=z.2 x hx; omega⟩
 ·have z:=aGq k.pos p (Jy.mp hp).1
  omega
def mN (K:Rc) (Pt:Addr):Sp:=λvs H Q _=>∃ (x:V) (n:Int) (ws:List (List Int)),vs = [x]/\Den K H (aT n ws) x/\aS (aT n ws)=true/\H Pt=some (.tab mQ)/\∀ (hs lv:List Int) H',aE H H'->aX ws (aV hs)=true->hV n ws hs lv->Q (.int (SM (eI n.toNat lv ws))) H'
theorem aCZ:FnScope ["book"] ["book"] (aH lQ):=⟨rfl,rfl,rfl,by decide +kernel,rfl,by decide +kernel,by decide +kernel⟩
theorem aA1 (G:Fn K mg "how_many" lQ ["book"] f fd) (B:Bl mg) (GEL:Fn K mg "even_loads" iS ["book"] fE dE) (OEL:FnOk P w K mg base CX0 12 fE dE ["book"] (qX K Pt)):FnOk P w K mg base CX0 13 f fd ["book"] (mN K Pt):=by
 refine G.fn.ok aCZ (λvs H Q E h=>?_) (λcdv A outer s H vs Q E hr h=>?_)
 ·obtain ⟨x,n,ws,rfl,_⟩:=h
  rfl
 ·obtain ⟨x,n,ws,rfl,hx,hb,hP,k⟩:=h
  have r12:Room 12 _:=hr
  refine ⟨_,aI (aW (aFw rfl rfl B.sum aH3 (bB GEL OEL r12 rfl (aA (pv 0) aC)))),?_⟩
  refine ⟨_,rfl,x,n,ws,rfl,hx,hb,hP,λp hs lv H1 s1 hd L hp=>?_⟩
  obtain ⟨k1,k2⟩:=tD lv hb
  have hl:=k1.len (by have:=(bF hb).2.1; omega)
  refine ⟨p,_,(eI n.toNat lv ws).map (λq:List Int×Int=>q.2),rfl,hp,?_,λz hz=>?_,by rw [Qb]; omega,k hs lv H1 s1 hd L⟩
  ·unfold enc
   rw [Jv,Jv]
   rfl
  ·obtain ⟨q,hq,rfl⟩:=Qv.mp hz
   exact ⟨Int.le_of_lt (k1.pos q hq),k2 q hq⟩
end Ab
namespace L2
open PySem
section
variable {σ:St}
theorem aHc {tx:TE} {Q:VK} (hi:σ[i]?=some (some (.ref c))) (hj:σ[j]?=some (some (.int m))) (hc:SqT K H c xs) (hl:xs.length<=100) (hx:∀ H1,aE H H1->∀ Q1:VK,(∀ H2,aE H1 H2->Q1 y H2)->tx σ H1 Q1) (k:∀ r H',aE H H'->SqT K H' r (xs.take m++[y]++xs.drop (m+1))->Q (.ref r) H') :
  tOp (aDB K) (tOp (aDB K) (tSl (aGP K) (aCd i) vM (aDn (aCd j))) (aHy (uH tx aCg))) (tSl (aGP K) (aCd i) (aDn (tOp (rI0 λi j=>.int (i+j)) (aCd j) (tC (.int 1)))) vM) σ H Q:=by
 refine ⟨_,hi,_,hj,_,rfl,c,_,rfl,hc,λr1 H1 s1 g1=>?_⟩
 rw [qM] at g1
 refine hx H1 s1 _ λH2 s2=>⟨by rw [Rf]; simp,λr2 hr2=>?_⟩
 have l1:(xs.take m).length<=100:=by rw [Qw]; omega
 refine ⟨r1,r2,_,_,rfl,rfl,(s2.trans (aE.new hr2)).seqT g1,SqT.of aB,by rw [Rf]; show _+1<=_; omega,λr3 H3 s3 g3=>?_⟩
 have s03:=s1.trans (s2.trans ((aE.new (o:=.tup [y]) hr2).trans s3))
 refine ⟨_,hi,_,hj,_,_,rfl,rfl,_,rfl,c,_,rfl,s03.seqT hc,λr4 H4 s4 g4=>?_⟩
 rw [show (m:Int)+1=((m+1:Nat):Int) by omega,mB] at g4
 have l4:(xs.drop (m+1)).length<=100:=by rw [Jq]; omega
 exact ⟨r3,r4,_,_,rfl,rfl,s4.seqT g3,g4,by rw [Rf,Qn]; show _+1+_<=_; omega,λr5 H5 s5 g5=>k r5 H5 (s03.trans (s4.trans s5)) g5⟩
end
end L2
namespace Ab
open PySem L2
def repl (l:List α) (i:Nat) (x:α):List α:=l.take i++[x]++l.drop (i+1)
theorem lW {l:List α} {x:α} (h:i < l.length):(repl l i x).length=l.length:=by
 unfold repl
 rw [Qn,Qn,Qw,Jq]
 show _+1+_=_
 omega
theorem aEA {l:List α} {x y:α} (h:y∈repl l i x):y=x∨y∈l:=by
 unfold repl at h
 rcases Jg.mp h with h | h
 ·rcases Jg.mp h with h | h
  ·exact .inr (Xv h)
  ·exact .inl (Qs.mp h)
 ·exact .inr (Wf h)
theorem mO {l:List α} {x:α} (h:i < l.length) (j:Nat):(repl l i x)[j]?=if j=i then some x else l[j]?:=by
 have e:repl l i x=l.set i x:=by unfold repl; rw [Yl,if_pos h,Yt]; rfl
 rw [e,Yu]
 by_cases hj:i=j
 ·rw [if_pos hj,if_pos hj.symm,if_pos (by omega)]
 ·rw [if_neg hj,if_neg (Ne.symm hj)]
theorem aEB {n h:Int} (h0:0<=h) (h1:h < n):cE n (bM [h])=true:=by
 show (!([PyData.int h].isEmpty) && eF n (-1) [.int h])=true
 simp [eF]
 omega
theorem vE {n:Int} {h:Int} (hb:aS (aT n ws)=true) (hd:aX ws (aV hs)=true) (hl:ws[i]?=some l) (hh:h∈l):aS (aT n (repl ws i [h]))=true/\aX (repl ws i [h]) (aV (repl hs i h))=true:=by
 obtain ⟨hn1,hn6,hw12,hws⟩:=bF hb
 obtain ⟨d1,d2⟩:=aR hd
 have hi:i < ws.length:=(Qd.mp hl).1
 have hr:=(bH (hws l (Qj hl))).2.1 h hh
 refine ⟨oG hn1 hn6 (by rw [lW hi]; exact hw12) λm hm=>?_,fM (by rw [lW hi,lW (by omega)]; exact d1) λj a m ha hm=>?_⟩
 ·rcases aEA hm with rfl | hm
  ·exact aEB hr.1 hr.2
  ·exact hws m hm
 ·rw [mO (by omega)] at ha
  rw [mO hi] at hm
  by_cases hj:j=i
  ·rw [if_pos hj] at ha hm
   rw [<- Option.some.inj ha,<- Option.some.inj hm]
   exact Qs.mpr rfl
  ·rw [if_neg hj] at ha hm
   exact d2 j a m ha hm
theorem dZ {h:Int} (hl:ws[i]?=some l) (hh:h∈l):aX (repl ws i [h]) (aV d)=true↔aX ws (aV d)=true/\d[i]?=some h:=by
 have hi:i < ws.length:=(Qd.mp hl).1
 constructor
 ·intro q
  obtain ⟨a,b⟩:=aR q
  rw [lW hi] at a
  have e:=Qc (show i < d.length by omega)
  have ei:d[i]?=some h:=by
   have:=b i _ [h] e (by rw [mO hi,if_pos rfl])
   rw [e,Qs.mp this]
  refine ⟨fM a λj x m hx hm=>?_,ei⟩
  by_cases hj:j=i
  ·subst hj
   rw [ei] at hx; rw [hl] at hm
   cases hx; cases hm
   exact hh
  ·exact b j x m hx (by rw [mO hi,if_neg hj]; exact hm)
 ·rintro ⟨q,ei⟩
  obtain ⟨a,b⟩:=aR q
  refine fM (by rw [lW hi]; exact a) λj x m hx hm=>?_
  rw [mO hi] at hm
  by_cases hj:j=i
  ·subst hj
   rw [if_pos rfl] at hm
   rw [ei] at hx
   cases hx; cases hm
   exact Xg _
  ·rw [if_neg hj] at hm
   exact b j x m hx hm
theorem qB {n:Int} {ms2:List Int} {h:Int} (hb:aS (aT n ws)=true) (hd:aX ws (aV hs)=true) (L:Lvl n ws hs lv) (hl:ws[i]?=some l) (hh:h∈l) (nb:aS (aT n (repl ws i [h]))=true) (de:aX (repl ws i [h]) (aV he)=true) (Le:Lvl n (repl ws i [h]) he lw) (p1:ms.Perm (aM n he)) (s1:ms.Pairwise (·≥·)) (p2:ms2.Perm (aM n hs)) (s2:ms2.Pairwise (·≥·)):ms=ms2↔∃ d,aX ws (aV d)=true/\d[i]?=some h/\Lvl n ws d lv:=by
 obtain ⟨de1,de2⟩:=(dZ hl hh).mp de
 constructor
 ·rintro rfl
  exact ⟨he,de1,de2,(L.iff hb hd de1).mp (p1.symm.trans p2)⟩
 ·rintro ⟨d,d1,d2,Ld⟩
  have pe:=(L.iff hb hd d1).mpr Ld
  refine sV (by unfold aM; rw [Qb,Qb]) (λt=>?_) (λt=>L.least hb hd de1 t) p1 p2 s1 s2
  rw [<- kH pe]
  exact Le.least nb de ((dZ hl hh).mpr ⟨d1,d2⟩) t
theorem eN {n:Int} (hb:aS (aT n ws)=true):∀ l∈ws,∀ h∈l,0<=h/\h < n:=λl hl h hh=>(bH ((bF hb).2.2.2 l hl)).2.1 h hh
def zP (K:Rc) (Pt:Addr):Sp:=λvs H Q _=>∃ (x y:V) (n:Int) (ws:List (List Int)) (hs:List Int) (i:Nat) (l lv:List Int) (h:Int),vs = [x,y,.int i,.int h]/\fI K H x y n ws hs/\H Pt=some (.tab mQ)/\ws[i]?=some l/\h∈l/\Lvl n ws hs lv /\
 ∀ (b:Bool) H',aE H H'->(b=true↔∃ d,aX ws (aV d)=true/\d[i]?=some h/\Lvl n ws d lv)->Q (.bl b) H'
theorem jS:FnScope ["book", "deal", "work", "hand", "hands", "works", "narrow", "ways", "best"] ["book", "deal", "work", "hand"] (aH qQ):=⟨rfl,rfl,rfl,by decide +kernel,rfl,by decide +kernel,by decide +kernel⟩
set_option maxHeartbeats 2000000 in
theorem aC0 {fBt:Addr} {dBt:FuncData} (G:Fn K mg "is_as_even" qQ ["book", "deal", "work", "hand"] f fd) (B:Bl mg) (GBt:Fn K mg "bettered" iH ["book", "deal"] fBt dBt) (OBt:FnOk P w K mg base CX0 10 fBt dBt ["book", "deal"] (kF K Pt)) (GFa:Fn K mg "falling" jN ["book", "deal"] fFa dFa) (OFa:FnOk P w K mg base CX0 8 fFa dFa ["book", "deal"] (jP K)):FnOk P w K mg base CX0 11 f fd ["book", "deal", "work", "hand"] (zP K Pt):=by
 refine G.fn.ok jS (λvs H Q E h=>?_) (λcdv A outer s H vs Q E hr h=>?_)
 ·obtain ⟨x,y,n,ws,hs,i,l,lv,h,rfl,_⟩:=h
  rfl
 ·obtain ⟨x,y,n,ws,hs,i,l,lv,h,rfl,g,hP,hl,hh,L,k⟩:=h
  have r10:Room 10 _:=hr
  have r8:Room 8 _:=hr.mono (by decide)
  refine ⟨_,(aD (iM (pv 0) (fX rfl (aZ (aJ (i:=4) jS.nd rfl (Or.inl rfl)) (aZ (aJ (i:=5) jS.nd rfl (Or.inl rfl)) dP))))
  (aD (aL (i:=6) jS.nd rfl (Or.inl rfl) (dI (aA (pv 4) (aA (aY (iQ (K:=K) rfl) (aY (iQ (K:=K) rfl) (fZ (gZ (K:=K) rfl) (pv 5) iZ (gT (pv 2))) (dI (aA (dI (aA (pv 3) aC)) aC))) (fZ (gZ (K:=K) rfl) (pv 5) (gT (aY bY (pv 2) aG)) iZ)) aC))))
  (aD (iM (bB GBt OBt r10 rfl (aA (pv 6) (aA (aY (iQ (K:=K) rfl) (aY (iQ (K:=K) rfl) (fZ (gZ (K:=K) rfl) (pv 1) iZ (gT (pv 2))) (dI (aA (pv 3) aC))) (fZ (gZ (K:=K) rfl) (pv 1) (gT (aY bY (pv 2) aG)) iZ)) aC))) (fX rfl (aZ (aJ (i:=7) jS.nd rfl (Or.inl rfl)) (aZ (aJ (i:=8) jS.nd rfl (Or.inl rfl)) dP))))
  (aI (aW (cP (rJ hr.u64) (bB GFa OFa r8 rfl (aA (pv 6) (aA (pv 8) aC))) (bB GFa OFa r8 rfl (aA (pv 0) (aA (pv 1) aC))) (bE _))))))),?_⟩
  obtain ⟨nb,nd⟩:=vE g.2.1 g.2.2.2 hl hh
  obtain ⟨ba,bb,ys,rfl,ha,hb2,hys⟩:=cU g.1
  obtain ⟨c,rfl,hc⟩:=aO.mp g.2.2.1
  have hlw:=aQ hys
  rw [Qb] at hlw
  have hw12:=(bF g.2.1).2.2.1
  have hlen:=(aR g.2.2.2).1
  have hml:(hs.map V.int).length=hs.length:=Qb ..
  refine ⟨_,rfl,ba,_,rfl,ha,rfl,_,_,rfl,_,_,rfl,rfl,?_⟩
  refine ⟨_,rfl,_,rfl,_,rfl,_,rfl,bb,_,rfl,hb2,λr1 H1 s1 g1=>?_⟩
  rw [qM] at g1
  refine ⟨_,rfl,sz1 _,λq1 hq1=>⟨sz1 _,λq2 hq2=>?_⟩⟩
  have s2:=aE.new (o:=.tup [.int h]) hq1
  have eq1:upd H1 q1 (.tup [.int h]) q1=some (.tup [.int h]):=aB
  generalize upd H1 q1 (.tup [.int h])=H2 at s2 eq1 hq2 ⊢
  have s3:=aE.new (o:=.tup [.ref q1]) hq2
  refine ⟨r1,q2,_,_,rfl,rfl,(s2.trans s3).seqT g1,SqT.of aB,by rw [Rf,Qw]; show _+1<=_; omega,λr3 H3 s4 g3=>?_⟩
  have s13:=s2.trans (s3.trans s4)
  have s03:=s1.trans s13
  refine ⟨_,rfl,_,rfl,_,_,rfl,rfl,_,rfl,bb,_,rfl,s03.seqT hb2,λr4 H4 s5 g4=>?_⟩
  rw [show (i:Int)+1=((i+1:Nat):Int) by omega,mB] at g4
  refine ⟨r3,r4,_,_,rfl,rfl,s5.seqT g3,g4,by rw [Rf,Qn,Qw,Jq]; show _+1+_<=_; omega,λr5 H5 s6 g5=>⟨sz2 _ _,λnr hnr=>?_⟩⟩
  have s7:=aE.new (o:=.tup [.int n,.ref r5]) hnr
  have s07:=s03.trans (s5.trans (s6.trans s7))
  have dn:Den K (upd H5 nr (.tup [.int n,.ref r5])) (aT n (repl ws i [h])) (.ref nr):=by
   refine cF.mpr ⟨nr,_,rfl,SqT.of aB,aN.mpr ⟨_,_,rfl,eW.mpr rfl,aN.mpr ⟨_,_,rfl,cF.mpr ⟨r5,_,rfl,s7.seqT g5,?_⟩,aU.mpr rfl⟩⟩⟩
   have z:=s07.denAll _ _ hys
   unfold repl
   rw [Qo,Qo,Ym,Yn]
   exact cI (cI (L2.lE i z) (aN.mpr ⟨_,_,rfl,aO.mpr ⟨q1,rfl,SqT.of ((s3.trans (s4.trans (s5.trans (s6.trans s7)))) _ _ eq1)⟩,aU.mpr rfl⟩)) (lF (i+1) z)
  generalize upd H5 nr (.tup [.int n,.ref r5])=H6 at s7 s07 dn ⊢
  dsimp only [cO]
  refine ⟨_,rfl,aHc (i:=1) (j:=2) (c:=c) (m:=i) (y:=.int h) (xs:=hs.map V.int) rfl rfl (s07.seqT hc) (by rw [hml]; omega) (λH7 _ Q1 q=>⟨_,rfl,q H7 (aE.refl _)⟩) λr6 H7 s8 g7=>?_⟩
  have s08:=s07.trans s8
  have dd:Den K H7 (aV (repl hs i h)) (.ref r6):=aO.mpr ⟨r6,rfl,by unfold repl; rw [Qo,Qo,Ym,Yn]; exact g7⟩
  refine ⟨.ref nr,.ref r6,n,repl ws i [h],repl hs i h,rfl,⟨s8.den _ _ dn,nb,dd,nd⟩,s08 _ _ hP,λp8 H8 s9 T=>?_⟩
  obtain ⟨wl,dl,qs,Ws,he,lw,hp8,_,_,_,hdl,hch,Lw⟩:=T
  refine ⟨p8,_,rfl,SqT.of hp8,rfl,_,_,rfl,_,_,rfl,rfl,?_⟩
  have s09:=s08.trans s9
  refine ⟨_,rfl,_,rfl,.ref nr,.ref dl,n,repl ws i [h],he,rfl,⟨(s8.trans s9).den _ _ dn,nb,aO.mpr ⟨dl,rfl,SqT.of hdl⟩,iU hch nd⟩,λp9 H9 ms s10 _ e9 pe1 so1=>?_⟩
  refine ⟨_,rfl,_,rfl,.ref ba,.ref c,n,ws,hs,rfl,g.same (s09.trans s10),λp10 H10 ms2 s11 _ e10 pe2 so2=>?_⟩
  refine ⟨.list (ms.map .int),.list (ms2.map .int),dQ.mpr ⟨p9,_,rfl,SqL.of (s11 _ _ e9),cD.mpr rfl⟩,dQ.mpr ⟨p10,_,rfl,SqL.of e10,cD.mpr rfl⟩,cS _,cS _,dX _,dX _,k _ _ (s09.trans (s10.trans s11)) ?_⟩
  have z:=qB g.2.1 g.2.2.2 L hl hh nb (iU hch nd) (lU Lw (cV nb (iU hch nd)) (eN nb)) pe1 so1 pe2 so2
  rw [<- z,mI]
  exact decide_eq_true_iff
def Wt (φ:List Int->Int) (m:List (List Int×Int)):Int:=aK (m.map λp=>p.2*φ p.1)
theorem oP (φ:List Int->Int) (p:List Int×Int) (m:List (List Int×Int)):Wt φ (p::m)=p.2*φ p.1+Wt φ m:=rfl
theorem aEC {k:List Int} {v:Int}:∀ {m:List (List Int×Int)},(m.map (·.1)).Nodup->Wt φ (jR m k ((jQ m k).getD 0+v))=Wt φ m+v*φ k
 | [],_=>by
  show (0+v)*φ k+0=0+v*φ k
  rw [Xp]; omega
 | p::m,nd=>by
  rw [Qz] at nd
  obtain ⟨h1,h2⟩:=Xd.mp nd
  by_cases h:p.1=k
  ·have eg:jQ (p::m) k=some p.2:=by unfold jQ; rw [Xs,decide_eq_true h]; rfl
   have ep:jR (p::m) k (p.2+v)=(p.1,p.2+v)::m:=by
    unfold jR
    rw [Zq,decide_eq_true h,QaO,if_pos rfl,Qz,if_pos h]
    congr 1
    refine (Xj λq hq=>?_).trans (List.map_id' m)
    rw [if_neg (λz=>h1 (Qv.mpr ⟨q,hq,z.trans h.symm⟩))]
   rw [eg]
   show Wt φ (jR (p::m) k (p.2+v))=_
   rw [ep,oP,oP]
   show (p.2+v)*φ p.1+Wt φ m=_
   rw [Yi,h]
   omega
  ·rw [aBW h,aBV h,oP,oP,aEC h2]
   omega
def zQ (φ:List Int->Int) (lv b:List Int) (h:Int):Int:=if b.getD h.toNat 0<=lvA lv h then φ (kS b h.toNat) else 0
theorem aFU {g:List (List Int×Int)} {p:List Int×Int} {h:Int} (nd:(g.map (·.1)).Nodup):Wt φ (iC lv g p h)=Wt φ g+p.2*zQ φ lv p.1 h:=by
 unfold iC zQ lvA
 split
 ·rw [aEC nd]
 ·rw [Int.mul_zero]; omega
theorem zR {c:Int} {p:List Int×Int} (h1:p.1.length=n) (h2:∀ x∈p.1,0<=x/\x<=c) (h3:0 < p.2):∀ (tk:List Int) (g:List (List Int×Int)),(∀ h∈tk,0<=h/\h < n)->KOk n (c+1) g->Wt φ (withP lv tk g p)=Wt φ g+p.2*aK (tk.map (zQ φ lv p.1))
 | [],g,_,_=>by
  show Wt φ g=Wt φ g+p.2*0
  omega
 | h::tk,g,ht,k=>by
  have a:=zR h1 h2 h3 tk (iC lv g p h) (λx hx=>ht x (Qk _ hx)) (k.step h1 h2 h3 (ht h (Qi ..)))
  show Wt φ (withP lv tk (iC lv g p h) p)=Wt φ g+p.2*(zQ φ lv p.1 h+aK (tk.map (zQ φ lv p.1)))
  rw [a,aFU k.nd,Int.mul_add]
  omega
theorem aBZ {c:Int} {tk:List Int} (ht:∀ h∈tk,0<=h/\h < n):∀ (R g:List (List Int×Int)),(∀ p∈R,p.1.length=n/\(∀ x∈p.1,0<=x/\x<=c)/\0 < p.2)->KOk n (c+1) g->Wt φ (R.foldl (λg p=>withP lv tk g p) g)=Wt φ g+Wt (λb=>aK (tk.map (zQ φ lv b))) R
 | [],g,_,_=>by
  show Wt φ g=Wt φ g+0
  omega
 | p::R,g,hR,k=>by
  have hp:=hR p (Qi ..)
  have a:=aBZ ht R _ (λq hq=>hR q (Qk _ hq)) (KOk.withP (lv:=lv) hp.1 hp.2.1 hp.2.2 tk g ht k)
  rw [oP]
  show Wt φ (R.foldl (λg p=>withP lv tk g p) (withP lv tk g p))=_
  rw [a,zR hp.1 hp.2.1 hp.2.2 tk g ht k]
  omega
theorem aA2 {n:Int} {h:Int} (h0:0<=h) (h1:h < n):kS (aM n d) h.toNat=aM n (d++[h]):=by
 have hl:(aM n d).length=n.toNat:=by unfold aM bR; rw [Qb,Qb,Jz]
 have at_:∀ (d:List Int) (j:Nat),(aM n d)[j]?=if j < n.toNat then some ((d.count (j:Int):Nat):Int) else none:=λd j=>by
  unfold aM bR
  rw [Jv,Qe]
  by_cases hj:j < n.toNat
  ·rw [Xk hj,if_pos hj]; rfl
  ·rw [if_neg hj,Xq (by rw [Jz]; omega)]; rfl
 refine Yb λj=>?_
 rw [at_]
 have e:=mO (l:=aM n d) (i:=h.toNat) (x:=(aM n d).getD h.toNat 0+1) (by omega) j
 unfold repl at e
 unfold kS
 rw [e,at_,Zo]
 by_cases hj:j=h.toNat
 ·rw [if_pos hj,if_pos (by omega),Qq,at_,if_pos (by omega),hj,show ((h.toNat:Nat):Int)=h by omega]
  simp
 ·rw [if_neg hj]
  have:List.count (j:Int) [h]=0:=QaH.mpr λz=>hj (by have:=Qs.mp z; omega)
  rw [this]; rfl
def cZ (ws:List (List Int)):List (List Int):=ws.foldl (λF l=>F.flatMap λd=>l.map λh=>d++[h]) [[]]
theorem gE (ws:List (List Int)) (l:List Int):cZ (ws++[l])=(cZ ws).flatMap λd=>l.map λh=>d++[h]:=by
 unfold cZ; rw [Zf]; rfl
structure Cap (n:Int) (ws:List (List Int)) (lv d:List Int):Prop where
 cap:∀ h:Int,0<=h->h < n->((d.count h:Nat):Int)<=lvA lv h+1
 low:∀ (i:Nat) g l,d[i]?=some g->ws[i]?=some l->∀ u∈l,lvA lv g<=lvA lv u
theorem tE (f:β->Int) (g:α->List β):∀ l:List α,aK ((l.flatMap g).map f)=aK (l.map λa=>aK ((g a).map f))
 | []=>rfl
 | a::l=>by
  rw [List.flatMap_cons,Qo,dY,tE f g l]
  rfl
theorem kK (f:α->Int) (p:α->Bool):∀ l:List α,aK ((l.filter p).map f)=aK (l.map λa=>if p a then f a else 0)
 | []=>rfl
 | a::l=>by
  rw [Zd]
  show _=(if p a then f a else 0)+aK (l.map λa=>if p a then f a else 0)
  rw [<- kK f p l]
  cases p a
  ·simp only [Jh,if_false]; omega
  ·rfl
theorem eA:∀ (k:Nat) (ws:List (List Int)),ws.length=k->∀ d∈cZ ws,aX ws (aV d)=true:=by
 intro k
 induction k with
 | zero =>
  intro ws hk d hd
  have:ws = []:=Jt.mp hk
  subst this
  have:d = []:=by simpa [cZ] using hd
  subst this
  exact fM rfl (λj h l hh=>by simp at hh)
 | succ k ih =>
  intro ws hk d hd
  obtain ⟨us,l,rfl⟩:∃ us l,ws=us++[l]:=⟨ws.dropLast,ws.getLast (by intro z; rw [z] at hk; simp at hk),(Xr _).symm⟩
  rw [gE] at hd
  obtain ⟨e,he,hd⟩:=Wc.mp hd
  obtain ⟨h,hh,rfl⟩:=Qv.mp hd
  obtain ⟨a,b⟩:=aR (ih us (by simpa using hk) e he)
  refine fM (by simp [a]) λj x m hx hm=>?_
  by_cases hj:j < us.length
  ·rw [Qu (by omega)] at hx hm
   exact b j x m hx hm
  ·rw [Je (by omega)] at hx hm
   have ej:j - us.length=0:=by
    have:=(Qd.mp hm).1
    simp at this; omega
   rw [a,ej] at hx
   rw [ej] at hm
   cases hx; cases hm
   exact hh
open Classical in
theorem aFV (n:Int) (lv:List Int):∀ (k:Nat) (ws:List (List Int)),ws.length=k->(∀ l∈ws,∀ h∈l,0<=h/\h < n)->0<=n->(∀ h,0<=h->h < n->-1<=lvA lv h)->∀ φ:List Int->Int,Wt φ (cQ n.toNat lv ws)=aK ((cZ ws).map λd=>if Cap n ws lv d then φ (aM n d) else 0):=by
 intro k
 induction k with
 | zero =>
  intro ws hk _ hn hlv φ
  have:ws = []:=Jt.mp hk
  subst this
  have c:Cap n [] lv []:=⟨λh h0 h1=>by
   have:=hlv h h0 h1
   simp; omega,λi g l h=>by simp at h⟩
  show 1*φ (List.replicate n.toNat 0)+0=(if Cap n [] lv [] then φ (aM n []) else 0)+0
  rw [if_pos c,Int.one_mul]
  have:aM n []=List.replicate n.toNat 0:=by
   unfold aM bR
   rw [Jv]
   refine List.eq_replicate_iff.mpr ⟨by rw [Qb,Jz],λb hb=>?_⟩
   obtain ⟨i,_,rfl⟩:=Qv.mp hb
   rfl
  rw [this]
 | succ k ih =>
  intro ws hk hw hn hlv φ
  obtain ⟨us,l,rfl⟩:∃ us l,ws=us++[l]:=⟨ws.dropLast,ws.getLast (by intro z; rw [z] at hk; simp at hk),(Xr _).symm⟩
  have hwu:∀ l∈us,∀ h∈l,0<=h/\h < n:=λm hm=>hw m (Jw _ hm)
  have hl:∀ h∈l,0<=h/\h < n:=hw l (Jd _ (Xg _))
  have e:cQ n.toNat lv (us++[l])=withW (cQ n.toNat lv us) (cX lv l) lv:=by
   unfold cQ; rw [Zf]; rfl
  have ok:=iK n.toNat lv us (λm hm h hh=>by have:=hwu m hm h hh; omega) us.length (Qg _)
  rw [Jj] at ok
  rw [e]
  have f:=aBZ (φ:=φ) (lv:=lv) (tk:=cX lv l) (λh hh=>by have:=hl h (Jy.mp hh).1; omega) (cQ n.toNat lv us) [] ok.all (KOk.nil _ _)
  show Wt φ ((cQ n.toNat lv us).foldl (λg p=>withP lv (cX lv l) g p) [])=_
  rw [f,ih us (by simpa using hk) hwu hn hlv,gE,tE]
  show 0+_=_
  rw [Xp]
  refine bU λd hd=>?_
  unfold cX
  rw [kK,Jv]
  have dl:=(aR (eA _ us rfl d hd)).1
  have tr:∀ h∈l,Cap n (us++[l]) lv (d++[h])↔(Cap n us lv d/\(∀ j∈l,lvA lv h<=lvA lv j)/\((d.count h:Nat):Int)<=lvA lv h):=λh hh=>by
   have hr:=hl h hh
   constructor
   ·intro c
    refine ⟨⟨λx h0 h1=>?_,λi g m hg hm=>c.low i g m ?_ ?_⟩,λj hj=>c.low us.length h l ?_ ?_ j hj,?_⟩
    ·have:=c.cap x h0 h1
     rw [Zo] at this
     omega
    ·rw [Qu (Qd.mp hg).1]; exact hg
    ·rw [Qu (Qd.mp hm).1]; exact hm
    ·rw [<- dl]; simp
    ·simp
    ·have:=c.cap h hr.1 hr.2
     rw [Zo,Wx] at this
     omega
   ·rintro ⟨c,b,a⟩
    refine ⟨λx h0 h1=>?_,λi g m hg hm u hu=>?_⟩
    ·rw [Zo]
     by_cases hx:x=h
     ·subst hx
      rw [Wx]; omega
     ·have:List.count x [h]=0:=QaH.mpr (by simpa using hx)
      rw [this]; exact c.cap x h0 h1
    ·by_cases hi:i < us.length
     ·rw [Qu (by omega)] at hg hm
      exact c.low i g m hg hm u hu
     ·rw [Je (by omega)] at hg hm
      have ej:i - us.length=0:=by
       have:=(Qd.mp hm).1
       simp at this; omega
      rw [dl,ej] at hg
      rw [ej] at hm
      cases hg; cases hm
      exact b u hu
  by_cases c:Cap n us lv d
  ·rw [if_pos c]
   refine bU λh hh=>?_
   have hr:=hl h hh
   show (if decide (∀ j∈l,lvA lv h<=lvA lv j) then zQ φ lv (aM n d) h else 0)=(if Cap n (us++[l]) lv (d++[h]) then φ (aM n (d++[h])) else 0)
   have gd:(aM n d).getD h.toNat 0=((d.count h:Nat):Int):=by
    unfold aM bR
    rw [Qq,Jv,Qe,Xk (by omega)]
    show ((d.count ((h.toNat:Nat):Int):Nat):Int)=_
    rw [show ((h.toNat:Nat):Int)=h by omega]
   unfold zQ
   rw [gd,aA2 hr.1 hr.2]
   by_cases b:∀ j∈l,lvA lv h<=lvA lv j
   ·rw [decide_eq_true b,if_pos rfl]
    by_cases a:((d.count h:Nat):Int)<=lvA lv h
    ·rw [if_pos a,if_pos ((tr h hh).mpr ⟨c,b,a⟩)]
    ·rw [if_neg a,if_neg λz=>a ((tr h hh).mp z).2.2]
   ·rw [decide_eq_false b,if_neg Qr,if_neg λz=>b ((tr h hh).mp z).2.1]
  ·rw [if_neg c]
   refine (eD λh hh=>?_).symm
   show (if Cap n (us++[l]) lv (d++[h]) then φ (aM n (d++[h])) else 0)=0
   rw [if_neg λz=>c ((tr h hh).mp z).1]
def Go (n:Int) (ws:List (List Int)) (lv:List Int) (i:Nat) (h:Int):Prop:=∃ d,aX ws (aV d)=true/\d[i]?=some h/\Lvl n ws d lv
noncomputable def goB (n:Int) (ws:List (List Int)) (lv:List Int) (i:Nat) (h:Int):Bool:=@decide (Go n ws lv i h) (Classical.propDecidable _)
theorem kL {n:Int} {h:Int}:goB n ws lv i h=true↔Go n ws lv i h:=@decide_eq_true_iff _ (Classical.propDecidable _)
noncomputable def goR (n:Int) (ws:List (List Int)) (lv:List Int) (i:Nat):List Int:=(ws.getD i []).filter (goB n ws lv i)
def aB0 (K:Rc) (Pt:Addr):Sp:=λvs H Q _=>∃ (x:V) (n:Int) (ws:List (List Int)),vs = [x]/\Den K H (aT n ws) x/\aS (aT n ws)=true/\H Pt=some (.tab mQ)/\∀ (p:Addr) (qs:List Addr) (hs lv:List Int) H',aE H H'->aX ws (aV hs)=true->Lvl n ws hs lv->H' p=some (.lst (qs.map V.ref))->qs.length=ws.length->(∀ (j:Nat) q,qs[j]?=some q->H' q=some (.tup ((goR n ws lv j).map V.int)))->Q (.ref p) H'
theorem oQ:FnScope ["book", "deal", "told", "work", "able"] ["book"] (aH sB):=⟨rfl,rfl,rfl,by decide +kernel,rfl,by decide +kernel,by decide +kernel⟩
set_option maxHeartbeats 2000000 in
theorem aED {fA:Addr} {dA:FuncData} (G:Fn K mg "may_go" sB ["book"] f fd) (B:Bl mg) (GEv:Fn K mg "evenest" hJ ["book"] fE dE) (OEv:FnOk P w K mg base CX0 11 fE dE ["book"] (iJ K Pt)) (GAE:Fn K mg "is_as_even" qQ ["book", "deal", "work", "hand"] fA dA) (OAE:FnOk P w K mg base CX0 11 fA dA ["book", "deal", "work", "hand"] (zP K Pt)):FnOk P w K mg base CX0 12 f fd ["book"] (aB0 K Pt):=by
 refine G.fn.ok oQ (λvs H Q E h=>?_) (λcdv A outer s H vs Q E hr h=>?_)
 ·obtain ⟨x,n,ws,rfl,_⟩:=h
  rfl
 ·obtain ⟨x,n,ws,rfl,hx,hb,hP,k⟩:=h
  have r11:Room 11 _:=hr
  refine ⟨_,(aD (aL (i:=1) oQ.nd rfl (Or.inr rfl) (bA (dU (K:=K) rfl) (bB GEv OEv r11 rfl (aA (pv 0) aC)) aG (λ_ _=>rfl)))
  (aD (aL (i:=2) oQ.nd rfl (Or.inl rfl) (fO aC))
  (aD (eC PassesOwn.never rfl (aBn .t rfl B.enumerate (aA (bA (dU (K:=K) rfl) (pv 0) aG (λ_ _=>rfl)) aC)) (fX rfl (aZ (aJ (i:=3) oQ.nd rfl (Or.inr rfl)) (aZ (aJ (i:=4) oQ.nd rfl (Or.inl rfl)) dP)))
   (aI (eT (kY Rt Rx Ry gL (pv 2) (aA (bK bQ rfl B.tuple cJ (aA (bX (own:=["hand"]) (fr:=[0,1,3]) (frn:=["book", "deal", "work"]) (bD (aH sB) ["book", "deal", "told", "work", "able"] rfl rfl (by decide +kernel)) rfl (fY (pv 4))
    (λ_ _ _ _=>(aJ (i:=0) (show (["hand", "book", "deal", "work"]:List Str).Nodup by decide +kernel) rfl (Or.inl rfl))) (λ_ _ _ _=>oY (eE (bB GAE OAE r11 rfl (aA (pv 1) (aA (pv 2) (aA (pv 3) (aA (pv 0) aC)))))))
    (λ_ _ _ _=>(pv 0))) aC)) aC)))))
  (aI (aW (pv 2)))))),?_⟩
  obtain ⟨hn1,hn6,hw12,hws⟩:=bF hb
  refine ⟨_,rfl,x,n,ws,rfl,hx,hb,hP,λp dp lp hs lv H1 s1 hp hdp hd hlp L=>?_⟩
  refine ⟨p,_,0,.ref dp,rfl,rfl,SqT.of hp,rfl,eG (Jn _),λtl htl=>?_⟩
  obtain ⟨ba,bb,ys,rfl,ha,hb2,hys⟩:=cU (s1.den _ _ hx)
  have hlw:=aQ hys
  rw [Qb] at hlw
  have g1:fI K H1 (.ref ba) (.ref dp) n ws hs:=⟨s1.den _ _ hx,hb,aO.mpr ⟨dp,rfl,SqT.of hdp⟩,hd⟩
  have LL:=lU L (cV hb hd) (eN hb)
  have s2:=aE.new (o:=.lst []) htl
  have e2:upd H1 tl (.lst []) tl=some (.lst []):=aB
  generalize upd H1 tl (.lst [])=H2 at s2 e2 ⊢
  dsimp only [cO]
  refine ⟨_,rfl,ba,_,1,.ref bb,rfl,rfl,s2.seqT ha,rfl,bb,_,rfl,s2.seqT hb2,yA (K:=K) (k:=.t) (a:=bb) (xs:=ys) (λi σ H3=>(∃ v3 v4,σ = [some (.ref ba),some (.ref dp),some (.ref tl),v3,v4])/\aE H1 H3/\∃ qs:List Addr,H3 tl=some (.lst (qs.map V.ref))/\qs.length=i/\∀ (j:Nat) q,qs[j]?=some q->H3 q=some (.tup ((goR n ws lv j).map V.int))) ⟨⟨_,_,rfl⟩,s2,[],e2,rfl,λj q h=>by simp at h⟩ (λi σ H3 _ h=>h.2.1.seqT hb2) ?_ ?_⟩
  ·rintro i y q σ H3 hy ⟨⟨v3,v4,rfl⟩,s3,qs,e3,hx3,hqs⟩ hq
   have hi:i < ys.length:=(Qd.mp hy).1
   obtain ⟨dv,hdv,denv⟩:=cT hys hy
   rw [Qe] at hdv
   obtain ⟨l,hl,rfl⟩:∃ l,ws[i]?=some l/\bM l=dv:=by
    cases q:ws[i]? with
    | none=>rw [q] at hdv; cases hdv
    | some l=>rw [q] at hdv; exact ⟨l,rfl,Option.some.inj hdv⟩
   obtain ⟨pw,rfl,hpw⟩:=aO.mp denv
   have s4:=aE.new (o:=.tup [.int (i:Nat),.ref pw]) hq
   have t4:upd H3 q (.tup [.int (i:Nat),.ref pw]) q=some (.tup [.int (i:Nat),.ref pw]):=aB
   have e4:=s4 _ _ e3
   have s14:=s3.trans s4
   generalize upd H3 q (.tup [.int (i:Nat),.ref pw])=H4 at s4 t4 e4 s14 ⊢
   refine ⟨q,_,rfl,SqT.of t4,rfl,_,_,rfl,_,_,rfl,rfl,?_⟩
   have hP1:=s1 _ _ hP
   have l12:l.length<=12:=by
    have w:=bH (hws l (Qj hl))
    have z:=mD (l:=l) (m:=(List.range n.toNat).map Int.ofNat) (w.2.2.imp λ{a b} h=>by omega) λh hh=>Qv.mpr ⟨h.toNat,Jf.mpr (by have:=w.2.1 h hh; omega),by have:=w.2.1 h hh; show ((h.toNat:Nat):Int)=h; omega⟩
    rw [Qb,Jz] at z
    omega
   dsimp only [cO]
   refine ⟨_,rfl,.inl ⟨rfl,_,SqL.of e4⟩,_,rfl,pw,rfl,⟨_,s14.seqT hpw⟩,gY (K:=K) (a:=pw) (xs:=l.map V.int) (λσ=>∃ v,σ = [v,some (.ref ba),some (.ref dp),some (.int (i:Nat))]) (λj zs H5=>aE H4 H5/\zs=((l.take j).filter (goB n ws lv i)).map V.int) (by rw [Qb]; exact eG (by omega)) ⟨none,rfl⟩ ⟨aE.refl _,rfl⟩ (λj _ _ h=>by rw [h.2,Qb]; exact Jl (Za ..) (Wl ..)) (λ_ _ _ h=>(s14.trans h.1).seqT hpw) ?_ ?_⟩
   ·rintro j zs σ xv H5 hxv ⟨v,rfl⟩ ⟨s5,hz5⟩ hz
    rw [Qe] at hxv
    cases hlj:l[j]? with
    | none=>rw [hlj] at hxv; cases hxv
    | some h =>
     rw [hlj] at hxv
     obtain rfl:V.int h=xv:=Option.some.inj hxv
     have s15:=s14.trans s5
     refine ⟨_,rfl,_,rfl,_,rfl,_,rfl,.ref ba,.ref dp,n,ws,hs,i,l,lv,h,rfl,g1.same s15,s15 _ _ hP1,hl,Qj hlj,LL,λb H6 s6 hbi=>⟨_,rfl,?_⟩⟩
     have hbi:b=true↔Go n ws lv i h:=hbi
     have et:l.take (j+1)=l.take j++[h]:=by rw [Jp,hlj]; rfl
     cases b with
     | true=>exact iN ⟨_,rfl,hz,⟨_,rfl⟩,s5.trans s6,by rw [hz5,et,Xi,Zd,if_pos (kL.mpr (hbi.mp rfl)),Qo]; rfl⟩
     | false=>exact gF ⟨⟨_,rfl⟩,s5.trans s6,by rw [hz5,et,Xi,Zd,if_neg (λz=>Qr (hbi.mpr (kL.mp z)))]; simp⟩
   ·rintro zs H5 ⟨s5,hz5⟩ z hz
    refine ⟨z,_,rfl,.inl ⟨SqL.of aB,λtp htp=>?_⟩⟩
    have s6:=s5.trans ((aE.new (o:=.lst zs) hz).trans (aE.new (o:=.tup zs) htp))
    have e6:=s6 _ _ e4
    have tt:upd (upd H5 z (.lst zs)) tp (.tup zs) tp=some (.tup zs):=aB
    refine ⟨tl,qs.map V.ref,.ref tp,rfl,rfl,e6,by rw [Rf,Qb]; omega,⟨_,_,rfl⟩,λb u h=>?_,qs++[tp],by rw [Qo]; exact aB,by rw [Qn,hx3]; rfl,λjj q hq=>?_⟩
    ·rw [aF (λz=>by rw [z,htl] at h; cases h)]
     exact (s14.trans s6) _ _ h
    ·have ne:∀ a u,upd (upd H5 z (.lst zs)) tp (.tup zs) a=some (.tup u)->a≠tl:=λa u ha za=>by rw [za,e6] at ha; cases ha
     by_cases hj:jj < qs.length
     ·rw [Qu hj] at hq
      have:=s6 _ _ (s4 _ _ (hqs jj q hq))
      rw [aF (ne _ _ this)]
      exact this
     ·rw [Je (by omega)] at hq
      have e0:jj - qs.length=0:=by have:=(Qd.mp hq).1; simp at this; omega
      rw [e0] at hq
      cases hq
      have ej:jj=i:=by omega
      rw [aF (ne _ _ tt),tt,hz5,Qb,Jj,ej]
      unfold goR
      rw [Qq,hl]
      rfl
  ·rintro σ H3 ⟨⟨v3,v4,rfl⟩,s3,qs,e3,hx3,hqs⟩
   exact ⟨_,rfl,k tl qs hs lv H3 (s1.trans s3) hd LL e3 (by omega) hqs⟩
theorem aC1 (φ:List Int->Int) (f:List Int->Bool) (m:List (List Int×Int)):Wt φ (m.filter λp=>f p.1)=Wt (λb=>if f b then φ b else 0) m:=by
 unfold Wt
 rw [kK]
 refine bU λp _=>?_
 by_cases c:f p.1=true
 ·rw [if_pos c]; show _=_*(if f p.1 then _ else _); rw [if_pos c]
 ·rw [if_neg c]; show _=_*(if f p.1 then _ else _); rw [if_neg c,Int.mul_zero]
theorem aB1 {n:Int} (hl:lv.length=n.toNat):(((aM n d).zip lv).all λq=>decide (q.2<=q.1))=true↔∀ h:Int,0<=h->h < n->lvA lv h<=((d.count h:Nat):Int):=by
 have at_:∀ j:Nat,j < n.toNat->(aM n d)[j]?=some ((d.count (j:Int):Nat):Int):=λj hj=>by
  unfold aM bR
  rw [Jv,Qe,Xk hj]; rfl
 have lv_:∀ j:Nat,j < n.toNat->lv[j]?=some (lvA lv (j:Int)):=λj hj=>by
  unfold lvA
  rw [Qq,Jc,Qc (by omega)]; rfl
 rw [Jr]
 constructor
 ·intro a h h0 h1
  have z:(((d.count h:Nat):Int),lvA lv h)∈(aM n d).zip lv:=Jb.mpr ⟨h.toNat,Js.mpr (by
   have e:((h.toNat:Nat):Int)=h:=by omega
   have a:=at_ h.toNat (by omega)
   have b:=lv_ h.toNat (by omega)
   rw [e] at a b
   exact ⟨a,b⟩)⟩
  exact of_decide_eq_true (a _ z)
 ·intro a q hq
  obtain ⟨j,hj⟩:=Jb.mp hq
  obtain ⟨e1,e2⟩:=Js.mp hj
  have hlt:j < n.toNat:=by have:=(Qd.mp e2).1; omega
  rw [at_ j hlt] at e1
  rw [lv_ j hlt] at e2
  rw [<- Option.some.inj e1,<- Option.some.inj e2]
  exact decide_eq_true (a j (by omega) (by omega))
section
open Classical
variable {n:Int}
theorem aB2 (hb:aS (aT n ws)=true) (hl:lv.length=n.toNat) (L:Lvl n ws hs lv) (φ:List Int->Int):Wt φ (eI n.toNat lv ws)=aK ((cZ ws).map λd=>if Lvl n ws d lv then φ (aM n d) else 0):=by
 have hn:=(bF hb).1
 unfold eI
 rw [aC1 φ (λb=>(b.zip lv).all λq=>decide (q.2<=q.1)),aFV n lv _ ws rfl (eN hb) (by omega) (λh h0 h1=>by have:=(L.box h h0 h1).2; omega)]
 refine bU λd _=>?_
 by_cases c:Lvl n ws d lv
 ·rw [if_pos c,if_pos ⟨λh h0 h1=>(c.box h h0 h1).2,c.low⟩,if_pos ((aB1 hl).mpr λh h0 h1=>(c.box h h0 h1).1)]
 ·rw [if_neg c]
  by_cases e:Cap n ws lv d
  ·rw [if_pos e,if_neg λz=>c ⟨λh h0 h1=>⟨(aB1 hl).mp z h h0 h1,e.cap h h0 h1⟩,e.low⟩]
  ·rw [if_neg e]
theorem oR (hb:aS (aT n ws)=true) (hl:lv.length=n.toNat) (L:Lvl n ws hs lv):SM (eI n.toNat lv ws)=(((cZ ws).filter λd=>decide (Lvl n ws d lv)).length:Int):=by
 have e:=aB2 hb hl L λ_=>1
 have a:∀ m,Wt (λ_=>1) m=SM m:=λm=>by unfold Wt SM; exact bU λp _=>QaS _
 rw [<- a,e]
 have:∀ l:List (List Int),aK (l.map λd=>if Lvl n ws d lv then (1:Int) else 0)=((l.filter λd=>decide (Lvl n ws d lv)).length:Int):=λl=>by
  induction l with
  | nil=>rfl
  | cons d l ih =>
   show (if Lvl n ws d lv then (1:Int) else 0)+aK (l.map λd=>if Lvl n ws d lv then (1:Int) else 0)=_
   rw [ih,Zd]
   by_cases c:Lvl n ws d lv
   ·rw [if_pos c,if_pos (decide_eq_true c),Qx]; omega
   ·rw [if_neg c,if_neg (λz=>c (of_decide_eq_true z))]; omega
 exact this _
theorem pQ {f:α->Int}:∀ {l:List α},(∀ x∈l,0<=f x)->(0 < aK (l.map f)↔∃ x∈l,0 < f x)
 | [],_=>⟨λh=>absurd (show (0:Int) < 0 from h) (by decide),λ⟨x,h,_⟩=>by cases h⟩
 | a::l,h=>by
  have ih:=pQ (l:=l) λx hx=>h x (Qk _ hx)
  have h0:=h a (Qi ..)
  have h1:0<=aK (l.map f):=by
   have:=oJ (f:=λ_=>0) (g:=f) (l:=l) λx hx=>h x (Qk _ hx)
   have e:aK (l.map λ_=>(0:Int))=0:=eD λ_ _=>rfl
   omega
  show 0 < f a+aK (l.map f)↔_
  constructor
  ·intro p
   by_cases q:0 < f a
   ·exact ⟨a,Qi ..,q⟩
   ·obtain ⟨x,hx,hp⟩:=ih.mp (by omega)
    exact ⟨x,Qk _ hx,hp⟩
  ·rintro ⟨x,hx,hp⟩
   rcases Qm.mp hx with rfl | hx
   ·omega
   ·have:=ih.mpr ⟨x,hx,hp⟩
    omega
theorem zS (hb:aS (aT n ws)=true) (hl:lv.length=n.toNat) (L:Lvl n ws hs lv) (k:List Int):(∃ p∈eI n.toNat lv ws,p.1=k)↔∃ d∈cZ ws,Lvl n ws d lv/\aM n d=k:=by
 have e:=aB2 hb hl L λb=>if b=k then 1 else 0
 have pos:=(tD lv hb).1.pos
 have a:0 < Wt (λb=>if b=k then 1 else 0) (eI n.toNat lv ws)↔∃ p∈eI n.toNat lv ws,p.1=k:=by
  show 0 < aK ((eI n.toNat lv ws).map λp=>p.2*if p.1=k then 1 else 0)↔_
  rw [pQ (λp hp=>by have:=pos p hp; by_cases c:p.1=k <;> simp [c] <;> omega)]
  refine ⟨λ⟨p,hp,h⟩=>⟨p,hp,?_⟩,λ⟨p,hp,h⟩=>⟨p,hp,?_⟩⟩
  ·by_cases c:p.1=k
   ·exact c
   ·rw [if_neg c] at h; simp at h
  ·rw [if_pos h]; have:=pos p hp; omega
 rw [<- a,e,pQ (λd _=>by split <;> (try split) <;> decide)]
 refine ⟨λ⟨d,hd,h⟩=>⟨d,hd,?_⟩,λ⟨d,hd,h1,h2⟩=>⟨d,hd,?_⟩⟩
 ·by_cases c:Lvl n ws d lv
  ·rw [if_pos c] at h
   by_cases f:aM n d=k
   ·exact ⟨c,f⟩
   ·rw [if_neg f] at h; simp at h
  ·rw [if_neg c] at h; simp at h
 ·rw [if_pos h1,if_pos h2]; decide
end
theorem lX:∀ (k:Nat) (ws:List (List Int)),ws.length=k->∀ d,aX ws (aV d)=true->d∈cZ ws:=by
 intro k
 induction k with
 | zero =>
  intro ws hk d hd
  have:ws = []:=Jt.mp hk
  subst this
  have:d = []:=Jt.mp (aR hd).1
  subst this
  exact Xg _
 | succ k ih =>
  intro ws hk d hd
  obtain ⟨us,l,rfl⟩:∃ us l,ws=us++[l]:=⟨ws.dropLast,ws.getLast (by intro z; rw [z] at hk; simp at hk),(Xr _).symm⟩
  obtain ⟨a,b⟩:=aR hd
  rw [Qn] at a
  obtain ⟨e,h,rfl⟩:∃ e h,d=e++[h]:=⟨d.dropLast,d.getLast (by intro z; rw [z] at a; simp at a),(Xr _).symm⟩
  rw [Qn] at a
  have a':e.length=us.length:=by simpa using a
  rw [gE]
  refine Wc.mpr ⟨e,ih us (by simpa using hk) e (fM a' λj x m hx hm=>b j x m (by rw [Qu (Qd.mp hx).1]; exact hx) (by rw [Qu (Qd.mp hm).1]; exact hm)),Qv.mpr ⟨h,?_,rfl⟩⟩
  exact b us.length h l (by rw [<- a']; simp) (by simp)
def Hv (n:Int) (ws:List (List Int)) (lv:List Int) (j:Nat) (x:Int):Prop:=∃ d,aX ws (aV d)=true/\Lvl n ws d lv/\((d.count (j:Int):Nat):Int)=x
def Ris (r:List Int) (p:Int->Prop):Prop:=r.Pairwise (· < ·)/\∀ x,x∈r↔p x
theorem Ris.uniq {a b:List Int} {p:Int->Prop} (h1:Ris a p) (h2:Ris b p):a=b:=by
 have nd:∀ {l:List Int},l.Pairwise (· < ·)->l.Nodup:=λh=>h.imp λh e=>by omega
 refine List.Perm.eq_of_pairwise (le:=(· < ·)) (λx y _ _ h1 h2=>by omega) h1.1 h2.1 ?_
 exact (Wo (nd h1.1) (nd h2.1)).mpr λx=>(h1.2 x).trans (h2.2 x).symm
end Ab
namespace L2
open PySem
theorem uC (hw:X.w=w) (hc:X.calm=true):dF X (.builtin "sorted") (λxs H Q=>∃ (p:Addr) (ns:List Int),xs = [.ref p]/\H p=some (pH w p ns)/\ns.length<=12/\∀ q out,lM out ns->H q=none->Q (.ref q) (upd H q (.lst (out.map V.int)))):=by subst hw; exact nX hc
theorem aA3 {d:Expr} (hw:X.w=w) (S:CompOk X scope z own fr frn) (hc:X.calm=true) (hi:PE X d td) (hg:∀ C s0 H0 fp,PG (bP X scope z (own++frn) C s0 H0 fp) tg g) (ht:∀ C s0 H0 fp,PF (bP X scope z (own++frn) C s0 H0 fp) ifs tt) (he:∀ C s0 H0 fp,PE (bP X scope z (own++frn) C s0 H0 fp) elt te) (hs:∀ x,foldedSetIterable d X.env x=pure x:=by intro _; rfl):PE X (.SetComp elt [⟨tg,d,ifs,0⟩] scope pos) (aBx w own.length fr td g tt te):=by subst hw; exact aCR S hc hi hg ht he hs
end L2
namespace Ab
open PySem L2
theorem aEE {n:Int} (hb:aS (aT n ws)=true) (hl:lv.length=n.toNat) (L:Lvl n ws hs lv) {p:List Int×Int} (hp:p∈eI n.toNat lv ws) (hj:j < n.toNat):p.1[j]?=some (p.1.getD j 0)/\p.1.getD j 0∈[lv.getD j 0,lv.getD j 0+1]/\Hv n ws lv j (p.1.getD j 0):=by
 obtain ⟨d,hd,Ld,e⟩:=(zS hb hl L p.1).mp ⟨p,hp,rfl⟩
 have c:p.1[j]?=some ((d.count (j:Int):Nat):Int):=by
  rw [<- e]
  unfold aM bR
  rw [Jv,Qe,Xk hj]; rfl
 have g:p.1.getD j 0=((d.count (j:Int):Nat):Int):=by rw [Qq,c]; rfl
 have b:=Ld.box j (by omega) (by omega)
 unfold lvA at b
 rw [Jc] at b
 rw [g]
 refine ⟨c,?_,d,eA _ ws rfl d hd,Ld,rfl⟩
 rw [Qm,Qs]
 omega
theorem aEF {n:Int} (hb:aS (aT n ws)=true) (hl:lv.length=n.toNat) (L:Lvl n ws hs lv) (hj:j < n.toNat) (x:Int):x∈(eI n.toNat lv ws).map (λp=>p.1.getD j 0)↔Hv n ws lv j x:=by
 rw [Qv]
 refine ⟨λ⟨p,hp,e⟩=>e ▸ (aEE hb hl L hp hj).2.2,λ⟨d,hd,Ld,e⟩=>?_⟩
 obtain ⟨p,hp,ep⟩:=(zS hb hl L _).mpr ⟨d,lX _ ws rfl d hd,Ld,rfl⟩
 refine ⟨p,hp,?_⟩
 rw [ep,Qq]
 unfold aM bR
 rw [Jv,Qe,Xk hj]
 exact e
def aHd:Scope:=match (eV fF).getD 1 (.Pass ⟨0,0,0,0⟩) with
 | .Return (some (.ListComp _ _ sc _)) _=>sc
 | _=>aH fF
def jT (K:Rc) (Pt:Addr):Sp:=λvs H Q _=>∃ (x:V) (n:Int) (ws:List (List Int)),vs = [x]/\Den K H (aT n ws) x/\aS (aT n ws)=true/\H Pt=some (.tab mQ)/\∀ (p:Addr) (qs:List Addr) (hs lv:List Int) H',aE H H'->aX ws (aV hs)=true->Lvl n ws hs lv->H' p=some (.lst (qs.map V.ref))->qs.length=n.toNat->(∀ (j:Nat) q,qs[j]?=some q->∃ r,H' q=some (.tup (r.map V.int))/\Ris r (Hv n ws lv j))->Q (.ref p) H'
theorem vF:FnScope ["book", "rows"] ["book"] (aH fF):=⟨rfl,rfl,rfl,by decide +kernel,rfl,by decide +kernel,by decide +kernel⟩
set_option maxHeartbeats 2000000 in
theorem aA4 (G:Fn K mg "may_have" fF ["book"] f fd) (B:Bl mg) (GEL:Fn K mg "even_loads" iS ["book"] fE dE) (OEL:FnOk P w K mg base CX0 12 fE dE ["book"] (qX K Pt)):FnOk P w K mg base CX0 13 f fd ["book"] (jT K Pt):=by
 refine G.fn.ok vF (λvs H Q E h=>?_) (λcdv A outer s H vs Q E hr h=>?_)
 ·obtain ⟨x,n,ws,rfl,_⟩:=h
  rfl
 ·obtain ⟨x,n,ws,rfl,hx,hbk,hP,k⟩:=h
  have r12:Room 12 _:=hr
  refine ⟨_,(aD (aL (i:=1) vF.nd rfl (Or.inr rfl) (bB GEL OEL r12 rfl (aA (pv 0) aC)))
   (aI (aW (bX (z:=some "hand") (own:=["hand"]) (fr:=[1]) (frn:=["rows"]) (aAs (aH fF) ["book", "rows"] rfl rfl (λ_ _=>rfl) (λ_=>rfl) (by decide +kernel)) rfl (cC rfl B.range (aA (bA (dU (K:=K) rfl) (pv 0) aG (λ_ _=>rfl)) aC))
    (λ_ _ _ _=>aJ (i:=0) (show (["hand", "rows"]:List Str).Nodup by decide +kernel) rfl (Or.inr rfl)) (λ_ _ _ _=>dM)
    (λ_ _ _ _=>bK (aDU (K:=K) rfl) rfl B.tuple cJ (aA (aP (uC (w:=w) rfl rfl) rfl B.sorted nY (aA (aA3 (w:=w) rfl (own:=["many"]) (fr:=[0]) (frn:=["hand"]) (bD (aGQ aHd (aH fF)) ["hand", "rows"] rfl rfl (by decide +kernel)) rfl (pv 1)
     (λ_ _ _ _=>aJ (i:=0) (show (["many", "hand"]:List Str).Nodup by decide +kernel) rfl (Or.inl rfl)) (λ_ _ _ _=>dM) (λ_ _ _ _=>bA (dU (K:=K) rfl) (pv 0) (pv 1) (λ_ _=>rfl))) aC)) aC)))))),?_⟩
  obtain ⟨hn1,hn6,hw12,hws⟩:=bF hbk
  refine ⟨_,rfl,x,n,ws,rfl,hx,hbk,hP,λrp hs lv H1 s1 hd L e1=>?_⟩
  obtain ⟨ba,bb,ys,rfl,ha,hb2,hys⟩:=cU (s1.den _ _ hx)
  have LL:=lU L (cV hbk hd) (eN hbk)
  have hM:=λp hp (j:Nat) hj=>aEE (p:=p) (j:=j) hbk L.1 LL hp hj
  have hI:=λj hj=>aEF (j:=j) hbk L.1 LL hj
  have ek:∀ (i:Nat) p,(enc (eI n.toNat lv ws))[i]?=some p->∃ q,(eI n.toNat lv ws)[i]?=some q/\p=(q.1.map Sum.inl,.int q.2):=λi p h=>by
   unfold enc at h
   rw [Qe] at h
   cases q:(eI n.toNat lv ws)[i]? with
   | none=>rw [q] at h; cases h
   | some u=>rw [q] at h; exact ⟨u,rfl,(Option.some.inj h).symm⟩
  have el:(enc (eI n.toNat lv ws)).length=(eI n.toNat lv ws).length:=by unfold enc; rw [Qb]
  generalize enc (eI n.toNat lv ws)=kvs at e1 ek el
  generalize eI n.toNat lv ws=M at ek el hM hI
  dsimp only [cO]
  have kl:∀ {H'},aE H1 H'->H' rp=some (.dT kvs):=λs=>s _ _ e1
  refine ⟨_,rfl,ba,_,0,.int n,rfl,rfl,ha,rfl,n,rfl,by omega,by omega,fP (lo:=0) (n:=n.toNat) (λσ=>∃ v,σ = [v,some (.ref rp)]) (λi zs H2=>aE H1 H2/\∃ qs:List Addr,zs=qs.map V.ref/\qs.length=i/\∀ (j:Nat) q,qs[j]?=some q->∃ r,H2 q=some (.tup (r.map V.int))/\Ris r (Hv n ws lv j)) (eG (by omega)) ⟨none,rfl⟩ ⟨aE.refl _,[],rfl,rfl,λj q h=>by simp at h⟩ (λi zs _ h=>by obtain ⟨_,qs,rfl,h,_⟩:=h; rw [Qb]; omega) ?_ ?_⟩
  ·rintro j zs σ H2 hj ⟨v,rfl⟩ ⟨s2,qs,rfl,hz2,hqs⟩ hz
   refine cB ?_
   refine ⟨[lv.getD j 0,lv.getD j 0+1],by show 2<=11; decide,_,rfl,rp,kvs,rfl,kl s2,λo=>?_⟩
   refine yY (λσ=>∃ v,σ = [v,some (.int (0+(j:Int)))]) (λi ys H3=>ys=(M.take i).map (λp=>p.1.getD j 0)/\H3 rp=some (.frz o (.dT kvs))/\∀ b u,b≠rp->H2 b=some u->H3 b=some u) ⟨none,rfl⟩ ⟨rfl,aB,λb u n e=>by rw [aF n]; exact e⟩ (λ_ _ _ h=>h.2.1) ?_ ?_
   ·rintro i ys σ p b H3 hp hb ⟨v,rfl⟩ h3
    obtain ⟨q,hq,rfl⟩:=ek i p hp
    obtain ⟨hx,hx2,_⟩:=hM q (Qj hq) _ hj
    have hb':H3 b=some (.tup (q.1.map V.int)):=by rw [<- pO]; exact hb
    refine cB ?_
    refine ⟨_,rfl,_,rfl,b,_,(0+(j:Int)),.int (q.1.getD j 0),rfl,rfl,SqT.of hb',by rw [Xp]; exact cH (by rw [Qe,hx]; rfl),?_⟩
    exact ⟨_,rfl,hx2,⟨_,rfl⟩,by rw [h3.1,Jp,hq,Qo]; rfl,h3.2⟩
   ·rintro ys H3 ⟨hy3,h3,k3⟩ p us hp nd hu hl
    have npr:p≠rp:=λz=>by rw [z,h3] at hp; cases hp
    refine ⟨p,us,rfl,by rw [aF npr]; exact aB,by omega,λq out hso hq=>?_⟩
    refine ⟨q,_,rfl,.inl ⟨SqL.of aB,λl hl'=>?_⟩⟩
    have s4:aE H1 (upd (upd H3 p (pH w p us)) rp (.dT kvs)):=λb u e=>by
     by_cases hb:b=rp
     ·subst hb
      rw [aB,<- e1,e]
     ·rw [aF hb,aF (λz=>by
       have:=k3 b u hb (s2 _ _ e)
       rw [z,hp] at this; cases this)]
      exact k3 b u hb (s2 _ _ e)
    have s5:=s4.trans ((aE.new hq).trans (aE.new (o:=.tup (out.map V.int)) hl'))
    have s25:∀ b u,b≠rp->H2 b=some u->upd (upd (upd (upd H3 p (pH w p us)) rp (.dT kvs)) q (.lst (out.map V.int))) l (.tup (out.map V.int)) b=some u:=λb u nb e=>by
     refine ((aE.new hq).trans (aE.new hl')) _ _ ?_
     rw [aF nb,aF (λz=>by
       have:=k3 b u nb e
       rw [z,hp] at this; cases this)]
     exact k3 b u nb e
    refine ⟨hz,⟨_,rfl⟩,s5,qs++[l],by rw [Qo]; rfl,by rw [Qn,hz2]; rfl,λjj q' hq'=>?_⟩
    by_cases hjj:jj < qs.length
    ·rw [Qu hjj] at hq'
     obtain ⟨r,hr1,hr2⟩:=hqs jj q' hq'
     exact ⟨r,s25 q' _ (λz=>by rw [z,kl s2] at hr1; cases hr1) hr1,hr2⟩
    ·rw [Je (by omega)] at hq'
     have e0:jj - qs.length=0:=by have:=(Qd.mp hq').1; simp at this; omega
     rw [e0] at hq'
     cases hq'
     have ej:jj=j:=by omega
     subst ej
     refine ⟨out,aB,hso.1,λx=>?_⟩
     rw [hso.2,hu,hy3,el,Jj,hI jj hj]
  ·rintro zs H2 ⟨s2,qs,rfl,hl,hqs⟩ p hp
   refine k p qs hs lv _ (s1.trans (s2.trans (aE.new hp))) hd LL aB hl λj q hq=>?_
   obtain ⟨r,h1,h2⟩:=hqs j q hq
   exact ⟨r,aE.new hp _ _ h1,h2⟩
section
variable {n:Int} {h:Int}
theorem zT (hb:aS (aT n ws)=true) (hd:aX ws (aV hs)=true) (L:Lvl n ws hs lv) (hl:ws[i]?=some l) (hh:h∈l) (nb:aS (aT n (repl ws i [h]))=true) (de:aX (repl ws i [h]) (aV he)=true) (Le:Lvl n (repl ws i [h]) he lw) (hg:Go n ws lv i h):(aM n he).Perm (aM n hs):=by
 obtain ⟨d0,d1,d2,d3⟩:=hg
 obtain ⟨de1,de2⟩:=(dZ hl hh).mp de
 refine (L.iff hb hd de1).mpr (L.same hb hd de1 λt=>?_)
 have a:=Le.least nb de ((dZ hl hh).mpr ⟨d1,d2⟩) t
 have b:=L.least hb hd de1 t
 rw [kH ((L.iff hb hd d1).mpr d3)] at a
 omega
theorem kM (hb:aS (aT n ws)=true) (hd:aX ws (aV hs)=true) (L:Lvl n ws hs lv) (hl:ws[i]?=some l) (hh:h∈l) (nb:aS (aT n (repl ws i [h]))=true) (de:aX (repl ws i [h]) (aV he)=true) (Le:Lvl n (repl ws i [h]) he lw) (hg:Go n ws lv i h) (hdn:aX (repl ws i [h]) (aV d)=true):Lvl n (repl ws i [h]) d lw↔Lvl n ws d lv:=by
 have pe:=zT hb hd L hl hh nb de Le hg
 rw [<- Le.iff nb de hdn,<- L.iff hb hd ((dZ hl hh).mp hdn).1]
 exact ⟨λp=>p.trans pe,λp=>p.trans pe.symm⟩
theorem zU (hb:aS (aT n ws)=true) (hd:aX ws (aV hs)=true) (L:Lvl n ws hs lv) (hl:ws[i]?=some l) (hh:h∈l) (nb:aS (aT n (repl ws i [h]))=true) (de:aX (repl ws i [h]) (aV he)=true) (Le:Lvl n (repl ws i [h]) he lw) (hg:Go n ws lv i h) {x:Int}:Hv n (repl ws i [h]) lw j x↔∃ d,aX ws (aV d)=true/\Lvl n ws d lv/\d[i]?=some h/\((d.count (j:Int):Nat):Int)=x:=by
 constructor
 ·rintro ⟨d,d1,d2,d3⟩
  obtain ⟨e1,e2⟩:=(dZ hl hh).mp d1
  exact ⟨d,e1,(kM hb hd L hl hh nb de Le hg d1).mp d2,e2,d3⟩
 ·rintro ⟨d,d1,d2,d3,d4⟩
  have e:=(dZ hl hh).mpr ⟨d1,d3⟩
  exact ⟨d,e,(kM hb hd L hl hh nb de Le hg e).mpr d2,d4⟩
end
theorem nB:∀ (k:Nat) (ws:List (List Int)),ws.length=k->(∀ l∈ws,l.Nodup)->(cZ ws).Nodup:=by
 intro k
 induction k with
 | zero =>
  intro ws hk _
  have:ws = []:=Jt.mp hk
  subst this
  simp [cZ]
 | succ k ih =>
  intro ws hk hn
  obtain ⟨us,l,rfl⟩:∃ us l,ws=us++[l]:=⟨ws.dropLast,ws.getLast (by intro z; rw [z] at hk; simp at hk),(Xr _).symm⟩
  have h1:=ih us (by simpa using hk) λm hm=>hn m (Jw _ hm)
  have h2:=hn l (Jd _ (Xg _))
  rw [gE,List.nodup_iff_pairwise_ne,List.pairwise_flatMap]
  refine ⟨λd _=>List.Pairwise.map _ (λa b hab e=>hab ?_) h2,h1.imp λ{a b} hab x hx y hy e=>hab ?_⟩
  ·simpa using e
  ·obtain ⟨u,_,rfl⟩:=Qv.mp hx
   obtain ⟨v,_,rfl⟩:=Qv.mp hy
   exact (List.append_inj e (by have:=congrArg Zy e; simpa using this)).1
theorem aFW {a b:List α} (ha:a.Nodup) (hb:b.Nodup) (h:∀ x,x∈a↔x∈b):a.Perm b:=(Wo ha hb).mpr h
theorem aA5 [DecidableEq β] (key:α->Option β) (p:α->Bool):∀ (D:List α) (ks:List β),ks.Nodup->(∀ d∈D,p d=true->∃ k∈ks,key d=some k)->aK (ks.map λk=>(((D.filter λd=>p d && decide (key d=some k)).length:Nat):Int))=((D.filter p).length:Int)
 | [],ks,_,_=>by
  simp only [Qap,Ya]
  exact eD λ_ _=>rfl
 | d::D,ks,nd,h=>by
  have ih:=aA5 key p D ks nd λe he=>h e (Qk _ he)
  have one:∀ {ks:List β},ks.Nodup->∀ k0∈ks,aK (ks.map λk=>if k=k0 then (1:Int) else 0)=1:=λ{ks}=>by
   induction ks with
   | nil=>intro _ k0 hk; cases hk
   | cons a r ih =>
    intro nd k0 hk
    obtain ⟨n1,n2⟩:=Xd.mp nd
    show (if a=k0 then (1:Int) else 0)+aK (r.map _)=1
    by_cases e:a=k0
    ·rw [if_pos e,eD λx hx=>if_neg λz=>n1 (by rw [e,<- z]; exact hx)]
     omega
    ·rw [if_neg e,ih n2 k0 (by rcases Qm.mp hk with q | q; exact absurd q.symm e; exact q)]
     omega
  cases hp:p d with
  | false =>
   rw [Xt (by simp [hp]),<- ih]
   exact bU λk _=>by rw [Xt (by simp [hp])]
  | true =>
   obtain ⟨k0,hk0,e0⟩:=h d (Qi ..) hp
   rw [Xu hp,Qx]
   have:∀ k∈ks,(((((d::D).filter λd=>p d && decide (key d=some k)).length:Nat)):Int)=(if k=k0 then 1 else 0)+(((D.filter λd=>p d && decide (key d=some k)).length:Nat):Int):=λk _=>by
    by_cases e:k=k0
    ·rw [if_pos e,Xu (by rw [hp,e0,e]; simp),Qx]
     omega
    ·rw [if_neg e,Xt (by rw [hp,e0]; simpa using λz=>e z.symm)]
     omega
   rw [bU this,gQ,ih,one nd k0 hk0]
   omega
section
variable {n:Int}
open Classical in
noncomputable def cnt (n:Int) (ws:List (List Int)) (lv:List Int) (i:Nat) (h:Int):Int:=(((cZ ws).filter λd=>decide (Lvl n ws d lv) && decide (d[i]?=some h)).length:Nat)
theorem lY (hb:aS (aT n ws)=true):∀ l∈ws,l.Nodup:=λl hl=>(bH ((bF hb).2.2.2 l hl)).2.2.imp λh e=>by omega
open Classical in
theorem aA6 {h:Int} (hb:aS (aT n ws)=true) (hd:aX ws (aV hs)=true) (L:Lvl n ws hs lv) (hl:ws[i]?=some l) (hh:h∈l) (nb:aS (aT n (repl ws i [h]))=true) (de:aX (repl ws i [h]) (aV he)=true) (Le:Lvl n (repl ws i [h]) he lw) (hlw:lw.length=n.toNat) (hg:Go n ws lv i h):SM (eI n.toNat lw (repl ws i [h]))=cnt n ws lv i h:=by
 rw [oR nb hlw Le]
 unfold cnt
 have e:((cZ (repl ws i [h])).filter λd=>decide (Lvl n (repl ws i [h]) d lw)).Perm ((cZ ws).filter λd=>decide (Lvl n ws d lv) && decide (d[i]?=some h)):=by
  refine aFW ((nB _ _ rfl (lY nb)).filter _) ((nB _ _ rfl (lY hb)).filter _) λd=>?_
  rw [Jy,Jy,decide_eq_true_iff,Ji,decide_eq_true_iff,decide_eq_true_iff]
  constructor
  ·rintro ⟨a,b⟩
   have a':=eA _ _ rfl d a
   obtain ⟨e1,e2⟩:=(dZ hl hh).mp a'
   exact ⟨lX _ _ rfl d e1,(kM hb hd L hl hh nb de Le hg a').mp b,e2⟩
  ·rintro ⟨a,b,c⟩
   have a':=(dZ hl hh).mpr ⟨eA _ _ rfl d a,c⟩
   exact ⟨lX _ _ rfl d a',(kM hb hd L hl hh nb de Le hg a').mpr b⟩
 rw [e.length_eq]
open Classical in
theorem aEG {h:Int} (hg:¬ Go n ws lv i h):cnt n ws lv i h=0:=by
 unfold cnt
 rw [Yr.mpr λd hd z=>hg ?_]
 ·rfl
 ·rw [Ji,decide_eq_true_iff,decide_eq_true_iff] at z
  exact ⟨d,eA _ _ rfl d hd,z.2,z.1⟩
open Classical in
theorem aFX (hb:aS (aT n ws)=true) (L:Lvl n ws hs lv) (hlv:lv.length=n.toNat) (hl:ws[i]?=some l):aK (l.map (cnt n ws lv i))=SM (eI n.toNat lv ws):=by
 rw [oR hb hlv L]
 refine aA5 (λd:List Int=>d[i]?) (λd=>decide (Lvl n ws d lv)) (cZ ws) l (lY hb l (Qj hl)) λd hd _=>?_
 obtain ⟨a,b⟩:=aR (eA _ ws rfl d hd)
 have hi:i < ws.length:=(Qd.mp hl).1
 have e:=Qc (show i < d.length by omega)
 exact ⟨_,b i _ l e hl,e⟩
end
theorem vG:∀ {l m:List Int},l.Pairwise (· < ·)->m.Pairwise (· < ·)->(∀ k,k∈l↔k∈m)->l=m
 | [],[],_,_,_=>rfl
 | [],b::m,_,_,h=>absurd ((h b).mpr (Qi ..)) Qt
 | a::l,[],_,_,h=>absurd ((h a).mp (Qi ..)) Qt
 | a::l,b::m,hl,hm,h=>by
  obtain ⟨l1,l2⟩:=Xm.mp hl
  obtain ⟨m1,m2⟩:=Xm.mp hm
  have e:a=b:=by
   rcases Qm.mp ((h a).mp (Qi ..)) with z | z
   ·exact z
   ·rcases Qm.mp ((h b).mpr (Qi ..)) with y | y
    ·exact y.symm
    ·have:=m1 a z; have:=l1 b y; omega
  subst e
  refine congrArg _ (vG l2 m2 λk=>⟨λhk=>?_,λhk=>?_⟩)
  ·rcases Qm.mp ((h k).mp (Qk _ hk)) with z | z
   ·have:=l1 k hk; omega
   ·exact z
  ·rcases Qm.mp ((h k).mpr (Qk _ hk)) with z | z
   ·have:=m1 k hk; omega
   ·exact z
def bN (c:List Int) (h:Int):Int:=c.getD h.toNat 0
theorem aEH {c:List Int} (h:c.length=n):(bR n).map (bN c)=c:=by
 apply Yb
 intro i
 rw [Qe]
 by_cases hi:i < n
 ·rw [sE hi]
  show some (c.getD ((i:Int)).toNat 0)=_
  rw [Jc,Qq,Qc (by omega)]
  rfl
 ·rw [Xq (by rw [cK]; omega),Xq (by omega)]
  rfl
theorem aC2 {c:List Int} (h:c.Perm (bR n)):((bR n).map (bN c)).Perm (bR n):=by
 rw [aEH (by rw [h.length_eq,cK])]
 exact h
def eJ (n:Int) (c l:List Int):List Int:=(bR n.toNat).filter λx=>decide (x∈l.map (bN c))
theorem vH (n:Nat):(bR n).Pairwise (· < ·):=by
 unfold bR
 rw [Yc]
 exact List.Pairwise.imp (λh=>by omega) (Yq)
theorem qY {c:List Int} (h:c.Perm (bR n)) {x:Int} (h0:0<=x) (h1:x < n):0<=bN c x/\bN c x < n:=by
 have hl:x.toNat < c.length:=by rw [h.length_eq,cK]; omega
 have hm:bN c x∈c:=by
  unfold bN
  rw [Qq,Qc hl]
  exact Xf hl
 have:=h.mem_iff.mp hm
 unfold bR at this
 obtain ⟨i,hi,e⟩:=Qv.mp this
 have:=Jf.mp hi
 omega
theorem zV {c:List Int} (h:c.Perm (bR n)) {x y:Int} (x0:0<=x) (x1:x < n) (y0:0<=y) (y1:y < n) (e:bN c x=bN c y):x=y:=by
 have hn:c.Nodup:=h.nodup_iff.mpr (sW n)
 have hx:x.toNat < c.length:=by rw [h.length_eq,cK]; omega
 have hy:y.toNat < c.length:=by rw [h.length_eq,cK]; omega
 have:x.toNat=y.toNat:=(Yv hx hn).mp (by
  unfold bN at e
  rw [Qq,Qq,Qc hx,Qc hy] at e
  rw [Qc hx,Qc hy]
  exact congrArg some e)
 omega
theorem oS {n:Int} {c:List Int} (hp:c.Perm (bR n.toNat)) (hl:∀ x∈l,0<=x/\x < n) (x:Int):x∈eJ n c l↔∃ h∈l,bN c h=x:=by
 unfold eJ
 rw [Jy,decide_eq_true_iff,Qv]
 refine ⟨λz=>z.2,λz=>⟨?_,z⟩⟩
 obtain ⟨h,hh,rfl⟩:=z
 have:=hl h hh
 have:=qY hp this.1 (by omega)
 unfold bR
 exact Qv.mpr ⟨(bN c h).toNat,Jf.mpr (by omega),by omega⟩
theorem aC3 {n:Int} {c:List Int} (hp:c.Perm (bR n.toNat)) (hw:cE n (bM l)=true):cE n (bM (eJ n c l))=true:=by
 obtain ⟨l0,l1,l2⟩:=bH hw
 have hm:=oS hp l1
 refine iE (λz=>?_) (λx hx=>?_) (List.Pairwise.filter _ (vH _))
 ·cases l with
  | nil=>exact l0 rfl
  | cons y l=>exact Qt (z ▸ (hm (bN c y)).mpr ⟨y,Qi ..,rfl⟩)
 ·obtain ⟨h,hh,rfl⟩:=(hm x).mp hx
  have:=l1 h hh
  have:=qY hp this.1 (by omega)
  omega
theorem zW {n:Int} {c:List Int} (hp:c.Perm (bR n.toNat)) (hw:cE n (bM l)=true) (hm:ms.Perm (l.map (bN c))) (hs:ms.Pairwise (·<=·)):ms=eJ n c l:=by
 obtain ⟨l0,l1,l2⟩:=bH hw
 have hnd:(l.map (bN c)).Nodup:=by
  unfold List.Nodup
  rw [Yc]
  refine List.Pairwise.imp_of_mem (λ{a b} ha hb hab z=>?_) l2
  have:=zV hp (l1 a ha).1 (by have:=l1 a ha; omega) (l1 b hb).1 (by have:=l1 b hb; omega) z
  omega
 have hms:ms.Nodup:=hm.nodup_iff.mpr hnd
 refine vG ?_ (List.Pairwise.filter _ (vH _)) λk=>?_
 ·exact (hs.and hms).imp λh=>by have:=h.1; have:=h.2; omega
 ·rw [show k∈ms↔k∈l.map (bN c) from hm.mem_iff]
  show _↔k∈eJ n c l
  rw [oS hp l1,Qv]
theorem aEI (xs:List α) (x:α) (r:Nat):(xs.take r++x::xs.drop r).Perm (xs++[x]):=by
 have h1:(xs.take r++x::xs.drop r).Perm (x::(xs.take r++xs.drop r)):=Wa
 rw [Xz] at h1
 exact h1.trans (Wn x xs).symm
theorem jU {n:Int} {c:List Int} (hb:aS (aT n ws)=true) (hp:c.Perm (bR n.toNat)) (hd:aX ws (aV d)=true):aX (ws.map (eJ n c)) (aV (d.map (bN c)))=true:=by
 obtain ⟨a,b⟩:=aR hd
 refine fM (by rw [Qb,Qb,a]) λj x l hx hl=>?_
 rw [Qe] at hx hl
 cases e1:d[j]? with
 | none=>rw [e1] at hx; cases hx
 | some h =>
  cases e2:ws[j]? with
  | none=>rw [e2] at hl; cases hl
  | some m =>
   rw [e1] at hx; rw [e2] at hl
   cases hx; cases hl
   exact (oS hp (eN hb m (Qj e2)) _).mpr ⟨h,b j h m e1 e2,rfl⟩
theorem tF {n:Int} {c:List Int} (hp:c.Perm (bR n.toNat)):∀ {ws:List (List Int)} {d:List Int},(∀ l∈ws,∀ x∈l,0<=x/\x < n)->d.length=ws.length->(∀ (j:Nat) h l,d[j]?=some h->ws[j]?=some l->h∈eJ n c l)->∃ e:List Int,e.length=ws.length/\(∀ (j:Nat) h l,e[j]?=some h->ws[j]?=some l->h∈l)/\e.map (bN c)=d
 | [],[],_,_,_=>⟨[],rfl,λj h l e=>by simp at e,rfl⟩
 | [],_::_,_,h,_=>by simp at h
 | _::_,[],_,h,_=>by simp at h
 | l::ws,h::d,hr,hl,ha=>by
  obtain ⟨e,e1,e2,e3⟩:=tF hp (ws:=ws) (d:=d) (λm hm=>hr m (Qk _ hm)) (by simpa using hl) λj x m hx hm=>ha (j+1) x m (by simpa using hx) (by simpa using hm)
  obtain ⟨g,g1,g2⟩:=(oS hp (hr l (Qi ..)) h).mp (ha 0 h l rfl rfl)
  refine ⟨g::e,by rw [Qx,e1]; rfl,λj x m hx hm=>?_,by rw [Qz,g2,e3]⟩
  cases j with
  | zero=>cases hx; cases hm; exact g1
  | succ j=>exact e2 j x m (by simpa using hx) (by simpa using hm)
section
variable {n:Int} {c lv':List Int}
theorem tG (hb:aS (aT n ws)=true) (hp:c.Perm (bR n.toNat)) (hd:aX ws (aV hs)=true) (L:Lvl n ws hs lv) (hb':aS (aT n (ws.map (eJ n c)))=true) (hd':aX (ws.map (eJ n c)) (aV hs')=true) (L':Lvl n (ws.map (eJ n c)) hs' lv') (hdd:aX ws (aV d)=true):Lvl n (ws.map (eJ n c)) (d.map (bN c)) lv'↔Lvl n ws d lv:=by
 have lp:∀ {d},aX ws (aV d)=true->(aM n (d.map (bN c))).Perm (aM n d):=λ{d} h=>wT (aC2 hp) (cV hb h) (List.Perm.refl _)
 have pe:(aM n (hs.map (bN c))).Perm (aM n hs'):=by
  refine (L'.iff hb' hd' (jU hb hp hd)).mpr (L'.same hb' hd' (jU hb hp hd) λt=>?_)
  have a:=L'.least hb' hd' (jU hb hp hd) t
  obtain ⟨q1,q2⟩:=aR hd'
  obtain ⟨e,e1,e2,e3⟩:=tF hp (eN hb) (by rw [q1,Qb]) λj x m hx hm=>q2 j x _ hx (by rw [Qe,hm]; rfl)
  have de:=fM e1 e2
  have b:=L.least hb hd de t
  rw [<- kH (lp de),e3] at b
  rw [kH (lp hd)] at a ⊢
  omega
 rw [<- L'.iff hb' hd' (jU hb hp hdd),<- L.iff hb hd hdd]
 exact ⟨λp=>(lp hdd).symm.trans (p.trans (pe.symm.trans (lp hd))),λp=>(lp hdd).trans (p.trans ((lp hd).symm.trans pe))⟩
theorem zX (hb:aS (aT n ws)=true) (hp:c.Perm (bR n.toNat)) (hd:aX ws (aV hs)=true) (L:Lvl n ws hs lv) (hb':aS (aT n (ws.map (eJ n c)))=true) (hd':aX (ws.map (eJ n c)) (aV hs')=true) (L':Lvl n (ws.map (eJ n c)) hs' lv') (hj:j < n.toNat) {x:Int}:Hv n (ws.map (eJ n c)) lv' (bN c j).toNat x↔Hv n ws lv j x:=by
 obtain ⟨h0,h1⟩:=qY hp (x:=(j:Int)) (by omega) (by omega)
 have ec:∀ {d},aX ws (aV d)=true->(d.map (bN c)).count (((bN c j).toNat:Nat):Int)=d.count (j:Int):=λ{d} h=>by
  rw [show (((bN c j).toNat:Nat):Int)=bN c j by omega]
  refine kI λx hx e=>?_
  have:=cV hb h x hx
  exact zV hp (by omega) (by omega) (by omega) (by omega) e
 constructor
 ·rintro ⟨d',d1,d2,d3⟩
  obtain ⟨q1,q2⟩:=aR d1
  obtain ⟨e,e1,e2,e3⟩:=tF hp (eN hb) (by rw [q1,Qb]) λj x m hx hm=>q2 j x _ hx (by rw [Qe,hm]; rfl)
  have de:=fM e1 e2
  subst e3
  exact ⟨e,de,(tG hb hp hd L hb' hd' L' de).mp d2,by rw [<- ec de]; exact d3⟩
 ·rintro ⟨d,d1,d2,d3⟩
  exact ⟨_,jU hb hp d1,(tG hb hp hd L hb' hd' L' d1).mpr d2,by rw [ec d1]; exact d3⟩
end
def fct:Nat->Nat
 | 0=>1
 | k+1=>(k+1)*fct k
def pf (c:Nat->Nat):Nat->Nat
 | 0=>1
 | k+1=>pf c k*fct (c k)
def smN (c:Nat->Nat):Nat->Nat
 | 0=>0
 | k+1=>smN c k+c k
def iX (c:Nat->Nat) (h:Nat) (g:Nat):Nat:=if g=h then c g - 1 else c g
def fit (n:Nat) (c:Nat->Nat) (d:List Int):Bool:=(List.range n).all λh=>decide (d.count (h:Int)=c h)
def full (n m:Nat):List (List Int):=List.replicate m (bR n)
def cW (n m:Nat) (c:Nat->Nat):Int:=(((cZ (full n m)).filter (fit n c)).length:Nat)
theorem oT {c:Nat->Nat}:fit n c d=true↔∀ h,h < n->d.count (h:Int)=c h:=by
 unfold fit
 rw [Jr]
 exact ⟨λq h hh=>of_decide_eq_true (q h (Jf.mpr hh)),λq h hh=>decide_eq_true (q h (Jf.mp hh))⟩
theorem zY {c c':Nat->Nat}:∀ {n:Nat},(∀ h,h < n->c h=c' h)->pf c n=pf c' n
 | 0,_=>rfl
 | n+1,e=>by
  show pf c n*_=pf c' n*_
  rw [zY λh hh=>e h (by omega),e n (by omega)]
theorem aEJ {c:Nat->Nat} {h:Nat}:∀ {n:Nat},h < n->0 < c h->pf c n=pf (iX c h) n*c h
 | 0,e,_=>absurd e (Xn _)
 | n+1,e,p=>by
  show pf c n*fct (c n)=pf (iX c h) n*fct (iX c h n)*c h
  by_cases q:h=n
  ·subst q
   rw [zY (c:=c) (c':=iX c h) λg hg=>by unfold iX; rw [if_neg (by omega)]]
   have:fct (c h)=c h*fct (iX c h h):=by
    unfold iX
    rw [if_pos rfl]
    cases e:c h with
    | zero=>omega
    | succ k=>rfl
   rw [this,QaI,QaL (fct _)]
  ·rw [aEJ (by omega) p,show iX c h n=c n by unfold iX; rw [if_neg λz=>q z.symm],QaI,QaI,QaL (c h)]
theorem wV {c:Nat->Nat} {h:Nat}:∀ {n:Nat},h < n->0 < c h->smN c n=smN (iX c h) n+1
 | 0,e,_=>absurd e (Xn _)
 | n+1,e,p=>by
  show smN c n+c n=smN (iX c h) n+iX c h n+1
  by_cases q:h=n
  ·subst q
   have:∀ k,k<=h->smN c k=smN (iX c h) k:=λk=>by
    induction k with
    | zero=>intro _; rfl
    | succ k ih=>intro hk; show smN c k+c k=smN _ k+iX c h k; rw [ih (by omega)]; unfold iX; rw [if_neg (by omega)]
   rw [this h (Qg _)]
   unfold iX
   rw [if_pos rfl]
   omega
  ·rw [wV (by omega) p,show iX c h n=c n by unfold iX; rw [if_neg λz=>q z.symm]]
   omega
theorem zZ {c:Nat->Nat}:∀ {n:Nat},smN c n=0->∀ h,h < n->c h=0
 | 0,_,h,hh=>absurd hh (Xn _)
 | n+1,e,h,hh=>by
  have e':smN c n+c n=0:=e
  by_cases q:h=n
  ·rw [q]; omega
  ·exact zZ (n:=n) (by omega) h (by omega)
theorem aB3 {c:Nat->Nat}:∀ {n:Nat},(∀ h,h < n->c h=0)->pf c n=1
 | 0,_=>rfl
 | n+1,e=>by
  show pf c n*fct (c n)=1
  rw [aB3 λh hh=>e h (by omega),e n (by omega)]
  rfl
theorem wW (c:Nat->Nat) (k:Int):∀ n:Nat,aK ((List.range n).map λh=>((c h:Nat):Int)*k)=((smN c n:Nat):Int)*k
 | 0=>(Qaq k).symm
 | n+1=>by
  rw [Zi,Qo,dY,wW c k n]
  show _+(_+0)=(((smN c n+c n:Nat)):Int)*k
  rw [Wq,Zn,Yi]
theorem qC (p:List Int->Bool) (L:List Int):∀ D:List (List Int),((((D.flatMap λd=>L.map λh=>d++[h]).filter p).length:Nat):Int)=aK (L.map λh=>(((D.filter λd=>p (d++[h])).length:Nat):Int))
 | []=>by
  rw [List.flatMap_nil,Qap]
  exact (eD λ_ _=>rfl).symm
 | d::D=>by
  rw [List.flatMap_cons,Xi,Qn,Zn,qC p L D]
  have one:∀ L:List Int,((((L.map λh=>d++[h]).filter p).length:Nat):Int)=aK (L.map λh=>if p (d++[h]) then (1:Int) else 0):=λL=>by
   induction L with
   | nil=>rfl
   | cons h L ih =>
    rw [Qz,Qz]
    show _=(if p (d++[h]) then (1:Int) else 0)+aK _
    rw [<- ih]
    cases q:p (d++[h]) with
    | true=>rw [Xu q,Qx,if_pos rfl]; omega
    | false=>rw [Xt (by simp [q]),if_neg Qr]; omega
  rw [one,<- gQ]
  exact bU λh _=>by
   cases q:p (d++[h]) with
   | true=>rw [Xu (p:=λd=>p (d++[h])) q,Qx,if_pos rfl]; omega
   | false=>rw [Xt (p:=λd=>p (d++[h])) (by simp [q]),if_neg Qr]; omega
theorem pR (f:α->Int) (k:Int):∀ l:List α,aK (l.map f)*k=aK (l.map λx=>f x*k)
 | []=>Qaq k
 | a::l=>by
  show (f a+aK (l.map f))*k=f a*k+aK _
  rw [Yi,pR f k l]
theorem aGr (n:Nat):∀ (m:Nat) (c:Nat->Nat),smN c n=m->cW n m c*((pf c n:Nat):Int)=((fct m:Nat):Int)
 | 0,c,e=>by
  have z:=zZ e
  have:cW n 0 c=1:=by
   unfold cW full
   rw [List.replicate_zero]
   show (((([[]]:List (List Int)).filter (fit n c)).length:Nat):Int)=1
   rw [Xu (oT.mpr λh hh=>by rw [z h hh]; rfl)]
   rfl
  rw [this,aB3 z]
  rfl
 | m+1,c,e=>by
  have grow:cW n (m+1) c=aK ((List.range n).map λh=>if c h=0 then 0 else cW n m (iX c h)):=by
   unfold cW full
   rw [We,gE,qC]
   unfold bR
   rw [Jv]
   refine bU λh hh=>?_
   show (((List.filter (λd=>fit n c (d++[(h:Int)])) _).length:Nat):Int)=_
   by_cases q:c h=0
   ·rw [if_pos q,Yr.mpr λd _ z=>?_]
    ·rfl
    ·have:=oT.mp z h (Jf.mp hh)
     rw [q,Zo] at this
     simp at this
   ·rw [if_neg q]
    congr 2
    refine Zg λd _=>?_
    rw [Xc,oT,oT]
    refine forall_congr' λg=>forall_congr' λ_=>?_
    rw [Zo]
    unfold iX
    by_cases qg:g=h
    ·subst qg
     rw [if_pos rfl]
     simp
     omega
    ·rw [if_neg qg,List.count_eq_zero_of_not_mem (a:=(g:Int)) (l:=[(h:Int)]) (by simp; omega)]
     exact Iff.rfl
  rw [grow,pR,bU (g:=λh=>((c h:Nat):Int)*((fct m:Nat):Int)) λh hh=>?_,wW,e]
  ·show _=(((m+1)*fct m:Nat):Int)
   rw [Qao]
  ·by_cases q:c h=0
   ·rw [if_pos q,q]; simp
   ·rw [if_neg q]
    have hlt:=Jf.mp hh
    have ih:=aGr n m (iX c h) (by have:=wV hlt (Nat.pos_of_ne_zero q); omega)
    rw [aEJ hlt (Nat.pos_of_ne_zero q),Qao,<- Int.mul_assoc,ih,Int.mul_comm]
theorem pS {c c':Nat->Nat}:∀ {n:Nat},(∀ h,h < n->c h=c' h)->smN c n=smN c' n
 | 0,_=>rfl
 | n+1,e=>by
  show smN c n+_=smN c' n+_
  rw [pS λh hh=>e h (by omega),e n (by omega)]
theorem oU:∀ {d:List Int},(∀ x∈d,0<=x/\x < (n:Int))->smN (λh=>d.count (h:Int)) n=d.length
 | [],_=>by
  have:∀ k,smN (λh=>([]:List Int).count (h:Int)) k=0:=λk=>by
   induction k with
   | zero=>rfl
   | succ k ih=>show smN _ k+_=0; rw [ih]; rfl
  exact this n
 | x::d,hr=>by
  have hx:=hr x (Qi ..)
  have ih:=oU (d:=d) λy hy=>hr y (Qk _ hy)
  have ex:((x.toNat:Nat):Int)=x:=by omega
  rw [wV (c:=λh=>(x::d).count (h:Int)) (h:=x.toNat) (by omega) (by show 0 < (x::d).count _; rw [ex,Qav]; omega),Qx,<- ih]
  congr 1
  refine pS λg _=>?_
  unfold iX
  by_cases q:g=x.toNat
  ·subst q
   rw [if_pos rfl]
   show (x::d).count ((x.toNat:Nat):Int) - 1=_
   rw [ex,Qav]
   rfl
  ·rw [if_neg q]
   show (x::d).count ((g:Nat):Int)=_
   rw [List.count_cons_of_ne (λz=>q (by omega))]
theorem aEK {c:Nat->Nat} {a:Nat}:∀ {n:Nat},(∀ h,h < n->a<=c h)->n*a<=smN c n
 | 0,_=>by simp [smN]
 | n+1,e=>by
  have:=aEK (n:=n) λh hh=>e h (by omega)
  have:=e n (by omega)
  show (n+1)*a<=smN c n+c n
  rw [Wp]
  omega
theorem aEL {c:Nat->Nat} {b:Nat}:∀ {n:Nat},(∀ h,h < n->c h<=b)->smN c n<=n*b
 | 0,_=>by simp [smN]
 | n+1,e=>by
  have:=aEL (n:=n) λh hh=>e h (by omega)
  have:=e n (by omega)
  show smN c n+c n<=(n+1)*b
  rw [Wp]
  omega
theorem aEM {c:Nat->Nat} {b k:Nat}:∀ {n:Nat},k < n->c k < b->(∀ h,h < n->c h<=b)->smN c n < n*b
 | 0,e,_,_=>absurd e (Xn _)
 | n+1,e,hk,hh=>by
  show smN c n+c n < (n+1)*b
  rw [Wp]
  have:=hh n (by omega)
  by_cases q:k=n
  ·subst q
   have:=aEL (n:=k) λh z=>hh h (by omega)
   omega
  ·have:=aEM (n:=n) (by omega) hk λh z=>hh h (by omega)
   omega
def bal (n q:Nat) (d:List Int):Bool:=(List.range n).all λh=>decide (d.count (h:Int)=q) || decide (d.count (h:Int)=q+1)
theorem qZ {q:Nat}:bal n q d=true↔∀ h,h < n->q<=d.count (h:Int)/\d.count (h:Int)<=q+1:=by
 unfold bal
 rw [Jr]
 refine ⟨λz h hh=>?_,λz h hh=>?_⟩
 ·have:=z h (Jf.mpr hh)
  rw [Qak,decide_eq_true_iff,decide_eq_true_iff] at this
  omega
 ·have:=z h (Jf.mp hh)
  rw [Qak,decide_eq_true_iff,decide_eq_true_iff]
  omega
theorem aB4 (h:(full n m)[i]?=some l):l=bR n:=by
 unfold full at h
 rw [Ze] at h
 split at h
 ·exact (Option.some.inj h).symm
 ·cases h
theorem tH (h:aX (full n m) (aV d)=true):d.length=m/\∀ x∈d,0<=x/\x < (n:Int):=by
 obtain ⟨a,b⟩:=aR h
 have hm:(full n m).length=m:=by unfold full; rw [Ju]
 refine ⟨a.trans hm,λx hx=>?_⟩
 obtain ⟨i,hi⟩:=Jb.mp hx
 have hlt:=(Qd.mp hi).1
 have e:=Qc (show i < (full n m).length by omega)
 have z:=b i x _ hi e
 rw [aB4 e] at z
 exact oF.mp z
theorem aB5 (hn:0 < n) (hd:aX (full n m) (aV d)=true) (L:Lvl (n:Int) (full n m) d lv):bal n (m / n) d=true:=by
 obtain ⟨dl,dr⟩:=tH hd
 have sm:=oU dr
 rw [dl] at sm
 have near:∀ g u:Nat,g < n->u < n->d.count (g:Int)<=d.count (u:Int)+1:=λg u hg hu=>by
  by_cases z:d.count (g:Int)=0
  ·omega
  have hm:(g:Int)∈d:=List.count_pos_iff.mp (by omega)
  obtain ⟨i,hi⟩:=Jb.mp hm
  have hlt:=(Qd.mp hi).1
  have e:=Qc (show i < (full n m).length by unfold full; rw [Ju]; omega)
  have z:=L.low i _ _ hi e (u:Int) (by rw [aB4 e]; exact oF.mpr ⟨by omega,by omega⟩)
  have b1:=L.box (g:Int) (by omega) (by omega)
  have b2:=L.box (u:Int) (by omega) (by omega)
  omega
 have hq:n*(m / n)<=m:=by have:=Qar m n; omega
 have hq2:m < n*(m / n+1):=by have:=Qar m n; have:=Wg m hn; rw [Nat.mul_succ]; omega
 refine qZ.mpr λh hh=>⟨?_,?_⟩
 ·refine Qaf λz=>?_
  have:=aEM (c:=λh=>d.count (h:Int)) (b:=m / n) hh z λg hg=>by have:=near g h hg hh; show d.count (g:Int)<=_; omega
  omega
 ·refine Qaf λz=>?_
  have:=aEK (c:=λh=>d.count (h:Int)) (a:=m / n+1) (n:=n) λg hg=>by have:=near h g hh hg; show _<=d.count (g:Int); omega
  omega
theorem aEN (hd:aX (full n m) (aV d)=true) (hb:bal n (m / n) d=true) (t:Int):ex t (aM (n:Int) d)=if t<=((m / n:Nat):Int) then (m:Int)+(n:Int)*(-t) else 0:=by
 obtain ⟨dl,dr⟩:=tH hd
 have sm:=oU dr
 rw [dl] at sm
 have e:ex t (aM (n:Int) d)=aK ((List.range n).map λ(h:Nat)=>max (((d.count (h:Int):Nat):Int) - t) 0):=by
  unfold ex aM bR
  rw [show ((n:Int)).toNat=n from Jc n,Jv,Jv]
  rfl
 have hb':=qZ.mp hb
 rw [e]
 by_cases q:t<=((m / n:Nat):Int)
 ·rw [if_pos q,bU (g:=λ(h:Nat)=>((d.count (h:Int):Nat):Int)*1+-t) λh hh=>by have:=hb' h (Jf.mp hh); omega]
  rw [gQ,wW (λh=>d.count (h:Int)) 1 n,sm,QaS]
  have:∀ k:Nat,aK ((List.range k).map λ_=>-t)=(k:Int)*-t:=λk=>by
   induction k with
   | zero=>exact (Qaq _).symm
   | succ k ih =>
    rw [Zi,Qo,dY,ih]
    show _+(-t+0)=((k:Int)+1)*-t
    rw [Yi]
    omega
  rw [this]
 ·rw [if_neg q]
  exact eD λh hh=>by have:=hb' h (Jf.mp hh); omega
theorem aFY (hn:0 < n) (hb:aS (aT (n:Int) (full n m))=true) (hd:aX (full n m) (aV hs)=true) (L:Lvl (n:Int) (full n m) hs lv) (hdd:aX (full n m) (aV d)=true):Lvl (n:Int) (full n m) d lv↔bal n (m / n) d=true :=
 ⟨λLd=>aB5 hn hdd Ld,λz=>L.same hb hd hdd λt=>by rw [aEN hdd z,aEN hd (aB5 hn hd L)]⟩
def aFZ:Nat->List (List Nat)
 | 0=>[[]]
 | k+1=>(aFZ k).flatMap λv=>[v++[0],v++[1]]
def aC4:List Nat->Nat:=λv=>v.foldr (· + ·) 0
def ks (n r:Nat):List (List Nat):=(aFZ n).filter λv=>decide (aC4 v=r)
theorem aAa:∀ (n:Nat) (f:Nat->Nat),(∀ h,h < n->f h<=1)->(List.range n).map f∈aFZ n
 | 0,_,_=>Xg _
 | n+1,f,h=>by
  rw [Zi,Qo]
  refine Wc.mpr ⟨_,aAa n f λg hg=>h g (by omega),?_⟩
  have:=h n (by omega)
  rcases (show f n=0∨f n=1 by omega) with e | e <;> (show _++[f n]∈_; rw [e]; simp)
theorem aAb:∀ (n:Nat) (v:List Nat),v∈aFZ n->v.length=n/\∀ h,v.getD h 0<=1
 | 0,v,hv=>by
  have:v = []:=Qs.mp hv
  subst this
  exact ⟨rfl,λh=>by simp⟩
 | n+1,v,hv=>by
  obtain ⟨u,hu,e⟩:=Wc.mp hv
  obtain ⟨l1,l2⟩:=aAb n u hu
  have key:∀ x:Nat,x<=1->(u++[x]).length=n+1/\∀ h,(u++[x]).getD h 0<=1:=λx hx=>by
   refine ⟨by rw [Qn,l1]; rfl,λh=>?_⟩
   rw [Qq]
   by_cases q:h < u.length
   ·rw [Qu q,<- Qq]; exact l2 h
   ·rw [Je (by omega)]
    cases z:h - u.length with
    | zero=>exact hx
    | succ k=>simp
  simp only [Qm,Qt,or_false] at e
  rcases e with rfl | rfl
  ·exact key 0 (by decide)
  ·exact key 1 (by decide)
theorem aAc (a b:List Nat):aC4 (a++b)=aC4 a+aC4 b:=by
 unfold aC4
 induction a with
 | nil=>simp
 | cons x a ih=>rw [Yz,Wh,Wh,ih]; omega
theorem nJ (f:Nat->Nat):∀ n,aC4 ((List.range n).map f)=smN f n
 | 0=>rfl
 | n+1=>by
  rw [Zi,Qo,aAc,nJ f n]
  rfl
theorem tI {v:List Nat} (h:v.length=n):(List.range n).map (λi=>v.getD i 0)=v:=by
 refine List.ext_getElem (by rw [Qb,Jz,h]) λi h1 h2=>?_
 rw [Qag,List.getElem_range,Qq,Qc h2]
 rfl
theorem wX (a:Nat) (f:Nat->Nat):∀ n,smN (λh=>a+f h) n=n*a+smN f n
 | 0=>by simp [smN]
 | n+1=>by
  show smN _ n+(a+f n)=(n+1)*a+(smN f n+f n)
  rw [wX a f n,Wp]
  omega
def aB6 (n m:Nat):Int :=
 let a:=(List.range m).foldl (λ(f:Int) (k:Nat)=>f*((k:Int)+1)) 1
 let b:=(List.range n).foldl (λ(f:Int) (h:Nat)=>(List.range (m / n+(if h < m % n then 1 else 0))).foldl (λ(f:Int) (k:Nat)=>f / ((k:Int)+1)) f) a
 let c:=(List.range (m % n)).foldl (λ(f:Int) (k:Nat)=>f*((n:Int) - (k:Int))) b
 (List.range (m % n)).foldl (λ(f:Int) (k:Nat)=>f / ((k:Int)+1)) c
def DD (n m:Nat):Nat:=pf (λh=>m / n+if h < m % n then 1 else 0) n
theorem aEO:∀ n:Fin 7,∀ r:Fin 7,(ks n.val r.val).Nodup:=by decide +kernel
theorem aH5:∀ n:Fin 6,∀ m:Fin 13,∀ v∈ks (n.val+1) (m.val % (n.val+1)),pf (λh=>m.val / (n.val+1)+v.getD h 0) (n.val+1)=DD (n.val+1) m.val:=by decide +kernel
theorem aF0:∀ n:Fin 6,∀ m:Fin 13,aB6 (n.val+1) m.val*((DD (n.val+1) m.val:Nat):Int)=(((ks (n.val+1) (m.val % (n.val+1))).length:Nat):Int)*((fct m.val:Nat):Int)/\0 < DD (n.val+1) m.val:=by decide +kernel
open Classical in
theorem aF1 (hn:0 < n) (hn6:n<=6) (hm:m<=12) (hb:aS (aT (n:Int) (full n m))=true) (hd:aX (full n m) (aV hs)=true) (L:Lvl (n:Int) (full n m) hs lv) (hlv:lv.length=n):SM (eI n lv (full n m))=aB6 n m:=by
 have hlv':lv.length=((n:Int)).toNat:=by rw [Jc]; exact hlv
 have e0:=oR hb hlv' L
 rw [Jc] at e0
 rw [e0,Zg (q:=bal n (m / n)) λd hdd=>by
  have z:=aFY hn hb hd L (eA _ _ rfl d hdd)
  rw [Xc,decide_eq_true_iff]; exact z]
 have hr:m % n < n:=Wg m hn
 have hdm:=Qar m n
 have key:=aA5 (λd:List Int=>some ((List.range n).map λ(h:Nat)=>d.count (h:Int) - m / n)) (bal n (m / n)) (cZ (full n m)) (ks n (m % n)) (aEO ⟨n,by omega⟩ ⟨m % n,by omega⟩) λd hdd hbd=>by
  refine ⟨_,?_,rfl⟩
  have hb':=qZ.mp hbd
  obtain ⟨dl,dr⟩:=tH (eA _ _ rfl d hdd)
  have sm:=oU dr
  rw [dl] at sm
  refine Jy.mpr ⟨aAa n _ λh hh=>by have:=hb' h hh; show d.count (h:Int) - m / n<=1; omega,decide_eq_true ?_⟩
  rw [nJ]
  have e:=wX (m / n) (λ(h:Nat)=>d.count (h:Int) - m / n) n
  rw [pS (c':=λ(h:Nat)=>d.count (h:Int)) λh hh=>by have:=hb' h hh; show m / n+(d.count (h:Int) - m / n)=d.count (h:Int); omega,sm] at e
  omega
 rw [<- key]
 obtain ⟨w1,w2⟩:=aF0 ⟨n - 1,by omega⟩ ⟨m,by omega⟩
 have en:n - 1+1=n:=by omega
 simp only [en] at w1 w2
 have pfs:=aH5 ⟨n - 1,by omega⟩ ⟨m,by omega⟩
 simp only [en] at pfs
 refine Int.eq_of_mul_eq_mul_right (show (((DD n m:Nat)):Int)≠0 by omega) ?_
 rw [w1,pR,bU (g:=λ_=>((fct m:Nat):Int)) λv hv=>?_]
 ·have:∀ l:List (List Nat),aK (l.map λ_=>((fct m:Nat):Int))=((l.length:Nat):Int)*((fct m:Nat):Int):=λl=>by
   induction l with
   | nil=>exact (Qaq _).symm
   | cons a l ih =>
    show _+L2.aK _=_
    rw [ih,Qx,Zn,Yi]
    show _=_+1*_
    rw [Int.one_mul,Int.add_comm]
  exact this _
 ·obtain ⟨hv1,hv2⟩:=Jy.mp hv
  obtain ⟨l1,l2⟩:=aAb n v hv1
  have sv:smN (λh=>v.getD h 0) n=m % n:=by
   rw [<- nJ,tI l1]
   exact of_decide_eq_true hv2
  have W:=aGr n m (λh=>m / n+v.getD h 0) (by rw [wX,sv,hdm])
  rw [pfs v hv] at W
  rw [<- W]
  congr 1
  unfold cW
  congr 2
  refine Zg λd hdd=>?_
  rw [Xc,Ji,decide_eq_true_iff,qZ,oT]
  constructor
  ·rintro ⟨z1,z2⟩ h hh
   have z3:=Option.some.inj z2
   have:=z1 h hh
   have z4:v.getD h 0=d.count (h:Int) - m / n:=by
    rw [<- z3,Qq,Qe,Xk hh]
    rfl
   omega
  ·intro z
   refine ⟨λh hh=>by have:=z h hh; have:=l2 h; omega,congrArg some ?_⟩
   rw [<- tI l1]
   refine Xj λh hh=>?_
   have:=z h (Jf.mp hh)
   omega
theorem aEP {n:Int} {f k:Nat} (h:cE n (bM l)=true) (hf:f < l.length) (hk:0 < k):cE n (bM ((l.drop f).take k))=true:=by
 obtain ⟨a,b,c⟩:=bH h
 refine iE (λz=>?_) (λx hx=>b x (Wf (Xv hx))) ((c.drop).take)
 have:=congrArg Zy z
 rw [Qw,Jq] at this
 simp at this
 omega
theorem jV (f:α->Nat->α) (a:α) (i:Nat):(List.range (i+1)).foldl f a=f ((List.range i).foldl f a) i:=by rw [Zi,Zf]; rfl
theorem aEQ (xs:List V) (f k:Nat):nN xs (some (f:Int)) (some ((f:Int)+(k:Int)))=(xs.drop f).take k:=by
 unfold nN
 rw [show (f:Int)+(k:Int)=((f+k:Nat):Int) by omega,HT.sIx_nat,HT.sIx_nat]
 by_cases h:f<=xs.length
 ·rw [Wj h]
  by_cases h2:f+k<=xs.length
  ·rw [Wj h2,Nat.add_sub_cancel_left]
  ·rw [Yg (by omega),Jm (by rw [Jq]; exact Qg _),Jm (by rw [Jq]; omega)]
 ·rw [Yg (by omega),Yg (by omega),QaQ,Ye,Yp (by omega),List.take_nil]
def aAd (K:Rc):Sp:=λvs H Q _=>∃ (p:Addr) (r:List Int) (a:Int),vs = [.ref p]/\SqT K H p (r.map V.int)/\(r = [a]∨r = [a,a+1])/\Q (.bl true) H
theorem aER:FnScope ["row"] ["row"] (aH qR):=⟨rfl,rfl,rfl,by decide +kernel,rfl,by decide +kernel,by decide +kernel⟩
theorem aC5 (G:Fn K mg "_law_b_follow" qR ["row"] f fd) (B:Bl mg):FnOk P w K mg base CX0 1 f fd ["row"] (aAd K):=by
 refine G.fn.ok aER (λvs H Q E h=>?_) (λcdv A outer s H vs Q E hr h=>?_)
 ·obtain ⟨p,r,a,rfl,_⟩:=h
  rfl
 ·obtain ⟨p,r,a,rfl,hp,hr',k⟩:=h
  refine ⟨_,(aI (aW (aHn (cP gH (aP bC rfl B.len fV (aA (pv 0) aC)) aG (bE _)) (kU (kW (cP gH (aP bC rfl B.len fV (aA (pv 0) aC)) aG (bE _)) (kU (cP gH (bA bT (pv 0) aG (λ_ _=>rfl)) (aY bY (bA bT (pv 0) aG (λ_ _=>rfl)) aG) (bE _)))))))),?_⟩
  rcases hr' with rfl | rfl
  ·refine ⟨_,rfl,p,_,rfl,.inr hp,rfl,_,rfl,dJ (λ_=>k) λz=>absurd rfl z⟩
  ·refine ⟨_,rfl,p,_,rfl,.inr hp,rfl,_,rfl,dJ (λz=>absurd (show false=true from z) Qr) λ_=>?_⟩
   refine ⟨_,rfl,p,_,rfl,.inr hp,rfl,_,rfl,dJ (λ_=>?_) λz=>absurd rfl z⟩
   refine ⟨_,rfl,p,_,1,.int (a+1),rfl,rfl,hp,rfl,_,rfl,p,_,0,.int a,rfl,rfl,hp,rfl,_,_,rfl,rfl,rfl,?_⟩
   rw [decide_eq_true (show V.int (a+1)=V.int (a+1) from rfl)]
   exact k
def aGs (K:Rc):Sp:=λvs H Q _=>∃ (x:V) (n mo:Int) (ws:List (List Int)),vs = [x,.int mo]/\1<=mo/\mo<=1000/\Den K H (aT n ws) x/\aS (aT n ws)=true/\∀ (p:Addr) (us:List (List Int)) H',aE H H'->Den K H' (aT n us) (.ref p)->aS (aT n us)=true->Q (.ref p) H'
theorem vI:FnScope ["book", "most", "wide", "works", "at", "able", "first"] ["book", "most"] (aH aFA):=⟨rfl,rfl,rfl,by decide +kernel,rfl,by decide +kernel,by decide +kernel⟩
set_option maxHeartbeats 2000000 in
theorem aHe (G:Fn K mg "_law_b_cut" aFA ["book", "most"] f fd) (B:Bl mg):FnOk P w K mg base CX0 1 f fd ["book", "most"] (aGs K):=by
 refine G.fn.ok vI (λvs H Q E h=>?_) (λcdv A outer s H vs Q E hr h=>?_)
 ·obtain ⟨x,n,mo,ws,rfl,_⟩:=h
  rfl
 ·obtain ⟨x,n,mo,ws,rfl,hm1,hm2,hx,hbk,k⟩:=h
  refine ⟨_,(aD (aL (i:=2) vI.nd rfl (Or.inl rfl) (aP (uG rfl) rfl B.max aGk (aA aG (aA (aY qJ (pv 1) (aP (uG rfl) rfl B.max aGk (aA aG (aA (aP bC rfl B.len fV (aA (bA bT (pv 0) aG (λ_ _=>rfl)) aC)) aC)))) aC))))
  (aD (aL (i:=3) vI.nd rfl (Or.inl rfl) (fO aC))
  (aD (eC PassesOwn.never rfl (aBn .t rfl B.enumerate (aA (bA bT (pv 0) aG (λ_ _=>rfl)) aC)) (fX rfl (aZ (aJ (i:=4) vI.nd rfl (Or.inl rfl)) (aZ (aJ (i:=5) vI.nd rfl (Or.inl rfl)) dP)))
   (aD (aL (i:=6) vI.nd rfl (Or.inl rfl) (aGR (aDf (bJ aBe (aP bC rfl B.len fV (aA (pv 5) aC)) (pv 2) (bE _)) (aY jE (pv 4) (aY bY (aY aAj (aP bC rfl B.len fV (aA (pv 5) aC)) (pv 2)) aG)) aG)))
  (aI (eT (kY Rt Rx Ry gL (pv 3) (aA (fZ aBm (pv 5) (gT (pv 6)) (gT (aY bY (pv 6) (pv 2)))) aC))))))
  (aI (aW (dI (aA (bA bT (pv 0) aG (λ_ _=>rfl)) (aA (bK bQ rfl B.tuple cJ (aA (pv 3) aC)) aC)))))))),?_⟩
  obtain ⟨hn1,hn6,hw12,hws⟩:=bF hbk
  obtain ⟨ba,bb,ys,rfl,ha,hb2,hys⟩:=cU hx
  have hlw:=aQ hys
  rw [Qb] at hlw
  refine ⟨_,rfl,_,rfl,ba,_,1,.ref bb,rfl,rfl,ha,rfl,bb,_,rfl,.inr hb2,_,_,rfl,_,_,rfl,rfl,⟨?_,?_⟩,_,_,rfl,?_⟩
  ·split <;> omega
  ·split <;> omega
  dsimp only [cO]
  generalize hwd:(if _ > (1:Int) then _ else (1:Int))=wide
  have hw1:1<=wide:=by rw [<- hwd]; split <;> omega
  refine ⟨eG (Jn _),λwl hwl=>?_⟩
  have s1:=aE.new (o:=.lst []) hwl
  have e1:upd H wl (.lst []) wl=some (.lst []):=aB
  generalize upd H wl (.lst [])=H1 at s1 e1 ⊢
  dsimp only [cO]
  refine ⟨_,rfl,ba,_,1,.ref bb,rfl,rfl,s1.seqT ha,rfl,bb,_,rfl,s1.seqT hb2,yA (K:=K) (k:=.t) (a:=bb) (xs:=ys) (λi σ H3=>(∃ v4 v5 v6,σ = [some (.ref ba),some (.int mo),some (.int wide),some (.ref wl),v4,v5,v6])/\aE H H3/\∃ (us:List (List Int)) (zs:List V),H3 wl=some (.lst zs)/\us.length=i/\(∀ l∈us,cE n (bM l)=true)/\bG K H3 (us.map bM) zs) ⟨⟨_,_,_,rfl⟩,s1,[],[],e1,rfl,λl hl=>(by cases hl),aU.mpr rfl⟩ (λi σ H3 _ h=>h.2.1.seqT hb2) ?_ ?_⟩
  ·rintro i y q σ H3 hy ⟨⟨v4,v5,v6,rfl⟩,s3,us,zs,e3,hul,hus,d3⟩ hq
   have hi:i < ys.length:=(Qd.mp hy).1
   obtain ⟨dv,hdv,denv⟩:=cT (s3.denAll _ _ hys) hy
   rw [Qe] at hdv
   obtain ⟨l,hl,rfl⟩:∃ l,ws[i]?=some l/\bM l=dv:=by
    cases q:ws[i]? with
    | none=>rw [q] at hdv; cases hdv
    | some l=>rw [q] at hdv; exact ⟨l,rfl,Option.some.inj hdv⟩
   obtain ⟨pw,rfl,hpw⟩:=aO.mp denv
   have hwk:=hws l (Qj hl)
   obtain ⟨w1,w2,w3⟩:=bH hwk
   have hl6:=eK (by omega) w2 w3
   have hl0:=Zu.mpr w1
   have s4:=aE.new (o:=.tup [.int (i:Nat),.ref pw]) hq
   have t4:upd H3 q (.tup [.int (i:Nat),.ref pw]) q=some (.tup [.int (i:Nat),.ref pw]):=aB
   have e4:=s4 _ _ e3
   have hp4:=s4.seqT hpw
   have d4:=s4.denAll _ _ d3
   have s14:=s3.trans s4
   generalize upd H3 q (.tup [.int (i:Nat),.ref pw])=H4 at s4 t4 e4 hp4 d4 s14 ⊢
   refine ⟨q,_,rfl,SqT.of t4,rfl,_,_,rfl,_,_,rfl,rfl,?_⟩
   dsimp only [cO]
   refine ⟨λv H'=>∃ f:Nat,v=.int f/\f < l.length/\H'=H4,⟨_,rfl,pw,_,rfl,.inr hp4,_,rfl,_,_,rfl,rfl,_,rfl,dJ (λc1=>?_) λ_=>⟨0,rfl,hl0,rfl⟩⟩,?_⟩
   ·have c2:wide < (((l.map V.int).length:Nat):Int):=of_decide_eq_true c1
    rw [Qb] at c2
    refine ⟨_,rfl,_,rfl,pw,_,rfl,.inr hp4,_,rfl,_,_,rfl,rfl,_,_,rfl,rfl,_,_,rfl,rfl,?_,?_⟩
    ·rw [Qb]; omega
    ·rw [Qb]
     have a0:=Xo (i:Int) (b:=(l.length:Int) - wide+1) (by omega)
     have a1:=Xh (i:Int) (b:=(l.length:Int) - wide+1) (by omega)
     exact ⟨((i:Int) % ((l.length:Int) - wide+1)).toNat,by rw [show ((((i:Int) % ((l.length:Int) - wide+1)).toNat:Nat):Int)=(i:Int) % ((l.length:Int) - wide+1) by omega],by omega,rfl⟩
   ·rintro v H' ⟨ff,rfl,hff,rfl⟩
    obtain ⟨wn,rfl⟩:∃ wn:Nat,wide=(wn:Int):=⟨wide.toNat,by omega⟩
    refine ⟨_,rfl,.inl ⟨rfl,_,SqL.of e4⟩,_,rfl,_,rfl,_,rfl,_,rfl,_,rfl,_,_,rfl,rfl,_,rfl,pw,_,rfl,hp4,λr5 H5 s5 g5=>?_⟩
    rw [aEQ] at g5
    refine ⟨wl,zs,.ref r5,rfl,rfl,s5 _ _ e4,by rw [aQ d4,Qb,Rf]; omega,⟨_,_,_,rfl⟩,λb u hu=>?_,us++[(l.drop ff).take wn],zs++[.ref r5],aB,by rw [Qn,hul]; rfl,λm hm=>?_,?_⟩
    ·rw [aF (λz=>by rw [z,hwl] at hu; cases hu)]
     exact (s14.trans s5) _ _ hu
    ·rcases Jg.mp hm with z | z
     ·exact hus m z
     ·rw [Qs.mp z]
      exact aEP hwk hff (by omega)
    ·have bb':But wl H5 (upd H5 wl (.lst (zs++[.ref r5]))):=But.at
     have e5:=s5 _ _ e4
     rw [Qo]
     refine cI (bb'.denAll e5 _ _ (cM _ cN us) (s5.denAll _ _ d4)) (aN.mpr ⟨_,[],rfl,bb'.den e5 _ _ (cN _) (aO.mpr ⟨r5,rfl,?_⟩),aU.mpr rfl⟩)
     rw [Ym,Yn]
     exact g5
  ·rintro σ H3 ⟨⟨v4,v5,v6,rfl⟩,s3,us,zs,e3,hul,hus,d3⟩
   dsimp only
   refine ⟨_,rfl,ba,_,0,.int n,rfl,rfl,s3.seqT ha,rfl,_,rfl,wl,zs,rfl,.inl ⟨SqL.of e3,λtq htq=>⟨sz2 _ _,λp hp=>?_⟩⟩⟩
   have s4:=(aE.new (o:=.tup zs) htq).trans (aE.new (o:=.tup [.int n,.ref tq]) hp)
   have s5:=aE.new (o:=.tup [.int n,.ref tq]) hp
   exact k p us _ (s3.trans s4) (mJ (SqT.of aB) (s5.seqT (SqT.of aB)) (s4.denAll _ _ d3)) (oG hn1 hn6 (by omega) hus)
def aES (K:Rc):Sp:=λvs H Q _=>∃ (n m:Nat),vs = [.int n,.int m]/\0 < n/\n<=6/\m<=12/\Q (.int (aB6 n m)) H
theorem gS:FnScope ["hands", "works", "each", "more", "found", "k", "hand"] ["hands", "works"] (aH aBD):=⟨rfl,rfl,rfl,by decide +kernel,rfl,by decide +kernel,by decide +kernel⟩
set_option maxHeartbeats 2000000 in
theorem aF2 (G:Fn K mg "_law_b_ways_to_choose" aBD ["hands", "works"] f fd) (B:Bl mg):FnOk P w K mg base CX0 1 f fd ["hands", "works"] (aES K):=by
 refine G.fn.ok gS (λvs H Q E h=>?_) (λcdv A outer s H vs Q E hr h=>?_)
 ·obtain ⟨n,m,rfl,_⟩:=h
  rfl
 ·obtain ⟨n,m,rfl,hn,hn6,hm,k⟩:=h
  refine ⟨_,(aD (aL (i:=2) gS.nd rfl (Or.inl rfl) (aY qJ (pv 1) (pv 0)))
  (aD (aL (i:=3) gS.nd rfl (Or.inl rfl) (aY jE (pv 1) (pv 0)))
  (aD (aL (i:=4) gS.nd rfl (Or.inl rfl) aG)
  (aD (eC PassesOwn.never rfl (cC rfl B.range (aA (pv 1) aC)) (aJ (i:=5) gS.nd rfl (Or.inl rfl))
   (aI (aL (i:=4) gS.nd rfl (Or.inl rfl) (aY hX (pv 4) (aY bY (pv 5) aG)))))
  (aD (eC PassesOwn.never rfl (cC rfl B.range (aA (pv 0) aC)) (aJ (i:=6) gS.nd rfl (Or.inl rfl))
   (aI (eC PassesOwn.never rfl (cC rfl B.range (aA (aY bY (pv 2) (bK aCf rfl B.int aGl (aA (cP xG (pv 6) (pv 3) (bE _)) aC))) aC)) (aJ (i:=5) gS.nd rfl (Or.inl rfl))
   (aI (aL (i:=4) gS.nd rfl (Or.inl rfl) (aY qJ (pv 4) (aY bY (pv 5) aG)))))))
  (aD (eC PassesOwn.never rfl (cC rfl B.range (aA (pv 3) aC)) (aJ (i:=5) gS.nd rfl (Or.inl rfl))
   (aI (aL (i:=4) gS.nd rfl (Or.inl rfl) (aY hX (pv 4) (aY aAj (pv 0) (pv 5))))))
  (aD (eC PassesOwn.never rfl (cC rfl B.range (aA (pv 3) aC)) (aJ (i:=5) gS.nd rfl (Or.inl rfl))
   (aI (aL (i:=4) gS.nd rfl (Or.inl rfl) (aY qJ (pv 4) (aY bY (pv 5) aG)))))
  (aI (aW (pv 4)))))))))),?_⟩
  refine ⟨_,rfl,_,rfl,_,_,rfl,rfl,⟨by omega,by omega⟩,_,rfl,_,rfl,_,_,rfl,rfl,(show (0:Int) < (n:Int) by omega),?_⟩
  dsimp only [cO]
  have hdn:((m:Int) / (n:Int))=((m / n:Nat):Int):=by simp
  have hmn:((m:Int) % (n:Int))=((m % n:Nat):Int):=by simp
  rw [hdn,hmn]
  have hmr:m % n < n:=Wg m hn
  have hdm:m / n<=12:=Jl (Nat.div_le_self ..) hm
  refine ⟨_,rfl,m,rfl,by omega,by omega,eU (lo:=0) (n:=m) (λi σ H2=>H2=H/\∃ v5 v6,σ = [some (.int n),some (.int m),some (.int ((m / n:Nat):Int)),some (.int ((m % n:Nat):Int)),some (.int ((List.range i).foldl (λ(f:Int) (k:Nat)=>f*((k:Int)+1)) 1)),v5,v6]) ⟨rfl,_,_,rfl⟩ ?_ ?_⟩
  ·rintro i σ H2 hi ⟨rfl,v5,v6,rfl⟩
   rw [Xp]
   exact ⟨_,rfl,_,rfl,_,_,rfl,rfl,_,_,rfl,rfl,.inr ⟨by omega,by omega⟩,rfl,_,_,by rw [jV]; rfl⟩
  ·rintro σ H2 ⟨rfl,v5,v6,rfl⟩
   dsimp only
   generalize hA:(List.range m).foldl (λ(f:Int) (k:Nat)=>f*((k:Int)+1)) 1=A
   refine ⟨_,rfl,n,rfl,by omega,by omega,eU (lo:=0) (n:=n) (λi σ H3=>H3=H2/\∃ v5 v6,σ = [some (.int n),some (.int m),some (.int ((m / n:Nat):Int)),some (.int ((m % n:Nat):Int)),some (.int ((List.range i).foldl (λ(f:Int) (h:Nat)=>(List.range (m / n+(if h < m % n then 1 else 0))).foldl (λ(f:Int) (k:Nat)=>f / ((k:Int)+1)) f) A)),v5,v6]) ⟨rfl,_,_,rfl⟩ ?_ ?_⟩
   ·rintro i σ H3 hi ⟨rfl,v5,v6,rfl⟩
    rw [Xp]
    generalize hF:(List.range i).foldl (λ(f:Int) (h:Nat)=>(List.range (m / n+(if h < m % n then 1 else 0))).foldl (λ(f:Int) (k:Nat)=>f / ((k:Int)+1)) f) A=F
    refine ⟨_,rfl,_,rfl,_,rfl,_,_,rfl,rfl,.inr ⟨_,rfl,_,_,rfl,rfl,((m / n+(if i < m % n then 1 else 0):Nat):Int),?_,?_,?_,eU (lo:=0) (n:=m / n+(if i < m % n then 1 else 0)) (λj σ H4=>H4=H3/\∃ v5,σ = [some (.int n),some (.int m),some (.int ((m / n:Nat):Int)),some (.int ((m % n:Nat):Int)),some (.int ((List.range j).foldl (λ(f:Int) (k:Nat)=>f / ((k:Int)+1)) F)),v5,some (.int (i:Int))]) ⟨rfl,_,rfl⟩ ?_ ?_⟩⟩
    ·by_cases c:i < m % n
     ·rw [if_pos c,decide_eq_true (show (i:Int) < ((m % n:Nat):Int) by omega),if_pos rfl]; rfl
     ·rw [if_neg c,decide_eq_false (show ¬ (i:Int) < ((m % n:Nat):Int) by omega),if_neg Qr]; rfl
    ·exact QaR (by decide) (Int.natCast_nonneg _)
    ·split <;> omega
    ·rintro j σ H4 hj ⟨rfl,v5,rfl⟩
     rw [Xp]
     have:j < 14:=by split at hj <;> omega
     exact ⟨_,rfl,_,rfl,_,_,rfl,rfl,_,_,rfl,rfl,⟨by omega,by omega⟩,rfl,_,by rw [jV]; rfl⟩
    ·rintro σ H4 ⟨rfl,v5,rfl⟩
     exact ⟨rfl,_,_,by rw [jV,hF]⟩
   ·rintro σ H3 ⟨rfl,v5,v6,rfl⟩
    dsimp only
    generalize hB:(List.range n).foldl (λ(f:Int) (h:Nat)=>(List.range (m / n+(if h < m % n then 1 else 0))).foldl (λ(f:Int) (k:Nat)=>f / ((k:Int)+1)) f) A=Bb
    refine ⟨_,rfl,((m % n:Nat):Int),rfl,by omega,by omega,eU (lo:=0) (n:=m % n) (λi σ H4=>H4=H3/\∃ v5 v6,σ = [some (.int n),some (.int m),some (.int ((m / n:Nat):Int)),some (.int ((m % n:Nat):Int)),some (.int ((List.range i).foldl (λ(f:Int) (k:Nat)=>f*((n:Int) - (k:Int))) Bb)),v5,v6]) ⟨rfl,_,_,rfl⟩ ?_ ?_⟩
    ·rintro i σ H4 hi ⟨rfl,v5,v6,rfl⟩
     rw [Xp]
     exact ⟨_,rfl,_,rfl,_,rfl,_,_,rfl,rfl,_,_,rfl,rfl,.inr ⟨by omega,by omega⟩,rfl,_,_,by rw [jV]; rfl⟩
    ·rintro σ H4 ⟨rfl,v5,v6,rfl⟩
     dsimp only
     generalize hC:(List.range (m % n)).foldl (λ(f:Int) (k:Nat)=>f*((n:Int) - (k:Int))) Bb=Cc
     refine ⟨_,rfl,((m % n:Nat):Int),rfl,by omega,by omega,eU (lo:=0) (n:=m % n) (λi σ H5=>H5=H4/\∃ v5 v6,σ = [some (.int n),some (.int m),some (.int ((m / n:Nat):Int)),some (.int ((m % n:Nat):Int)),some (.int ((List.range i).foldl (λ(f:Int) (k:Nat)=>f / ((k:Int)+1)) Cc)),v5,v6]) ⟨rfl,_,_,rfl⟩ ?_ ?_⟩
     ·rintro i σ H5 hi ⟨rfl,v5,v6,rfl⟩
      rw [Xp]
      exact ⟨_,rfl,_,rfl,_,_,rfl,rfl,_,_,rfl,rfl,⟨by omega,by omega⟩,rfl,_,_,by rw [jV]; rfl⟩
     ·rintro σ H5 ⟨rfl,v5,v6,rfl⟩
      refine ⟨_,rfl,?_⟩
      unfold aB6 at k
      dsimp only at k
      rw [hA,hB,hC] at k
      exact k
end Ab
namespace L2
open PySem PySem.Spec PyProof.Rows
theorem wY (hK:X.K=K):dF X (.builtin "sorted") (λxs H Q=>∃ (a:Addr) (ns:List Int),xs = [.ref a]/\(SqL K H a (ns.map V.int)∨SqT K H a (ns.map V.int))/\ns.length < 64 /\
  ∀ (p:Addr) (ms:List Int),H p=none->ms.Perm ns->ms.Pairwise (·<=·)->Q (.ref p) (upd H p (.lst (ms.map V.int)))):=by subst hK; exact xQ
end L2
namespace Ab
open PySem L2
theorem pT:∀ {qs rs:List Addr} {p:Nat->Int->Prop},qs.length=rs.length->(∀ j x,p j x->0<=x/\x < 1000)->(∀ (j:Nat) q,qs[j]?=some q->∃ r,H q=some (.tup (r.map V.int))/\Ris r (p j))->(∀ (j:Nat) q,rs[j]?=some q->∃ r,H q=some (.tup (r.map V.int))/\Ris r (p j))->∃ rr:List (List Int),rr.length=qs.length/\(∀ r∈rr,r.length<=1000)/\bG K H (rr.map bM) (qs.map V.ref)/\bG K H (rr.map bM) (rs.map V.ref)
 | [],[],_,_,_,_,_=>⟨[],rfl,λ_ h=>(by cases h),aU.mpr rfl,aU.mpr rfl⟩
 | [],_::_,_,hl,_,_,_=>by simp at hl
 | _::_,[],_,hl,_,_,_=>by simp at hl
 | q::qs,r::rs,p,hl,hp,h1,h2=>by
  obtain ⟨rr,a,z,b,c⟩:=pT (qs:=qs) (rs:=rs) (p:=λj=>p (j+1)) (by simpa using hl) (λj=>hp (j+1)) (λj x h=>h1 (j+1) x (by simpa using h)) (λj x h=>h2 (j+1) x (by simpa using h))
  obtain ⟨u,hu,ru⟩:=h1 0 q rfl
  obtain ⟨v,hv,rv⟩:=h2 0 r rfl
  obtain rfl:=ru.uniq rv
  have:=eK (n:=1000) (by decide) (λx hx=>hp 0 x ((ru.2 x).mp hx)) ru.1
  exact ⟨u::rr,by rw [Qx,a]; rfl,λr h=>by rcases Qm.mp h with rfl | h; omega; exact z r h,aN.mpr ⟨_,_,rfl,aO.mpr ⟨q,rfl,SqT.of hu⟩,b⟩,aN.mpr ⟨_,_,rfl,aO.mpr ⟨r,rfl,SqT.of hv⟩,c⟩⟩
theorem oV:∀ L:List (List Int),PyData.eqvAll (L.map bM) (L.map bM)=true
 | []=>by unfold List.map PyData.eqvAll; rfl
 | l::r=>by
  rw [Qz,PyData.eqvAll,oV r]
  have:PyData.eqv (bM l) (bM l)=true:=by unfold bM; rw [uY]; simp
  rw [this]; rfl
theorem vJ (L:List (List Int)):PyData.eqv (.list (L.map bM)) (.list (L.map bM))=true:=by rw [PyData.eqv,oV]
theorem aC6 (m:Nat):bR (m+1)=bR m++[(m:Int)]:=by unfold bR; rw [Zi,Qo]; rfl
def aHf:Scope:=match (eV iD).getD 2 (.Pass ⟨0,0,0,0⟩) with
 | .Assign _ (.Call _ [.ListComp _ _ sc _] _ _) _=>sc
 | _=>aH iD
def qD (H:Hp) (h:Addr) (n:Int) (ws:List (List Int)) (lv:List Int):Prop:=∃ qs:List Addr,H h=some (.lst (qs.map V.ref))/\qs.length=n.toNat/\∀ (j:Nat) q,qs[j]?=some q->∃ r,H q=some (.tup (r.map V.int))/\Ris r (Hv n ws lv j)
theorem qD.same {h:Addr} {n:Int} (t:qD H h n ws lv) (s:aE H H'):qD H' h n ws lv:=by
 obtain ⟨qs,a,b,c⟩:=t
 refine ⟨qs,s _ _ a,b,λj q hq=>?_⟩
 obtain ⟨r,h1,h2⟩:=c j q hq
 exact ⟨r,s _ _ h1,h2⟩
theorem qD.but {h t:Addr} {n:Int} (o:qD H h n ws lv) (T:gG K H t a ns) (b:But t H H'):qD H' h n ws lv:=by
 obtain ⟨qs,h1,h2,h3⟩:=o
 obtain ⟨⟨p,q,_,ht⟩,_⟩:=T
 refine ⟨qs,b _ _ (λz=>?_) h1,h2,λj q' hq=>?_⟩
 ·rw [z,ht] at h1
  match qs,h1 with
  | [],h1=>cases h1
  | [_],h1=>cases h1
  | _::_::_,h1=>cases h1
 ·obtain ⟨r,g1,g2⟩:=h3 j q' hq
  exact ⟨r,b _ _ (λz=>by rw [z,ht] at g1; cases g1) g1,g2⟩
theorem aET {n:Int} (hb:aS (aT n ws)=true) {x:Int} (h:Hv n ws lv j x):0<=x/\x < 1000:=by
 obtain ⟨d,d1,_,rfl⟩:=h
 have a:=(aR d1).1
 have b:=Qau (a:=(j:Int)) (l:=d)
 have c:=(bF hb).2.2.1
 omega
def aAe (K:Rc) (Pt:Addr):Sp:=λvs H Q _=>∃ (t a h:Addr) (ns:List Int) (x:V) (n:Int) (ws:List (List Int)) (hs lv:List Int),vs = [.ref t,x,.ref h]/\gG K H t a ns/\Den K H (aT n ws) x/\aS (aT n ws)=true/\H Pt=some (.tab mQ)/\aX ws (aV hs)=true/\Lvl n ws hs lv/\qD H h n ws lv/\∀ H',But t H H'->gG K H' t a ns->Q (.bl true) H'
theorem lZ:FnScope ["tape", "book", "have", "called", "k", "works", "found"] ["tape", "book", "have"] (aH iD):=⟨rfl,rfl,rfl,by decide +kernel,rfl,by decide +kernel,by decide +kernel⟩
set_option maxHeartbeats 2000000 in
theorem aC7 (G:Fn K mg "_law_b_called_right" iD ["tape", "book", "have"] f fd) (B:Bl mg) (GD:Fn K mg "_law_b_digit" nF ["tape", "many"] fD fdD) (OD:FnOk P w K mg base CX0 2 fD fdD ["tape", "many"] (mG K)) (GMh:Fn K mg "may_have" fF ["book"] fMh dMh) (OMh:FnOk P w K mg base CX0 13 fMh dMh ["book"] (jT K Pt)):FnOk P w K mg base CX0 14 f fd ["tape", "book", "have"] (aAe K Pt):=by
 refine G.fn.ok lZ (λvs H Q E h=>?_) (λcdv A outer s H vs Q E hr h=>?_)
 ·obtain ⟨t,a,h,ns,x,n,ws,hs,lv,rfl,_⟩:=h
  rfl
 ·obtain ⟨t,a,h,ns,x,n,ws,hs,lv,rfl,T,hx,hbk,hP,hd,L,hT,k⟩:=h
  have r2:Room 2 _:=hr.mono (by decide)
  have r13:Room 13 _:=hr
  refine ⟨_,(aD (aL (i:=3) lZ.nd rfl (Or.inr rfl) (fO aC))
  (aD (eC PassesOwn.never rfl (cC rfl B.range (aA (bA bT (pv 1) aG (λ_ _=>rfl)) aC)) (aJ (i:=4) lZ.nd rfl (Or.inl rfl))
   (aI (eT (kY Rt PySem.F.slot_list_insert PySem.F.type_list_insert aCJ (pv 3) (aA (bB GD OD r2 rfl (aA (pv 0) (aA (aY bY (pv 4) aG) aC))) (aA (pv 4) aC))))))
  (aD (aL (i:=5) lZ.nd rfl (Or.inl rfl) (bK bQ rfl B.tuple cJ (aA (bX (own:=["able"]) (fr:=[3]) (frn:=["called"]) (bD (aH iD) ["tape", "book", "have", "called", "k", "works", "found"] rfl rfl (by decide +kernel)) rfl (fY (bA bT (pv 1) aG (λ_ _=>rfl)))
    (λ_ _ _ _=>(aJ (i:=0) (show (["able", "called"]:List Str).Nodup by decide +kernel) rfl (Or.inl rfl))) (λ_ _ _ _=>dM)
    (λ_ _ _ _=>(bK (sD (K:=K) rfl) rfl B.tuple cJ (aA (aP (wY (K:=K) rfl) rfl B.sorted nY (aA (bX (own:=["hand"]) (fr:=[1]) (frn:=["called"]) (bD (aGQ aHf (aH iD)) ["able", "called"] rfl rfl (by decide +kernel)) rfl (aFP (K:=K) rfl (pv 0))
    (λ_ _ _ _=>(aJ (i:=0) (show (["hand", "called"]:List Str).Nodup by decide +kernel) rfl (Or.inl rfl))) (λ_ _ _ _=>dM)
    (λ_ _ _ _=>(bA (lJ (K:=K) rfl) (pv 1) (pv 0) (λ_ _=>rfl)))) aC)) aC)))) aC)))
  (aD (aL (i:=6) lZ.nd rfl (Or.inr rfl) (bB GMh OMh r13 rfl (aA (dI (aA (bA bT (pv 1) aG (λ_ _=>rfl)) (aA (pv 5) aC))) aC)))
  (aI (aW (cP (rJ hr.u64) (bX (own:=["hand"]) (fr:=[3,6]) (frn:=["called", "found"]) (bD (aH iD) ["tape", "book", "have", "called", "k", "works", "found"] rfl rfl (by decide +kernel)) rfl (cC rfl B.range (aA (bA bT (pv 1) aG (λ_ _=>rfl)) aC))
    (λ_ _ _ _=>(aJ (i:=0) (show (["hand", "called", "found"]:List Str).Nodup by decide +kernel) rfl (Or.inl rfl))) (λ_ _ _ _=>dM)
    (λ_ _ _ _=>(bA (lJ (K:=K) rfl) (pv 2) (bA (lJ (K:=K) rfl) (pv 1) (pv 0) (λ_ _=>rfl)) (λ_ _=>rfl)))) (pv 2) (bE _)))))))),?_⟩
  obtain ⟨hn1,hn6,hw12,hws⟩:=bF hbk
  have nPt:Pt≠t:=λz=>by obtain ⟨⟨_,_,_,ht⟩,_⟩:=T; rw [z,ht] at hP; cases hP
  refine ⟨eG (show 0<=1000 by decide),λcp hcp=>?_⟩
  have nct:cp≠t:=T.ne hcp
  have Fc:Far K a cp ns:=aEf T.2 hcp
  have s1:=aE.new (o:=.lst []) hcp
  have T1:=T.same s1
  have c1:upd H cp (.lst []) cp=some (.lst (([]:List Int).map V.int)):=aB
  have b01:But t H (upd H cp (.lst [])):=But.of s1
  generalize upd H cp (.lst [])=H1 at s1 T1 c1 b01 ⊢
  obtain ⟨ba,bb,ys,rfl,ha,hb2,hys⟩:=cU hx
  have hlw:=aQ hys
  rw [Qb] at hlw
  dsimp only [cO]
  refine ⟨_,rfl,ba,_,0,.int n,rfl,rfl,s1.seqT ha,rfl,n,rfl,by omega,by omega,eU (lo:=0) (n:=n.toNat) (λi σ H5=>∃ (c:List Int) (v4 v5 v6:Option V),σ = [some (.ref t),some (.ref ba),some (.ref h),some (.ref cp),v4,v5,v6]/\c.Perm (bR i)/\H5 cp=some (.lst (c.map V.int))/\gG K H5 t a ns/\But t H H5)
   ⟨[],_,_,_,rfl,List.Perm.refl _,c1,T1,b01⟩ ?_ ?_⟩
  ·rintro i σ H5 hi ⟨c,v4,v5,v6,rfl,hc,c5,T5,b5⟩
   have hcl:c.length=i:=by rw [hc.length_eq,cK]
   rw [show (0:Int)+(i:Int)=(i:Int) by omega]
   refine ⟨_,rfl,.inl ⟨rfl,_,SqL.of c5⟩,_,rfl,_,rfl,_,_,rfl,rfl,t,a,ns,(i:Int)+1,rfl,T5,by omega,by omega,λr H6 hr0 hr1 b6 T6=>?_⟩
   have c6:=b6 _ _ nct c5
   refine ⟨_,rfl,cp,_,r,_,rfl,rfl,c6,hr0,by rw [Qb]; omega,by rw [Qb,Rf]; omega,?_⟩
   rw [show (c.map V.int).take r.toNat++V.int (i:Int)::(c.map V.int).drop r.toNat=(c.take r.toNat++(i:Int)::c.drop r.toNat).map V.int by rw [Qo,Qz,Ym,Yn]]
   have b7:But cp H6 (upd H6 cp (.lst ((c.take r.toNat++(i:Int)::c.drop r.toNat).map V.int))):=But.at
   refine ⟨_,_,_,_,rfl,?_,aB,T6.wr b7 (Ne.symm nct) Fc,λz o nz hz=>?_⟩
   ·rw [aC6]
    exact (aEI c (i:Int) r.toNat).trans (hc.append_right _)
   ·rw [aF (λe=>by rw [e,hcp] at hz; cases hz)]
    exact (b5.trans b6) z o nz hz
  ·rintro σ H5 ⟨c,v4,v5,v6,rfl,hc,c5,T5,b5⟩
   have hcl:c.length=n.toNat:=by rw [hc.length_eq,cK]
   have hx5:=T.den b5 (lR n ws) hx
   have ha5:=T.seqT b5 ha
   have hb5:=T.seqT b5 hb2
   obtain ⟨⟨p0,q0,_,ht0⟩,_⟩:=id T
   have hys5:=b5.denAll ht0 _ _ (cM _ cN ws) hys
   have hT5:=hT.but T b5
   have callAt:∀ (g:Int),0<=g->g < n->atI (c.map V.int) g=some (.int (bN c g)):=λg g0 g1=>by
    have hlt:g.toNat < c.length:=by omega
    have e:=cH (xs:=c.map V.int) (j:=g.toNat) (v:=.int (bN c g)) (by unfold bN; rw [Qe,Qq,Qc hlt]; rfl)
    rwa [show ((g.toNat:Nat):Int)=g by omega] at e
   dsimp only
   refine ⟨_,rfl,ba,_,1,.ref bb,rfl,rfl,ha5,rfl,bb,rfl,⟨_,hb5⟩,gY (K:=K) (a:=bb) (xs:=ys) (λσ=>∃ v,σ = [v,some (.ref cp)]) (λi zs H6=>aE H5 H6/\bG K H6 (((ws.take i).map (eJ n c)).map bM) zs) (eG (by omega)) ⟨none,rfl⟩ ⟨aE.refl _,aU.mpr rfl⟩ (λi zs _ z=>by rw [aQ z.2,Qb,Qb]; exact Wl ..) (λ_ _ _ z=>z.1.seqT hb5) ?_ ?_⟩
   ·rintro i zs σ u H6 hu ⟨v,rfl⟩ ⟨s6,d6⟩ hz
    obtain ⟨dv,hdv,denv⟩:=cT (s6.denAll _ _ hys5) hu
    rw [Qe] at hdv
    obtain ⟨l,hl,rfl⟩:∃ l,ws[i]?=some l/\bM l=dv:=by
     cases q:ws[i]? with
     | none=>rw [q] at hdv; cases hdv
     | some l=>rw [q] at hdv; exact ⟨l,rfl,Option.some.inj hdv⟩
    have hwl:=hws l (Qj hl)
    obtain ⟨w1,w2,w3⟩:=bH hwl
    have hl6:=eK (by omega) w2 w3
    obtain ⟨aw,rfl,haw⟩:=aO.mp denv
    refine cB ?_
    refine ⟨_,rfl,aw,rfl,⟨_,haw⟩,gY (K:=K) (a:=aw) (xs:=l.map V.int) (λσ=>∃ v,σ = [v,some (.ref cp)]) (λj zs H9=>H9=H6/\zs=((l.take j).map (bN c)).map V.int) (eG (by rw [Qb]; omega)) ⟨none,rfl⟩ ⟨rfl,rfl⟩ (λj zs H9 z=>by rw [z.2,Qb,Qb,Qw]; omega) (λj zs H9 z=>by rw [z.1]; exact haw) ?_ ?_⟩
    ·rintro j zs σ u H9 hu9 ⟨v0,rfl⟩ ⟨rfl,rfl⟩ hz9
     obtain ⟨g,hg,rfl⟩:=aAT hu9
     obtain ⟨g0,g1⟩:=w2 g (Qj hg)
     refine cB ?_
     refine ⟨_,rfl,_,rfl,cp,_,g,_,rfl,rfl,SqL.of (s6 _ _ c5),callAt g g0 g1,hz9,⟨_,rfl⟩,rfl,?_⟩
     rw [Jp,hg,Qo,Qo]
     rfl
    rintro zs9 H9 ⟨rfl,rfl⟩ lp hlp
    rw [Qb,Jm (Qg _)]
    refine ⟨lp,l.map (bN c),rfl,.inl (SqL.of aB),by rw [Qb]; omega,λsp ms hsp hperm hsort=>?_⟩
    have ems:=zW hc hwl hperm hsort
    subst ems
    refine ⟨sp,_,rfl,.inl ⟨SqL.of aB,λtq htq=>?_⟩⟩
    have s10:=((aE.new (o:=.lst ((l.map (bN c)).map V.int)) hlp).trans (aE.new (o:=.lst ((eJ n c l).map V.int)) hsp)).trans (aE.new (o:=.tup ((eJ n c l).map V.int)) htq)
    refine ⟨hz,⟨_,rfl⟩,s6.trans s10,?_⟩
    rw [Jp,hl,Qo,Qo]
    exact cI (s10.denAll _ _ d6) (aN.mpr ⟨_,[],rfl,aO.mpr ⟨tq,rfl,SqT.of aB⟩,aU.mpr rfl⟩)
   ·rintro zs H6 ⟨s6,d6⟩ lq hlq
    rw [hlw,Jj] at d6
    refine ⟨lq,_,rfl,.inl ⟨SqL.of aB,λwq hwq=>?_⟩⟩
    have s7:=(aE.new (o:=.lst zs) hlq).trans (aE.new (o:=.tup zs) hwq)
    have e7:upd (upd H6 lq (.lst zs)) wq (.tup zs) wq=some (.tup zs):=aB
    have d7:=s7.denAll _ _ d6
    have s57:=s6.trans s7
    generalize upd (upd H6 lq (.lst zs)) wq (.tup zs)=H7 at s57 e7 d7 ⊢
    dsimp only [cO]
    refine ⟨_,rfl,ba,_,0,.int n,rfl,rfl,s57.seqT ha5,rfl,_,rfl,sz2 _ _,λnq hnq=>?_⟩
    have s8:=aE.new (o:=.tup [.int n,.ref wq]) hnq
    have nb:aS (aT n (ws.map (eJ n c)))=true:=oG hn1 hn6 (by rw [Qb]; exact hw12) λm hm=>(by obtain ⟨l,hl,rfl⟩:=Qv.mp hm; exact aC3 hc (hws l hl))
    have nden:Den K (upd H7 nq (.tup [.int n,.ref wq])) (aT n (ws.map (eJ n c))) (.ref nq):=mJ (SqT.of aB) (s8.seqT (SqT.of e7)) (s8.denAll _ _ d7)
    have s58:=s57.trans s8
    have b08:But t H (upd H7 nq (.tup [.int n,.ref wq])):=b5.trans (But.of s58)
    generalize upd H7 nq (.tup [.int n,.ref wq])=H8 at s58 nden b08 ⊢
    refine ⟨_,n,_,rfl,nden,nb,b08 _ _ nPt hP,λfq fqs hs' lv' H9 s9 hd' L' e9 l9 q9=>?_⟩
    have s59:=s58.trans s9
    dsimp only [cO]
    refine ⟨_,rfl,ba,_,0,.int n,rfl,rfl,s59.seqT ha5,rfl,n,rfl,by omega,by omega,fP (lo:=0) (n:=n.toNat) (λσ=>∃ v,σ = [v,some (.ref cp),some (.ref fq)]) (λi zs H10=>H10=H9/\∃ rs:List Addr,zs=rs.map V.ref/\rs.length=i/\∀ (j:Nat) q,rs[j]?=some q->∃ r,H9 q=some (.tup (r.map V.int))/\Ris r (Hv n ws lv j)) (eG (by omega)) ⟨none,rfl⟩ ⟨rfl,[],rfl,rfl,λj q z=>by simp at z⟩ (λi zs _ z=>by obtain ⟨_,rs,rfl,z,_⟩:=z; rw [Qb]; omega) ?_ ?_⟩
    ·rintro j zs σ H10 hj ⟨v,rfl⟩ ⟨rfl,rs,rfl,hl,hrs⟩ hz
     rw [Xp]
     obtain ⟨c0,c1'⟩:=qY hc (x:=(j:Int)) (by omega) (by omega)
     have eq:=Qc (show (bN c j).toNat < fqs.length by omega)
     obtain ⟨r,r1,r2⟩:=q9 _ _ eq
     refine cB ?_
     refine ⟨_,rfl,_,rfl,_,rfl,cp,_,(j:Int),_,rfl,rfl,SqL.of (s59 _ _ c5),callAt j (by omega) (by omega),fq,_,bN c j,.ref (fqs[(bN c j).toNat]'(by omega)),rfl,rfl,SqL.of e9,?_,hz,⟨_,rfl⟩,rfl,rs++[fqs[(bN c j).toNat]'(by omega)],by rw [Qo]; rfl,by rw [Qn,hl]; rfl,λjj q' hq'=>?_⟩
     ·have e:=cH (xs:=fqs.map V.ref) (j:=(bN c j).toNat) (v:=.ref (fqs[(bN c j).toNat]'(by omega))) (by rw [Qe,eq]; rfl)
      rwa [show (((bN c j).toNat:Nat):Int)=bN c j by omega] at e
     ·by_cases hjj:jj < rs.length
      ·rw [Qu hjj] at hq'
       exact hrs jj q' hq'
      ·rw [Je (by omega)] at hq'
       have e0:jj - rs.length=0:=by have:=(Qd.mp hq').1; simp at this; omega
       rw [e0] at hq'
       cases hq'
       have ej:jj=j:=by omega
       subst ej
       exact ⟨r,r1,r2.1,λx=>(r2.2 x).trans (zX hbk hc hd L nb hd' L' hj)⟩
    ·rintro zs H10 ⟨rfl,rs,rfl,hl,hrs⟩ zp hzp
     have s11:=aE.new (o:=.lst (rs.map V.ref)) hzp
     have b011:But t H (upd H10 zp (.lst (rs.map V.ref))):=b08.trans (But.of (s9.trans s11))
     obtain ⟨qs,h1,h2,h3⟩:=hT5.same (s59.trans s11)
     obtain ⟨rr,rl,rm,rd1,rd2⟩:=pT (K:=K) (H:=upd H10 zp (.lst (rs.map V.ref))) (qs:=rs) (rs:=qs) (p:=λj=>Hv n ws lv j) (by omega) (λj x z=>aET hbk z) (λj q hq=>by obtain ⟨r,g1,g2⟩:=hrs j q hq; exact ⟨r,s11 _ _ g1,g2⟩) h3
     refine ⟨_,rfl,.list (rr.map bM),.list (rr.map bM),dQ.mpr ⟨zp,_,rfl,SqL.of aB,rd1⟩,dQ.mpr ⟨h,_,rfl,SqL.of h1,rd2⟩,iF _,iF _,iG _,iG _,?_⟩
     rw [vJ]
     exact k _ b011 (T5.same (s59.trans s11))
end Ab
namespace L2
open PySem PySem.Spec PyProof.Rows
theorem tJ (hw:X.w=w) (hc:X.calm=true):dF X (.builtin "sorted") (λxs H Q=>∃ (p:Addr) (ns:List Int),xs = [.ref p]/\H p=some (pH w p ns)/\ns.length<=18/\∀ q out,lM out ns->H q=none->Q (.ref q) (upd H q (.lst (out.map V.int)))):=by subst hw; exact lN hc
theorem wZ (hw:X.w=w) (hK:X.K=K) (hc:X.calm=true):dF X (.type "set") (λxs H Q=>∃ (l:Addr) (ns:List Int),xs = [.ref l]/\SqT K H l (ns.map V.int)/\ns.length<=18/\∀ p,H p=none->Q (.ref p) (upd H p (pH w p ns))):=by subst hw; exact yT hK hc
end L2
namespace Ab
open PySem L2
theorem inD (h:Int) (l:List Int):inV (.int h) (l.map V.int)=decide (h∈l):=by
 rw [wM,Xc,Zc,decide_eq_true_iff]
 exact ⟨λ⟨x,a,b⟩=>by rw [<- beq_iff_eq.mp b]; exact a,λq=>⟨h,q,beq_self_eq_true h⟩⟩
theorem vK (v:V):(!decide (v=v))=false:=by simp
theorem kN {n:Int} {hs5 lv5:List Int} (hb:aS (aT n ws)=true) (hd:aX ws (aV hs)=true) (L:Lvl n ws hs lv) (hd5:aX ws (aV hs5)=true) (L5:Lvl n ws hs5 lv5) (hdd:aX ws (aV d)=true):Lvl n ws d lv5↔Lvl n ws d lv:=by
 have pe:(aM n hs5).Perm (aM n hs):=(L.iff hb hd hd5).mpr (L.same hb hd hd5 λt=>by
  have a:=L.least hb hd hd5 t
  have b:=L5.least hb hd5 hd t
  omega)
 rw [<- L5.iff hb hd5 hdd,<- L.iff hb hd hdd]
 exact ⟨λp=>p.trans pe,λp=>p.trans pe.symm⟩
open Classical in
theorem aF3 {n:Int} {hs5 lv5:List Int} (hb:aS (aT n ws)=true) (hd:aX ws (aV hs)=true) (L:Lvl n ws hs lv) (hlv:lv.length=n.toNat) (hd5:aX ws (aV hs5)=true) (L5:Lvl n ws hs5 lv5) (hlv5:lv5.length=n.toNat):SM (eI n.toNat lv5 ws)=SM (eI n.toNat lv ws):=by
 rw [oR hb hlv5 L5,oR hb hlv L]
 congr 2
 exact Zg λd hdd=>decide_eq_decide.mpr (kN hb hd L hd5 L5 (eA _ _ rfl d hdd))
def Hw (n:Int) (ws:List (List Int)) (lv:List Int) (i:Nat) (l:List Int) (j:Nat) (x:Int):Prop:=∃ h∈l,∃ d,aX ws (aV d)=true/\Lvl n ws d lv/\d[i]?=some h/\((d.count (j:Int):Nat):Int)=x
theorem aB7 {n:Int} {r:List Int} (hj:j < n.toNat) (h:Ris r (Hv n ws lv j)):r.length<=2:=by
 have z:=eK (n:=2) (l:=r.map λx=>x - lvA lv j) (by decide) (λx hx=>?_) ?_
 ·rw [Qb] at z; omega
 ·obtain ⟨y,hy,rfl⟩:=Qv.mp hx
  obtain ⟨d,d1,d2,rfl⟩:=(h.2 y).mp hy
  have:=d2.box (j:Int) (by omega) (by omega)
  omega
 ·rw [Yc]
  exact h.1.imp λq=>by omega
def aAf (K:Rc) (Pt:Addr):Sp:=λvs H Q _=>∃ (x:V) (i:Nat) (rp gp:Addr) (n:Int) (ws:List (List Int)) (hs lv ms:List Int),vs = [x,.int i,.ref rp,.ref gp]/\Den K H (aT n ws) x/\aS (aT n ws)=true/\i < ws.length/\H Pt=some (.tab mQ)/\aX ws (aV hs)=true/\Lvl n ws hs lv/\lv.length=n.toNat/\H rp=some (.lst (ms.map V.int))/\ms.Perm (aM n hs)/\ms.Pairwise (·≥·)/\H gp=some (.tup ((goR n ws lv i).map V.int))/\∀ H',aE H H'->Q (.bl true) H'
theorem iV:FnScope ["book", "work", "row", "hands", "total", "seen", "hand", "other"] ["book", "work", "row", "hands"] (aH mE):=⟨rfl,rfl,rfl,by decide +kernel,rfl,by decide +kernel,by decide +kernel⟩
set_option maxHeartbeats 2000000 in
theorem aC8 {fEv fHm:Addr} {dEv dHm:FuncData} (G:Fn K mg "_law_b_forced_right" mE ["book", "work", "row", "hands"] f fd) (B:Bl mg) (GEv:Fn K mg "evenest" hJ ["book"] fEv dEv) (OEv:FnOk P w K mg base CX0 11 fEv dEv ["book"] (iJ K Pt)) (GFa:Fn K mg "falling" jN ["book", "deal"] fFa dFa) (OFa:FnOk P w K mg base CX0 8 fFa dFa ["book", "deal"] (jP K)) (GHm:Fn K mg "how_many" lQ ["book"] fHm dHm) (OHm:FnOk P w K mg base CX0 13 fHm dHm ["book"] (mN K Pt)) (GMh:Fn K mg "may_have" fF ["book"] fMh dMh) (OMh:FnOk P w K mg base CX0 13 fMh dMh ["book"] (jT K Pt)):FnOk P w K mg base CX0 14 f fd ["book", "work", "row", "hands"] (aAf K Pt):=by
 refine G.fn.ok iV (λvs H Q E h=>?_) (λcdv A outer s H vs Q E hr h=>?_)
 ·obtain ⟨x,i,rp,gp,n,ws,hs,lv,ms,rfl,_⟩:=h
  rfl
 ·obtain ⟨x,i,rp,gp,n,ws,hs,lv,ms,rfl,hx,hbk,hi,hP,hd,L,hlv,hrp,pm,sm,hgp,k⟩:=h
  have r8:Room 8 _:=hr.mono (by decide)
  have r11:Room 11 _:=hr.mono (by decide)
  have r13:Room 13 _:=hr
  refine ⟨_,(aD (aL (i:=4) iV.nd rfl (Or.inl rfl) aG)
  (aD (aL (i:=5) iV.nd rfl (Or.inl rfl) (aY aGO (fO (aA (dI aC) aC)) (bA bT (pv 0) aG (λ_ _=>rfl))))
  (aD (eC PassesOwn.never rfl (fY (bA bT (bA bT (pv 0) aG (λ_ _=>rfl)) (pv 1) (λ_ _=>rfl))) (aJ (i:=6) iV.nd rfl (Or.inl rfl))
   (aD (aL (i:=7) iV.nd rfl (Or.inl rfl) (dI (aA (bA bT (pv 0) aG (λ_ _=>rfl)) (aA (aY (iQ (K:=K) rfl) (aY (iQ (K:=K) rfl) (fZ (gZ (K:=K) rfl) (bA bT (pv 0) aG (λ_ _=>rfl)) iZ (gT (pv 1))) (dI (aA (dI (aA (pv 6) aC)) aC))) (fZ (gZ (K:=K) rfl) (bA bT (pv 0) aG (λ_ _=>rfl)) (gT (aY bY (pv 1) aG)) iZ)) aC))))
  (aD (cG (bJ rB (cP (rJ hr.u64) (bB GFa OFa r8 rfl (aA (pv 7) (aA (bA bT (bB GEv OEv r11 rfl (aA (pv 7) aC)) aG (λ_ _=>rfl)) aC))) (pv 2) (bE _)) (cP (kA (K:=K) rfl) (pv 6) (pv 3) (by with_unfolding_all rfl)) (bE _))
   (aI (aW eY))
   bI)
  (aI (cG (bJ (kA (K:=K) rfl) (pv 6) (pv 3) (by with_unfolding_all rfl))
   (aD (aL (i:=4) iV.nd rfl (Or.inl rfl) (aY bY (pv 4) (bB GHm OHm r13 rfl (aA (pv 7) aC))))
  (aI (rG (i:=5) (own:=["row", "more"]) (fr:=[]) (frn:=[]) (bD (aH mE) ["book", "work", "row", "hands", "total", "seen", "hand", "other"] rfl rfl (by decide +kernel)) rfl iV.nd rfl rfl rfl (rN .l .l rfl B.zip (aA (pv 5) (aA (bB GMh OMh r13 rfl (aA (pv 7) aC)) aC)))
    (λ_ _ _ _=>(qT (K:=K) (n:=2) rfl rfl (aZ (aJ (i:=0) (show (["row", "more"]:List Str).Nodup by decide +kernel) rfl (Or.inl rfl)) (aZ (aJ (i:=1) (show (["row", "more"]:List Str).Nodup by decide +kernel) rfl (Or.inl rfl)) dP)))) (λ_ _ _ _=>dM)
    (λ_ _ _ _=>(aY (iQ (K:=K) rfl) (pv 0) (pv 1))))))
   bI)))))
  (aI (aW (kW (cP gH (pv 4) (bB GHm OHm r13 rfl (aA (pv 0) aC)) (bE _)) (kU (cP (rJ hr.u64) (bX (own:=["row"]) (fr:=[]) (frn:=[]) (bD (aH mE) ["book", "work", "row", "hands", "total", "seen", "hand", "other"] rfl rfl (by decide +kernel)) rfl (jX (pv 5))
    (λ_ _ _ _=>(aJ (i:=0) (show (["row"]:List Str).Nodup by decide +kernel) rfl (Or.inl rfl))) (λ_ _ _ _=>dM)
    (λ_ _ _ _=>(bK (aDU (K:=K) rfl) rfl B.tuple cJ (aA (aP (tJ (w:=w) rfl rfl) rfl B.sorted nY (aA (bK (wZ (w:=w) (K:=K) rfl rfl rfl) rfl B.set aD7 (aA (pv 0) aC)) aC)) aC)))) (bB GMh OMh r13 rfl (aA (pv 0) aC)) (bE _))))))))),?_⟩
  obtain ⟨hn1,hn6,hw12,hws⟩:=bF hbk
  obtain ⟨ba,bb,ys,rfl,ha,hb2,hys⟩:=cU hx
  have hlw:=aQ hys
  rw [Qb] at hlw
  obtain ⟨l,hl⟩:∃ l,ws[i]?=some l:=⟨_,Qc hi⟩
  obtain ⟨z0,hz0⟩:∃ z,ys[i]?=some z:=⟨_,Qc (show i < ys.length by omega)⟩
  obtain ⟨dv,hdv,denv⟩:=cT hys hz0
  rw [Qe,hl] at hdv
  obtain rfl:bM l=dv:=Option.some.inj hdv
  obtain ⟨pw,rfl,hpw⟩:=aO.mp denv
  obtain ⟨w1,w2,w3⟩:=bH (hws l (Qj hl))
  have hl6:=eK (by omega) w2 w3
  have gmem:∀ h∈l,(h∈goR n ws lv i↔Go n ws lv i h):=λh hh=>by
   unfold goR
   rw [Qq,hl]
   show h∈l.filter _↔_
   rw [Jy,kL]
   exact ⟨λz=>z.2,λz=>⟨hh,z⟩⟩
  have hcnt:∀ h∈l,h∉goR n ws lv i->cnt n ws lv i h=0:=λh hh z=>aEG λq=>z ((gmem h hh).mpr q)
  dsimp only [cO]
  refine ⟨eG (Jn _),λe0 he0=>⟨sz1 _,λl0 hl0=>?_⟩⟩
  have s1:=aE.new (o:=.tup []) he0
  have ee1:upd H e0 (.tup []) e0=some (.tup []):=aB
  generalize upd H e0 (.tup [])=H1 at s1 ee1 hl0 ⊢
  have s2:=aE.new (o:=.lst [.ref e0]) hl0
  have el2:upd H1 l0 (.lst [.ref e0]) l0=some (.lst [.ref e0]):=aB
  have s02:=s1.trans s2
  generalize upd H1 l0 (.lst [.ref e0])=H2 at s2 el2 s02 ⊢
  refine ⟨_,rfl,ba,_,0,.int n,rfl,rfl,s02.seqT ha,rfl,l0,n,_,rfl,rfl,el2,by omega,by omega,by rw [Rf]; show 1*n.toNat<=_; omega,λsp0 hsp0=>?_⟩
  rw [Zj]
  have s3:=aE.new (o:=.lst (List.replicate n.toNat (.ref e0))) hsp0
  have es3:upd H2 sp0 (.lst (List.replicate n.toNat (.ref e0))) sp0=some (.lst (List.replicate n.toNat (.ref e0))):=aB
  have s03:=s02.trans s3
  have ee3:=(s2.trans s3) _ _ ee1
  generalize upd H2 sp0 (.lst (List.replicate n.toNat (.ref e0)))=H3 at s3 es3 s03 ee3 ⊢
  dsimp only [cO]
  refine ⟨_,rfl,ba,_,1,.ref bb,rfl,rfl,s03.seqT ha,rfl,_,rfl,bb,_,(i:Int),.ref pw,rfl,rfl,s03.seqT hb2,cH hz0,pw,rfl,⟨_,s03.seqT hpw⟩,qI (K:=K) (a:=pw) (xs:=l.map V.int) (λj σ H4=>aE H H4/\∃ (sp:Addr) (sq:List Addr) (v6 v7:Option V),σ = [some (.ref ba),some (.int i),some (.ref rp),some (.ref gp),some (.int (aK ((l.take j).map (cnt n ws lv i)))),some (.ref sp),v6,v7]/\H4 sp=some (.lst (sq.map V.ref))/\sq.length=n.toNat/\∀ (m:Nat) q,sq[m]?=some q->∃ r:List Int,SqT K H4 q (r.map V.int)/\r.length<=2*j/\∀ x,x∈r↔Hw n ws lv i (l.take j) m x) ⟨s03,sp0,List.replicate n.toNat e0,_,_,rfl,by rw [Wu]; exact es3,Ju ..,λm q hq=>⟨[],SqT.of (by rw [(Yo.mp (Qj hq)).2]; exact ee3),Qg _,λx=>⟨λz=>(by cases z),λ⟨h,hh,_⟩=>(by cases hh)⟩⟩⟩ (λj σ H4 _ z=>z.1.seqT hpw) ?_ ?_⟩
  ·rintro j u σ H4 hu ⟨s4,sp,sq,v6,v7,rfl,e4,hsl,hsq⟩
   obtain ⟨h,hh,rfl⟩:=aAT hu
   have hm:=Qj hh
   have hj6:j < 6:=by have:=(Qd.mp hh).1; omega
   have et:l.take (j+1)=l.take j++[h]:=by rw [Jp,hh]; rfl
   obtain ⟨nb,_⟩:=vE hbk hd hl hm
   have hb4:=s4.seqT hb2
   dsimp only [cO]
   refine ⟨_,rfl,ba,_,0,.int n,rfl,rfl,s4.seqT ha,rfl,_,rfl,ba,_,1,.ref bb,rfl,rfl,s4.seqT ha,rfl,_,rfl,_,rfl,bb,_,rfl,hb4,λr1 H5 s5 g5=>?_⟩
   rw [qM] at g5
   refine ⟨_,rfl,sz1 _,λq1 hq1=>⟨sz1 _,λq2 hq2=>?_⟩⟩
   have s6:=aE.new (o:=.tup [.int h]) hq1
   have eq1:upd H5 q1 (.tup [.int h]) q1=some (.tup [.int h]):=aB
   generalize upd H5 q1 (.tup [.int h])=H6 at s6 eq1 hq2 ⊢
   have s7:=aE.new (o:=.tup [.ref q1]) hq2
   have eq2:upd H6 q2 (.tup [.ref q1]) q2=some (.tup [.ref q1]):=aB
   have s47:=s5.trans (s6.trans s7)
   have eq1':=s7 _ _ eq1
   generalize upd H6 q2 (.tup [.ref q1])=H7 at s7 eq2 s47 eq1' ⊢
   refine ⟨r1,q2,_,_,rfl,rfl,(s6.trans s7).seqT g5,SqT.of eq2,by rw [Rf,Qw]; show _+1<=_; omega,λr3 H8 s8 g8=>?_⟩
   have s48:=s47.trans s8
   refine ⟨_,rfl,ba,_,1,.ref bb,rfl,rfl,(s4.trans s48).seqT ha,rfl,_,rfl,_,_,rfl,rfl,_,rfl,bb,_,rfl,s48.seqT hb4,λr4 H9 s9 g9=>?_⟩
   rw [show (i:Int)+1=((i+1:Nat):Int) by omega,mB] at g9
   refine ⟨r3,r4,_,_,rfl,rfl,s9.seqT g8,g9,by rw [Rf,Qn,Qw,Jq]; show _+1+_<=_; omega,λr5 H10 s10 g10=>⟨sz2 _ _,λnr hnr=>?_⟩⟩
   have s11:=aE.new (o:=.tup [.int n,.ref r5]) hnr
   have s411:=s48.trans (s9.trans (s10.trans s11))
   have s011:=s4.trans s411
   have dn:Den K (upd H10 nr (.tup [.int n,.ref r5])) (aT n (repl ws i [h])) (.ref nr):=by
    refine cF.mpr ⟨nr,_,rfl,SqT.of aB,aN.mpr ⟨_,_,rfl,eW.mpr rfl,aN.mpr ⟨_,_,rfl,cF.mpr ⟨r5,_,rfl,s11.seqT g10,?_⟩,aU.mpr rfl⟩⟩⟩
    have z:=s011.denAll _ _ hys
    unfold repl
    rw [Qo,Qo,Ym,Yn]
    exact cI (cI (L2.lE i z) (aN.mpr ⟨_,_,rfl,aO.mpr ⟨q1,rfl,SqT.of ((s8.trans (s9.trans (s10.trans s11))) _ _ eq1')⟩,aU.mpr rfl⟩)) (lF (i+1) z)
   generalize upd H10 nr (.tup [.int n,.ref r5])=H11 at s11 s411 s011 dn ⊢
   dsimp only [cO]
   refine ⟨_,rfl,_,rfl,.ref nr,n,_,rfl,dn,nb,s011 _ _ hP,λep dp lp he lw H12 s12 hep hdp hde hlp Le=>?_⟩
   have LL:=lU Le (cV nb hde) (eN nb)
   refine ⟨ep,_,0,.ref dp,rfl,rfl,SqT.of hep,rfl,.ref nr,.ref dp,n,_,he,rfl,⟨s12.den _ _ dn,nb,aO.mpr ⟨dp,rfl,SqT.of hdp⟩,hde⟩,λfp H13 ms2 s13 _ e13 pm2 sm2=>?_⟩
   have s013:=s011.trans (s12.trans s13)
   have key:=qB hbk hd L hl hm nb hde LL pm2 sm2 pm sm
   have key2:ms2=ms↔h∈goR n ws lv i:=key.trans (gmem h hm).symm
   refine ⟨_,rfl,.list (ms2.map .int),.list (ms.map .int),dQ.mpr ⟨fp,_,rfl,SqL.of e13,cD.mpr rfl⟩,dQ.mpr ⟨rp,_,rfl,SqL.of (s013 _ _ hrp),cD.mpr rfl⟩,cS _,cS _,dX _,dX _,?_⟩
   rw [mI]
   refine ⟨_,rfl,_,rfl,gp,_,rfl,.inr (SqT.of (s013 _ _ hgp)),rfl,gN _,rfl,_,rfl,?_⟩
   rw [show (if false=true then !inV (V.int h) ((goR n ws lv i).map V.int) else inV (V.int h) ((goR n ws lv i).map V.int))=decide (h∈goR n ws lv i) from inD h _,show decide (ms2=ms)=decide (h∈goR n ws lv i) from decide_eq_decide.mpr key2,vK]
   refine gF ?_
   refine ⟨_,rfl,_,rfl,gp,_,rfl,.inr (SqT.of (s013 _ _ hgp)),rfl,gN _,_,rfl,?_⟩
   rw [show (if false=true then !inV (V.int h) ((goR n ws lv i).map V.int) else inV (V.int h) ((goR n ws lv i).map V.int))=decide (h∈goR n ws lv i) from inD h _]
   by_cases hg:h∈goR n ws lv i
   ·rw [decide_eq_true hg]
    have Gg:=(gmem h hm).mp hg
    refine iN ?_
    refine ⟨_,rfl,_,rfl,.ref nr,n,_,rfl,(s12.trans s13).den _ _ dn,nb,s013 _ _ hP,λhe2 lw2 H14 s14 hde2 Le2=>?_⟩
    have L2':=lU Le2 (cV nb hde2) (eN nb)
    rw [aA6 hbk hd L hl hm nb hde2 L2' Le2.1 Gg]
    refine ⟨_,_,rfl,rfl,?_⟩
    dsimp only [cO]
    have s014:=s013.trans s14
    refine ⟨_,rfl,_,rfl,.ref nr,n,_,rfl,(s12.trans (s13.trans s14)).den _ _ dn,nb,s014 _ _ hP,λmq mqs he3 lw3 H15 s15 hde3 L3 emq hml hme=>?_⟩
    have s015:=s014.trans s15
    have s415:=s411.trans (s12.trans (s13.trans (s14.trans s15)))
    have e15:=s415 _ _ e4
    refine ⟨sp,mq,sq.map V.ref,mqs.map V.ref,rfl,SqL.of e15,SqL.of emq,xY (K:=K) (k1:=.l) (k2:=.l) (a:=sp) (b:=mq) (xs:=sq.map V.ref) (ys:=mqs.map V.ref) (λσ=>∃ u v,σ = [u,v]) (λm zs H16=>aE H15 H16/\∃ ts:List Addr,zs=ts.map V.ref/\ts.length=m/\∀ (c:Nat) q,ts[c]?=some q->∃ r:List Int,SqT K H16 q (r.map V.int)/\r.length<=2*(j+1)/\∀ x,x∈r↔Hw n ws lv i (l.take (j+1)) c x) (eG (by rw [Qb]; omega)) (by rw [Qb,Qb]; omega) ⟨none,none,rfl⟩ ⟨aE.refl _,[],rfl,rfl,λc q z=>by simp at z⟩ (λm zs _ z=>by obtain ⟨_,ts,rfl,z,_⟩:=z; rw [Qb]; omega) (λm zs _ z=>⟨SqL.of (z.1 _ _ e15),SqL.of (z.1 _ _ emq)⟩) ?_ ?_⟩
    ·rintro m zs σ x y p16 H16 hx16 hy16 ⟨u,v,rfl⟩ ⟨s16,ts,rfl,htl,hts⟩ hp16 hz16
     have ofm:∀ {qs:List Addr} {x:V},(qs.map V.ref)[m]?=some x->∃ q,qs[m]?=some q/\x=.ref q:=λ{qs x} z=>by
      rw [Qe] at z
      cases e:qs[m]? with
      | none=>rw [e] at z; cases z
      | some q=>rw [e] at z; exact ⟨q,rfl,(Option.some.inj z).symm⟩
     obtain ⟨qa,hqa,rfl⟩:=ofm hx16
     obtain ⟨qb,hqb,rfl⟩:=ofm hy16
     obtain ⟨ra,a1,a2,a3⟩:=hsq m qa hqa
     obtain ⟨rb,b1,b2⟩:=hme m qb hqb
     have hmn:m < n.toNat:=by have:=(Qd.mp hqa).1; omega
     have b3:=aB7 hmn b2
     have s17:=aE.new (o:=.tup [.ref qa,.ref qb]) hp16
     have t17:upd H16 p16 (.tup [.ref qa,.ref qb]) p16=some (.tup [.ref qa,.ref qb]):=aB
     generalize upd H16 p16 (.tup [.ref qa,.ref qb])=H17 at s17 t17 ⊢
     refine ⟨p16,_,rfl,SqT.of t17,rfl,_,_,rfl,_,_,rfl,rfl,?_⟩
     dsimp only [vO]
     rw [if_pos rfl]
     refine ⟨_,rfl,_,rfl,qa,qb,_,_,rfl,rfl,(s415.trans (s16.trans s17)).seqT a1,SqT.of ((s16.trans s17) _ _ b1),by rw [Qb,Qb,Rf]; omega,λp18 H18 s18 g18=>⟨hz16,⟨_,_,rfl⟩,(s16.trans s17).trans s18,ts++[p18],by rw [Qo]; rfl,by rw [Qn,htl]; rfl,λc q hq=>?_⟩⟩
     by_cases hc:c < ts.length
     ·rw [Qu hc] at hq
      obtain ⟨r,g1,g2,g3⟩:=hts c q hq
      exact ⟨r,(s17.trans s18).seqT g1,g2,g3⟩
     ·rw [Je (by omega)] at hq
      have e0:c - ts.length=0:=by have:=(Qd.mp hq).1; simp at this; omega
      rw [e0] at hq
      cases hq
      have ec:c=m:=by omega
      subst ec
      refine ⟨ra++rb,by rw [Qo]; exact g18,by rw [Qn]; omega,λx=>?_⟩
      rw [Jg,a3 x,b2.2 x,zU hbk hd L hl hm nb hde3 L3 Gg,et]
      refine ⟨λz=>?_,λ⟨h',hh',z⟩=>?_⟩
      ·rcases z with ⟨h',hh',z⟩ | ⟨d,z⟩
       ·exact ⟨h',Jw _ hh',z⟩
       ·exact ⟨h,Jd _ (Xg _),d,z⟩
      ·rcases Jg.mp hh' with y | y
       ·exact .inl ⟨h',y,z⟩
       ·rw [Qs.mp y] at z
        exact .inr z
    ·rintro zs H16 ⟨s16,ts,rfl,htl,hts⟩ np hnp
     have s17:=aE.new (o:=.lst (ts.map V.ref)) hnp
     refine ⟨s015.trans (s16.trans s17),np,ts,some (.int h),some (.ref nr),?_,aB,by rw [htl,Qb]; exact hsl,λm q hq=>?_⟩
     ·rw [et,Qo,dY]
      show _ = [_,_,_,_,some (V.int (_+(cnt n ws lv i h+0))),_,_,_]
      rw [Wq]
      rfl
     ·obtain ⟨r,g1,g2,g3⟩:=hts m q hq
      exact ⟨r,s17.seqT g1,g2,g3⟩
   ·rw [decide_eq_false hg]
    refine gF ⟨s013,sp,sq,some (.int h),some (.ref nr),?_,(s411.trans (s12.trans s13)) _ _ e4,hsl,λm q hq=>?_⟩
    ·rw [et,Qo,dY]
     show _ = [_,_,_,_,some (V.int (_+(cnt n ws lv i h+0))),_,_,_]
     rw [hcnt h hm hg,Wq,Wq]
     rfl
    ·obtain ⟨r,g1,g2,g3⟩:=hsq m q hq
     refine ⟨r,(s411.trans (s12.trans s13)).seqT g1,by omega,λx=>(g3 x).trans ?_⟩
     rw [et]
     refine ⟨λ⟨h',hh',z⟩=>⟨h',Jw _ hh',z⟩,λ⟨h',hh',z⟩=>?_⟩
     rcases Jg.mp hh' with y | y
     ·exact ⟨h',y,z⟩
     ·obtain ⟨d,d1,d2,d3,_⟩:=z
      rw [Qs.mp y] at d3
      exact absurd ((gmem h hm).mpr ⟨d,d1,d3,d2⟩) hg
  ·rintro σ H4 ⟨s4,sp,sq,v6,v7,rfl,e4,hsl,hsq⟩
   have hll:(l.map V.int).length=l.length:=Qb ..
   have hsq':∀ (m:Nat) q,sq[m]?=some q->∃ r:List Int,SqT K H4 q (r.map V.int)/\r.length<=12/\∀ x,x∈r↔Hv n ws lv m x:=λm q hq=>by
    obtain ⟨r,g1,g2,g3⟩:=hsq m q hq
    refine ⟨r,g1,by omega,λx=>(g3 x).trans ?_⟩
    rw [hll,Jj]
    refine ⟨λ⟨h,hh,d,d1,d2,d3,d4⟩=>⟨d,d1,d2,d4⟩,λ⟨d,d1,d2,d4⟩=>?_⟩
    obtain ⟨a1,a2⟩:=aR d1
    have e:=Qc (show i < d.length by omega)
    exact ⟨_,a2 i _ l e hl,d,d1,d2,e,d4⟩
   rw [hll,Jj,aFX hbk L hlv hl]
   dsimp only
   refine ⟨_,rfl,_,rfl,.ref ba,n,ws,rfl,s4.den _ _ hx,hbk,s4 _ _ hP,λhs5 lv5 H5 s5 hd5 L5=>?_⟩
   rw [aF3 hbk hd L hlv hd5 (lU L5 (cV hbk hd5) (eN hbk)) L5.1]
   refine ⟨rfl,_,rfl,dJ (λ_=>?_) λz=>absurd (decide_eq_true rfl) z⟩
   have s05:=s4.trans s5
   have e5:=s5 _ _ e4
   refine ⟨_,rfl,sp,rfl,⟨_,SqL.of e5⟩,pC (K:=K) (a:=sp) (xs:=sq.map V.ref) (λσ=>∃ v,σ = [v]) (λm zs H6=>aE H5 H6/\∃ ts:List Addr,zs=ts.map V.ref/\ts.length=m/\∀ (c:Nat) q,ts[c]?=some q->∃ r:List Int,H6 q=some (.tup (r.map V.int))/\Ris r (Hv n ws lv c)) (eG (by rw [Qb]; omega)) ⟨none,rfl⟩ ⟨aE.refl _,[],rfl,rfl,λc q z=>by simp at z⟩ (λm zs _ z=>by obtain ⟨_,ts,rfl,z,_⟩:=z; rw [Qb]; omega) (λm zs _ z=>SqL.of (z.1 _ _ e5)) ?_ ?_⟩
   ·rintro m zs σ x H6 hx6 ⟨v,rfl⟩ ⟨s6,ts,rfl,htl,hts⟩ hz6
    rw [Qe] at hx6
    obtain ⟨qa,hqa,rfl⟩:∃ q,sq[m]?=some q/\x=.ref q:=by
     cases e:sq[m]? with
     | none=>rw [e] at hx6; cases hx6
     | some q=>rw [e] at hx6; exact ⟨q,rfl,(Option.some.inj hx6).symm⟩
    obtain ⟨r,g1,g2,g3⟩:=hsq' m qa hqa
    refine cB ?_
    refine ⟨_,rfl,qa,r,rfl,(s5.trans s6).seqT g1,by omega,λp7 hp7=>⟨p7,r,rfl,aB,by omega,λp8 out hso hp8=>⟨p8,_,rfl,.inl ⟨SqL.of aB,λp9 hp9=>?_⟩⟩⟩⟩
    have s9:=(aE.new (o:=pH w p7 r) hp7).trans ((aE.new (o:=.lst (out.map V.int)) hp8).trans (aE.new (o:=.tup (out.map V.int)) hp9))
    refine ⟨hz6,⟨_,rfl⟩,s6.trans s9,ts++[p9],by rw [Qo]; rfl,by rw [Qn,htl]; rfl,λc q hq=>?_⟩
    by_cases hc:c < ts.length
    ·rw [Qu hc] at hq
     obtain ⟨r',g1',g2'⟩:=hts c q hq
     exact ⟨r',s9 _ _ g1',g2'⟩
    ·rw [Je (by omega)] at hq
     have e0:c - ts.length=0:=by have:=(Qd.mp hq).1; simp at this; omega
     rw [e0] at hq
     cases hq
     have ec:c=m:=by omega
     subst ec
     exact ⟨out,aB,hso.1,λx=>(hso.2 x).trans (g3 x)⟩
   ·rintro zs H6 ⟨s6,ts,rfl,htl,hts⟩ zp hzp
    have s7:=aE.new (o:=.lst (ts.map V.ref)) hzp
    have e7:upd H6 zp (.lst (ts.map V.ref)) zp=some (.lst (ts.map V.ref)):=aB
    have s07:=s05.trans (s6.trans s7)
    have hts7:∀ (c:Nat) q,ts[c]?=some q->∃ r:List Int,upd H6 zp (.lst (ts.map V.ref)) q=some (.tup (r.map V.int))/\Ris r (Hv n ws lv c):=λc q hq=>by
     obtain ⟨r,g1,g2⟩:=hts c q hq
     exact ⟨r,s7 _ _ g1,g2⟩
    generalize upd H6 zp (.lst (ts.map V.ref))=H7 at s7 e7 s07 hts7 ⊢
    refine ⟨_,rfl,.ref ba,n,ws,rfl,s07.den _ _ hx,hbk,s07 _ _ hP,λmp mqs hs6 lv6 H8 s8 hd6 L6 emp hml hme=>?_⟩
    obtain ⟨rr,rl,rm,rd1,rd2⟩:=pT (K:=K) (H:=H8) (qs:=ts) (rs:=mqs) (p:=λj=>Hv n ws lv j) (by rw [htl,Qb]; omega) (λj x z=>aET hbk z) (λc q hq=>by obtain ⟨r,g1,g2⟩:=hts7 c q hq; exact ⟨r,s8 _ _ g1,g2⟩) (λc q hq=>by
     obtain ⟨r,g1,g2⟩:=hme c q hq
     exact ⟨r,g1,g2.1,λx=>(g2.2 x).trans ⟨λ⟨d,d1,d2,d3⟩=>⟨d,d1,(kN hbk hd L hd6 L6 d1).mp d2,d3⟩,λ⟨d,d1,d2,d3⟩=>⟨d,d1,(kN hbk hd L hd6 L6 d1).mpr d2,d3⟩⟩⟩)
    refine ⟨.list (rr.map bM),.list (rr.map bM),dQ.mpr ⟨zp,_,rfl,SqL.of (s8 _ _ e7),rd1⟩,dQ.mpr ⟨mp,_,rfl,SqL.of emp,rd2⟩,iF _,iF _,iG _,iG _,?_⟩
    rw [vJ]
    exact k _ (s07.trans s8)
section
variable {n:Int} {hs1 lv1:List Int}
theorem aF4 (hb:aS (aT n ws)=true) (hd:aX ws (aV hs)=true) (L:Lvl n ws hs lv) (hd1:aX ws (aV hs1)=true) (L1:Lvl n ws hs1 lv1) (j:Nat):goR n ws lv1 j=goR n ws lv j:=by
 unfold goR
 refine Zg λh _=>?_
 rw [Xc,kL,kL]
 exact ⟨λ⟨d,a,b,c⟩=>⟨d,a,b,(kN hb hd L hd1 L1 a).mp c⟩,λ⟨d,a,b,c⟩=>⟨d,a,b,(kN hb hd L hd1 L1 a).mpr c⟩⟩
theorem aF5 (hb:aS (aT n ws)=true) (hd:aX ws (aV hs)=true) (L:Lvl n ws hs lv) (hd1:aX ws (aV hs1)=true) (L1:Lvl n ws hs1 lv1) (j:Nat) (x:Int):Hv n ws lv1 j x↔Hv n ws lv j x :=
 ⟨λ⟨d,a,b,c⟩=>⟨d,a,(kN hb hd L hd1 L1 a).mp b,c⟩,λ⟨d,a,b,c⟩=>⟨d,a,(kN hb hd L hd1 L1 a).mpr b,c⟩⟩
theorem aEU {h:Int} (hl:ws[j]?=some l):h∈goR n ws lv j↔h∈l/\Go n ws lv j h:=by
 unfold goR
 rw [Qq,hl]
 show h∈l.filter _↔_
 rw [Jy,kL]
theorem aC9 (hl:ws[j]?=some l):l.filter (λh=>decide (h∈goR n ws lv j))=goR n ws lv j:=by
 conv=>rhs; unfold goR
 rw [Qq,hl]
 refine Zg λh hh=>?_
 rw [Xc,decide_eq_true_iff,kL,aEU hl]
 exact ⟨λz=>z.2,λz=>⟨hh,z⟩⟩
theorem aEV (hd:aX ws (aV hs)=true) (L:Lvl n ws hs lv) {r:List Int} (hj:j < n.toNat) (h:Ris r (Hv n ws lv j)):∃ a,r = [a]∨r = [a,a+1]:=by
 have l2:=aB7 hj h
 have inn:((hs.count (j:Int):Nat):Int)∈r:=(h.2 _).mpr ⟨hs,hd,L,rfl⟩
 have rng:∀ x∈r,lvA lv j<=x/\x<=lvA lv j+1:=λx hx=>by
  obtain ⟨d,d1,d2,rfl⟩:=(h.2 x).mp hx
  exact d2.box (j:Int) (by omega) (by omega)
 match r,l2,inn,h.1,rng with
 | [a],_,_,_,_=>exact ⟨a,.inl rfl⟩
 | [a,b],_,_,p,g =>
  have h1:=(Xm.mp p).1 b (Xg _)
  have h2:=g a (Qi ..)
  have h3:=g b (Qk _ (Xg _))
  exact ⟨a,.inr (by rw [show b=a+1 by omega])⟩
end
theorem aDa (hn:0 < n) (hn6:n<=6) (hm:m<=12):aS (aT (n:Int) (full n m))=true:=by
 refine oG (by omega) (by omega) (by unfold full; rw [Ju]; exact hm) λl hl=>?_
 rw [(Yo.mp hl).2]
 exact iE (λz=>by have:=cK n; rw [z] at this; simp at this; omega) (λx hx=>oF.mp hx) (sJ n)
theorem aB8 (m:Nat):(List.replicate m false).any id=false:=by
 rw [List.any_eq_false]
 intro b hb
 rw [(Yo.mp hb).2]
 exact Qr
theorem aHg (m:Nat):(List.replicate m true).all id=true:=by
 rw [Jr]
 intro b hb
 rw [(Yo.mp hb).2]
 rfl
theorem tK (m:Nat) (b:Bool):(List.replicate (m+1) b).map V.bl=(List.replicate m b).map V.bl++[V.bl b]:=by rw [We,Qo]; rfl
def GoH (H:Hp) (g:Addr) (n:Int) (ws:List (List Int)) (lv:List Int):Prop:=∃ qs:List Addr,H g=some (.lst (qs.map V.ref))/\qs.length=ws.length/\∀ (j:Nat) q,qs[j]?=some q->H q=some (.tup ((goR n ws lv j).map V.int))
structure Fx (K:Rc) (H:Hp) (t a Pt bp dp gp hp:Addr) (ns:List Int) (n:Int) (ws:List (List Int)) (hs lv:List Int):Prop where
 T:gG K H t a ns
 P:H Pt=some (.tab mQ)
 bk:Den K H (aT n ws) (.ref bp)
 dp:H dp=some (.tup (hs.map V.int))
 go:GoH H gp n ws lv
 tl:qD H hp n ws lv
section
variable {t bp dp gp hp:Addr} {n:Int}
theorem Fx.same (f:Fx K H t a Pt bp dp gp hp ns n ws hs lv) (s:aE H H'):Fx K H' t a Pt bp dp gp hp ns n ws hs lv :=
 ⟨f.T.same s,s _ _ f.P,s.den _ _ f.bk,s _ _ f.dp,(by obtain ⟨qs,a,b,c⟩:=f.go; exact ⟨qs,s _ _ a,b,λj q hq=>s _ _ (c j q hq)⟩),f.tl.same s⟩
theorem Fx.but (f:Fx K H t a Pt bp dp gp hp ns n ws hs lv) (b:But t H H') (T':gG K H' t a ns):Fx K H' t a Pt bp dp gp hp ns n ws hs lv:=by
 obtain ⟨⟨p,q,_,ht⟩,_⟩:=id f.T
 refine ⟨T',b _ _ (λz=>by have:=f.P; rw [z,ht] at this; cases this) f.P,f.T.den b (lR n ws) f.bk,b _ _ (λz=>by have:=f.dp; rw [z,ht] at this; cases this) f.dp,?_,f.tl.but f.T b⟩
 obtain ⟨qs,h1,h2,h3⟩:=f.go
 refine ⟨qs,b _ _ (λz=>?_) h1,h2,λj q' hq=>b _ _ (λz=>by have:=h3 j q' hq; rw [z,ht] at this; cases this) (h3 j q' hq)⟩
 rw [z,ht] at h1
 match qs,h1 with
 | [],h1=>cases h1
 | [_],h1=>cases h1
 | _::_::_,h1=>cases h1
end
def aB9 (K:Rc) (Pt:Addr):Sp:=λvs H Q _=>∃ (a:Addr) (ns:List Int),vs = [.ref a]/\SqL K H a (ns.map V.int)/\H Pt=some (.tab mQ)/\∀ H',H' Pt=some (.tab mQ)->Q (.bl true) H'
theorem jW:FnScope ["script", "tape", "turn", "book", "best", "go", "have", "able", "some", "work", "hands", "works", "page"] ["script"] (aH aAJ):=⟨rfl,rfl,rfl,by decide +kernel,rfl,by decide +kernel,by decide +kernel⟩
set_option maxHeartbeats 4000000 in
theorem aHh {fCu fEv fMg fHm fFo fCr fFr fWy fK' fBB fDD:Addr} {dD' dCu dEv dMg dHm dFo dCr dFr dWy dK' dBB dDD:FuncData} (G:Fn K mg "law" aAJ ["script"] f fd) (B:Bl mg) (R:Pr K mg fW fH fK' fBB fNB fDD fND fL dW dH dK' dBB dNB dDD dND dL) (OL:FnOk P w K mg base CX0 7 fL dL ["book", "deal"] (qU K)) (GB:Fn K mg "_law_b_book" aBC ["tape", "hands", "works"] fB dB) (OB:FnOk P w K mg base CX0 4 fB dB ["tape", "hands", "works"] (aEg K)) (GD:Fn K mg "_law_b_digit" nF ["tape", "many"] fD dD') (OD:FnOk P w K mg base CX0 2 fD dD' ["tape", "many"] (mG K)) (GCu:Fn K mg "_law_b_cut" aFA ["book", "most"] fCu dCu) (OCu:FnOk P w K mg base CX0 1 fCu dCu ["book", "most"] (aGs K)) (GEv:Fn K mg "evenest" hJ ["book"] fEv dEv) (OEv:FnOk P w K mg base CX0 11 fEv dEv ["book"] (iJ K Pt)) (GMg:Fn K mg "may_go" sB ["book"] fMg dMg) (OMg:FnOk P w K mg base CX0 12 fMg dMg ["book"] (aB0 K Pt)) (GMh:Fn K mg "may_have" fF ["book"] fMh dMh) (OMh:FnOk P w K mg base CX0 13 fMh dMh ["book"] (jT K Pt)) (GHm:Fn K mg "how_many" lQ ["book"] fHm dHm) (OHm:FnOk P w K mg base CX0 13 fHm dHm ["book"] (mN K Pt)) (GFa:Fn K mg "falling" jN ["book", "deal"] fFa dFa) (OFa:FnOk P w K mg base CX0 8 fFa dFa ["book", "deal"] (jP K)) (GFo:Fn K mg "_law_b_follow" qR ["row"] fFo dFo) (OFo:FnOk P w K mg base CX0 1 fFo dFo ["row"] (aAd K)) (GCr:Fn K mg "_law_b_called_right" iD ["tape", "book", "have"] fCr dCr) (OCr:FnOk P w K mg base CX0 14 fCr dCr ["tape", "book", "have"] (aAe K Pt)) (GFr:Fn K mg "_law_b_forced_right" mE ["book", "work", "row", "hands"] fFr dFr) (OFr:FnOk P w K mg base CX0 14 fFr dFr ["book", "work", "row", "hands"] (aAf K Pt)) (GWy:Fn K mg "_law_b_ways_to_choose" aBD ["hands", "works"] fWy dWy) (OWy:FnOk P w K mg base CX0 1 fWy dWy ["hands", "works"] (aES K)):FnOk P w K mg base CX0 15 f fd ["script"] (aB9 K Pt):=by
 refine G.fn.ok jW (λvs H Q E h=>?_) (λcdv A outer s H vs Q E hr h=>?_)
 ·obtain ⟨a,ns,rfl,_⟩:=h
  rfl
 ·obtain ⟨a,ns,rfl,hns,hPt,k⟩:=h
  have r1:Room 1 _:=hr.mono (by decide)
  have r2:Room 2 _:=hr.mono (by decide)
  have r4:Room 4 _:=hr.mono (by decide)
  have r7:Room 7 _:=hr.mono (by decide)
  have r8:Room 8 _:=hr.mono (by decide)
  have r11:Room 11 _:=hr.mono (by decide)
  have r12:Room 12 _:=hr.mono (by decide)
  have r13:Room 13 _:=hr.mono (by decide)
  have r14:Room 14 _:=hr
  refine ⟨_,(aD (aL (i:=1) jW.nd rfl (Or.inl rfl) (fO (aA (pv 0) (aA aG (aA aG aC)))))
  (aD (eC PassesOwn.never rfl (cC rfl B.range (aA aG aC)) (aJ (i:=2) jW.nd rfl (Or.inl rfl))
   (aD (aL (i:=3) jW.nd rfl (Or.inr rfl) (bB GCu OCu r1 rfl (aA (bB GB OB r4 rfl (aA (pv 1) (aA aG (aA aG aC)))) (aA (bA cY (fO (aA aG (aA aG aC))) (pv 2) (λ_ _=>rfl)) aC))))
  (aD (aL (i:=4) jW.nd rfl (Or.inr rfl) (bA bT (bB GEv OEv r11 rfl (aA (pv 3) aC)) aG (λ_ _=>rfl)))
  (aD (aL (i:=5) jW.nd rfl (Or.inr rfl) (bB GMg OMg r12 rfl (aA (pv 3) aC)))
  (aD (aL (i:=6) jW.nd rfl (Or.inr rfl) (bB GMh OMh r13 rfl (aA (pv 3) aC)))
  (aD (cG (eE (aP (yD rfl) rfl B.any aGj (aA (bX (own:=["work"]) (fr:=[4,5]) (frn:=["best", "go"]) (bD (aH aAJ) ["script", "tape", "turn", "book", "best", "go", "have", "able", "some", "work", "hands", "works", "page"] rfl rfl (by decide +kernel)) rfl (cC rfl B.range (aA (aP bC rfl B.len fV (aA (pv 4) aC)) aC))
    (λ_ _ _ _=>(aJ (i:=0) (show (["work", "best", "go"]:List Str).Nodup by decide +kernel) rfl (Or.inl rfl))) (λ_ _ _ _=>dM)
    (λ_ _ _ _=>(cP (mT (K:=K) rfl) (bA (dU (K:=K) rfl) (pv 1) (pv 0) (λ_ _=>rfl)) (bA (lJ (K:=K) rfl) (pv 2) (pv 0) (λ_ _=>rfl)) (by with_unfolding_all rfl)))) aC)))
   (aI (aW eY))
   bI)
  (aD (eC PassesOwn.never rfl (rN .t .l rfl B.zip (aA (bA bT (pv 3) aG (λ_ _=>rfl)) (aA (pv 5) aC))) (fX rfl (aZ (aJ (i:=7) jW.nd rfl (Or.inl rfl)) (aZ (aJ (i:=8) jW.nd rfl (Or.inr rfl)) dP)))
   (aI (cG (bJ (aAr hr.u64) (bK nR rfl B.list aAE (aA (pv 8) aC)) (bX (own:=["hand"]) (fr:=[8]) (frn:=["some"]) (bD (aH aAJ) ["script", "tape", "turn", "book", "best", "go", "have", "able", "some", "work", "hands", "works", "page"] rfl rfl (by decide +kernel)) rfl (fY (pv 7))
    (λ_ _ _ _=>(aJ (i:=0) (show (["hand", "some"]:List Str).Nodup by decide +kernel) rfl (Or.inl rfl))) (λ_ _ _ _=>oY (bJ (kA (K:=K) rfl) (pv 0) (pv 1) (by with_unfolding_all rfl)))
    (λ_ _ _ _=>(pv 0))) (bE _))
   (aI (aW eY))
   bI)))
  (aD (cG (eE (aP (yD rfl) rfl B.any aGj (aA (bX (own:=["hand"]) (fr:=[4,3,6]) (frn:=["best", "book", "have"]) (bD (aH aAJ) ["script", "tape", "turn", "book", "best", "go", "have", "able", "some", "work", "hands", "works", "page"] rfl rfl (by decide +kernel)) rfl (cC rfl B.range (aA (bA bT (pv 3) aG (λ_ _=>rfl)) aC))
    (λ_ _ _ _=>(aJ (i:=0) (show (["hand", "best", "book", "have"]:List Str).Nodup by decide +kernel) rfl (Or.inl rfl))) (λ_ _ _ _=>dM)
    (λ_ _ _ _=>(cP (mT (K:=K) rfl) (bA (dU (K:=K) rfl) (bB R.L OL r7 rfl (aA (pv 2) (aA (pv 1) aC))) (pv 0) (λ_ _=>rfl)) (bA (lJ (K:=K) rfl) (pv 3) (pv 0) (λ_ _=>rfl)) (by with_unfolding_all rfl)))) aC)))
   (aI (aW eY))
   bI)
  (aD (cG (PW.pt (kT (eQ (eE (aP (iP rfl) rfl B.all rX (aA (bX (own:=["row"]) (fr:=[]) (frn:=[]) (bD (aH aAJ) ["script", "tape", "turn", "book", "best", "go", "have", "able", "some", "work", "hands", "works", "page"] rfl rfl (by decide +kernel)) rfl (jX (pv 6))
    (λ_ _ _ _=>(aJ (i:=0) (show (["row"]:List Str).Nodup by decide +kernel) rfl (Or.inl rfl))) (λ_ _ _ _=>dM)
    (λ_ _ _ _=>(bB GFo OFo r1 rfl (aA (pv 0) aC)))) aC)))) (jD (eQ (eE (bB GCr OCr r14 rfl (aA (pv 1) (aA (pv 3) (aA (pv 6) aC)))))))))
   (aI (aW eY))
   bI)
  (aFd (cG (bJ (aAr hr.u64) (pv 4) (dI aC) (bE _))
   (aD (aL (i:=9) jW.nd rfl (Or.inl rfl) (bB GD OD r2 rfl (aA (pv 1) (aA (aP bC rfl B.len fV (aA (pv 4) aC)) aC))))
  (aI (cG (eQ (eE (bB GFr OFr r14 rfl (aA (pv 3) (aA (pv 9) (aA (bB GFa OFa r8 rfl (aA (pv 3) (aA (pv 4) aC))) (aA (bA cY (pv 5) (pv 9) (λ_ _=>rfl)) aC)))))))
   (aI (aW eY))
   bI)))
   bI)
  (aD (aL (i:=10) jW.nd rfl (Or.inl rfl) (aY bY aG (bB GD OD r2 rfl (aA (pv 1) (aA aG aC)))))
  (aD (aL (i:=11) jW.nd rfl (Or.inl rfl) (bB GD OD r2 rfl (aA (pv 1) (aA aG aC))))
  (aD (aL (i:=12) jW.nd rfl (Or.inl rfl) (dI (aA (pv 10) (aA (aY (aFp (K:=K) rfl) (dI (aA (bK (lG rfl) rfl B.tuple cJ (aA (bK pU rfl B.range aBz (aA (pv 10) aC)) aC)) aC)) (pv 11)) aC))))
  (aI (cG (PW.pt (aDe (bJ gH (pv 2) aG (bE _)) (aA9 (bJ rB (bB GHm OHm r13 rfl (aA (pv 12) aC)) (bB GWy OWy r1 rfl (aA (pv 10) (aA (pv 11) aC))) (bE _)))))
   (aI (aW eY))
   bI)))))))))))))))
  (aI (aW eY)))),?_⟩
  refine ⟨_,rfl,eG (show 3<=1000 by decide),λt ht=>?_⟩
  have hTape:gG K (upd H t (.lst [.ref a,.int 0,.int 0])) t a ns:=⟨⟨0,0,by decide,aB⟩,(aE.new ht).seqL hns⟩
  have nPt:Pt≠t:=λz=>by rw [z,ht] at hPt; cases hPt
  have P1:=(aE.new (o:=.lst [.ref a,.int 0,.int 0]) ht) _ _ hPt
  generalize upd H t (.lst [.ref a,.int 0,.int 0])=H1 at hTape P1 ⊢
  refine ⟨2,rfl,by decide,by decide,eU (lo:=0) (n:=2) (λi σ H2=>(∃ v2 v3 v4 v5 v6 v7 v8 v9 v10 v11 v12,σ = [some (.ref a),some (.ref t),v2,v3,v4,v5,v6,v7,v8,v9,v10,v11,v12])/\gG K H2 t a ns/\H2 Pt=some (.tab mQ)) ⟨⟨_,_,_,_,_,_,_,_,_,_,_,rfl⟩,hTape,P1⟩ ?_ ?_⟩
  ·rintro i σ H2 hi ⟨⟨v2,v3,v4,v5,v6,v7,v8,v9,v10,v11,v12,rfl⟩,T2,P2⟩
   obtain ⟨mo,hmo1,hmo2,hat⟩:∃ mo:Int,1<=mo/\mo<=1000/\atI [V.int 24,V.int 14] (0+(i:Int))=some (V.int mo):=by
    match i,hi with
    | 0,_=>exact ⟨24,by decide,by decide,rfl⟩
    | 1,_=>exact ⟨14,by decide,by decide,rfl⟩
   refine ⟨_,rfl,t,a,ns,rfl,T2,λn ws0 bp0 H3 hb0 b3 T3 hbk0=>⟨sz2 _ _,λlp hlp=>?_⟩⟩
   have P3:=b3 _ _ nPt P2
   have s4:=aE.new (o:=.lst [.int 24,.int 14]) hlp
   refine ⟨_,rfl,lp,_,_,.int mo,rfl,rfl,SqL.of aB,hat,?_⟩
   have T4:=T3.same s4
   have P4:=s4 _ _ P3
   have hbk4:=s4.den _ _ hbk0
   generalize upd H3 lp (.lst [.int 24,.int 14])=H4 at T4 P4 hbk4 ⊢
   refine ⟨_,n,mo,ws0,rfl,hmo1,hmo2,hbk4,hb0,λbp ws H5 s5 hbk hb=>?_⟩
   have T5:=T4.same s5
   have P5:=s5 _ _ P4
   obtain ⟨hn1,hn6,h12,hws⟩:=bF hb
   dsimp only [cO]
   refine ⟨_,rfl,.ref bp,n,ws,rfl,hbk,hb,P5,λep dp lvp hs lv H6 s6 hep hdp hd hlp Le=>?_⟩
   have L:=lU Le (cV hb hd) (eN hb)
   have hlv:=Le.1
   have hhl:=(aR hd).1
   refine ⟨ep,_,0,.ref dp,rfl,rfl,SqT.of hep,rfl,?_⟩
   dsimp only [cO]
   refine ⟨_,rfl,.ref bp,n,ws,rfl,s6.den _ _ hbk,hb,s6 _ _ P5,λgp gq hs1 lv1 H7 s7 hd1 L1 egp hgl hge=>?_⟩
   have s57:=s6.trans s7
   dsimp only [cO]
   refine ⟨_,rfl,.ref bp,n,ws,rfl,s57.den _ _ hbk,hb,s57 _ _ P5,λhp hq hs2 lv2 H8 s8 hd2 L2 ehp hhq hhe=>?_⟩
   have s58:=s57.trans s8
   have F8:Fx K H8 t a Pt bp dp gp hp ns n ws hs lv:=⟨T5.same s58,s58 _ _ P5,s58.den _ _ hbk,(s7.trans s8) _ _ hdp,⟨gq,s8 _ _ egp,hgl,λj q hq'=>by rw [s8 _ _ (hge j q hq'),aF4 hb hd L hd1 L1]⟩,⟨hq,ehp,hhq,λj q hq'=>by
    obtain ⟨r,r1,r2⟩:=hhe j q hq'
    exact ⟨r,r1,r2.1,λx=>(r2.2 x).trans (aF5 hb hd L hd2 L2 j x)⟩⟩⟩
   clear egp hge ehp hhe
   dsimp only [cO]
   obtain ⟨gq,egp,hgl,hge⟩:=F8.go
   refine ⟨_,rfl,dp,_,rfl,.inr (SqT.of F8.dp),_,rfl,by omega,by rw [Qb]; omega,fP (lo:=0) (n:=(((hs.map V.int).length:Nat):Int).toNat) (λσ=>∃ v,σ = [v,some (.ref dp),some (.ref gp)]) (λm zs H9=>H9=H8/\zs=(List.replicate m false).map V.bl) (eG (by rw [Qb]; omega)) ⟨none,rfl⟩ ⟨rfl,rfl⟩ (λm zs _ z=>by rw [z.2,Qb,Ju]; exact Qg _) ?_ ?_⟩
   ·rintro j zs σ H9 hj ⟨v,rfl⟩ ⟨rfl,rfl⟩ hz
    rw [Qb] at hj
    rw [Xp]
    have hj':j < hs.length:=by omega
    have e1:=Qc hj'
    have e2:=Qc (show j < ws.length by omega)
    have e3:=Qc (show j < gq.length by omega)
    have hm:hs[j]∈goR n ws lv j:=(aEU e2).mpr ⟨(aR hd).2 j _ _ e1 e2,hs,hd,e1,L⟩
    refine cB ?_
    refine ⟨_,rfl,_,rfl,dp,_,(j:Int),.int hs[j],rfl,rfl,SqT.of F8.dp,cH (by rw [Qe,e1]; rfl),_,rfl,_,rfl,gp,_,(j:Int),.ref gq[j],rfl,rfl,SqL.of egp,cH (by rw [Qe,e3]; rfl),gq[j],_,rfl,.inr (SqT.of (hge j _ e3)),rfl,gN _,?_⟩
    rw [if_pos rfl,inD,decide_eq_true hm]
    exact ⟨hz,⟨_,rfl⟩,rfl,(tK j false).symm⟩
   rintro zs H9 ⟨rfl,rfl⟩ lq hlq
   have s9:=aE.new (o:=.lst ((List.replicate (((hs.map V.int).length:Nat):Int).toNat false).map V.bl)) hlq
   refine ⟨lq,_,rfl,SqL.of aB,_,rfl,?_⟩
   rw [aB8]
   refine gF ?_
   have F9:=F8.same s9
   generalize upd H9 lq (.lst ((List.replicate (((hs.map V.int).length:Nat):Int).toNat false).map V.bl))=H10 at F9 ⊢
   dsimp only [aBa]
   obtain ⟨ba,bb,ys,eba,ha,hb2,hys⟩:=cU F9.bk
   obtain rfl:bp=ba:=by injection eba
   have hlw:=aQ hys
   rw [Qb] at hlw
   obtain ⟨gq,egp,hgl,hge⟩:=F9.go
   refine ⟨_,rfl,bp,_,1,.ref bb,rfl,rfl,ha,rfl,_,rfl,bb,gp,ys,gq.map V.ref,rfl,hb2,SqL.of egp,aE9 (K:=K) (k1:=.t) (k2:=.l) (a:=bb) (b:=gp) (xs:=ys) (ys:=gq.map V.ref) (λ_ σ H11=>(∃ v7 v8,σ = [some (.ref a),some (.ref t),some (.int (0+(i:Int))),some (.ref bp),some (.ref dp),some (.ref gp),some (.ref hp),v7,v8,v9,v10,v11,v12])/\aE H10 H11) (by rw [Qb]; omega) ⟨⟨_,_,rfl⟩,aE.refl _⟩ (λ_ σ H11 _ z=>⟨z.2.seqT hb2,SqL.of (z.2 _ _ egp)⟩) ?_ ?_⟩
   ·rintro j x y p11 σ H11 hx11 hy11 ⟨⟨v7,v8,rfl⟩,s11⟩ hp11
    obtain ⟨dv,hdv,denv⟩:=cT (s11.denAll _ _ hys) hx11
    rw [Qe] at hdv hy11
    obtain ⟨l,hl,rfl⟩:∃ l,ws[j]?=some l/\bM l=dv:=by
     cases q:ws[j]? with
     | none=>rw [q] at hdv; cases hdv
     | some l=>rw [q] at hdv; exact ⟨l,rfl,Option.some.inj hdv⟩
    obtain ⟨q,hq1,rfl⟩:∃ q,gq[j]?=some q/\V.ref q=y:=by
     cases e:gq[j]? with
     | none=>rw [e] at hy11; cases hy11
     | some q=>rw [e] at hy11; exact ⟨q,rfl,Option.some.inj hy11⟩
    obtain ⟨pw,rfl,hpw⟩:=aO.mp denv
    have hl6:=(λw=>eK (show (0:Int)<=n by omega) w.2.1 w.2.2) (bH (hws l (Qj hl)))
    have s12:=aE.new (o:=.tup [.ref pw,.ref q]) hp11
    have t12:upd H11 p11 (.tup [.ref pw,.ref q]) p11=some (.tup [.ref pw,.ref q]):=aB
    have hpw12:=s12.seqT hpw
    have hq12:=(s11.trans s12) _ _ (hge j q hq1)
    have s1012:=s11.trans s12
    generalize upd H11 p11 (.tup [.ref pw,.ref q])=H12 at s12 t12 hpw12 hq12 s1012 ⊢
    refine ⟨p11,_,rfl,SqT.of t12,rfl,_,_,rfl,_,_,rfl,rfl,?_⟩
    dsimp only [cO]
    refine ⟨_,rfl,q,_,rfl,.inr (SqT.of hq12),λll hll=>?_⟩
    have s13:=aE.new (o:=.lst ((goR n ws lv j).map V.int)) hll
    have e13:upd H12 ll (.lst ((goR n ws lv j).map V.int)) ll=some (.lst ((goR n ws lv j).map V.int)):=aB
    have hpw13:=s13.seqT hpw12
    have hq13:=s13 _ _ hq12
    have s1013:=s1012.trans s13
    generalize upd H12 ll (.lst ((goR n ws lv j).map V.int))=H13 at s13 e13 hpw13 hq13 s1013 ⊢
    refine ⟨_,rfl,pw,rfl,⟨_,hpw13⟩,gY (K:=K) (a:=pw) (xs:=l.map V.int) (λσ=>∃ v,σ = [v,some (.ref q)]) (λm zs H14=>H14=H13/\zs=((l.take m).filter λh=>decide (h∈goR n ws lv j)).map V.int) (eG (by rw [Qb]; omega)) ⟨none,rfl⟩ ⟨rfl,rfl⟩ (λm zs _ z=>by rw [z.2,Qb]; exact Jl (Za ..) (Wl ..)) (λm zs _ z=>by rw [z.1]; exact hpw13) ?_ ?_⟩
    ·rintro m zs σ u H14 hu ⟨v,rfl⟩ ⟨rfl,rfl⟩ hz
     obtain ⟨h,hh,rfl⟩:=aAT hu
     have et:l.take (m+1)=l.take m++[h]:=by rw [Jp,hh]; rfl
     dsimp only [cO]
     refine ⟨_,rfl,_,rfl,q,_,rfl,.inr (SqT.of hq13),rfl,gN _,_,rfl,?_⟩
     rw [show (if false=true then !inV (V.int h) ((goR n ws lv j).map V.int) else inV (V.int h) ((goR n ws lv j).map V.int))=decide (h∈goR n ws lv j) from inD h _]
     by_cases hg:h∈goR n ws lv j
     ·rw [decide_eq_true hg]
      refine iN ⟨_,rfl,hz,⟨_,rfl⟩,rfl,?_⟩
      rw [et,Xi,Xu (p:=λh=>decide (h∈goR n ws lv j)) (decide_eq_true hg),Qo]
      rfl
     ·rw [decide_eq_false hg]
      refine gF ⟨⟨_,rfl⟩,rfl,?_⟩
      rw [et,Xi,Xt (p:=λh=>decide (h∈goR n ws lv j)) (by simpa using hg),Qap,Zk]
    ·rintro zs H14 ⟨rfl,rfl⟩ zp hzp
     rw [Qb,Jj,aC9 hl] at *
     have s15:=aE.new (o:=.lst ((goR n ws lv j).map V.int)) hzp
     refine ⟨.list ((goR n ws lv j).map .int),.list ((goR n ws lv j).map .int),dQ.mpr ⟨ll,_,rfl,SqL.of (s15 _ _ e13),cD.mpr rfl⟩,dQ.mpr ⟨zp,_,rfl,SqL.of aB,cD.mpr rfl⟩,cS _,cS _,dX _,dX _,_,rfl,?_⟩
     rw [mI,decide_eq_true rfl]
     exact gF ⟨⟨_,_,rfl⟩,s1013.trans s15⟩
   rintro σ H11 ⟨⟨v7,v8,rfl⟩,s11⟩
   have F11:=F9.same s11
   clear hys hb2 ha egp hge hgl
   dsimp only
   obtain ⟨ba,bb,ys,eba,ha,hb2,hys⟩:=cU F11.bk
   obtain rfl:bp=ba:=by injection eba
   obtain ⟨tq,etp,htl,hte⟩:=F11.tl
   refine ⟨_,rfl,bp,_,0,.int n,rfl,rfl,ha,rfl,n,rfl,by omega,by omega,fP (lo:=0) (n:=n.toNat) (λσ=>∃ v,σ = [v,some (.ref dp),some (.ref bp),some (.ref hp)]) (λm zs H12=>aE H11 H12/\zs=(List.replicate m false).map V.bl) (eG (by omega)) ⟨none,rfl⟩ ⟨aE.refl _,rfl⟩ (λm zs _ z=>by rw [z.2,Qb,Ju]; exact Qg _) ?_ ?_⟩
   ·rintro j zs σ H12 hj ⟨v,rfl⟩ ⟨s12,rfl⟩ hz
    rw [Xp]
    have F12:=F11.same s12
    have e3:=Qc (show j < tq.length by omega)
    obtain ⟨r,r1,r2⟩:=hte j _ e3
    have hm:((hs.count (j:Int):Nat):Int)∈r:=(r2.2 _).mpr ⟨hs,hd,L,rfl⟩
    refine cB ?_
    refine ⟨_,rfl,_,rfl,.ref bp,.ref dp,n,ws,hs,rfl,⟨F12.bk,hb,aO.mpr ⟨dp,rfl,SqT.of F12.dp⟩,hd⟩,λp13 H13 s13 e13=>?_⟩
    refine ⟨_,rfl,p13,_,(j:Int),.int ((hs.count (j:Int):Nat):Int),rfl,rfl,SqT.of e13,cH (by rw [Qe,nH hj]; rfl),_,rfl,_,rfl,hp,_,(j:Int),.ref tq[j],rfl,rfl,SqL.of ((s12.trans s13) _ _ etp),cH (by rw [Qe,e3]; rfl),tq[j],_,rfl,.inr (SqT.of ((s12.trans s13) _ _ r1)),rfl,gN _,?_⟩
    rw [if_pos rfl,inD,decide_eq_true hm]
    exact ⟨hz,⟨_,rfl⟩,s12.trans s13,(tK j false).symm⟩
   rintro zs H12 ⟨s12,rfl⟩ lq hlq
   have s13:=aE.new (o:=.lst ((List.replicate n.toNat false).map V.bl)) hlq
   refine ⟨lq,_,rfl,SqL.of aB,_,rfl,?_⟩
   rw [aB8]
   refine gF ?_
   have F13:=F11.same (s12.trans s13)
   generalize upd H12 lq (.lst ((List.replicate n.toNat false).map V.bl))=H13 at F13 ⊢
   clear hte etp htl
   dsimp only [aBa]
   obtain ⟨tq,etp,htl,hte⟩:=F13.tl
   refine ⟨_,rfl,hp,rfl,⟨_,SqL.of etp⟩,pC (K:=K) (a:=hp) (xs:=tq.map V.ref) (λσ=>∃ v,σ = [v]) (λm zs H14=>H14=H13/\zs=(List.replicate m true).map V.bl) (eG (by rw [Qb]; omega)) ⟨none,rfl⟩ ⟨rfl,rfl⟩ (λm zs _ z=>by rw [z.2,Qb,Ju]; exact Qg _) (λm zs _ z=>by rw [z.1]; exact SqL.of etp) ?_ ?_⟩
   ·rintro j zs σ x H14 hx14 ⟨v,rfl⟩ ⟨rfl,rfl⟩ hz
    rw [Qe] at hx14
    obtain ⟨q,hq1,rfl⟩:∃ q,tq[j]?=some q/\V.ref q=x:=by
     cases e:tq[j]? with
     | none=>rw [e] at hx14; cases hx14
     | some q=>rw [e] at hx14; exact ⟨q,rfl,Option.some.inj hx14⟩
    obtain ⟨r,r1,r2⟩:=hte j q hq1
    obtain ⟨c,hc⟩:=aEV hd L (show j < n.toNat by have:=(Qd.mp hq1).1; omega) r2
    refine cB ?_
    exact ⟨_,rfl,q,r,c,rfl,SqT.of r1,hc,hz,⟨_,rfl⟩,rfl,(tK j true).symm⟩
   rintro zs H14 ⟨rfl,rfl⟩ lq2 hlq2
   have s14:=aE.new (o:=.lst ((List.replicate (tq.map V.ref).length true).map V.bl)) hlq2
   refine ⟨lq2,_,rfl,SqL.of aB,_,rfl,?_⟩
   rw [aHg]
   refine gF ?_
   have F14:=F13.same s14
   generalize upd H14 lq2 (.lst ((List.replicate (tq.map V.ref).length true).map V.bl))=H15 at F14 ⊢
   refine ⟨_,rfl,_,rfl,_,rfl,t,a,hp,ns,.ref bp,n,ws,hs,lv,rfl,F14.T,F14.bk,hb,F14.P,hd,L,F14.tl,λH16 b16 T16=>⟨_,rfl,?_⟩⟩
   refine gF ?_
   have F16:=F14.but b16 T16
   clear hte etp htl
   dsimp only [aBa]
   refine ⟨λσ H17=>(∃ v9,σ = [some (.ref a),some (.ref t),some (.int (0+(i:Int))),some (.ref bp),some (.ref dp),some (.ref gp),some (.ref hp),v7,v8,v9,v10,v11,v12])/\Fx K H17 t a Pt bp dp gp hp ns n ws hs lv,?_,?_⟩
   ·refine ⟨_,rfl,eG (Jn _),λe0 he0=>?_⟩
    have s17:=aE.new (o:=.tup []) he0
    have F17:=F16.same s17
    have e17:upd H16 e0 (.tup []) e0=some (.tup (([]:List Int).map V.int)):=aB
    generalize upd H16 e0 (.tup [])=H17 at F17 e17 ⊢
    refine ⟨.tuple (hs.map .int),.tuple (([]:List Int).map .int),aO.mpr ⟨dp,rfl,SqT.of F17.dp⟩,aO.mpr ⟨e0,rfl,SqT.of e17⟩,kC _,kC _,oE _,oE _,_,rfl,?_⟩
    rw [uY]
    by_cases hh0:hs = []
    ·rw [decide_eq_true hh0]
     exact gF ⟨⟨_,rfl⟩,F17⟩
    ·rw [decide_eq_false hh0]
     refine iN ?_
     have hpos:=Zu.mpr hh0
     refine ⟨_,rfl,_,rfl,dp,_,rfl,.inr (SqT.of F17.dp),t,a,ns,_,rfl,F17.T,by rw [Qb]; omega,by rw [Qb]; omega,λr H18 hr0 hr1 b18 T18=>?_⟩
     rw [Qb] at hr1
     have F18:=F17.but b18 T18
     obtain ⟨rn,rfl⟩:∃ rn:Nat,r=(rn:Int):=⟨r.toNat,by omega⟩
     dsimp only [cO]
     refine ⟨_,rfl,_,rfl,_,rfl,_,rfl,.ref bp,.ref dp,n,ws,hs,rfl,⟨F18.bk,hb,aO.mpr ⟨dp,rfl,SqT.of F18.dp⟩,hd⟩,λfp H19 ms s19 _ e19 pm sm=>?_⟩
     have F19:=F18.same s19
     obtain ⟨gq,egp,hgl,hge⟩:=F19.go
     have e3:=Qc (show rn < gq.length by omega)
     refine ⟨_,rfl,_,rfl,gp,_,(rn:Int),.ref gq[rn],rfl,rfl,SqL.of egp,cH (by rw [Qe,e3]; rfl),.ref bp,rn,fp,gq[rn],n,ws,hs,lv,ms,rfl,F19.bk,hb,by omega,F19.P,hd,L,hlv,e19,pm,sm,hge rn _ e3,λH20 s20=>⟨_,rfl,?_⟩⟩
     exact gF ⟨⟨_,rfl⟩,F19.same s20⟩
   rintro σ H17 ⟨⟨v9',rfl⟩,F17⟩
   refine ⟨_,rfl,t,a,ns,6,rfl,F17.T,by decide,by decide,λr H18 hr0 hr1 b18 T18=>⟨_,_,rfl,rfl,?_⟩⟩
   have F18:=F17.but b18 T18
   dsimp only [cO]
   refine ⟨_,rfl,t,a,ns,13,rfl,F18.T,by decide,by decide,λu H19 hu0 hu1 b19 T19=>?_⟩
   have F19:=F18.but b19 T19
   obtain ⟨nn,hnn,hn0,hn6'⟩:∃ nn:Nat,1+r=(nn:Int)/\0 < nn/\nn<=6:=⟨(1+r).toNat,by omega,by omega,by omega⟩
   obtain ⟨mm,rfl,hm12⟩:∃ mm:Nat,u=(mm:Int)/\mm<=12:=⟨u.toNat,by omega,by omega⟩
   rw [hnn]
   dsimp only [cO]
   refine ⟨_,rfl,_,rfl,(nn:Int),rfl,λrp hrp=>⟨rp,nn,rfl,aB,by omega,λtp H21 s21 g21=>⟨sz1 _,λq1 hq1=>?_⟩⟩⟩
   have s20:=aE.new (o:=.rng 0 (nn:Int)) hrp
   have s22:=aE.new (o:=.tup [.ref tp]) hq1
   have e22:upd H21 q1 (.tup [.ref tp]) q1=some (.tup [.ref tp]):=aB
   have g22:=s22.seqT g21
   have F22:=F19.same (s20.trans (s21.trans s22))
   generalize upd H21 q1 (.tup [.ref tp])=H22 at s22 e22 g22 F22 ⊢
   refine ⟨_,rfl,q1,mm,_,rfl,rfl,SqT.of e22,by omega,(show 1<=1000 by decide),λwp H23 s23 g23=>⟨sz2 _ _,λpp hpp=>?_⟩⟩
   rw [Zj] at g23
   have s24:=aE.new (o:=.tup [.int (nn:Int),.ref wp]) hpp
   have pd:Den K (upd H23 pp (.tup [.int (nn:Int),.ref wp])) (aT (nn:Int) (full nn mm)) (.ref pp):=by
    refine mJ (SqT.of aB) (s24.seqT g23) ?_
    unfold full
    rw [Wu]
    have:=(s23.trans s24).seqT g22
    clear g23
    induction mm with
    | zero=>exact aU.mpr rfl
    | succ m ih=>exact aN.mpr ⟨_,_,rfl,aO.mpr ⟨tp,rfl,this⟩,ih (by omega) (by omega) (by omega)⟩
   have F24:=F22.same (s23.trans s24)
   generalize upd H23 pp (.tup [.int (nn:Int),.ref wp])=H24 at pd F24 ⊢
   have pb:=aDa hn0 hn6' hm12
   dsimp only [cO]
   refine ⟨_,rfl,rfl,_,rfl,dJ (λ_=>?_) (λ_=>gF ⟨⟨_,_,_,_,_,_,_,_,_,_,_,rfl⟩,F24.T,F24.P⟩)⟩
   refine ⟨_,rfl,.ref pp,(nn:Int),full nn mm,rfl,pd,pb,F24.P,λhs5 lv5 H25 s25 hd5 L5=>?_⟩
   have L5':=lU L5 (cV pb hd5) (eN pb)
   have l5:=L5.1
   rw [Jc] at l5
   rw [Jc,aF1 hn0 hn6' hm12 pb hd5 L5' l5]
   refine ⟨_,rfl,_,rfl,nn,mm,rfl,hn0,hn6',hm12,rfl,_,rfl,?_⟩
   rw [vK]
   have F25:=F24.same s25
   exact gF ⟨⟨_,_,_,_,_,_,_,_,_,_,_,rfl⟩,F25.T,F25.P⟩
  ·rintro σ H2 ⟨_,_,P2⟩
   exact k _ P2
end Ab
namespace Ab
open PySem L2 PyProof.Rows
theorem aH6 (X:K.In h) (G:h.Ns mainGlobals mg) {x:Str} {kV:Value} (hb:∀ (kV doc pm:Value) (an:Option Addr) (cdv ct:Value) (us:List Value),us.length=ps.length->bindArgs (Tn x x (jA st) (eV st) (aH st) .none kV doc pm an cdv ct) ⟨us,[]⟩=pure (ps.zip us)) (a:Ro K mainGlobals x=some (some (.ref f))) (l:K.lookup f=some ⟨oc,od,.func (Tn x x (jA st) (eV st) (aH st) .none kV doc pm an cdv ct),osl⟩) (c:Ve K cdv x=true) (k:Uo K (.ref f)=true) :
  ∃ f fd,Fn K mg x st ps f fd:=by
 have F:=aDs (st:=st) l c k
 exact ⟨f,_,F,Vt X G a,k,F.binds hb⟩
theorem aHi (X:K.In h) (G:h.Ns mainGlobals mg) {x:Str} {kV:Value} (hb:∀ (kV doc pm:Value) (an:Option Addr) (cdv ct:Value) (us:List Value),us.length=ps.length->bindArgs (Tn x x (jA st) (eV st) (aH st) .none kV doc pm an cdv ct) ⟨us,[]⟩=pure (ps.zip us)) (a:Ro K mainGlobals x=some (some (.ref f))) (l:K.lookup f=some ⟨oc,od,.func (Tn x x (jA st) (eV st) (aH st) .none kV doc pm an cdv ct),osl⟩) (c:Ve K cdv x=true) (k:Uo K (.ref f)=true) :
  ∃ f fd,Fn K mg x st ps f fd/\fd.code=cdv:=by
 have F:=aDs (st:=st) l c k
 exact ⟨f,_,⟨F,Vt X G a,k,F.binds hb⟩,rfl⟩
theorem aH7 (X:K.In h) (G:h.Ns mainGlobals mg) {t6 t12:Tok} (z0:Ro K mainGlobals "isinstance" = some none) (z1:Ro K mainGlobals "int" = some none) (z2:Ro K mainGlobals "bool" = some none) (z3:Ro K mainGlobals "tuple" = some none) (z4:Ro K mainGlobals "list" = some none) (z5:Ro K mainGlobals "len" = some none) (z6:Ro K mainGlobals "all" = some none) (z7:Ro K mainGlobals "zip" = some none) (z8:Ro K mainGlobals "range" = some none) (z9:Ro K mainGlobals "sorted" = some none) (z10:Ro K mainGlobals "set" = some none) (z11:Ro K mainGlobals "sum" = some none) (z12:Ro K mainGlobals "repr" = some none) (z13:Ro K mainGlobals "enumerate" = some none) (z14:Ro K mainGlobals "min" = some none) (z15:Ro K mainGlobals "any" = some none) (z16:Ro K mainGlobals "max" = some none) (zA:Ro K mainGlobals "MOST_HANDS" = some (some (.int 6 t6))) (zB:Ro K mainGlobals "MOST_WORKS" = some (some (.int 12 t12))):Bl mg :=
 ⟨Rk X G z0,Rk X G z1,Rk X G z2,Rk X G z3,Rk X G z4,Rk X G z5,Rk X G z6,Rk X G z7,Rk X G z8,Rk X G z9,Rk X G z10,Rk X G z11,Rk X G z12,Rk X G z13,Rk X G z14,Rk X G z15,Rk X G z16,⟨_,Vt X G zA⟩,⟨_,Vt X G zB⟩⟩
theorem aF6 {l:Ij} {fa:Addr} (hfa:mg "law" = some (.ref fa)) (B:Bl mg) (hLO:∃ f fd,Fn K mg "levels_or_way" aD8 ["book", "deal"] f fd/\fd.code=.ref c) (hZ:∀ base:Heap,base.BuiltinsAt mg Pt->Lm K mg base c Pt) (hW:∃ f fd,Fn K mg "is_whole" nE ["thing"] f fd) (hH:∃ f fd,Fn K mg "are_hands" rY ["thing"] f fd) (hKw:∃ f fd,Fn K mg "is_work" rZ ["hands", "thing"] f fd) (hBP:∃ f fd,Fn K mg "is_book" sA ["thing"] f fd) (hDP:∃ f fd,Fn K mg "is_deal" wH ["book", "thing"] f fd) (hNB:∃ f fd,Fn K mg "need_book" aAF ["book"] f fd) (hND:∃ f fd,Fn K mg "need_deal" aAG ["book", "deal"] f fd) (hC:∃ f fd,Fn K mg "counted" lO ["hands", "deal"] f fd) (hL:∃ f fd,Fn K mg "loads" aAH ["book", "deal"] f fd) (hFA:∃ f fd,Fn K mg "falling" jN ["book", "deal"] f fd) (hHD:∃ f fd,Fn K mg "handing" lP ["book", "deal"] f fd) (hRC:∃ f fd,Fn K mg "reached" nZ ["rows", "first"] f fd) (hWT:∃ f fd,Fn K mg "way_to" wI ["found", "last"] f fd) (hST:∃ f fd,Fn K mg "is_step" uU ["book", "deal", "step"] f fd) (hWY:∃ f fd,Fn K mg "is_way" aAI ["book", "deal", "some"] f fd) (hNW:∃ f fd,Fn K mg "need_way" wJ ["book", "deal", "some"] f fd) (hGO:∃ f fd,Fn K mg "gone" aBA ["book", "deal", "some"] f fd) (hBT:∃ f fd,Fn K mg "bettered" iH ["book", "deal"] f fd) (hEV:∃ f fd,Fn K mg "evenest" hJ ["book"] f fd) (hAE:∃ f fd,Fn K mg "is_as_even" qQ ["book", "deal", "work", "hand"] f fd) (hMG:∃ f fd,Fn K mg "may_go" sB ["book"] f fd) (hWW:∃ f fd,Fn K mg "with_work" wK ["rows", "takers", "levels"] f fd) (hEL:∃ f fd,Fn K mg "even_loads" iS ["book"] f fd) (hMH:∃ f fd,Fn K mg "may_have" fF ["book"] f fd) (hHM:∃ f fd,Fn K mg "how_many" lQ ["book"] f fd) (hS:∃ f fd,Fn K mg "_law_b_stirred" aBB ["cell", "at"] f fd) (hD:∃ f fd,Fn K mg "_law_b_digit" nF ["tape", "many"] f fd) (hWK:∃ f fd,Fn K mg "_law_b_work" uV ["tape", "hands", "kind"] f fd) (hBK:∃ f fd,Fn K mg "_law_b_book" aBC ["tape", "hands", "works"] f fd) (hFO:∃ f fd,Fn K mg "_law_b_follow" qR ["row"] f fd) (hFR:∃ f fd,Fn K mg "_law_b_forced_right" mE ["book", "work", "row", "hands"] f fd) (hCR:∃ f fd,Fn K mg "_law_b_called_right" iD ["tape", "book", "have"] f fd) (hWC:∃ f fd,Fn K mg "_law_b_ways_to_choose" aBD ["hands", "works"] f fd) (hCU:∃ f fd,Fn K mg "_law_b_cut" aFA ["book", "most"] f fd) (hLW:∃ f fd,Fn K mg "law" aAJ ["script"] f fd)
  : ∃ fd:FuncData,(∀ (s:Shared) (v:Value),BindsTo s fd ⟨[v],[]⟩ [("script",v)])/\∀ base:Heap,K.In base->base.Ns mainGlobals mg->base.BuiltinsAt mg Pt->FnOk l.prog w K mg base CX0 15 fa fd ["script"] (aB9 K Pt):=by
 obtain ⟨fLO,dLO,LO,hc⟩:=hLO
 obtain ⟨fW,dW,W⟩:=hW
 obtain ⟨fH,dH,H⟩:=hH
 obtain ⟨fKw,dKw,Kw⟩:=hKw
 obtain ⟨fBP,dBP,BP⟩:=hBP
 obtain ⟨fDP,dDP,DP⟩:=hDP
 obtain ⟨fNB,dNB,NB⟩:=hNB
 obtain ⟨fND,dND,ND⟩:=hND
 obtain ⟨fC,dC,C⟩:=hC
 obtain ⟨fL,dL,L⟩:=hL
 obtain ⟨fFA,dFA,FA⟩:=hFA
 obtain ⟨fHD,dHD,HD⟩:=hHD
 obtain ⟨fRC,dRC,RC⟩:=hRC
 obtain ⟨fWT,dWT,WT⟩:=hWT
 obtain ⟨fST,dST,ST⟩:=hST
 obtain ⟨fWY,dWY,WY⟩:=hWY
 obtain ⟨fNW,dNW,NW⟩:=hNW
 obtain ⟨fGO,dGO,GO⟩:=hGO
 obtain ⟨fBT,dBT,BT⟩:=hBT
 obtain ⟨fEV,dEV,EV⟩:=hEV
 obtain ⟨fAE,dAE,AE⟩:=hAE
 obtain ⟨fMG,dMG,MG⟩:=hMG
 obtain ⟨fWW,dWW,WW⟩:=hWW
 obtain ⟨fEL,dEL,EL⟩:=hEL
 obtain ⟨fMH,dMH,MH⟩:=hMH
 obtain ⟨fHM,dHM,HM⟩:=hHM
 obtain ⟨fS,dS,S⟩:=hS
 obtain ⟨fD,dD,D⟩:=hD
 obtain ⟨fWK,dWK,WK⟩:=hWK
 obtain ⟨fBK,dBK,BK⟩:=hBK
 obtain ⟨fFO,dFO,FO⟩:=hFO
 obtain ⟨fFR,dFR,FR⟩:=hFR
 obtain ⟨fCR,dCR,CR⟩:=hCR
 obtain ⟨fWC,dWC,WC⟩:=hWC
 obtain ⟨fCU,dCU,CU⟩:=hCU
 obtain ⟨fLW,dLW,LW⟩:=hLW
 have e:=hfa.symm.trans LW.mgx
 cases e
 have R:Pr K mg fW fH fKw fBP fNB fDP fND fL dW dH dKw dBP dNB dDP dND dL:=⟨W,H,Kw,BP,NB,DP,ND,⟨fC,dC,C⟩,L⟩
 refine ⟨dLW,λs v=>?_,λbase _ _ hBu=>?_⟩
 ·obtain ⟨oc,od,kV,doc,pm,an,cdv,ct,osl,rfl,lk,hcd⟩:=LW.fn.ex
  exact .of_eq rfl
 ·have Z:=hZ base hBu
  have OD:FnOk l.prog w K mg base CX0 2 fD dD ["tape", "many"] (mG K):=aEe D B S
  have OW:FnOk l.prog w K mg base CX0 3 fWK dWK ["tape", "hands", "kind"] (aAN K):=aFJ WK B D OD
  have OL:FnOk l.prog w K mg base CX0 8 fLO dLO ["book", "deal"] (aBM K Pt):=aG8 LO hc Z B R HD RC WT
  have OBt:FnOk l.prog w K mg base CX0 10 fBT dBT ["book", "deal"] (kF K Pt):=zJ BT B LO OL GO (aFN GO B NW (aEm NW B R WY ST))
  have OEv:FnOk l.prog w K mg base CX0 11 fEV dEV ["book"] (iJ K Pt):=aAX EV B R BT OBt LO OL
  have OEL:FnOk l.prog w K mg base CX0 12 fEL dEL ["book"] (qX K Pt):=aEy EL B EV OEv WW
  have OFa:FnOk l.prog w K mg base CX0 8 fFA dFA ["book", "deal"] (jP K):=aAU FA B R
  have OMh:FnOk l.prog w K mg base CX0 13 fMH dMH ["book"] (jT K Pt):=aA4 MH B EL OEL
  have OHm:FnOk l.prog w K mg base CX0 13 fHM dHM ["book"] (mN K Pt):=aA1 HM B EL OEL
  exact aHh LW B R (sF B R) BK (aFK BK B D OD WK OW) D OD CU (aHe CU B) EV OEv MG (aED MG B EV OEv AE (aC0 AE B BT OBt FA OFa)) MH OMh HM OHm FA OFa FO (aC5 FO B) CR (aC7 CR B D OD MH OMh) FR (aC8 FR B EV OEv FA OFa HM OHm MH OMh) WC (aF2 WC B)
theorem walk {l:Ij} {d:DefRec} {K:Params->Rc} (hn:l.most=some 63) (hdf:d.params.defaults = []) (hq:importsNone q=true) (hY:∀ (w:World) (h:Heap),YP w h->(K w.params).In h) (hT:∀ (w:World) (h:Heap),YP w h->h.get? Pt=some (Rw #[])) (F:(∀ w:World,Ih (K w.params) c Pt=true)->∀ (w:World) (mg:Str->Option Value) (fa:Addr) (h:Heap),(K w.params).In h->h.Ns mainGlobals mg->mg d.name=some (.ref fa) ->
   ∃ fd:FuncData,(∀ (s:Shared) (u:Value),BindsTo s fd ⟨[u],[]⟩ [("script",u)])/\∀ base:Heap,(K w.params).In base->base.Ns mainGlobals mg->base.BuiltinsAt mg Pt->FnOk l.prog w (K w.params) mg base CX0 15 fa fd ["script"] (aB9 (K w.params) Pt)) (hKP:∀ w:World,(K w.params).lookup Pt=none) (hC:∀ w:World,Ih (K w.params) c Pt=true) :
  Rah q loose XP YP l.row.toRowW d [] (λf vs=>Mz f vs) :=
 L2.aDR (n:=63) (k:=15) (x := "script") (CX:=λ_=>CX0) (sp:=λw=>aB9 (K w.params) Pt) (ts:=[(Pt,mQ)]) hn (by decide) hdf ⟨rfl,by decide,by decide,rfl⟩ hq hY
  (λw h Y p hp=>by rw [Qs.mp hp]; exact ⟨hT w h Y,hKP w,c,Ms (hY w h Y) (hC w)⟩) (by simp) (λw mg fa h a b d=>let ⟨fd,h1,h2⟩:=F hC w mg fa h a b d; ⟨fd,h1,λbase k1 k2 k3=>h2 base k1 k2 (k3 _ (Qi ..))⟩)
  (λ_ _ a ns _ hO hS=>⟨a,ns,rfl,hS,hO.2 _ (Qi ..),λH' h=>⟨rfl,λp hp=>by rw [Qs.mp hp]; exact h⟩⟩) λ_ _ _ _ _ z=>z
end Ab
open PySem PySem.W PyProof.Rows
set_option maxRecDepth 100000 in
set_option maxHeartbeats 0 in
theorem PySem.Challenge.cw_ablehands_k15_whole_counted_by_one_work_holds : PySem.Challenge.rw_ablehands_k15_whole_counted_by_one_work.Holds := by
 w_on; o_law; k_head; (case hw=>w_witness2)
 k_fill
 refine' Ab.walk (l:=PySem.Challenge.rw_ablehands_k15_whole_counted_by_one_work) rfl rfl (by decide +kernel) (λw h Y=>PySem.W.km_in_of Y) (λw h Y=>PySem.W.km_tabs_of Y _ (Qi ..)) ?F ?KP ?HC
 case F =>
  intro hC w mg fa h KX G hmg
  refine' Ab.aF6 hmg ?B ?hLO ?Z ?hW ?hH ?hKw ?hBP ?hDP ?hNB ?hND ?hC ?hL ?hFA ?hHD ?hRC ?hWT ?hST ?hWY ?hNW ?hGO ?hBT ?hEV ?hAE ?hMG ?hWW ?hEL ?hMH ?hHM ?hS ?hD ?hWK ?hBK ?hFO ?hFR ?hCR ?hWC ?hCU ?hLW
  case Z =>
   intro base hb
   exact ⟨hC w,by decide,hb⟩
  case hLO =>
   refine' Ab.aHi KX G (λ_ _ _ _ _ _ us hl=>match us,hl with | [_,_],_=>rfl) ?a ?l ?c ?k
   (case a=>k_is); (case l=>k_is); (case c=>k_is); (case k=>k_is)
  case B =>
   apply Ab.aH7 KX G <;> k_is
  all_goals (refine' Ab.aH6 KX G ?b ?a ?l ?c ?k; (case a=>k_is); (case l=>k_is); (case c=>k_is); (case k=>k_is); (case b=>(intro _ _ _ _ _ _ us hl; first | exact (match us,hl with | [_],_=>rfl) | exact (match us,hl with | [_,_],_=>rfl) | exact (match us,hl with | [_,_,_],_=>rfl) | exact (match us,hl with | [_,_,_,_],_=>rfl))))
 case KP=>intro w; first | k_is | kernel_rfl
 case HC=>intro w; kernel_rfl
