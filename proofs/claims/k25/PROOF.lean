import PyProof.Rows.All
import Wide.All
import OpenK.AllK
import Wide.FinOn
import PyProof.EqAt
import PyProof.EqKinds
import PyProof.TupleCall
import PyProof.ListNew
import PyProof.Rows.TupDisplay
import PyProof.DictCompW
import PyProof.WalksMore
import PyProof.MinMaxWalk
import PyProof.DictDisplay
import PyProof.DictWalks
import Lean
import PySem.Challenge.RW_ablehands_k25_beside_the_parts
noncomputable section
open List renaming length_map -> Qa,getElem?_eq_getElem -> Qc,getElem?_eq_some_iff -> Qd,getElem?_map -> Qe,mem_of_getElem? -> Qg,size_toArray -> Qj,mem_cons -> Qk,mem_cons_self -> Ql,not_mem_nil -> Qn,mem_cons_of_mem -> Qo,map_append -> Qp,length_append -> Qr,mem_singleton -> Qs,all_eq_true -> Qt,mem_iff_getElem? -> Qv,getD_eq_getElem?_getD -> Qx,length_take -> Qy,filter_cons -> Qz,getElem?_append_left -> Jb,mem_filter -> Jd,mem_append_right -> Jf,mem_map -> Jg,map_cons -> Jh,length_filter_le -> Ji,length_pos_iff -> Jj,take_of_length_le -> Jn,mem_append -> Jo,getElem?_append_right -> Jp,length_cons -> Jr,take_length -> Jt,mem_append_left -> Jv,mem_range -> Jy,getElem?_zip_eq_some -> Jz,lookup_cons -> Xa,any_eq_true -> Xb,getElem?_replicate -> Xc,length_singleton -> Xe,length_replicate -> Xh,replicate_succ -> Xi,take_succ -> Xj,getElem?_set -> Xk,append_nil -> Xl,nodup_cons -> Xm,length_set -> Xn,filter_append -> Xt,getElem_mem -> Xu,map_map -> Xz,flatten_cons -> Zc,filterMap_cons -> Zf,nil_append -> Zh,count_cons -> Zi,find?_cons -> Zk,nodup_append -> Zl,forIn_nil -> Zn,length_drop -> Zo,getElem?_range -> Zq,forIn_cons -> Zs,length_eq_zero_iff -> Zt,length_range -> Zv,getElem?_inj -> Zw,nodup_nil -> Zy,take_zero -> Zz,map_nil -> Yb,all_map -> Yc,cons_append -> Ye,getElem?_set_ne -> Yg,mem_of_mem_take -> Yh,all_cons -> Yi,any_cons -> Yj,of_mem_zip -> Yl,length -> Ym,length_reverse -> Yo,map_congr_left -> Yp,pairwise_cons -> Yw,drop_eq_getElem_cons -> Yx,getElem?_eq_none_iff -> Yy,exists_mem_of_ne_nil -> Yz,reverse_cons -> Wb,take_add_one -> Wc,eq_of_mem_replicate -> Wd,getElem?_set_self -> We,drop_of_length_le -> Wf,length_nil -> Wi,any_map -> Wj,length_zip -> Wk,take_append_drop -> Wl,getElem?_of_mem -> Wn,count_singleton -> Wo,mem_of_getLast? -> Wq,drop_zero -> Wr,reverse_append -> Wv,filter_eq_self -> Ww,mergeSort_perm -> Wx,mem_filterMap -> Wy,filterMap_map -> Wz
open PySem.Heap renaming get?_push_of_some -> Qb,get?_push_size -> Qh,lt_size -> Qm,size_push -> Jk,get?_update_other -> Jq,get?_update_self -> Xr
open Nat renaming le_refl -> Qi,lt_of_lt_of_le -> Qq,le_trans -> Qw,ne_of_lt -> Jc,zero_le -> Jl,lt_irrefl -> Js,lt_succ_of_lt -> Xd,lt_of_le_of_lt -> Xg,min_le_left -> Xo,pow_le_pow_right -> Xv,lt_succ_self -> Xw,le_add_right -> Xx,le_succ_of_le -> Zd,ne_of_gt -> Ze,succ_le_succ -> Zp,le_of_lt -> Ya,min_eq_left -> Wg,le_succ -> Wt,log2_lt -> Wu,lt_trans -> Qac,sub_self -> Qad,lt_or_ge -> Qae
open Bool renaming false_ne_true -> Qu,and_eq_true -> Jm,false_eq_true -> Ju,eq_iff_iff -> Xf,true_and -> Xq,false_and -> Zx,not_eq_true -> Yf,false_or -> Yk,true_or -> Wh
open Option renaming map_eq_some_iff -> Ja,map_some -> Xs,isSome_iff_exists -> Wa,isSome_some -> Qaa,isSome_map -> Qab,getD_none -> Qaf
open Int renaming le_refl -> Je,mul_le_mul_of_nonneg_right -> Jw,mul_assoc -> Jx,mul_comm -> Xp,mul_right_comm -> Xy,le_trans -> Za,toNat_natCast -> Zb,lt_of_le_of_lt -> Zg,zero_add -> Zj,fdiv_eq_ediv_of_nonneg -> Zm,add_mul -> Zr,emod_lt_of_pos -> Zu,le_of_lt -> Yd,natCast_add -> Yn,emod_nonneg -> Yq,toNat_of_nonneg -> Yr,mul_add -> Ys,mul_lt_mul_of_pos_right -> Yt,le_of_mul_le_mul_right -> Yu,eq_of_mul_eq_mul_right -> Yv,lt_or_le -> Wm,mul_ediv_cancel' -> Wp
open PySem renaming wpAny_bind -> Ra,wpAny_pure -> Rc,sizeLine_eq -> Rf,wpAny_callSpecial?_slot -> Rg,wpAny_field -> Ri,wpAny_setField_rec -> Rj,wpAny_loadPart' -> Rl,wpAny_holding -> Rn,wpAny_call_entry -> Rp,wpAny_mono -> Ru,wpAny_truthy_bool -> Rv,wpAny_newObj_type -> Rx,wpAny_seqItems -> Ry,codeAny_builtin -> Tb,wpAny_standAt -> Tc,wpAny_pyIter_list -> Ti,call_meets -> Tn,plainId_quiet -> To,wpAny_letGo -> Tr,wpAny_Call_Name_kw -> Ts,wpAny_passesOwn -> Tt,wpAny_updateSeq -> Tu,wpAny_attempt -> Tv,mem_of_lookup -> Tw,wpAny_rule -> Ua,wpAny_pyIter_zip -> Uc,wpAny_ite_false -> Uh,wpAny_pyIter_tuple -> Uj,wpAny_tryCatch -> Um,codeAny_mono -> Uq,typeIs_int -> Ur,wpAny_binaryOp_repeat_ref -> Ut,wpAny_collect_seq -> Ux,wpAny_pyIter_enum -> Uy,noFill_tuple_add -> Va,wpAny_isInstance -> Vb,callType_new -> Vc,wpAny_execs_nil -> Vf,wpAny_updateSeq_pair -> Vi,wpAny_newTuple -> Vj,isSubtype_stop -> Vk,intItems_at -> Vl,seq_tuple_add -> Vp,evalPart_none -> Vq,wpAny_onRaise -> Vr,wpAny_Name -> Vu,tupleKind_room_in1 -> Vy,concat_meets -> Ia,wpAny_typeOf -> Ib,numAt_eq -> Ic,wpAny_of_eq -> Il,wpAny_AugAssign_SubscriptAny -> Iq,codeAny_of_tree -> Ir,wpAny_specialOf -> Iu,wpAny_call -> Iw,argBest_lt -> Iy,wpAny_letOwnedTupleGo_enum -> Iz,wpAny_getItem_list_slice -> Ma,nums_intItems -> Mb,call -> Mc,seqIndex_neg -> Me,seqSlot_of -> Mf,wpAny_isTrue_Compare1 -> Mg,builtinLookup_eq_fast -> Mh,wpAny_loadName_local -> Mj,seqIndex_of -> Ml,wpAny_newFunctionEnv -> Mm,codeAny_call_builtin -> Mn,wpAny_loadName_free -> Mp,wpAny_getItem_list -> Ms,wpAny_assign_Name -> Mt,wpAny_sequenceKey -> Mv,wpAny_pyIter_dict -> Mw,wpAny_execs_cons -> Mx,wpAny_askSetting -> My,wpAny_ite_split -> Rai,wpAny_stack_any -> Raj,typeLookup_type -> Rak
open PySem.W renaming Frag -> Rb,mg_none_of -> Rh,nsIn -> Rk,tabObj -> Rw,fnOf -> Td,keepIn -> Ud,kla_fn -> Ug,mg_of -> Uk,codeIn -> Uo,CodeHd -> Uz,methodObj -> Vh,codeHdIn -> Vm,OpenLaw -> Vo,cellsFrom_some -> Ij,codeHd_of_K -> Iv,WalkO -> Mi
open PySem.F renaming slot_zip_next -> Rm,plainAttrs_list -> Ro,slot_list_append -> Rq,type_list_append -> Rr,slot_enumerate_next -> Rt,args_zip_next_1 -> Rz,entry_zip_next -> Ta,slot_tuple_iterator_next -> Tf,args_tuple_mul_2 -> Tg,entry_tuple_mul -> Th,args_enumerate_next_1 -> Tj,entry_enumerate_next -> Tq,args_tuple_add_2 -> Tx,entry_tuple_add -> Ub,slot_tuple_add -> Ue,slot_int_rmul -> Ui,args_object_init_3 -> Up,typeCall_zip_2 -> Us,newCall_zip_2 -> Uu,entry_zip_new -> Uv,slot_dict_get -> Uw,args_tuple_iterator_next_1 -> Vd,called_zip -> Ve,entry_tuple_iterator_next -> Vg,typeCall_enumerate_1 -> Vn,newCall_enumerate_1 -> Vs,entry_enumerate_new -> Vt,args_object_init_2 -> Vz,slot_tuple_count -> Ie,called_enumerate -> Ig,args_int_rmul_2 -> Ih,plainAttrs_dict -> Ii,entry_int_rmul -> Ik,plain_set_new -> Im,fills_int_mul -> Io,type_dict_get -> Ip
open PyProof.Rows renaming subscriptTail_builtinR -> Ul,assignInOrder_cons -> Vv,Subscript_ -> Vx,floordiv_int -> Md,Call_ -> Mk,entry_tuple_getitem -> Mq,args_tuple_getitem -> Mr,assignInOrder_nil -> Mu,entry_list_sort -> Rah
open PySem.EqMixed renaming eq_bool_str -> Mz,eq_int_str -> Raa,eq_str_bool -> Rab,eq_str_int -> Rac,ne_bool_str -> Rad,ne_int_str -> Rae,ne_str_bool -> Raf,ne_str_int -> Rag
open PySem.EqNone renaming eq_none_none -> Ral,eq_none_bool -> Ram,eq_none_int -> Ran,eq_none_str -> Rao,eq_bool_none -> Rap,eq_int_none -> Raq,eq_str_none -> Rar,ne_none_none -> Ras,ne_none_bool -> Rau,ne_none_int -> Rav,ne_none_str -> Rax,ne_bool_none -> Ray,ne_int_none -> Raz,ne_str_none -> RaA
open PySem
variable {XP:(Str->Option Value)->Heap->Prop} {a b it t f c C dx sl q I S i1 i2 l1 l2 fW fH fK fB i9 fD jr fL fS Pt fI:Addr} {params:Arguments} {A:Around} {pj:Array (Option Value)} {items:Array Value} {L f1:Bool} {op:CmpOp} {bd:Env->Addr->Sem Unit} {e tg iter value elt ka bc kx vx:Expr} {fd CN dW dH dK dB i_ dD jt dL dS dI:FuncData} {h h' base:Heap} {lo m:Int} {rm room:Int->Int} {aa:List (Addr×Obj)} {Ws:List (List (Nat×Int×Int))} {tk ws:List (List Int)} {ss:List (Nat×Int×Int)} {cl:List (Str×Addr)} {ch fp qs:List Addr} {es ifs:List Expr} {l ns os hs left ms lv wt:List Int} {fr:List Nat} {ds:List PyData} {body:List Stmt} {N ps loose own a9:List Str} {us its bm:List Value} {M:Model} {t' i j n ep n2 x1:Nat} {k_ gf:Nat->Heap->Prop} {am:Nat->Int} {hl:Nat->Int->Int} {P1 P2:Nat->Value->Prop} {o ob:Obj} {an od:Option Addr} {hi:Option Int} {z:Option Str} {pos' py qy p apos vt p2 fg p1 p3:Pos} {P prog:Program} {B:Prop} {d:PyData} {K:Rb} {R:Result->Shared->Prop} {sc scope:Scope} {s s':Shared} {st:Stmt} {x name qual vn xn:Str} {kindOf:Str->Option NameKind} {mg:Str->Option Value} {T:String} {κ α β:Type} {u doc pm a_ ct oc vl vu f0 old:Value} {E Q:Value->Shared->Prop} {w:World} {YP:World->Heap->Prop}
namespace PySem.W.Fast
noncomputable def tw10372140749435135226:=0
noncomputable def tw107302492465643764:=0
noncomputable def tw5572738734168569713:=0
noncomputable def tw5399236906579180984:=0
noncomputable def tw15754950008412259385:=0
noncomputable def tw17792077090931630160:=0
noncomputable def tw11881814304986224408:=0
noncomputable def tw15476685395360104838:=0
noncomputable def tw15354210029710556545:=0
noncomputable def tw12899504840964178069:=0
noncomputable def tw1670924510787351747:=0
noncomputable def tw14873481610134071662:=0
noncomputable def tw16963702623278452583:=0
noncomputable def tw2115012290229720528:=0
noncomputable def tw3831850072670325645:=0
noncomputable def tw17936819634804389252:=0
noncomputable def tw1793474134238598239:=0
noncomputable def tw5645853094564941249:=0
noncomputable def tw13081243934434129483:=0
noncomputable def tw15127955440688674044:=0
noncomputable def tw6376285885196893861:=0
noncomputable def tw11569838032009993154:=0
noncomputable def tw4047118822346775406:=0
noncomputable def tw14772842867713551212:=0
noncomputable def tw551729049824581710:=0
noncomputable def tw17949569520295495000:=0
noncomputable def tw10386158562861946186:=0
noncomputable def tw12028309683561525753:=0
noncomputable def tw950899748937389808:=0
noncomputable def tw2921341363607692250:=0
noncomputable def tw17206450710688096656:=0
noncomputable def tw5098506977837457460:=0
noncomputable def tw6644195019058383221:=0
noncomputable def tw12313639475590579503:=0
noncomputable def tw11392065288956008413:=0
noncomputable def tw4261135729621128335:=0
noncomputable def tw13923184019757083287:=0
noncomputable def tw8895002281689897438:=0
noncomputable def tw4502522917385142110:=0
noncomputable def tw2374935415086424555:=0
noncomputable def tw7888296053469710903:=0
noncomputable def tw18294931226792433868:=0
noncomputable def tw11197319782429591814:=0
noncomputable def tw7736593546859165414:=0
noncomputable def tw3138261088945109932:=0
noncomputable def tw320420613285956725:=0
noncomputable def tw5232303286398892686:=0
noncomputable def tw8704405660575902124:=0
noncomputable def tw15827956671415867051:=0
noncomputable def tw3459639883215612738:=0
noncomputable def tw4605412031357853494:=0
noncomputable def tw11429378149462340725:=0
noncomputable def tw3080866296778359138:=0
noncomputable def tw17998279691607157439:=0
noncomputable def tw1113931917251727221:=0
noncomputable def tw2955794454916541163:=0
noncomputable def tw8718998202106557173:=0
noncomputable def tw10347288580430573742:=0
noncomputable def tw2911161567025309012:=0
noncomputable def tw18256020577312281230:=0
noncomputable def tw11273377021597772912:=0
noncomputable def tw12698135080301507363:=0
noncomputable def tw6402437655958036216:=0
noncomputable def tw5432399088179984763:=0
noncomputable def tw5447469514090908549:=0
noncomputable def tw10779046802563494068:=0
noncomputable def tw2537409411713139146:=0
noncomputable def tw3363831534719797528:=0
noncomputable def tw9410662050612183189:=0
noncomputable def tw13713912925769525323:=0
noncomputable def tw2213793244247010923:=0
noncomputable def tw12334653020450449696:=0
noncomputable def tw13949484380495172283:=0
noncomputable def tw4371568983590685852:=0
noncomputable def tw4741381835070953054:=0
noncomputable def tw6196023032211870584:=0
noncomputable def tw5322054510655505073:=0
noncomputable def tw4774138173084536399:=0
noncomputable def tw16243220172303648929:=0
noncomputable def tw11019843449448571017:=0
noncomputable def tw7731826097425108723:=0
noncomputable def tw11136264004364376047:=0
noncomputable def tw10951771250028506521:=0
noncomputable def tw6251935652228435689:=0
noncomputable def tw11463782570807348698:=0
noncomputable def tw16308296837454830898:=0
noncomputable def tw10061534415537904791:=0
noncomputable def tw9184485195020279151:=0
noncomputable def tw17574045430551017328:=0
noncomputable def tw6800075153774911527:=0
noncomputable def tw2099759505483756116:=0
noncomputable def tw13932130857438702963:=0
noncomputable def tw2200519577247132288:=0
noncomputable def tw4878534741140632972:=0
noncomputable def tw3728769098276766554:=0
noncomputable def tw6854151049129604971:=0
noncomputable def tw9947008435177676104:=0
noncomputable def tw6898661790712299859:=0
noncomputable def tw14368474369644051830:=0
noncomputable def tw5459078670582276277:=0
noncomputable def tw11323730634143839145:=0
noncomputable def tw2218809674217274861:=0
noncomputable def tw15999869437769223297:=0
noncomputable def tw4486302616383374893:=0
noncomputable def tw13760323574999784790:=0
noncomputable def tw12852443341938883419:=0
noncomputable def tw1803724337516437993:=0
noncomputable def tw3006981500141755494:=0
noncomputable def tw8802305971959088138:=0
noncomputable def tw8291548665986705968:=0
noncomputable def tw5808503089130890447:=0
noncomputable def tw7594298241260471345:=0
noncomputable def tw2456747117180517768:=0
noncomputable def tw3813668939898123821:=0
noncomputable def tw3743425999519397896:=0
noncomputable def tw1107802686218841866:=0
noncomputable def tw1446691549523321080:=0
noncomputable def tw364970284657532498:=0
noncomputable def tw97761307996517412:=0
noncomputable def tw12329279416343466498:=0
noncomputable def tw2087888227423726756:=0
noncomputable def tw8792144170351399897:=0
noncomputable def tw14554252834792458223:=0
noncomputable def tw14094105265284261168:=0
noncomputable def tw1701607922159263877:=0
noncomputable def tw14481211047912615364:=0
noncomputable def tw3279341351889049864:=0
noncomputable def tw10787493254957648703:=0
noncomputable def tw1799415478272809444:=0
noncomputable def tw12317348534886301728:=0
noncomputable def tw17140912037468113500:=0
noncomputable def tw3014358476038281155:=0
noncomputable def tw3203384015752488784:=0
noncomputable def tw12505926674917241329:=0
noncomputable def tw11192814735755005896:=0
noncomputable def tw3940554967128919967:=0
noncomputable def tw5951579303874416237:=0
noncomputable def tw6327766545629390685:=0
noncomputable def tw15639441014290074572:=0
noncomputable def tw2491949247116218095:=0
noncomputable def tw16719085776936105898:=0
noncomputable def tw10779803817176664840:=0
noncomputable def tw5523656850924647983:=0
noncomputable def tw2602241026001888226:=0
noncomputable def tw1500689903828906253:=0
noncomputable def tw9074341457359438966:=0
noncomputable def tw4944435415653032430:=0
noncomputable def tw11945818959915814339:=0
noncomputable def tw5861131876766116394:=0
noncomputable def tw4011432983915842011:=0
noncomputable def tw2447796290399836414:=0
noncomputable def tw2073828758107677241:=0
noncomputable def tw12860488465940128300:=0
noncomputable def tw15690162126785296195:=0
noncomputable def tw9670651014880720465:=0
noncomputable def tw10601255586302929840:=0
noncomputable def tw13445144780759675664:=0
end PySem.W.Fast
set_option Elab.async false
set_option linter.all false
set_option maxRecDepth 100000
namespace L2
open PySem PySem.Spec PyProof.Rows
noncomputable abbrev Key:=Sum Int Str
noncomputable def vG:Key->Value->Bool
 | .inl k,v=>Value.isInt k v
 | .inr x,v=>Value.isStrOf x v
noncomputable def ZJ (w:World):Key->Int
 | .inl k=>hashInt k
 | .inr x=>hashStr w x
theorem cR:∀ {k:Key} {v:Value},vG k v=true->(∃ i t,k=Sum.inl i/\v=Value.int i t)∨(∃ x t,k=Sum.inr x/\v=Value.str x t)
 | .inl i,v,h=>by
  obtain ⟨t,e⟩:=Value.isInt_shape (k:=i) (v:=v) h
  exact .inl ⟨i,t,rfl,e⟩
 | .inr x,v,h=>by
  obtain ⟨t,e⟩:=Value.isStrOf_shape (x:=x) (v:=v) h
  exact .inr ⟨x,t,rfl,e⟩
theorem aCe (i:Int) (t:Tok):vG (.inl i) (.int i t)=true:=by simp [vG,Value.isInt]
theorem aCf (x:Str) (t:Tok):vG (.inr x) (.str x t)=true:=by simp [vG,Value.isStrOf]
theorem j! (a b:Int):decide ((Sum.inl a:Key)=Sum.inl b)=(a==b):=by
 by_cases e:a=b
 ·subst e; simp
 ·have h:¬ (Sum.inl a:Key)=Sum.inl b:=λq=>e (Sum.inl.inj q)
  rw [decide_eq_false h]
  exact (beq_eq_false_iff_ne.mpr e).symm
theorem i? (a b:Str):decide ((Sum.inr a:Key)=Sum.inr b)=decide (a=b):=by
 by_cases e:a=b
 ·subst e; simp
 ·have h:¬ (Sum.inr a:Key)=Sum.inr b:=λq=>e (Sum.inr.inj q)
  rw [decide_eq_false h,decide_eq_false e]
theorem i! (a:Int) (b:Str):decide ((Sum.inl a:Key)=Sum.inr b)=false:=decide_eq_false (λq=>nomatch q)
theorem h! (a:Str) (b:Int):decide ((Sum.inr a:Key)=Sum.inl b)=false:=decide_eq_false (λq=>nomatch q)
noncomputable def cG (prog:Program) (w:World):PySem.KeyKind prog w Key where
 is:=vG
 hash:=ZJ w
 inj:=λv a b ha hb=>by
  rcases cR ha with ⟨i,t,rfl,rfl⟩ | ⟨x,t,rfl,rfl⟩
  ·rcases cR hb with ⟨j,u,rfl,e⟩ | ⟨y,u,rfl,e⟩
   ·injection e with e1 _; rw [e1]
   ·exact nomatch e
  ·rcases cR hb with ⟨j,u,rfl,e⟩ | ⟨y,u,rfl,e⟩
   ·exact nomatch e
   ·injection e with e1 _; rw [e1]
 byValue:=λk v h=>by
  rcases cR h with ⟨i,t,rfl,rfl⟩ | ⟨x,t,rfl,rfl⟩ <;> rfl
 pyHash:=λhv h=>by
  rcases cR hv with ⟨i,t,rfl,rfl⟩ | ⟨x,t,rfl,rfl⟩
  ·exact wpAny_pyHash_int h
  ·exact wpAny_pyHash_str h
 eqBool:=λhu hv h=>by
  rcases cR hu with ⟨i,t,rfl,rfl⟩ | ⟨x,t,rfl,rfl⟩
  ·rcases cR hv with ⟨j,u,rfl,rfl⟩ | ⟨y,u,rfl,rfl⟩
   ·rw [j!] at h; exact wpAny_eqBool_int h
   ·rw [i!] at h; exact SeqAt.EqAt.int_str i t y u _ _ _ _ h
  ·rcases cR hv with ⟨j,u,rfl,rfl⟩ | ⟨y,u,rfl,rfl⟩
   ·rw [h!] at h; exact SeqAt.EqAt.str_int x t j u _ _ _ _ h
   ·rw [i?] at h; exact wpAny_eqBool_str h
 «strs»:=λk x t v h=>by
  rcases cR h with ⟨i,u,rfl,e⟩ | ⟨y,u,rfl,e⟩
  ·exact nomatch e
  ·injection e with e1 _
   subst e1
   cases v <;> rfl
theorem yN (prog:Program) (w:World) (i:Int) (t:Tok):(cG prog w).is (.inl i) (.int i t)=true:=aCe i t
theorem yO (prog:Program) (w:World) (x:Str) (t:Tok):(cG prog w).is (.inr x) (.str x t)=true:=aCf x t
inductive V where
 | bj | bl (b:Bool) | int (i:Int) | str (x:Str) | ni (b:Array UInt8) | vh (b:UInt64) | ref (a:Addr) | ty (n:String)
 deriving DecidableEq
end L2
open L2
variable {r kvs:List (Key×V)} {xs ys vs zs:List V} {v y:V}
namespace L2
open PySem PySem.Spec PyProof.Rows
noncomputable def bE:V->Value->Prop
 | .bj,u=>u=Value.none
 | .bl b,u=>u=Value.bool b
 | .int i,u=>∃ t,u=Value.int i t
 | .str x,u=>∃ t,u=Value.str x t
 | .ni b,u=>∃ t,u=Value.bytes b t
 | .vh b,u=>∃ t,u=Value.float b t
 | .ref a,u=>u=Value.ref a
 | .ty n,u=>u=Value.type n
noncomputable abbrev bF:List V->List Value->Prop:=Paired bE
theorem bF.length (r:bF xs us):xs.length=us.length:=Paired.length r
theorem bF.get:∀ {xs:List V} {us:List Value} {i:Nat} {x:V},bF xs us->xs[i]?=some x->∃ u,us[i]?=some u/\bE x u
 | _,_,_,_,.nil,e=>by simp at e
 | _,_,0,_,.cons r _,e=>by simp at e; subst e; exact ⟨_,rfl,r⟩
 | _,_,i+1,x,.cons _ t,e=>by
  obtain ⟨u,h1,h2⟩:=bF.get (i:=i) (x:=x) t (by simpa using e)
  exact ⟨u,by simpa using h1,h2⟩
theorem bF.set {x:V} (r:bE x u):∀ {xs:List V} {us:List Value} (i:Nat),bF xs us->bF (xs.set i x) (us.set i u)
 | _,_,_,.nil=>.nil
 | _,_,0,.cons _ t=>.cons r t
 | _,_,i+1,.cons q t=>.cons q (bF.set r i t)
theorem bF.append:∀ {xs ys:List V} {us ws:List Value},bF xs us->bF ys ws->bF (xs++ys) (us++ws)
 := by
 intro xs ys us ws h s
 induction h with
 | nil=>exact s
 | cons r t ih=>exact .cons r ih
theorem bF.take:∀ {xs:List V} {us:List Value} (n:Nat),bF xs us->bF (xs.take n) (us.take n)
 | _,_,0,_=>.nil
 | _,_,_+1,.nil=>.nil
 | _,_,n+1,.cons r t=>.cons r (bF.take n t)
theorem bF.drop:∀ {xs:List V} {us:List Value} (n:Nat),bF xs us->bF (xs.drop n) (us.drop n)
 | _,_,0,r=>r
 | _,_,_+1,.nil=>.nil
 | _,_,n+1,.cons _ t=>bF.drop n t
noncomputable def qI:Option V->Option Value->Prop
 | some v,some u=>bE v u
 | none,none=>True
 | _,_=>False
noncomputable def KV:List (κ×V)->List (κ×Value)->Prop:=Paired λ(p:κ×V) (q:κ×Value)=>p.1=q.1/\bE p.2 q.2
noncomputable def kV:Key->V
 | .inl i=>.int i
 | .inr x=>.str x
inductive HO where
 | lst (xs:List V)
 | tup (xs:List V)
 | dK (kvs:List (Key×V)) | dT (kvs:List (List Key×V))
 | set (S:Int->Bool) (n:Nat)
 | ins (C dx:Addr) (fs:List (Str×V))
 | own (x:Addr)
 | xd (fs:List (Str×V))
 | met (f x:Addr)
 | jm (lo hi:Int)
 | c_ (o:Obj) (u:HO)
 | y4 (ps:Array Value)
 | tab (q:Str)
 | ext (φ:Heap->Prop)
noncomputable abbrev Hp:=Addr->Option HO
end L2
variable {H H' H1 H2 H0:Hp} {Qf:Hp->List V->Prop}
namespace L2
open PySem PySem.Spec PyProof.Rows
noncomputable def upd (H:Hp) (a:Addr) (o:HO):Hp:=λb=>if b=a then some o else H b
theorem aB {o:HO}:upd H a o a=some o:=by unfold upd; rw [if_pos rfl]
theorem aI {o:HO} (h:b≠a):upd H a o b=H b:=by unfold upd; rw [if_neg h]
theorem wQ {o u:HO}:upd (upd H a o) a u=upd H a u:=by
 funext b; unfold upd; split <;> rfl
theorem ZV {o u:HO} (h:H a=some o) (h':H b=some u) (d:o≠u):a≠b:=by
 intro e; subst e; rw [h] at h'; exact d (Option.some.inj h')
theorem iA {o:HO} (h:H a=some o) (h':H b=none):a≠b:=by
 intro e; subst e; rw [h] at h'; cases h'
section
variable (P:Program) (w:World)
noncomputable def bO (H:Hp) (h:Heap) (a:Addr):HO->Prop
 | .lst xs=>xs.length<=sizeLine/\∃ (its:List Value) (n:Nat),bF xs its/\h.get? a=some { cls:=.type "list",data:=.seq its.toArray n }
 | .tup xs=>xs.length<=sizeLine/\∃ (its:List Value) (n:Nat),bF xs its/\h.get? a=some { cls:=.type "tuple",data:=.seq its.toArray n }
 | .dK kvs=>kvs.length<=sizeLine/\(a==sysModules)=false/\∃ vs,KV kvs vs/\h.DictOf (cG P w) a vs
 | .dT kvs => kvs.length <= sizeLine /\ (a == sysModules) = false /\ ∃ xs : List (List Key × Addr × Value),
     Paired (λ(p:List Key×V) (q:List Key×Addr×Value)=>p.1=q.1/\H q.2.1=some (.tup (p.1.map kV))/\bE p.2 q.2.2) kvs xs /\
     ∃ o es ep,h.get? a=some o/\o.ExactDict/\o.data=.dict es ep/\es.toList=xs.map (entryOfKey (tupleKind (cG P w)))/\(xs.map (·.1)).Nodup
 | .set S n=>h.SetOf (intKind P w) a S n
 | .ins C dx fs => H dx = some (.own a) /\ fs.length <= 1000 /\ dx ≠ a /\ h.get? a = some (PySem.W.instObj C dx) /\
     ∃ mA,h.Ns1 dx mA/\(∀ f,qI (fs.lookup f) (mA f))/\PySem.Within mA (fs.map (·.1))
 | .own _=>∃ o,h.get? a=some o
 | .xd fs=>∃ mA,h.Ns1 a mA/\∀ f,qI (fs.lookup f) (mA f)
 | .jm lo hi=>∃ t u v,h.get? a=some { cls:=.type "range",data:=.fields #[.int lo t,.int hi u,.int 1 v] }
 | .c_ o u=>h.get? a=some o/\bO H h a u
 | .y4 ps=>h.get? a=some { cls:=.none,data:=.fields ps }
 | .tab q=>∃ ps:Array Value,h.get? a=some { cls:=.none,data:=.fields ps }/\TriplesOk ps.toList/\∀ (pos:Pos) (cv:Value),codeAmong pos ps.toList=some cv->∃ (c:Addr) (o:Obj) (vs:Array Value) (t:Tok),cv=.ref c/\H c=some (.own a)/\h.get? c=some o/\o.data=.fields vs/\vs[1]?=some (.str q t)
 | .met f x=>h.get? a=some (Vh (.ref f) (.ref x))
 | .ext φ=>φ h/\(∃ o,h.get? a=some o)/\∀ h1 h2:Heap,φ h1->(∀ o,h1.get? a=some o->h2.get? a=some o)->φ h2
noncomputable def fh (H:Hp) (h:Heap):Prop:=∀ a o,H a=some o->bO P w H h a o
end
section
variable {o:HO}
theorem bO.lt (x:bO P w H h a o):a < h.objs.size:=by
 cases o with
 | lst xs=>obtain ⟨_,_,_,_,e⟩:=x; exact Qm e
 | tup xs=>obtain ⟨_,_,_,_,e⟩:=x; exact Qm e
 | dK kvs=>obtain ⟨_,_,_,_,o,_,_,e,_⟩:=x; exact Qm e
 | dT kvs=>obtain ⟨_,_,_,_,o,_,_,e,_⟩:=x; exact Qm e
 | set S n=>obtain ⟨o,_,_,_,e,_⟩:=x; exact Qm e
 | ins C dx fs=>obtain ⟨_,_,_,e,_⟩:=x; exact Qm e
 | own y=>obtain ⟨_,e⟩:=x; exact Qm e
 | xd fs=>obtain ⟨_,⟨_,_,_,e,_⟩,_⟩:=x; exact Qm e
 | jm lo hi=>obtain ⟨_,_,_,e⟩:=x; exact Qm e
 | c_ ob u=>obtain ⟨e,_⟩:=x; exact Qm e
 | y4 ps=>exact Qm (show h.get? a=some _ from x)
 | tab q=>obtain ⟨_,e,_⟩:=x; exact Qm e
 | met f y=>exact Qm (show h.get? a=some _ from x)
 | ext φ=>obtain ⟨_,⟨_,e⟩,_⟩:=x; exact Qm e
theorem Paired.Dr {F G:α->β->Prop}:∀ {F6:List α} {F5:List β},Paired F F6 F5->(∀ a b,F a b->G a b)->Paired G F6 F5
 := by
 intro F6 F5 h f
 induction h with
 | nil=>exact .nil
 | cons r t ih=>exact .cons (f _ _ r) ih
theorem bO.dc (x:bO P w H h a o) (k:∀ b u,(b=a∨H b=some (.own a))->h.get? b=some u->h'.get? b=some u)
  (ho:∀ b,H b=some (.own a)->H' b=some (.own a)) (ht:∀ b xs,H b=some (.tup xs)->H' b=some (.tup xs)):bO P w H' h' a o:=by
 induction o with
 | lst xs=>obtain ⟨z,its,n,r,e⟩:=x; exact ⟨z,its,n,r,k _ _ (.inl rfl) e⟩
 | tup xs=>obtain ⟨z,its,n,r,e⟩:=x; exact ⟨z,its,n,r,k _ _ (.inl rfl) e⟩
 | dK kvs=>obtain ⟨z,y,vs,r,ob,es,ep,e,c⟩:=x; exact ⟨z,y,vs,r,ob,es,ep,k _ _ (.inl rfl) e,c⟩
 | dT kvs =>
  obtain ⟨z,y,xs,r,ob,es,ep,e,c⟩:=x
  exact ⟨z,y,xs,Paired.Dr r λp q z=>⟨z.1,ht _ _ z.2.1,z.2.2⟩,ob,es,ep,k _ _ (.inl rfl) e,c⟩
 | set S n=>obtain ⟨ob,es,ep,t,e,c⟩:=x; exact ⟨ob,es,ep,t,k _ _ (.inl rfl) e,c⟩
 | ins C dx fs =>
  obtain ⟨d,z,ne,e,mA,⟨od,es,ep,e2,c⟩,r⟩:=x
  exact ⟨ho _ d,z,ne,k _ _ (.inl rfl) e,mA,⟨od,es,ep,k _ _ (.inr d) e2,c⟩,r⟩
 | own y=>obtain ⟨ob,e⟩:=x; exact ⟨ob,k _ _ (.inl rfl) e⟩
 | xd fs=>obtain ⟨mA,⟨od,es,ep,e,c⟩,r⟩:=x; exact ⟨mA,⟨od,es,ep,k _ _ (.inl rfl) e,c⟩,r⟩
 | jm lo hi=>obtain ⟨t,u,v,e⟩:=x; exact ⟨t,u,v,k _ _ (.inl rfl) e⟩
 | c_ ob u ih=>obtain ⟨e,q⟩:=x; exact ⟨k _ _ (.inl rfl) e,ih q⟩
 | y4 ps =>
  have e:h.get? a=some { cls:=.none,data:=.fields ps }:=x
  show h'.get? a=some { cls:=.none,data:=.fields ps }
  exact k a _ (.inl rfl) e
 | tab q =>
  obtain ⟨ps,e,z,r⟩:=x
  refine ⟨ps,k _ _ (.inl rfl) e,z,λpos cv q=>?_⟩
  obtain ⟨c,o,vs,t,r1,r2,r3,r4⟩:=r pos cv q
  exact ⟨c,o,vs,t,r1,ho _ r2,k _ _ (.inr r2) r3,r4⟩
 | met f y =>
  have e:h.get? a=some (Vh (.ref f) (.ref y)):=x
  show h'.get? a=some (Vh (.ref f) (.ref y))
  exact k a _ (.inl rfl) e
 | ext φ=>obtain ⟨p,⟨o,e⟩,st⟩:=x; exact ⟨st _ _ p λo q=>k _ _ (.inl rfl) q,⟨o,k _ _ (.inl rfl) e⟩,st⟩
theorem fh.lt (x:fh P w H h) (e:H a=some o):a < h.objs.size:=(x a o e).lt
theorem fh.fresh (x:fh P w H h) (e:h.objs.size<=a):H a=none:=by
 cases q:H a with
 | none=>rfl
 | some u=>exact absurd (Qq (x.lt q) e) (Js _)
theorem fh.kept (x:fh P w H h) (k:∀ b u,h.get? b=some u->h'.get? b=some u):fh P w H h':=λa o e =>
 (x a o e).dc (λb u _ q=>k b u q) (λ_ q=>q) λ_ _ q=>q
theorem fh.laid (x:fh P w H h) (k:∀ b u,h.get? b=some u->h'.get? b=some u) (hp:h.objs.size<=a) (new:bO P w (upd H a o) h' a o):fh P w (upd H a o) h':=λb u e=>by
 have hn:=x.fresh hp
 by_cases hb:b=a
 ·subst hb; rw [aB] at e; cases e; exact new
 ·rw [aI hb] at e
  exact (x b u e).dc (λc v _ q=>k c v q) (λc q=>by rw [aI (iA q hn)]; exact q) λc xs q=>by rw [aI (iA q hn)]; exact q
end
noncomputable def Rd (H:Hp) (a:Addr) (u:HO):Prop:=H a=some u∨∃ o,H a=some (.c_ o u)
theorem Rd.ok {u:HO} (r:Rd H a u) (x:fh P w H h):bO P w H h a u:=by
 rcases r with r | ⟨o,r⟩
 ·exact x a u r
 ·obtain ⟨_,q⟩:=x a _ r
  exact q
noncomputable def Ar:Option HO->Prop
 | some (.lst _)=>True
 | some (.dK _)=>True
 | some (.dT _)=>True
 | some (.set _ _)=>True
 | some (.ins _ _ _)=>True
 | some (.ext _)=>True
 | some (.tab _)=>True
 | _=>False
section
variable {x e:Addr} {o':HO}
theorem fh.write (ok:fh P w H h) (mu:Ar (H x)) (he:e=x∨H e=some (.own x)) (k:∀ b u,b≠e->h.get? b=some u->h'.get? b=some u) (BA:∃ u,h'.get? e=some u)
  (new:bO P w (upd H x o') h' x o'):fh P w (upd H x o') h':=λb u q=>by
 have Dp:∀ c y,H c=some (.own y)->c≠x:=λc y r z=>by subst z; rw [r] at mu; exact mu
 have JI:∀ c xs,H c=some (.tup xs)->c≠x:=λc xs r z=>by subst z; rw [r] at mu; exact mu
 by_cases hb:b=x
 ·subst hb; rw [aB] at q; cases q; exact new
 ·rw [aI hb] at q
  by_cases Ad:b=e
  ·have q':H b=some (.own x):=by
    rcases he with z | z
    ·exact absurd (Ad.trans z) hb
    ·rw [Ad]; exact z
   rw [q] at q'; cases q'
   obtain ⟨v,hv⟩:=BA
   exact ⟨v,by rw [Ad]; exact hv⟩
  ·refine (ok b u q).dc (λc v hc r=>k c v ?_ r) (λc r=>by rw [aI (Dp c b r)]; exact r) λc xs r=>by rw [aI (JI c xs r)]; exact r
   rcases hc with rfl | hc
   ·exact Ad
   ·rintro rfl
    rcases he with z | z
    ·exact Dp c b hc z
    ·rw [hc] at z; cases z; exact hb rfl
end
structure Un (fs ex:List Addr) (H H':Hp) (h h':Heap):Prop where
 keep:∀ b o,h.get? b=some o->H b=none->b∉fs->b∉ex->h'.get? b=some o
 slot:∀ b o,h.get? b=some o->H b=none->b∈fs->b∉ex->∃ sl,h'.get? b=some { o with slots:=sl }
 free:∀ b o,h.get? b=some o->H b=none->b∉ex->H' b=none
 there:∀ b o,h.get? b=some o->b∉ex->∃ o',h'.get? b=some o'
 j0:∀ b xs,H b=some (.tup xs)->H' b=some (.tup xs)
 iq:∀ b o u,H b=some (.c_ o u)->H' b=some (.c_ o u)
 j3:∀ b ps,H b=some (.y4 ps)->∃ more,H' b=some (.y4 (ps++more))
section
variable {fs WK ex ex':List Addr} {h1 h2:Heap} {x e:Addr} {o:HO}
theorem Un.any (u:Un fs ex H H1 h h1) (q:h.get? b=some ob) (n:H b=none) (hx:b∉ex):∃ sl,h1.get? b=some { ob with slots:=sl }:=by
 by_cases hb:b∈fs
 ·exact u.slot b ob q n hb hx
 ·exact ⟨ob.slots,u.keep b ob q n hb hx⟩
theorem Un.kept (k:∀ b u,h.get? b=some u->h'.get? b=some u):Un fs ex H H h h' :=
 ⟨λb ob q _ _ _=>k b ob q,λb ob q _ _ _=>⟨ob.slots,k b ob q⟩,λ_ _ _ n _=>n,λb ob q _=>⟨ob,k b ob q⟩,λ_ _ q=>q,λ_ _ _ q=>q,λ_ ps q=>⟨#[],by rw [q]; simp⟩⟩
theorem Un.refl:Un fs ex H H h h:=Un.kept λ_ _ q=>q
theorem Un.laid (k:∀ b u,h.get? b=some u->h'.get? b=some u) (hp:h.objs.size<=a) (hn:H a=none):Un fs ex H (upd H a o) h h' where
 keep:=λb u q _ _ _=>k b u q
 slot:=λb u q _ _ _=>⟨u.slots,k b u q⟩
 free:=λb u q n _=>by rw [aI (Jc (Qq (Qm q) hp))]; exact n
 there:=λb u q _=>⟨u,k b u q⟩
 j0:=λb xs q=>by rw [aI (iA q hn)]; exact q
 iq:=λb u xs q=>by rw [aI (iA q hn)]; exact q
 j3:=λb ps q=>⟨#[],by rw [aI (iA q hn),q]; simp⟩
theorem Un.write (mu:Ar (H x)) (he:e=x∨H e=some (.own x)) (k:∀ b u,b≠e->h.get? b=some u->h'.get? b=some u) (BA:∃ u,h'.get? e=some u):Un fs ex H (upd H x o) h h':=by
 have hx:∀ b,H b=none->b≠x:=λb n z=>by subst z; rw [n] at mu; exact mu
 have hb:∀ b,H b=none->b≠e:=λb n z=>by
  subst z
  rcases he with r | r
  ·exact hx b n r
  ·rw [n] at r; cases r
 have hm:∀ b u,H b=some u->¬ Ar (some u)->b≠x:=λb u q nm z=>by subst z; rw [q] at mu; exact nm mu
 refine ⟨λb u q n _ _=>k b u (hb b n) q,λb u q n _ _=>⟨u.slots,k b u (hb b n) q⟩,λb u q n _=>by rw [aI (hx b n)]; exact n,λb u q _=>?_,
  λb xs q=>by rw [aI (hm b _ q λz=>z)]; exact q,λb u xs q=>by rw [aI (hm b _ q λz=>z)]; exact q,λb ps q=>⟨#[],by rw [aI (hm b _ q λz=>z),q]; simp⟩⟩
 by_cases Ad:b=e
 ·subst Ad; exact BA
 ·exact ⟨u,k b u Ad q⟩
end
noncomputable def Ec (h:Heap) (H:Hp):List Addr:=(List.range h.objs.size).filter λa=>(H a).isSome
noncomputable def uQ (h:Heap) (H:Hp):Heap:=PySem.W.hideAll h (Ec h H)
theorem aCg (h:Heap) (H:Hp):(uQ h H).objs.size=h.objs.size:=PySem.W.hideAll_size _ _
theorem aDf (e:h.get? b=some o) (n:H b=none):(uQ h H).get? b=some o :=
 PySem.W.hideAll_get _ e λhm=>by
  have q:(H b).isSome=true:=(Jd.mp hm).2
  rw [n] at q; simp at q
theorem aEL (e:(uQ h H).get? b=some o):h.get? b=some o/\H b=none:=by
 have e':h.get? b=some o:=PySem.W.of_hideAll (Ec h H) e
 refine ⟨e',?_⟩
 cases q:H b with
 | none=>rfl
 | some x =>
  have hm:b∈Ec h H:=Jd.mpr ⟨Jy.mpr (Qm e'),by simp [q]⟩
  have z:(uQ h H).get? b=none:=PySem.W.hideAll_none (Ec h H) hm
  rw [z] at e; cases e
noncomputable def aEM (g h:Heap) (L:Addr):List (Addr×Obj):=(List.range h.objs.size).filterMap λa=>if a=L∨(g.get? a).isSome=true then none else (h.get? a).map λo=>(a,o)
noncomputable def iM (g h:Heap) (L d:Addr):List (Addr×Obj):=(aEM g h L).filter λp=>decide (p.1≠d)
structure Mod (K:Rb) (mg:Str->Option Value) (base:Heap):Prop where
 Eu:K.In base
 glob:base.Ns mainGlobals mg
 blt:∃ mb,base.Ns builtinsNs mb/\∀ x:Str,x ≠ "__name__" -> mb x=bootBuiltins x
 nolimit:base.NoLimit
 mods:∃ mm,base.Ns sysModules mm
structure Cx where
 prog:Program
 w:World
 K:Rb
 mg:Str->Option Value
 base:Heap
 A:Around
 N:List Str
 fv:Shared
 qw:Hp
 env:Env
 outer:List Env
 stack:List Env
 ex:List Addr
 fn:Str->Bool
 calm:Bool
 pn:List (Addr×Obj)
 xe:Value->Shared->Prop
end L2
variable {X Y:Cx}
namespace L2
open PySem PySem.Spec PyProof.Rows
noncomputable def m_ (l:List Env):List Addr:=l.filterMap (·.frame)
noncomputable abbrev Cx.fs (X:Cx):List Addr:=m_ X.outer
noncomputable def Fj (sc:Scope) (x:Str):Prop:=sc.names.lookup x=some .local∨sc.names.lookup x=some .cell∨sc.names.lookup x=some .free
noncomputable def Loc (sc:Scope) (x:Str):Prop:=sc.names.lookup x=some .local∨sc.names.lookup x=some .cell
noncomputable def Om (env:Env) (h:Heap) (m:Str->Option Value) (x:Str) (u:Value):Prop :=
 (env.kindOf x=some .local/\m x=some u)∨((env.kindOf x=some .cell∨env.kindOf x=some .free)/\∃ c,env.cells.lookup x=some c/\h.IsCell c (some u))
structure Cx.Ok (X:Cx):Prop where
 mod:Mod X.K X.mg X.base
 kind:X.env.scope.kind=.function
 glob:X.env.globals=mainGlobals
 blt:X.env.builtins=builtinsNs
 above:X.fv.heap.objs.size<=X.env.locals
 inj:∀ x y c,X.env.cells.lookup x=some c->X.env.cells.lookup y=some c->x=y
 has:∀ x,(X.env.kindOf x=some .cell∨X.env.kindOf x=some .free)->∃ c,X.env.cells.lookup x=some c
 Ak:∀ x c,X.fn x=true->X.env.cells.lookup x=some c->X.fv.heap.objs.size<=c
 hd:X.calm=true->X.A.handled=none
 frames:X.A.frames=some X.stack
 Ei:X.stack=X.outer∨(X.stack=X.env::X.outer/\X.env.frame=some X.env.locals)
 ES:∀ b∈X.ex,b≠X.env.locals/\∀ x c,X.env.cells.lookup x=some c->c≠b
 bs:∀ b o,X.base.get? b=some o->X.fv.heap.get? b=some o/\X.qw b=none
 Al:X.base.objs.size<=X.fv.heap.objs.size
 kq:∀ b o,X.base.get? b=some o->b∉X.ex
 wy:∀ b∈X.ex,b∉X.fs
 il:X.fv.heap.FunFrames X.base X.outer
 BI:∀ b∈X.fs,X.qw b=none
structure Inv (X:Cx) (aa:List (Addr×Obj)) (σ:List (Option V)) (H:Hp) (s:Shared):Prop where
 ok:X.Ok
 os:s.os=X.fv.os
 bare:AllBare s.gens
 base:Un X.fs X.ex X.qw H X.fv.heap s.heap
 loc:∃ m,s.heap.Ns X.env.locals m/\∀ (i:Nat) (x:Str) (v:V),X.N[i]?=some x->σ[i]?=some (some v)->Fj X.env.scope x->∃ u,bE v u/\Om X.env s.heap m x u
 cell:∀ x c,X.env.cells.lookup x=some c->∃ v,s.heap.IsCell c v
 free:H X.env.locals=none
 cu:∀ x c,X.env.cells.lookup x=some c->H c=none
 pin:∀ p∈X.pn++aa,s.heap.get? p.1=some p.2/\H p.1=none/\p.1≠X.env.locals/\p.1∉X.fs/\∀ v,p.2.data≠.cell v
 az:fh X.prog X.w H s.heap
 len:σ.length=X.N.length
section
variable {σ:List (Option V)}
theorem Cx.Ok.JK (ok:X.Ok) (e:X.base.get? b=some o):b∉X.fs:=λhb=>by
 have:=(ok.il.mem hb).1
 rw [e] at this; cases this
theorem Inv.bs (I:Inv X aa σ H s):∀ b o,X.base.get? b=some o->s.heap.get? b=some o/\H b=none:=λb o e =>
 ⟨I.base.keep b o (I.ok.bs b o e).1 (I.ok.bs b o e).2 (I.ok.JK e) (I.ok.kq b o e),I.base.free b o (I.ok.bs b o e).1 (I.ok.bs b o e).2 (I.ok.kq b o e)⟩
theorem Inv.bk (I:Inv X aa σ H s):∀ b o,X.base.get? b=some o->s.heap.get? b=some o:=λb o e=>(I.bs b o e).1
theorem Inv.mod (I:Inv X aa σ H s):Mod X.K X.mg X.base:=I.ok.mod
theorem Inv.Bm (I:Inv X aa σ H s):X.K.In s.heap:=I.ok.mod.Eu.keeps I.bk
theorem Inv.nolimit (I:Inv X aa σ H s):s.heap.NoLimit:=I.ok.mod.nolimit.keeps I.bk
theorem Inv.lt (I:Inv X aa σ H s):X.env.locals < s.heap.objs.size:=let ⟨_,hn,_⟩:=I.loc; hn.lt
theorem Inv.sz (I:Inv X aa σ H s):X.fv.heap.objs.size<=s.heap.objs.size:=Qw I.ok.above (Ya I.lt)
theorem Inv.AA (I:Inv X aa σ H s) (h:s.heap.objs.size<=a):a∉X.fs:=λhb=>by
 obtain ⟨_,o,ho,_⟩:=I.ok.il.mem hb
 exact absurd (Qq (Qm ho) (Qw I.sz h)) (Js _)
theorem Inv.Aj (I:Inv X aa σ H s):∀ x c,X.env.cells.lookup x=some c->c≠X.env.locals:=λx c e z=>by
 obtain ⟨v,o,ho,hd⟩:=I.cell x c e
 obtain ⟨m,⟨o',es,ep,lx,gj,_⟩,_⟩:=I.loc
 rw [z,lx] at ho; cases ho; rw [gj] at hd; cases hd
theorem Inv.il (I:Inv X aa σ H s):s.heap.FunFrames X.base X.outer:=by
 have all:∀ (l:List Env),(∀ b∈m_ l,b∈X.fs)->X.fv.heap.FunFrames X.base l->s.heap.FunFrames X.base l:=by
  intro l
  induction l with
  | nil=>intro _ _; trivial
  | cons env r ih =>
   intro hs hl
   obtain ⟨hk,⟨L,o,hf,hn,ho,hd⟩,hr⟩:=hl
   have hL:L∈X.fs:=hs L (by unfold m_; rw [Zf,hf]; exact Ql)
   obtain ⟨sl,e⟩:=I.base.slot L o ho (I.ok.BI L hL) hL λz=>I.ok.wy L z hL
   exact ⟨hk,⟨L,_,hf,hn,e,hd⟩,ih (λb hb=>hs b (by unfold m_; rw [Zf,hf]; exact Qo _ hb)) hr⟩
 exact all X.outer (λ_ hb=>hb) I.ok.il
theorem Inv.stack (I:Inv X aa σ H s):s.heap.FunFrames X.base X.stack:=by
 rcases I.ok.Ei with e | ⟨e,hf⟩
 ·rw [e]; exact I.il
 ·rw [e]
  obtain ⟨m,hn,_⟩:=I.loc
  refine .cons (by rw [I.ok.kind]; decide) hf hn ?_ I.il
  exact Heap.get?_none_of_le (Qw I.ok.Al I.ok.above)
theorem Inv.f7 (I:Inv X aa σ H s):∀ b∈m_ X.stack,b∈X.env.locals::X.fs:=λb hb=>by
 rcases I.ok.Ei with e | ⟨e,hf⟩
 ·rw [e] at hb; exact Qo _ hb
 ·rw [e] at hb
  unfold m_ at hb
  rw [Zf,hf] at hb
  exact hb
theorem Inv.ny (I:Inv X aa σ H s):∀ b∈m_ X.stack,H b=none:=λb hb=>by
 rcases Qk.mp (I.f7 b hb) with e | hb
 ·rw [e]; exact I.free
 ·obtain ⟨_,o,ho,_⟩:=I.ok.il.mem hb
  exact I.base.free b o ho (I.ok.BI b hb) λz=>I.ok.wy b z hb
theorem Inv.step {g':Array GenState} {d':Drawn} (I:Inv X aa σ H s) (m9:∀ b∈ch,(b∈X.ex∨X.fv.heap.objs.size<=b)/\b≠X.env.locals/\(∀ x c,X.env.cells.lookup x=some c->c≠b)/\∀ p∈X.pn++aa,p.1≠b) (keep:∀ b o,b≠X.env.locals->b∉X.fs->b∉ch->s.heap.get? b=some o->H b=none->h'.get? b=some o) (slot:∀ b o,b≠X.env.locals->b∈X.fs->b∉ch->s.heap.get? b=some o->H b=none->∃ sl,h'.get? b=some { o with slots:=sl }) (free:∀ b o,b∉ch->s.heap.get? b=some o->H b=none->H' b=none) (there:∀ b o,b∉ch->s.heap.get? b=some o->∃ o',h'.get? b=some o') (j0:∀ b xs,H b=some (.tup xs)->H' b=some (.tup xs)) (iq:∀ b o u,H b=some (.c_ o u)->H' b=some (.c_ o u)) (j3:∀ b ps,H b=some (.y4 ps)->∃ more,H' b=some (.y4 (ps++more))) (ns:∀ m,s.heap.Ns X.env.locals m->h'.Ns X.env.locals m) (az:fh X.prog X.w H' h') (hg:AllBare g') :
  Inv X aa σ H' { s with heap:=h',gens:=g',drawn:=d',toks:=t' }:=by
 have Lh:∀ b o,X.fv.heap.get? b=some o->b≠X.env.locals:=λb o e=>Jc (Qq (Qm e) I.ok.above)
 have Et:∀ b o,X.fv.heap.get? b=some o->b∉X.ex->b∉ch:=λb o e hx hb=>by
  rcases (m9 b hb).1 with z | z
  ·exact hx z
  ·exact absurd (Qq (Qm e) z) (Js _)
 have cellK:∀ x c,X.env.cells.lookup x=some c->∀ v,s.heap.IsCell c v->h'.IsCell c v:=λx c e v ⟨o,ho,hd⟩=>by
  have B_:c∉ch:=λz=>(m9 c z).2.2.1 x c e rfl
  by_cases hc:c∈X.fs
  ·obtain ⟨sl,q⟩:=slot c o (I.Aj x c e) hc B_ ho (I.cu x c e)
   exact ⟨_,q,hd⟩
  ·exact ⟨o,keep c o (I.Aj x c e) hc B_ ho (I.cu x c e),hd⟩
 refine ⟨I.ok,I.os,hg,⟨λb o e n hb hx=>?_,λb o e n hb hx=>?_,λb o e n hx=>?_,λb o e hx=>?_,λb xs e=>j0 b xs (I.base.j0 b xs e),λb o xs e=>iq b o xs (I.base.iq b o xs e),λb ps e=>?_⟩,?_,λx c e=>?_,?_,λx c e=>?_,λp hp=>?_,az,I.len⟩
 ·exact keep b o (Lh b o e) hb (Et b o e hx) (I.base.keep b o e n hb hx) (I.base.free b o e n hx)
 ·obtain ⟨sl,e1⟩:=I.base.slot b o e n hb hx
  obtain ⟨Sw,e2⟩:=slot b _ (Lh b o e) hb (Et b o e hx) e1 (I.base.free b o e n hx)
  exact ⟨Sw,e2⟩
 ·obtain ⟨o',e1⟩:=I.base.there b o e hx
  exact free b o' (Et b o e hx) e1 (I.base.free b o e n hx)
 ·obtain ⟨o',e1⟩:=I.base.there b o e hx
  exact there b o' (Et b o e hx) e1
 ·obtain ⟨m1,e1⟩:=I.base.j3 b ps e
  obtain ⟨m2,e2⟩:=j3 b _ e1
  exact ⟨m1++m2,by rw [e2,Array.append_assoc]⟩
 ·obtain ⟨m,hn,hl⟩:=I.loc
  refine ⟨m,ns m hn,λi x v e1 e2 e3=>?_⟩
  obtain ⟨u,r,l⟩:=hl i x v e1 e2 e3
  refine ⟨u,r,?_⟩
  rcases l with l | ⟨k,c,e,z⟩
  ·exact .inl l
  ·exact .inr ⟨k,c,e,cellK x c e _ z⟩
 ·obtain ⟨v,z⟩:=I.cell x c e
  exact ⟨v,cellK x c e v z⟩
 ·obtain ⟨m,⟨o,_,_,ho,_⟩,_⟩:=I.loc
  exact free _ o (λz=>(m9 _ z).2.1 rfl) ho I.free
 ·obtain ⟨v,o,ho,hd⟩:=I.cell x c e
  exact free c o (λz=>(m9 c z).2.2.1 x c e rfl) ho (I.cu x c e)
 ·obtain ⟨e,n,ne,nf,d⟩:=I.pin p hp
  have B_:p.1∉ch:=λz=>(m9 p.1 z).2.2.2 p hp rfl
  exact ⟨keep p.1 p.2 ne nf B_ e n,free p.1 p.2 B_ e n,ne,nf,d⟩
theorem Inv.un (I:Inv X aa σ H s) (u:Un X.fs [] H H' s.heap h') (az:fh X.prog X.w H' h'):Inv X aa σ H' { s with heap:=h',toks:=t' }:=by
 obtain ⟨m,⟨o,es,ep,ho,r⟩,_⟩:=id I.loc
 obtain ⟨sl,hL⟩:=u.any ho I.free (by simp)
 exact I.step (g':=s.gens) (d':=s.drawn) (ch:=[]) (λ_ z=>nomatch z) (λb o _ hb _ e n=>u.keep b o e n hb (by simp)) (λb o _ hb _ e n=>u.slot b o e n hb (by simp)) (λb o _ e n=>u.free b o e n (by simp)) (λb o _ e=>u.there b o e (by simp)) u.j0 u.iq u.j3 (λm' hm=>by
  obtain ⟨o',CS,CT,lx,r'⟩:=hm
  rw [ho] at lx; cases lx
  exact ⟨_,CS,CT,hL,r'⟩) az I.bare
theorem Inv.call {g':Array GenState} {d':Drawn} (I:Inv X aa σ H s) (u:Un (m_ X.stack) ch H H' s.heap h') (az:fh X.prog X.w H' h') (hg:AllBare g') (m9:∀ b∈ch,(b∈X.ex∨X.fv.heap.objs.size<=b)/\b≠X.env.locals/\(∀ x c,X.env.cells.lookup x=some c->c≠b)/\∀ p∈X.pn++aa,p.1≠b) :
  Inv X aa σ H' { s with heap:=h',gens:=g',drawn:=d',toks:=t' }:=by
 obtain ⟨m,⟨o,es,ep,ho,r⟩,_⟩:=id I.loc
 obtain ⟨sl,hL⟩:=u.any ho I.free λz=>(m9 _ z).2.1 rfl
 exact I.step (ch:=ch) m9 (λb o hL hb hc e n=>u.keep b o e n (λz=>(Qk.mp (I.f7 b z)).elim hL hb) hc) (λb o _ _ hc e n=>u.any e n hc) (λb o hc e n=>u.free b o e n hc) (λb o hc e=>u.there b o e hc) u.j0 u.iq u.j3 (λm' hm=>by
  obtain ⟨o',CS,CT,lx,r'⟩:=hm
  rw [ho] at lx; cases lx
  exact ⟨_,CS,CT,hL,r'⟩) az hg
theorem Inv.turned (I:Inv X aa σ H s) (k:∀ b o,b≠it->s.heap.get? b=some o->h'.get? b=some o) (hn:H it=none) (hL:it≠X.env.locals) (h1:it∈X.ex∨X.fv.heap.objs.size<=it) (h2:∀ x c,X.env.cells.lookup x=some c->c≠it) (h3:∀ p∈X.pn++aa,p.1≠it):Inv X aa σ H { s with heap:=h',toks:=t' }:=by
 have B':∀ b u,H b=some u->b≠it:=λb u e z=>by rw [z,hn] at e; cases e
 refine I.step (g':=s.gens) (d':=s.drawn) (ch:=[it]) (λb hb=>?_) (λb o _ _ hc e _=>k b o (λz=>hc (by simp [z])) e) (λb o _ _ hc e _=>⟨o.slots,k b o (λz=>hc (by simp [z])) e⟩) (λ_ _ _ _ n=>n)
  (λb o hc e=>⟨o,k b o (λz=>hc (by simp [z])) e⟩) (λ_ _ e=>e) (λ_ _ _ e=>e) (λb ps e=>⟨#[],by rw [e]; simp⟩) (λm hm=>?_) (λb u e=>?_) I.bare
 ·have e:b=it:=by simpa using hb
  subst e
  exact ⟨h1,hL,h2,h3⟩
 ·obtain ⟨o,es,ep,ho,r⟩:=hm
  exact ⟨o,es,ep,k _ o (Ne.symm hL) ho,r⟩
 ·refine (I.az b u e).dc (λc v hc q=>k c v ?_ q) (λ_ q=>q) λ_ _ q=>q
  rcases hc with z | z
  ·rw [z]; exact B' b u e
  ·exact B' c _ z
theorem Inv.tok (I:Inv X aa σ H s) (t:Nat):Inv X aa σ H { s with toks:=t }:=I.un (h':=s.heap) (t':=t) Un.refl I.az
theorem Inv.kept (I:Inv X aa σ H s) (k:∀ b u,s.heap.get? b=some u->h'.get? b=some u):Inv X aa σ H { s with heap:=h',toks:=t' }:=I.un (Un.kept k) (I.az.kept k)
theorem Inv.laid {o:HO} (I:Inv X aa σ H s) (k:∀ b u,s.heap.get? b=some u->h'.get? b=some u) (hp:s.heap.objs.size<=a) (new:bO X.prog X.w (upd H a o) h' a o) :
  Inv X aa σ (upd H a o) { s with heap:=h',toks:=t' }:=I.un (Un.laid k hp (I.az.fresh hp)) (I.az.laid k hp new)
theorem Inv.write {x e:Addr} {o:HO} (I:Inv X aa σ H s) (mu:Ar (H x)) (he:e=x∨H e=some (.own x)) (k:∀ b u,b≠e->s.heap.get? b=some u->h'.get? b=some u) (BA:∃ u,h'.get? e=some u) (new:bO X.prog X.w (upd H x o) h' x o):Inv X aa σ (upd H x o) { s with heap:=h',toks:=t' }:=I.un (Un.write mu he k BA) (I.az.write mu he k BA new)
theorem Inv.fm {yn:List (Addr×Obj)} (I:Inv X aa σ H s) (h:∀ p∈yn,s.heap.get? p.1=some p.2/\H p.1=none/\p.1≠X.env.locals/\p.1∉X.fs/\∀ v,p.2.data≠.cell v):Inv X yn σ H s :=
 ⟨I.ok,I.os,I.bare,I.base,I.loc,I.cell,I.free,I.cu,λp hp=>(Jo.mp hp).elim (λz=>I.pin p (Jv _ z)) (h p),I.az,I.len⟩
theorem yP (hN:N.Nodup) (a:N[i]?=some x) (b:N[j]?=some x):i=j:=by
 obtain ⟨h1,e1⟩:=Qd.mp a
 obtain ⟨h2,e2⟩:=Qd.mp b
 exact (List.getElem_inj hN).mp (e1.trans e2.symm)
theorem vH {Q:Unit->Shared->Prop} (I:Inv X aa σ H s) (hN:X.N.Nodup) (hi:X.N[i]?=some x) (hx:Loc X.env.scope x) (r:bE v u) (h:∀ s',Inv X aa (σ.set i (some v)) H s'->(∃ a,Heap.SameBut a s.heap s'.heap/\(a=X.env.locals∨X.env.cells.lookup x=some a))->Q () s') (hf:X.fn x=true∨X.env.scope.names.lookup x=some .local:=by first | exact .inl rfl | exact .inr rfl | assumption):wpAny M A (storeName X.env x u) Q E s:=by
 obtain ⟨m,hn,hl⟩:=id I.loc
 have Kn:(X.env.scope.kind==.class || (X.env.scope.kind==.module && X.env.locals !=X.env.globals))=false:=by rw [I.ok.kind]; rfl
 have DA:i < σ.length:=by rw [I.len]; exact (Qd.mp hi).1
 have Aj:=I.Aj
 have tracked:∀ {a:Addr} {h':Heap},(∃ o,s.heap.get? a=some o/\H a=none)->Heap.SameBut a s.heap h'->fh X.prog X.w H h':=λ{a h'} ha hs b ob e=>by
  obtain ⟨_,_,iw⟩:=ha
  refine (I.az b ob e).dc (λc w' hc q=>(hs.2 c ?_).trans q) (λ_ q=>q) λ_ _ q=>q
  rintro rfl
  rcases hc with rfl | hc
  ·rw [iw] at e; cases e
  ·rw [iw] at hc; cases hc
 rcases hx with hk | hk
 ·refine wpAny_storeName_local hk hn (λh' U2 hs=>?_) Kn
  obtain ⟨oL,_,_,kg,_⟩:=id hn
  refine h _ ⟨I.ok,I.os,I.bare,⟨λb o e n hb hx=>?_,λb o e n hb hx=>?_,I.base.free,λb o e hx=>?_,I.base.j0,I.base.iq,I.base.j3⟩,⟨_,U2,λj y v' e1 e2 e3=>?_⟩,λy c e=>?_,I.free,I.cu,λp hp=>?_,tracked ⟨oL,kg,I.free⟩ hs,by simpa using I.len⟩ ⟨_,hs,.inl rfl⟩
  ·exact (hs.2 b (Jc (Qq (Qm e) I.ok.above))).trans (I.base.keep b o e n hb hx)
  ·obtain ⟨sl,e1⟩:=I.base.slot b o e n hb hx
   exact ⟨sl,(hs.2 b (Jc (Qq (Qm e) I.ok.above))).trans e1⟩
  ·obtain ⟨o',e1⟩:=I.base.there b o e hx
   exact ⟨o',(hs.2 b (Jc (Qq (Qm e) I.ok.above))).trans e1⟩
  ·by_cases hj:j=i
   ·subst hj
    rw [hi] at e1; cases e1
    rw [We DA] at e2
    cases e2
    exact ⟨u,r,.inl ⟨hk,by simp⟩⟩
   ·rw [Yg (Ne.symm hj)] at e2
    obtain ⟨u',r',q⟩:=hl j y v' e1 e2 e3
    refine ⟨u',r',?_⟩
    rcases q with ⟨k,e⟩ | ⟨k,c,e,z⟩
    ·refine .inl ⟨k,?_⟩
     have:y≠x:=λe=>hj (yP hN e1 (e ▸ hi))
     simp [this,e]
    ·exact .inr ⟨k,c,e,z.sameBut hs (Aj y c e)⟩
  ·obtain ⟨w',z⟩:=I.cell y c e
   exact ⟨w',z.sameBut hs (Aj y c e)⟩
  ·obtain ⟨e,n,ne,nf,d⟩:=I.pin p hp
   exact ⟨(hs.2 p.1 ne).trans e,n,ne,nf,d⟩
 ·have GZ:X.fn x=true:=by
   rcases hf with z | z
   ·exact z
   ·rw [z] at hk; cases hk
  obtain ⟨c,hc⟩:=I.ok.has x (.inl hk)
  obtain ⟨w',z⟩:=I.cell x c hc
  refine wpAny_storeName_cell I.ok.kind hk hc z (λh' aj hs=>?_)
  obtain ⟨oc,o8,J6⟩:=id z
  refine h { s with heap:=h' } ⟨I.ok,I.os,I.bare,⟨λb o e n hb hx=>?_,λb o e n hb hx=>?_,I.base.free,λb o e hx=>?_,I.base.j0,I.base.iq,I.base.j3⟩,⟨m,hn.sameBut hs (Ne.symm (Aj x c hc)),λj y v' e1 e2 e3=>?_⟩,λy c' e=>?_,I.free,I.cu,λp hp=>?_,tracked ⟨oc,o8,I.cu x c hc⟩ hs,by simpa using I.len⟩ ⟨c,hs,.inr hc⟩
  ·exact (hs.2 b (Jc (Qq (Qm e) (I.ok.Ak x c GZ hc)))).trans (I.base.keep b o e n hb hx)
  ·obtain ⟨sl,e1⟩:=I.base.slot b o e n hb hx
   exact ⟨sl,(hs.2 b (Jc (Qq (Qm e) (I.ok.Ak x c GZ hc)))).trans e1⟩
  ·obtain ⟨o',e1⟩:=I.base.there b o e hx
   exact ⟨o',(hs.2 b (Jc (Qq (Qm e) (I.ok.Ak x c GZ hc)))).trans e1⟩
  ·by_cases hj:j=i
   ·subst hj
    rw [hi] at e1; cases e1
    rw [We DA] at e2
    cases e2
    exact ⟨u,r,.inr ⟨.inl hk,c,hc,aj⟩⟩
   ·rw [Yg (Ne.symm hj)] at e2
    obtain ⟨u',r',q⟩:=hl j y v' e1 e2 e3
    refine ⟨u',r',?_⟩
    rcases q with q | ⟨k,c',e,z'⟩
    ·exact .inl q
    ·refine .inr ⟨k,c',e,z'.sameBut hs ?_⟩
     rintro rfl
     exact hj (yP hN e1 (I.ok.inj _ _ _ e hc ▸ hi))
  ·by_cases z_:c'=c
   ·subst z_; exact ⟨_,aj⟩
   ·obtain ⟨w2,z2⟩:=I.cell y c' e
    exact ⟨w2,z2.sameBut hs z_⟩
  ·obtain ⟨e,n,ne,nf,d⟩:=I.pin p hp
   refine ⟨(hs.2 p.1 ?_).trans e,n,ne,nf,d⟩
   intro q
   rw [q,o8] at e
   have q':oc=p.2:=Option.some.inj e
   exact d w' (by rw [<- q']; exact J6)
theorem nV {Q:Unit->Shared->Prop} (I:Inv X aa σ H s) (hN:X.N.Nodup) (hi:X.N[i]?=some x) (hx:Loc X.env.scope x) (r:bE v u) (h:∀ s',Inv X aa (σ.set i (some v)) H s'->Q () s') (hf:X.fn x=true∨X.env.scope.names.lookup x=some .local:=by first | exact .inl rfl | exact .inr rfl | assumption):wpAny M A (storeName X.env x u) Q E s :=
 vH I hN hi hx r (λs' I' _=>h s' I') hf
theorem Inv.D_ (I:Inv X aa σ H s) (ho:s'.os=s.os) (u:Un (m_ X.stack) ch H H' s.heap s'.heap) (az:fh X.prog X.w H' s'.heap) (hg:AllBare s'.gens) (m9:∀ b∈ch,(b∈X.ex∨X.fv.heap.objs.size<=b)/\b≠X.env.locals/\(∀ x c,X.env.cells.lookup x=some c->c≠b)/\∀ p∈X.pn++aa,p.1≠b):Inv X aa σ H' s':=by
 obtain ⟨h',g',d',t',o'⟩:=s'
 have e:o'=s.os:=ho
 subst e
 exact I.call (g':=g') (t':=t') (d':=d') u az hg m9
end
noncomputable abbrev XK:=Value->Option Addr->Hp->Prop
noncomputable abbrev St:=List (Option V)
noncomputable abbrev VK:=V->Hp->Prop
noncomputable abbrev TE:=St->Hp->VK->Prop
end L2
variable {ta te to tl tv ts td:TE}
namespace L2
open PySem PySem.Spec PyProof.Rows
noncomputable abbrev TT:=St->Hp->(Bool->Hp->Prop)->Prop
end L2
variable {tc tt:TT}
namespace L2
open PySem PySem.Spec PyProof.Rows
noncomputable abbrev TA:=St->Hp->(List V->Hp->Prop)->Prop
end L2
variable {tr:TA}
namespace L2
open PySem PySem.Spec PyProof.Rows
structure Ends where
 nx:St->Hp->Prop
 rt:VK
 bk:St->Hp->Prop:=λ_ _=>False
 ct:St->Hp->Prop:=λ_ _=>False
end L2
variable {D:Ends}
namespace L2
open PySem PySem.Spec PyProof.Rows
noncomputable abbrev TS:=Ends->St->Hp->Prop
end L2
variable {tb:TS}
namespace L2
open PySem PySem.Spec PyProof.Rows
noncomputable def EP (X:Cx) (aa:List (Addr×Obj)) (σ:St) (Q:VK) (u:Value) (s':Shared):Prop:=∃ v H',Inv X aa σ H' s'/\bE v u/\Q v H'
noncomputable def TP (X:Cx) (aa:List (Addr×Obj)) (σ:St) (Q:Bool->Hp->Prop) (b:Bool) (s':Shared):Prop:=∃ H',Inv X aa σ H' s'/\Q b H'
noncomputable def AP (X:Cx) (aa:List (Addr×Obj)) (σ:St) (Q:List V->Hp->Prop) (us:List Value) (s':Shared):Prop:=∃ vs H',Inv X aa σ H' s'/\bF vs us/\Q vs H'
noncomputable def SP (X:Cx) (aa:List (Addr×Obj)) (D:Ends) (f:Flow) (s':Shared):Prop :=
 match f with
 | .next=>∃ ar H',Inv X aa ar H' s'/\D.nx ar H'
 | .brk=>∃ ar H',Inv X aa ar H' s'/\D.bk ar H'
 | .cont=>∃ ar H',Inv X aa ar H' s'/\D.ct ar H'
 | .ret u=>∃ v ar H',Inv X aa ar H' s'/\bE v u/\D.rt v H'
noncomputable def PE (X:Cx) (e:Expr) (t:TE):Prop :=
 ∀ (aa:List (Addr×Obj)) (s:Shared) (σ:St) (H:Hp) (Q:VK),Inv X aa σ H s->t σ H Q->wpAny (model X.prog X.w) X.A (eval e X.env) (EP X aa σ Q) X.xe s
noncomputable def PT (X:Cx) (e:Expr) (t:TT):Prop :=
 ∀ (aa:List (Addr×Obj)) (s:Shared) (σ:St) (H:Hp) (Q:Bool->Hp->Prop),Inv X aa σ H s->t σ H Q->wpAny (model X.prog X.w) X.A (isTrue e X.env (eval e X.env)) (TP X aa σ Q) X.xe s
noncomputable def PW (X:Cx) (e:Expr) (t:TT):Prop :=
 ∀ (whole:Sem Value) (aa:List (Addr×Obj)) (s:Shared) (σ:St) (H:Hp) (Q:Bool->Hp->Prop),Inv X aa σ H s->t σ H Q->wpAny (model X.prog X.w) X.A (isTrue e X.env whole) (TP X aa σ Q) X.xe s
theorem PW.pt {t:TT} (h:PW X e t):PT X e t:=h _
noncomputable def PA (X:Cx) (es:List Expr) (t:TA):Prop :=
 ∀ (pos:Pos) (aa:List (Addr×Obj)) (s:Shared) (σ:St) (H:Hp) (Q:List V->Hp->Prop),Inv X aa σ H s->t σ H Q->wpAny (model X.prog X.w) X.A (spliced (backTo pos (starEach es X.env))) (AP X aa σ Q) X.xe s
noncomputable def PS (X:Cx) (st:Stmt) (t:TS):Prop :=
 ∀ (aa:List (Addr×Obj)) (s:Shared) (σ:St) (H:Hp) (D:Ends),Inv X aa σ H s->t D σ H->wpAny (model X.prog X.w) X.A (exec st X.env) (SP X aa D) X.xe s
noncomputable def j9 (X:Cx) (st:List Stmt) (t:TS):Prop :=
 ∀ (aa:List (Addr×Obj)) (s:Shared) (σ:St) (H:Hp) (D:Ends),Inv X aa σ H s->t D σ H->wpAny (model X.prog X.w) X.A (execs st X.env) (SP X aa D) X.xe s
theorem a7 {t:Sem α} {Q Q':α->Shared->Prop} (h:wpAny M A t Q E s) (hQ:∀ a s,Q a s->Q' a s):wpAny M A t Q' E s:=Ru h hQ λ_ _ x=>x
section
noncomputable def Ol (i:Nat):TE:=λσ H Q=>∃ v,σ[i]?=some (some v)/\Q v H
noncomputable abbrev tC (v:V):TE:=λ_ H Q=>Q v H
theorem g? {pos:Pos} (hN:X.N[i]?=some x) (hv:Fj X.env.scope x) (hd:(x==("__debug__" : Str))=false:=by decide) (j7:(x==("__classdict__" : Str))=false:=by decide):PE X (.Name x pos) (Ol i):=by
 intro aa s σ H Q I h
 obtain ⟨v,e,h⟩:=h
 obtain ⟨m,hn,hl⟩:=I.loc
 obtain ⟨u,r,l⟩:=hl i x v hN e hv
 have fin:EP X aa σ Q u s:=⟨v,H,I,r,h⟩
 rcases l with ⟨hk,hm⟩ | ⟨hk,c,hc,dr⟩
 ·exact Vu (Mj I.ok.kind hk hn hm fin) hd
 ·rcases hk with hk | hk
  ·exact Vu (wpAny_loadName_cell I.ok.kind hk hc dr fin) hd
  ·exact Vu (Mp I.ok.kind hk hc dr fin j7) hd
theorem aM {i j pos}:PE X (.Constant (.int i) j pos) (tC (.int i)):=λ_ _ _ H _ I h=>wpAny_Constant_int ⟨.int i,H,I.tok _,⟨_,rfl⟩,h⟩
theorem iN {b j pos}:PE X (.Constant (.bool b) j pos) (tC (.bl b)):=λ_ _ _ H _ I h=>Constant_bool ⟨.bl b,H,I,rfl,h⟩
theorem g! {j pos}:PE X (.Constant .none j pos) (tC .bj):=λ_ _ _ H _ I h=>Constant_none ⟨.bj,H,I,rfl,h⟩
theorem IE {x j pos}:PE X (.Constant (.str x) j pos) (tC (.str x)):=λ_ _ _ H _ I h=>Calls.Constant_str ⟨.str x,H,I.tok _,⟨_,rfl⟩,h⟩
noncomputable def Gl (X:Cx) (x:Str):Prop:=X.env.kindOf x=some .globalImplicit
theorem PD {σ:St} {pos:Pos} (I:Inv X aa σ H s) (hg:Gl X x) (hm:X.mg x=some u) (h:Q u s) (hd:(x==("__debug__" : Str))=false:=by decide):wpAny (model X.prog X.w) X.A (eval (.Name x pos) X.env) Q E s :=
 Calls.Name_function_global I.ok.kind hg (Calls.loadGlobal_global (by rw [I.ok.glob]; exact I.mod.glob.keeps I.bk) hm h) hd
theorem iB {σ:St} {pos:Pos} (I:Inv X aa σ H s) (hg:Gl X x) (hm:X.mg x=none) (hv:bootBuiltins x=some u) (h:Q u s) (hn:x ≠ "__name__" := by decide) (hd:(x==("__debug__" : Str))=false:=by decide):wpAny (model X.prog X.w) X.A (eval (.Name x pos) X.env) Q E s:=by
 obtain ⟨mb,h1,h2⟩:=I.mod.blt
 exact Calls.Name_function_global I.ok.kind hg (Calls.loadGlobal_builtin (by rw [I.ok.glob]; exact I.mod.glob.keeps I.bk) hm (by rw [I.ok.blt]; exact h1.keeps I.bk) ((h2 x hn).trans hv) h) hd
theorem mG {pos:Pos} (hg:Gl X x) (hm:X.mg x=some u) (r:bE v u) (hd:(x==("__debug__" : Str))=false:=by decide):PE X (.Name x pos) (tC v) :=
 λ_ _ _ H _ I h=>PD I hg hm ⟨v,H,I,r,h⟩ hd
theorem iI {pos:Pos} (hg:Gl X x) (hm:X.mg x=none) (hv:bootBuiltins x=some u) (r:bE v u) (hn:x ≠ "__name__" := by decide) (hd:(x==("__debug__" : Str))=false:=by decide):PE X (.Name x pos) (tC v) :=
 λ_ _ _ H _ I h=>iB I hg hm hv ⟨v,H,I,r,h⟩ hn hd
variable {a b:Expr} {tb:TE} {pos:Pos}
noncomputable def PC (X:Cx) (op:CmpOp) (a b:Expr) (t:TE):Prop :=
 ∀ (aa:List (Addr×Obj)) (s:Shared) (σ:St) (H:Hp) (Q:VK),Inv X aa σ H s->t σ H Q ->
  wpAny (model X.prog X.w) X.A (eval a X.env) (λv bq=>wpAny (model X.prog X.w) X.A (eval b X.env) (λu gn=>wpAny (model X.prog X.w) X.A (compareOp op v u) (EP X aa σ Q) X.xe gn) X.xe bq) X.xe s
theorem aDg (b:Expr) (h:op≠.In) (h2:op≠.NotIn):behindInMarks op b=false:=by
 have e1:(op==CmpOp.In)=false:=by cases op <;> first | rfl | exact absurd rfl h
 have e2:(op==CmpOp.NotIn)=false:=by cases op <;> first | rfl | exact absurd rfl h2
 cases b <;> simp [behindInMarks,e1,e2]
noncomputable def ZU (ta:TE):TE:=λσ H Q=>ta σ H λx H1=>Q (.bl (!decide (x=.bj))) H1
theorem bE.tj {x:V} {v:Value} (r:bE x v):(v==Value.none)=decide (x=.bj):=by
 cases x with
 | bj=>cases r; rfl
 | bl _=>cases r; rfl
 | int _=>obtain ⟨t,rfl⟩:=r; rfl
 | str _=>obtain ⟨t,rfl⟩:=r; rfl
 | ni _=>obtain ⟨t,rfl⟩:=r; rfl
 | vh _=>obtain ⟨t,rfl⟩:=r; rfl
 | ref _=>cases r; rfl
 | ty _=>cases r; rfl
theorem aEN {j pos'} (ha:PE X a ta):PC X .IsNot a (.Constant .none j pos') (ZU ta):=by
 intro aa s σ H Q I h
 refine a7 (ha aa s σ H _ I h) λv s1 aq=>?_
 obtain ⟨x,H1,I1,r1,q1⟩:=aq
 exact Constant_none (isnot_none_gen ⟨.bl _,H1,I1,by rw [r1.tj]; rfl,q1⟩)
noncomputable def tB (t:TE):TT:=λσ H Q=>t σ H λx H1=>∃ c,x=.bl c/\Q c H1
theorem Pg {t:TE} (h:PC X op a b t) (h1:behindInMarks op b=false:=by first | exact aDg _ (by decide) (by decide) | rfl):PT X (.Compare a [op] [b] pos) (tB t):=by
 intro aa s σ H Q I hw
 refine Mg (a7 (h aa s σ H _ I hw) λv s1 h1=>a7 h1 λu s2 h2=>a7 h2 λc s3 aq=>?_) h1
 obtain ⟨x,H1,I1,r1,q1⟩:=aq
 obtain ⟨d,rfl,q⟩:=q1
 cases r1
 exact Rv ⟨H1,I1,q⟩
theorem cT {t:TE} (h:PE X e t) (he:∀ whole,isTrue e X.env whole=(do let v<-whole; standAt e.pos; holding [v] (truthy v)):=by intro _; rfl):PT X e (tB t):=by
 intro aa s σ H Q I hw
 refine isTrue_plain (a7 (h aa s σ H _ I hw) λv s1 aq=>?_) (he _)
 obtain ⟨x,H1,I1,r1,q1⟩:=aq
 obtain ⟨d,rfl,q⟩:=q1
 cases r1
 exact Rv ⟨H1,I1,q⟩
variable {tA Eh:TT} {iM:List Expr}
noncomputable def ZI (t u:TT):TT:=λσ H Q=>t σ H λc H1=>if c=true then u σ H1 Q else Q false H1
noncomputable def So (t u:TT):TT:=λσ H Q=>t σ H λc H1=>if c=true then Q true H1 else u σ H1 Q
noncomputable def ZH (t:TT):TT:=λσ H Q=>t σ H λc H1=>Q (!c) H1
theorem aEO (ha:PT X a tA):PW X (.BoolOp .And [a] pos) tA:=by
 intro wh aa s σ H Q I h
 refine isTrue_and (a7 (ha aa s σ H Q I h) λc s1 e=>?_)
 cases c with
 | true=>exact isTrue_and_nil e
 | false=>exact e
theorem jB (ha:PT X a tA):PW X (.BoolOp .Or [a] pos) tA:=by
 intro wh aa s σ H Q I h
 refine isTrue_or (a7 (ha aa s σ H Q I h) λc s1 e=>?_)
 cases c with
 | false=>exact isTrue_or_nil e
 | true=>exact e
theorem f? (ha:PT X a tA) (hb:PW X (.BoolOp .And (b::iM) pos) Eh):PW X (.BoolOp .And (a::b::iM) pos) (ZI tA Eh):=by
 intro wh aa s σ H Q I h
 refine isTrue_and (a7 (ha aa s σ H _ I h) λc s1 aq=>?_)
 obtain ⟨H1,I1,q1⟩:=aq
 cases c with
 | true=>exact hb wh aa s1 σ H1 Q I1 q1
 | false=>exact ⟨H1,I1,q1⟩
theorem lJ (ha:PT X a tA) (hb:PW X (.BoolOp .Or (b::iM) pos) Eh):PW X (.BoolOp .Or (a::b::iM) pos) (So tA Eh):=by
 intro wh aa s σ H Q I h
 refine isTrue_or (a7 (ha aa s σ H _ I h) λc s1 aq=>?_)
 obtain ⟨H1,I1,q1⟩:=aq
 cases c with
 | true=>exact ⟨H1,I1,q1⟩
 | false=>exact hb wh aa s1 σ H1 Q I1 q1
theorem dJ (ha:PT X a tA):PT X (.UnaryOp .Not a pos) (ZH tA):=by
 intro aa s σ H Q I h
 exact isTrue_not (ha aa s σ H (λc H1=>Q (!c) H1) I h)
noncomputable def ZT (ta tb:TE):TE:=λσ H Q=>ta σ H λx H1=>∃ c,x=.bl c/\if c=true then tb σ H1 Q else Q (.bl false) H1
noncomputable def ZS (ta:TE):TE:=λσ H Q=>ta σ H λx H1=>∃ c,x=.bl c/\Q (.bl (!c)) H1
theorem pB {op} {t:TE} (h:PE X a t):PE X (.BoolOp op [a] pos) t:=λaa s σ H Q I hw=>BoolOp_one (h aa s σ H Q I hw)
theorem nG (ha:PE X a ta) (hb:PE X (.BoolOp .And (b::iM) pos) tb):PE X (.BoolOp .And (a::b::iM) pos) (ZT ta tb):=by
 intro aa s σ H Q I h
 refine BoolOp_and (a7 (ha aa s σ H _ I h) λv s1 aq=>?_)
 obtain ⟨x,H1,I1,r1,q1⟩:=aq
 obtain ⟨c,rfl,q1⟩:=q1
 cases r1
 refine Rv ?_
 cases c with
 | true=>exact hb aa s1 σ H1 Q I1 q1
 | false=>exact ⟨.bl false,H1,I1,rfl,q1⟩
theorem e? (ha:PE X a ta):PE X (.UnaryOp .Not a pos) (ZS ta):=by
 intro aa s σ H Q I h
 refine UnaryOp_ (a7 (ha aa s σ H _ I h) λv s1 aq=>?_)
 obtain ⟨x,H1,I1,r1,q1⟩:=aq
 obtain ⟨c,rfl,q1⟩:=q1
 cases r1
 exact not_of (Rv ⟨.bl (!c),H1,I1,rfl,q1⟩)
end
noncomputable def ai (K:Rb) (H:Hp) (a:Addr) (xs:List V):Prop :=
 Rd H a (.lst xs) ∨
  ∃ (o:Obj) (its:Array Value) (n:Nat),K.lookup a=some o/\o.cls=.type "list" /\ o.dict=none/\o.data=.seq its n/\its.size<=sizeLine/\bF xs its.toList
noncomputable def ah (K:Rb) (H:Hp) (a:Addr) (xs:List V):Prop :=
 Rd H a (.tup xs) ∨
  ∃ (o:Obj) (its:Array Value) (n:Nat),K.lookup a=some o/\o.cls=.type "tuple" /\ o.dict=none/\o.data=.seq its n/\its.size<=sizeLine/\bF xs its.toList
noncomputable def ZG:Value->Option V
 | .none=>some .bj
 | .bool b=>some (.bl b)
 | .int i _=>some (.int i)
 | .str x _=>some (.str x)
 | .bytes b _=>some (.ni b)
 | .float b _=>some (.vh b)
 | .ref a=>some (.ref a)
 | .type n=>some (.ty n)
 | _=>none
theorem bE.abs {x:V} (r:bE x u):ZG u=some x:=by
 cases x with
 | bj=>cases r; rfl
 | bl _=>cases r; rfl
 | int _=>obtain ⟨t,rfl⟩:=r; rfl
 | str _=>obtain ⟨t,rfl⟩:=r; rfl
 | ni _=>obtain ⟨t,rfl⟩:=r; rfl
 | vh _=>obtain ⟨t,rfl⟩:=r; rfl
 | ref _=>cases r; rfl
 | ty _=>cases r; rfl
theorem bE.inj {x:V} (r:bE x u) (q:bE y u):x=y:=Option.some.inj (r.abs.symm.trans q.abs)
theorem bF.inj:∀ {xs ys:List V} {us:List Value},bF xs us->bF ys us->xs=ys
 := by
 intro xs ys us h
 induction h generalizing ys with
 | nil=>intro q; cases q; rfl
 | cons r t ih=>intro q; cases q with | cons r' t'=>rw [r.inj r',ih t']
section
variable {σ:St}
theorem ai.of (h:H a=some (.lst xs)):ai K H a xs:=.inl (.inl h)
theorem ah.of (h:H a=some (.tup xs)):ah K H a xs:=.inl (.inl h)
theorem Inv.list (I:Inv X aa σ H s) (h:ai X.K H a xs):∃ its:List Value,bF xs its/\PlainL s.heap a its.toArray/\xs.length<=sizeLine:=by
 rcases h with h | ⟨o,its,n,hk,hc,hd,hs,hz,r⟩
 ·obtain ⟨z,its,n,r,e⟩:=h.ok I.az
  exact ⟨its,r,⟨_,n,e,rfl,rfl,rfl⟩,z⟩
 ·refine ⟨its.toList,r,⟨o,n,I.Bm a o hk,hc,hd,by simpa using hs⟩,?_⟩
  have e:=r.length
  simp only [Array.length_toList] at e
  omega
theorem Inv.tuple (I:Inv X aa σ H s) (h:ah X.K H a xs):∃ its:List Value,bF xs its/\IsTup s.heap a its.toArray/\xs.length<=sizeLine:=by
 rcases h with h | ⟨o,its,n,hk,hc,_,hs,hz,r⟩
 ·obtain ⟨z,its,n,r,p⟩:=h.ok I.az
  exact ⟨its,r,⟨_,p,rfl,n,rfl⟩,z⟩
 ·refine ⟨its.toList,r,⟨o,I.Bm a o hk,hc,n,by simpa using hs⟩,?_⟩
  have e:=r.length
  simp only [Array.length_toList] at e
  omega
theorem Inv.k8 (I:Inv X aa σ H s) (h:ai X.K H a xs) (h':ai X.K H a ys):xs=ys:=by
 obtain ⟨its,r,⟨o,n,e,_,_,d⟩,_⟩:=I.list h
 obtain ⟨its',r',⟨o',n',e',_,_,d'⟩,_⟩:=I.list h'
 rw [e] at e'; cases e'
 rw [d] at d'
 injection d' with d1 _
 have:its=its':=by simpa using congrArg Array.toList d1
 subst this
 exact r.inj r'
theorem Inv.jw (I:Inv X aa σ H s) (h:ah X.K H a xs) (h':ah X.K H a ys):xs=ys:=by
 obtain ⟨its,r,⟨o,e,_,n,d⟩,_⟩:=I.tuple h
 obtain ⟨its',r',⟨o',e',_,n',d'⟩,_⟩:=I.tuple h'
 rw [e] at e'; cases e'
 rw [d] at d'
 injection d' with d1 _
 have:its=its':=by simpa using congrArg Array.toList d1
 subst this
 exact r.inj r'
noncomputable abbrev Cx.jf (X:Cx) (E:Value->Shared->Prop):Cx:={ X with xe:=E }
noncomputable abbrev Cx.za (X:Cx):Cx:=X.jf λ_ _=>False
theorem Cx.Ok.jf (ok:X.Ok) (E:Value->Shared->Prop):(X.jf E).Ok :=
 ⟨ok.mod,ok.kind,ok.glob,ok.blt,ok.above,ok.inj,ok.has,ok.Ak,ok.hd,ok.frames,ok.Ei,ok.ES,ok.bs,ok.Al,ok.kq,ok.wy,ok.il,ok.BI⟩
theorem Cx.Ok.d_ (ok:(X.jf E).Ok):X.Ok :=
 ⟨ok.mod,ok.kind,ok.glob,ok.blt,ok.above,ok.inj,ok.has,ok.Ak,ok.hd,ok.frames,ok.Ei,ok.ES,ok.bs,ok.Al,ok.kq,ok.wy,ok.il,ok.BI⟩
theorem Inv.jf (I:Inv X aa σ H s) (E:Value->Shared->Prop):Inv (X.jf E) aa σ H s:=⟨I.ok.jf E,I.os,I.bare,I.base,I.loc,I.cell,I.free,I.cu,I.pin,I.az,I.len⟩
theorem Inv.d_ (I:Inv (X.jf E) aa σ H s):Inv X aa σ H s:=⟨I.ok.d_,I.os,I.bare,I.base,I.loc,I.cell,I.free,I.cu,I.pin,I.az,I.len⟩
theorem SP.d_ {f:Flow} (h:SP (X.jf E) aa D f s'):SP X aa D f s':=by
 cases f with
 | next=>obtain ⟨ar,H',I,q⟩:=h; exact ⟨ar,H',I.d_,q⟩
 | brk=>obtain ⟨ar,H',I,q⟩:=h; exact ⟨ar,H',I.d_,q⟩
 | cont=>obtain ⟨ar,H',I,q⟩:=h; exact ⟨ar,H',I.d_,q⟩
 | ret u=>obtain ⟨v,ar,H',I,r,q⟩:=h; exact ⟨v,ar,H',I.d_,r,q⟩
theorem j9.za {st:List Stmt} {t:TS} (h:j9 X.za st t):j9 X st t:=λaa s σ H D I hw =>
 Ru (h aa s σ H D (I.jf _) hw) (λ_ _ q=>q.d_) λ_ _ z=>False.elim z
end
section
variable {iM:List Stmt} {t u:TS} {pos:Pos}
noncomputable def vI:TS:=λD σ H=>D.nx σ H
noncomputable def E2 (t u:TS):TS:=λD σ H=>t { D with nx:=u D } σ H
theorem bR:j9 X [] vI:=λ_ _ σ H _ I h=>Vf ⟨σ,H,I,h⟩
theorem aE (h1:PS X st t) (h2:j9 X iM u):j9 X (st::iM) (E2 t u):=by
 intro aa s σ H D I h
 refine Mx (a7 (h1 aa s σ H { D with nx:=u D } I h) λf s1 q=>?_)
 cases f with
 | next =>
  obtain ⟨ar,H',I',q⟩:=q
  exact h2 aa s1 ar H' D I' q
 | ret v=>exact q
 | brk=>exact q
 | cont=>exact q
theorem aK (h1:PS X st t):j9 X [st] t:=by
 intro aa s σ H D I h
 refine Mx (a7 (h1 aa s σ H D I h) λf s1 q=>?_)
 cases f with
 | next=>exact Vf q
 | ret v=>exact q
 | brk=>exact q
 | cont=>exact q
theorem Inv.quiet {σ:St} (I:Inv X aa σ H s):interactive X.env=false:=by simp [interactive,I.ok.kind]
noncomputable def ZR (te:TE):TS:=λD σ H=>te σ H λ_ H1=>D.nx σ H1
theorem dO (he:PE X e te) (hs:swapsWith e none pos.line X.env=pure false:=by rfl):PS X (.Expr e pos) (ZR te):=by
 intro aa s σ H D I h
 refine wpAny_Expr_any (a7 (he aa s σ H _ I h) λv s1 aq=>?_) I.quiet hs
 obtain ⟨x,H1,I1,r1,q1⟩:=aq
 exact ⟨σ,H1,I1,q1⟩
noncomputable def Oj (te:TE):TS:=λD σ H=>te σ H D.rt
theorem aW (he:PE X e te):PS X (.Return (some e) pos) (Oj te):=by
 intro aa s σ H D I h
 refine wpAny_Return_some (a7 (he aa s σ H _ I h) λv s1 aq=>?_)
 obtain ⟨x,H1,I1,r1,q1⟩:=aq
 exact ⟨x,σ,H1,I1,r1,q1⟩
noncomputable def Oi (c:TT) (t u:TS):TS:=λD σ H=>c σ H λb H1=>if b=true then t D σ H1 else u D σ H1
theorem eJ {c:Expr} {a b:List Stmt} (hc:PT X c tc) (ha:j9 X a t) (hb:j9 X b u):PS X (.If c a b pos) (Oi tc t u):=by
 intro aa s σ H D I h
 refine wpAny_If (a7 (hc aa s σ H _ I h) λd s1 aq=>?_)
 obtain ⟨H1,I1,q1⟩:=aq
 cases d with
 | true=>exact ha aa s1 σ H1 D I1 q1
 | false=>exact hb aa s1 σ H1 D I1 q1
noncomputable def e!:TS:=λ_ _ _=>False
theorem mH {Bd:List Stmt}:j9 X Bd e!:=λ_ _ _ _ _ _ h=>h.elim
end
noncomputable abbrev TG:=V->St->Hp->(St->Hp->Prop)->Prop
end L2
variable {g g2:TG}
namespace L2
open PySem PySem.Spec PyProof.Rows
noncomputable abbrev yg:=List V->St->Hp->(St->Hp->Prop)->Prop
noncomputable def PG (X:Cx) (target:Expr) (t:TG):Prop :=
 ∀ (aa:List (Addr×Obj)) (s:Shared) (σ:St) (H:Hp) (v:V) (u:Value) (Q:St->Hp->Prop),Inv X aa σ H s->bE v u->t v σ H Q ->
  wpAny (model X.prog X.w) X.A (assign target X.env u) (λ_ s'=>∃ ar H',Inv X aa ar H' s'/\Q ar H') X.xe s
noncomputable def Dd (X:Cx) (ts:List Expr) (t:yg):Prop :=
 ∀ (aa:List (Addr×Obj)) (s:Shared) (σ:St) (H:Hp) (vs:List V) (us:List Value) (Q:St->Hp->Prop),Inv X aa σ H s->bF vs us->t vs σ H Q ->
  wpAny (model X.prog X.w) X.A (assignInOrder ((assignEach ts X.env).map (·.2)) us) (λ_ s'=>∃ ar H',Inv X aa ar H' s'/\Q ar H') X.xe s
noncomputable abbrev CY:=V->V->V->Hp->(Hp->Prop)->Prop
noncomputable def HH (X:Cx) (t:CY):Prop :=
 ∀ (aa:List (Addr×Obj)) (s:Shared) (σ:St) (H:Hp) (o i v:V) (ov iv u:Value) (Q:Hp->Prop),Inv X aa σ H s->bE o ov->bE i iv->bE v u->t o i v H Q ->
  wpAny (model X.prog X.w) X.A (setItem ov iv u) (λ_ s'=>∃ H',Inv X aa σ H' s'/\Q H') X.xe s
noncomputable abbrev Fl:=V->V->Hp->VK->Prop
noncomputable def Q6 (X:Cx) (op:Operator) (t:Fl):Prop :=
 ∀ (aa:List (Addr×Obj)) (s:Shared) (σ:St) (H:Hp) (x y:V) (v u:Value) (Q:VK),Inv X aa σ H s->bE x v->bE y u->t x y H Q ->
  wpAny (model X.prog X.w) X.A (inplaceOp op v u) (EP X aa σ Q) X.xe s
section
variable {pos:Pos}
noncomputable def cU (i:Nat):TG:=λv σ H Q=>Q (σ.set i (some v)) H
theorem aJ (hN:X.N.Nodup) (hi:X.N[i]?=some x) (hx:Loc X.env.scope x) (hf:X.fn x=true∨X.env.scope.names.lookup x=some .local:=by first | exact .inl rfl | exact .inr rfl | assumption):PG X (.Name x pos) (cU i):=by
 intro aa s σ H v u Q I r h
 exact Mt (nV I hN hi hx r (λs' I'=>⟨_,H,I',h⟩) hf)
noncomputable def ZF:yg:=λvs σ H Q=>vs = []/\Q σ H
noncomputable def ZQ (t:TG) (u:yg):yg:=λvs σ H Q=>∃ v r,vs=v::r/\t v σ H λar H'=>u r ar H' Q
theorem cJ:Dd X [] ZF:=by
 intro aa s σ H vs us Q I r h
 obtain ⟨e,h⟩:=h
 subst e
 cases r
 exact Mu ⟨σ,H,I,h⟩
theorem aR {t:TG} {u:yg} (h1:PG X e t) (h2:Dd X es u) (hs:(assignEach (e::es) X.env).map (·.2)=assign e X.env::(assignEach es X.env).map (·.2):=by rfl):Dd X (e::es) (ZQ t u):=by
 intro aa s σ H vs us Q I r h
 obtain ⟨v,vr,e1,h⟩:=h
 subst e1
 cases r with
 | cons r rr =>
  rw [hs]
  refine Vv (a7 (h1 aa s σ H _ _ _ I r h) λ_ s1 aq=>?_)
  obtain ⟨Bb,H1,I1,q1⟩:=aq
  exact h2 aa s1 Bb H1 _ _ Q I1 rr q1
noncomputable def Oh (K:Rb) (n:Nat) (t:yg):TG:=λv σ H Q=>∃ a xs,v=.ref a/\ah K H a xs/\xs.length=n/\t xs σ H Q
theorem iC {k:Nat} {t:yg} (hc:X.calm=true) (h:Dd X es t) (hn:(assignEach es X.env).length=n:=by rfl) (ic:(assignEach es X.env).findIdx? (·.1)=none:=by rfl):PG X (.Tuple es k pos) (Oh X.K n t):=by
 intro aa s σ H v u Q I r hw
 obtain ⟨a,xs,e1,hq,hl,hw⟩:=hw
 subst e1
 cases r
 obtain ⟨its,rv,ht,hz⟩:=I.tuple hq
 refine assign_Tuple_tuple (I.ok.hd hc) ht (by simp [hn,<- hl,rv.length]) ic λh' hx=>?_
 have I1:Inv X aa σ H { s with heap:=h' }:=I.kept (t':=s.toks) λb o e=>hx b o (Jc (Qm e)) e
 exact h aa _ σ H xs _ Q I1 (by simpa using rv) hw
noncomputable def ZE (to ti:TE) (t:CY):TG:=λv σ H Q=>to σ H λo H1=>ti σ H1 λi H2=>t o i v H2 λH3=>Q σ H3
theorem ID {o i:Expr} {ti:TE} {t:CY} (ho:PE X o to) (hi:PE X i ti) (hs:HH X t) (ha:∀ v,assign (.Subscript o i pos) X.env v=(do
   let ov<-holding [v] (eval o X.env)
   let iv<-holding [v,ov] (eval i X.env)
   standAt pos
   holding [v,ov,iv] (setItem ov iv v)
   release [v,ov,iv] []):=by intro _; rfl):PG X (.Subscript o i pos) (ZE to ti t):=by
 intro aa s σ H v u Q I r h
 rw [ha]
 refine Ra (Rn (a7 (ho aa s σ H _ I h) λov s1 aq=>?_))
 obtain ⟨x,H1,I1,r1,q1⟩:=aq
 refine Ra (Rn (a7 (hi aa s1 σ H1 _ I1 q1) λiv s2 aq=>?_))
 obtain ⟨y,H2,I2,r2,q2⟩:=aq
 refine Ra (Tc (Ra (Rn (a7 (hs aa s2 σ H2 x y v ov iv u _ I2 r1 r2 r q2) λ_ s3 aq=>?_))))
 obtain ⟨H3,I3,q3⟩:=aq
 exact wpAny_release ⟨σ,H3,I3,q3⟩
noncomputable def BO (te:TE) (g:TG):TS:=λD σ H=>te σ H λx H1=>g x σ H1 D.nx
theorem kR (he:PE X e te) (hg:PG X tg g) (hs:swapsWithSole [tg] e pos.line X.env=pure false:=by rfl) (hw:swappedStores [tg] e X.env=pure none:=by rfl) (h1:(assignEach [tg] X.env).map (·.2) = [assign tg X.env]:=by rfl):PS X (.Assign [tg] e pos) (BO te g):=by
 intro aa s σ H D I h
 refine wpAny_Assign_stores (a7 (he aa s σ H _ I h) λv s1 aq=>?_) hs hw
 obtain ⟨x,H1,I1,r1,q1⟩:=aq
 rw [h1]
 exact a7 (hg aa s1 σ H1 x v _ I1 r1 q1) λ_ s2 q=>q
theorem aU (hN:X.N.Nodup) (hi:X.N[i]?=some x) (hx:Loc X.env.scope x) (he:PE X e te) (hs:swapsWith e (some (.Name x pos')) pos.line X.env=pure false:=by rfl) (hf:X.fn x=true∨X.env.scope.names.lookup x=some .local:=by first | exact .inl rfl | exact .inr rfl | assumption) :
  PS X (.Assign [.Name x pos'] e pos) (BO te (cU i)):=by
 intro aa s σ H D I h
 refine wpAny_Assign_Name (a7 (he aa s σ H _ I h) λv s1 aq=>?_) hs
 obtain ⟨y,H1,I1,r1,q1⟩:=aq
 exact nV I1 hN hi hx r1 (λs2 I2=>⟨_,H1,I2,q1⟩) hf
noncomputable def ZD (i j:Nat) (ta:TA):TS:=λD σ H=>ta σ H λvs H1=>∃ v w,vs = [v,w]/\D.nx ((σ.set i (some v)).set j (some w)) H1
theorem d? {y:Str} {a b:Expr} {ta:TA} {px pt:Pos} {kt k2 FT} (hc:X.calm=true) (hN:X.N.Nodup) (hi:X.N[i]?=some x) (hj:X.N[j]?=some y) (uc:i≠j) (hx:X.env.scope.names.lookup x=some .local) (hy:X.env.scope.names.lookup y=some .local) (ha:PA X [a,b] ta) (hw:swappedStores [.Tuple [.Name x px,.Name y py] kt pt] (.Tuple [a,b] k2 FT) X.env=pure (some [x,y])) (hs:swapsWithSole [.Tuple [.Name x px,.Name y py] kt pt] (.Tuple [a,b] k2 FT) pos.line X.env=pure false:=by rfl) :
  PS X (.Assign [.Tuple [.Name x px,.Name y py] kt pt] (.Tuple [a,b] k2 FT) pos) (ZD i j ta):=by
 intro aa s σ H D I h
 rw [exec_Assign_arm]
 refine Ra (Tc ?_)
 rw [hs]
 refine Ra (Rc ?_)
 rw [if_neg (by decide)]
 refine Ra (Tuple_ (a7 (ha _ aa s σ H _ I h) λus s1 aq=>?_))
 obtain ⟨vs,H1,I1,r1,q1⟩:=aq
 obtain ⟨v,w,e1,q1⟩:=q1
 subst e1
 obtain ⟨u1,u2,rfl,rv,c8⟩:∃ u1 u2,us = [u1,u2]/\bE v u1/\bE w u2:=by
  cases r1 with
  | cons p q =>
   cases q with
   | cons p' q' =>
    cases q'
    exact ⟨_,_,rfl,p,p'⟩
 refine Rx ?_ (by show 2<=sizeLine; decide)
 have I2:Inv X aa σ H1 { s1 with heap:=s1.heap.push { cls:=.type "tuple",data:=.seq [u1,u2].toArray } }:=I1.kept (t':=s1.toks) λb o e=>Qb _ e
 rw [hw]
 refine Ra (Rc ?_)
 show wpAny (model X.prog X.w) X.A (do rule "assign.swapped-stores"; let items<-unpackItems (.ref s1.heap.objs.size) 2 none; assignInOrder [λv=>bindName X.env y v,λv=>bindName X.env x v] items.reverse; pure Flow.next) _ _ _
 refine Ra (Ua (Ra (unpackItems_tuple (items:=#[u1,u2]) (I.ok.hd hc) (IsTup.new s1.heap _) λh' my=>?_)))
 have I3:=I2.kept (h':=h') (t':=s1.toks) λb o e=>my b o (Jc (Qm e)) e
 show wpAny _ _ (assignInOrder [λv=>bindName X.env y v,λv=>bindName X.env x v] [u2,u1] >>= λ_=>pure Flow.next) _ _ _
 refine Ra (Vv (wpAny_bindName (nV I3 hN hj (.inl hy) c8 (λs2 I4=>?_) (.inr hy))))
 refine Vv (wpAny_bindName (nV I4 hN hi (.inl hx) rv (λs3 I5=>Mu (Rc ?_)) (.inr hx)))
 rw [List.set_comm _ _ (Ne.symm uc)] at I5
 exact ⟨_,H1,I5,q1⟩
noncomputable def ZP (to ti te:TE) (vq:V->V->Hp->VK->Prop) (Ee:Fl) (vp:CY):TS:=λD σ H=>to σ H λo H1=>ti σ H1 λi H2=>vq o i H2 λx H3=>te σ H3 λy H4=>Ee x y H4 λz H5=>vp o i z H5 λH6=>D.nx σ H6
noncomputable def Og (X:Cx) (t:V->V->Hp->VK->Prop):Prop :=
 ∀ (aa:List (Addr×Obj)) (s:Shared) (σ:St) (H:Hp) (o i:V) (ov iv:Value) (Q:VK),Inv X aa σ H s->bE o ov->bE i iv->t o i H Q ->
  wpAny (model X.prog X.w) X.A (getItem ov iv) (EP X aa σ Q) X.xe s
theorem aEQ {o i:Expr} {ti:TE} {vq:V->V->Hp->VK->Prop} {Ee:Fl} {vp:CY} {op:Operator} (ho:PE X o to) (hi:PE X i ti) (hg:Og X vq) (he:PE X e te) (hp:Q6 X op Ee) (hs:HH X vp) (ha:∀ ov iv new,augStore i ov iv new=(do holding [new,ov,iv] (setItem ov iv new); release [new,ov,iv] []; pure .next):=by intros; rfl):PS X (.AugAssign (.Subscript o i qy) op e pos) (ZP to ti te vq Ee vp):=by
 intro aa s σ H D I h
 refine Iq (a7 (ho aa s σ H _ I h) λov s1 aq=>?_) ha
 obtain ⟨x1,H1,I1,r1,q1⟩:=aq
 refine a7 (hi aa s1 σ H1 _ I1 q1) λiv s2 aq=>?_
 obtain ⟨x2,H2,I2,r2,q2⟩:=aq
 refine a7 (hg aa s2 σ H2 x1 x2 ov iv _ I2 r1 r2 q2) λold s3 aq=>?_
 obtain ⟨x3,H3,I3,r3,q3⟩:=aq
 refine a7 (he aa s3 σ H3 _ I3 q3) λv s4 aq=>?_
 obtain ⟨x4,H4,I4,r4,q4⟩:=aq
 refine a7 (hp aa s4 σ H4 x3 x4 old v _ I4 r3 r4 q4) λnew s5 aq=>?_
 obtain ⟨x5,H5,I5,r5,q5⟩:=aq
 refine a7 (hs aa s5 σ H5 x1 x2 x5 ov iv new _ I5 r1 r2 r5 q5) λ_ s6 aq=>?_
 obtain ⟨H6,I6,q6⟩:=aq
 exact ⟨σ,H6,I6,q6⟩
noncomputable def TY (f:Int->Int->Int):Fl:=λx y H Q=>∃ i j,x=.int i/\y=.int j/\Q (.int (f i j)) H
theorem d!:Q6 X .Sub (TY λi j=>i - j):=by
 intro aa s σ H x y v u Q I r1 r2 h
 obtain ⟨i,j,e1,e2,q⟩:=h
 subst e1; subst e2
 obtain ⟨t,rfl⟩:=r1
 obtain ⟨t',rfl⟩:=r2
 exact isub_int ⟨.int _,H,I.tok _,⟨_,rfl⟩,q⟩
noncomputable def c! (c:TT) (tb:TS):TS:=λD σ H=>∃ W:Nat->St->Hp->Prop,(∃ m,W m σ H)/\∀ m σ H,W m σ H ->
 c σ H λb H1=>if b=true then ∃ N:St->Hp->Prop,(∀ ar H',N ar H'->∃ m',m' < m/\W m' ar H')/\tb { D with nx:=N,ct:=N,bk:=D.nx } σ H1 else D.nx σ H1
theorem kD {c:Expr} (hp:PassesOwn (model X.prog X.w) X.A X.env X.xe) (hc:PT X c tc) (hb:j9 X body tb):PS X (.While c body [] pos) (c! tc tb):=by
 intro aa s σ H D I h
 obtain ⟨W,⟨m0,w0⟩,turn⟩:=h
 refine wpAny_While (codeAny_whileLoop (λn s'=>∃ ar H',Inv X aa ar H' s'/\W n ar H') ?_ m0 ⟨σ,H,I,w0⟩)
 rintro n s1 ⟨Bb,H1,I1,w1⟩
 refine Tt hp (a7 (hc aa s1 Bb H1 _ I1 (turn n Bb H1 w1)) λb s2 aq=>?_)
 obtain ⟨H2,I2,q2⟩:=aq
 cases b with
 | true =>
  obtain ⟨N,hN,q2⟩:=q2
  rw [if_pos rfl]
  refine Tt hp (a7 (hb aa s2 Bb H2 _ I2 q2) λf s3 q3=>?_)
  cases f with
  | next =>
   obtain ⟨n9,H3,I3,n3⟩:=q3
   obtain ⟨m',hm,w3⟩:=hN n9 H3 n3
   exact ⟨m',hm,n9,H3,I3,w3⟩
  | cont =>
   obtain ⟨n9,H3,I3,n3⟩:=q3
   obtain ⟨m',hm,w3⟩:=hN n9 H3 n3
   exact ⟨m',hm,n9,H3,I3,w3⟩
  | brk=>exact q3
  | ret v=>exact q3
 | false =>
  rw [if_neg Qu]
  exact Vf ⟨Bb,H2,I2,q2⟩
end
structure It where
 go:Nat->Hp->Prop
 oy:Nat->Hp->V->Hp->Prop
 stop:Nat->Hp->Prop
end L2
variable {J:It}
namespace L2
open PySem PySem.Spec PyProof.Rows
noncomputable def lM (X:Cx) (aa:List (Addr×Obj)) (H:Hp) (b:Addr):Prop :=
 H b=none/\b≠X.env.locals/\b∉X.fs/\(b∈X.ex∨X.fv.heap.objs.size<=b)/\(∀ x c,X.env.cells.lookup x=some c->c≠b)/\∀ p∈X.pn++aa,p.1≠b
theorem Inv.fk {σ:St} (I:Inv X aa σ H s) (hb:s.heap.objs.size<=b) (hn:H' b=none):lM X aa H' b:=by
 refine ⟨hn,Ze (Qq I.lt hb),I.AA hb,.inr (Qw I.sz hb),λx c e z=>?_,λp hp z=>?_⟩
 ·obtain ⟨v,q⟩:=I.cell x c e
  exact absurd (Qq q.lt (by rw [z]; exact hb)) (Js _)
 ·exact absurd (Qq (Qm (I.pin p hp).1) (by rw [z]; exact hb)) (Js _)
structure Turn (P:Program) (w:World) (K:Rb) (tg:Expr) (J:It) (fp:List Addr) (it:Addr) (tn:Nat->Heap->Prop):Prop where
 mem:it∈fp
 obj:∀ i h,tn i h->∀ b∈fp,∃ o,h.get? b=some o/\∀ v,o.data≠.cell v
 keep:∀ i h h',tn i h->(∀ b∈fp,∀ o,h.get? b=some o->h'.get? b=some o)->tn i h'
 item:∀ (X:Cx),X.prog=P->X.w=w->X.K=K->X.calm=true->∀ (i:Nat) (aa:List (Addr×Obj)) (s:Shared) (σ:St) (H:Hp) (E:Value->Shared->Prop),Inv X aa σ H s->(∀ b∈fp,lM X aa H b)->tn i s.heap->J.go i H ->
  wpAny (model P w) X.A (pyNext (.ref it)) (λr s1=>∃ u,r=some u /\
   wpAny (model P w) X.A (letOwnedTupleGo tg (.ref it) u) (λ_ s2=>∃ x H',Inv X aa σ H' s2/\bE x u/\J.oy i H x H'/\tn (i+1) s2.heap/\∀ b∈fp,H' b=none) E s1) E s
 done:∀ (X:Cx),X.prog=P->X.w=w->X.K=K->X.calm=true->∀ (i:Nat) (aa:List (Addr×Obj)) (s:Shared) (σ:St) (H:Hp) (E:Value->Shared->Prop),Inv X aa σ H s->(∀ b∈fp,lM X aa H b)->tn i s.heap->J.stop i H ->
  wpAny (model P w) X.A (pyNext (.ref it)) (λr s1=>r=none/\Inv X aa σ H s1) E s
 self:∀ (A:Around) (i:Nat) (s:Shared) (Q:Value->Shared->Prop) (E:Value->Shared->Prop),tn i s.heap->Q (.ref it) s->wpAny (model P w) A (pyIter (.ref it)) Q E s
noncomputable abbrev TI:=St->Hp->(It->Hp->Prop)->Prop
noncomputable def Q7 (X:Cx) (aa:List (Addr×Obj)) (σ:St) (tg:Expr) (R:It->Hp->Prop) (Ew:Value) (s2:Shared):Prop :=
 ∃ (it:Addr) (fp:List Addr) (tn:Nat->Heap->Prop) (J:It) (H':Hp),Ew=.ref it/\Inv X aa σ H' s2/\Turn X.prog X.w X.K tg J fp it tn/\tn 0 s2.heap/\(∀ b∈fp,lM X aa H' b)/\R J H'
noncomputable def PI (X:Cx) (tg iter:Expr) (wi:TI):Prop :=
 ∀ (aa:List (Addr×Obj)) (s:Shared) (σ:St) (H:Hp) (R:It->Hp->Prop),Inv X aa σ H s->wi σ H R ->
  wpAny (model X.prog X.w) X.A (eval iter X.env) (λv s1=>wpAny (model X.prog X.w) X.A (pyIter v) (Q7 X aa σ tg R) X.xe s1) X.xe s
theorem E_ {n:String} {vs:Array Value} {Q:Unit->Shared->Prop} (ho:s.heap.get? it=some o) (hc:o.cls=.type n) (hd:o.data=.fields vs) (hn : ["enumerate", "zip", "dict_itemiterator", "dict_reverseitemiterator", "odict_iterator", "itertools.zip_longest", "itertools.pairwise"].contains n=false) (hQ:Q () s):wpAny M A (letOwnedTupleGo tg (.ref it) u) Q E s:=by
 unfold letOwnedTupleGo
 cases tg <;> first
  | exact Rc hQ
  | (cases u <;> first
    | exact Rc hQ
    | (refine Ra (wpAny_load ho ?_)
       rw [hc,hd]
       show wpAny M A (if (["enumerate", "zip", "dict_itemiterator", "dict_reverseitemiterator", "odict_iterator", "itertools.zip_longest", "itertools.pairwise"].contains n && vs[0]?==some (rawInt _))=true then _ else _) Q E s
       rw [if_neg (by intro h; rw [hn,Zx] at h; cases h)]
       exact Rc hQ))
noncomputable def yj (K:Rb) (a:Addr):It :=
 ⟨λi H=>∃ xs x,ai K H a xs/\xs[i]?=some x,λi H x H'=>H'=H/\∀ xs,ai K H a xs->xs[i]?=some x,λi H=>∃ xs,ai K H a xs/\xs.length<=i⟩
noncomputable def yh (K:Rb) (a:Addr):It :=
 ⟨λi H=>∃ xs x,ah K H a xs/\xs[i]?=some x,λi H x H'=>H'=H/\∀ xs,ah K H a xs->xs[i]?=some x,λi H=>∃ xs,ah K H a xs/\xs.length<=i⟩
noncomputable def yi (lo:Int) (n:Nat):It:=⟨λi _=>i < n,λi H x H'=>H'=H/\x=.int (lo+i),λi _=>n<=i⟩
theorem aCi (a it:Addr):Turn P w K tg (yj K a) [it] it (λi h=>h.IsListIter it a i) where
 mem:=by simp
 obj:=λi h st b hb=>by
  have e:b=it:=by simpa using hb
  subst e
  obtain ⟨o,e,c,d⟩:=st
  exact ⟨o,e,λv z=>by rw [d] at z; cases z⟩
 keep:=λi h h' st k=>st.at λo e=>k it (by simp) o e
 item:=by
  intro X hP hw hK hc i aa s σ H E I hf st hg
  subst hP hw hK
  obtain ⟨xs,x,hq,hx⟩:=hg
  obtain ⟨its,rv,p,hz⟩:=I.list hq
  obtain ⟨u,hu,ru⟩:=rv.get hx
  obtain ⟨f0,f1,f2,f3,f4,f5⟩:=hf it (by simp)
  refine wpAny_pyNext_list_item st p.isList (x:=u) (by simpa using hu) λh' mr sb=>?_
  have I1:Inv X aa σ H { s with heap:=h' }:=I.turned (t':=s.toks) (λb o hb e=>(sb.2 b hb).trans e) f0 f1 f3 f4 f5
  obtain ⟨o,e,c,d⟩:=id mr
  exact ⟨u,rfl,E_ (s:={ s with heap:=h' }) e c d (by decide) ⟨x,H,I1,ru,⟨rfl,λys hy=>by rw [I.k8 hy hq]; exact hx⟩,mr,λb hb=>(hf b hb).1⟩⟩
 done:=by
  intro X hP hw hK hc i aa s σ H E I hf st hg
  subst hP hw hK
  obtain ⟨xs,hq,hx⟩:=hg
  obtain ⟨its,rv,p,hz⟩:=I.list hq
  obtain ⟨f0,f1,f2,f3,f4,f5⟩:=hf it (by simp)
  have hl:=rv.length
  exact wpAny_pyNext_list_end (I.ok.hd hc) st p.isList (by simp; omega) λh' eb=>⟨rfl,I.turned (t':=s.toks) (λb o hb e=>eb b o hb e) f0 f1 f3 f4 f5⟩
 self:=λ_ _ _ _ _ st h=>wpAny_pyIter_listiter st h
theorem aAM (a it:Addr):Turn P w K tg (yh K a) [it] it (λi h=>h.IsTupleIter it a i) where
 mem:=by simp
 obj:=λi h st b hb=>by
  have e:b=it:=by simpa using hb
  subst e
  obtain ⟨o,e,c,d⟩:=st
  exact ⟨o,e,λv z=>by rw [d] at z; cases z⟩
 keep:=λi h h' st k=>st.at λo e=>k it (by simp) o e
 item:=by
  intro X hP hw hK hc i aa s σ H E I hf st hg
  subst hP hw hK
  obtain ⟨xs,x,hq,hx⟩:=hg
  obtain ⟨its,rv,p,hz⟩:=I.tuple hq
  obtain ⟨u,hu,ru⟩:=rv.get hx
  obtain ⟨f0,f1,f2,f3,f4,f5⟩:=hf it (by simp)
  refine wpAny_pyNext_tuple_item st (show s.heap.IsTuple a its.toArray from p) (x:=u) (by simpa using hu) λh' mr sb=>?_
  have I1:Inv X aa σ H { s with heap:=h' }:=I.turned (t':=s.toks) (λb o hb e=>(sb.2 b hb).trans e) f0 f1 f3 f4 f5
  obtain ⟨o,e,c,d⟩:=id mr
  exact ⟨u,rfl,E_ (s:={ s with heap:=h' }) e c d (by decide) ⟨x,H,I1,ru,⟨rfl,λys hy=>by rw [I.jw hy hq]; exact hx⟩,mr,λb hb=>(hf b hb).1⟩⟩
 done:=by
  intro X hP hw hK hc i aa s σ H E I hf st hg
  subst hP hw hK
  obtain ⟨xs,hq,hx⟩:=hg
  obtain ⟨its,rv,p,hz⟩:=I.tuple hq
  obtain ⟨f0,f1,f2,f3,f4,f5⟩:=hf it (by simp)
  have hl:=rv.length
  exact wpAny_pyNext_tuple_end (I.ok.hd hc) st (show s.heap.IsTuple a its.toArray from p) (by simp; omega) λh' eb=>⟨rfl,I.turned (t':=s.toks) (λb o hb e=>eb b o hb e) f0 f1 f3 f4 f5⟩
 self:=λ_ _ _ _ _ st h=>wpAny_pyIter_tupleiter st h
theorem aAN (it:Addr) (lo:Int) (n:Nat):Turn P w K tg (yi lo n) [it] it (λi h=>IsRangeIter h it (lo+(i:Nat)*1) ((n:Int) - (i:Nat)) 1) where
 mem:=by simp
 obj:=λi h st b hb=>by
  have e:b=it:=by simpa using hb
  subst e
  exact ⟨_,st,λv z=>by
   have z':Data.fields _=Data.cell v:=z
   cases z'⟩
 keep:=λi h h' st k=>k it (by simp) _ st
 item:=by
  intro X hP hw hK hc i aa s σ H E I hf st hg
  subst hP hw hK
  obtain ⟨f0,f1,f2,f3,f4,f5⟩:=hf it (by simp)
  have W:=Walks.range (prog:=X.prog) (w:=X.w) (I.ok.hd hc) it lo 1 n
  refine W.item i s _ _ hg st λv h' tk hv mr kk=>?_
  obtain ⟨t,rfl⟩:=hv
  have I1:Inv X aa σ H { s with heap:=h',toks:=tk }:=I.turned (λb o hb e=>kk b o (by simpa using hb) e) f0 f1 f3 f4 f5
  refine ⟨_,rfl,E_ (s:={ s with heap:=h',toks:=tk }) (n := "range_iterator") mr rfl rfl (by decide) ⟨.int (lo+i),H,I1,⟨t,?_⟩,⟨rfl,rfl⟩,mr,λb hb=>(hf b hb).1⟩⟩
  rw [Int.mul_one]
 done:=by
  intro X hP hw hK hc i aa s σ H E I hf st hg
  subst hP hw hK
  obtain ⟨f0,f1,f2,f3,f4,f5⟩:=hf it (by simp)
  exact wpAny_pyNext_range_end (I.ok.hd hc) st (by have:n<=i:=hg; omega) λh' eb=>⟨rfl,I.turned (t':=s.toks) (λb o hb e=>eb b o hb e) f0 f1 f3 f4 f5⟩
 self:=λ_ _ _ _ _ st h=>wpAny_pyIter_rangeiter st h
noncomputable def ZO (K:Rb) (tl:TE):TI:=λσ H R=>tl σ H λx H1=>∃ a,x=.ref a/\(∃ xs,ai K H1 a xs)/\R (yj K a) H1
noncomputable def Of (K:Rb) (tl:TE):TI:=λσ H R=>tl σ H λx H1=>∃ a,x=.ref a/\(∃ xs,ah K H1 a xs)/\R (yh K a) H1
theorem cK {l:Expr} (hl:PE X l tl):PI X tg l (ZO X.K tl):=by
 intro aa s σ H R I h
 refine a7 (hl aa s σ H _ I h) λv s1 aq=>?_
 obtain ⟨x,H1,I1,r1,q1⟩:=aq
 obtain ⟨a,e,⟨xs,hq⟩,q⟩:=q1
 subst e
 cases r1
 obtain ⟨its,rv,p,hz⟩:=I1.list hq
 refine Ti p.isList ?_
 refine ⟨s1.heap.objs.size,[s1.heap.objs.size],_,_,H1,rfl,I1.kept (t':=s1.toks) λb o e=>Qb _ e,aCi a _,⟨_,Qh _ rfl,rfl,rfl⟩,λb hb=>?_,q⟩
 have e:b=s1.heap.objs.size:=by simpa using hb
 subst e
 exact I1.fk (Qi _) (I1.az.fresh (Qi _))
theorem eY {l:Expr} (hl:PE X l tl):PI X tg l (Of X.K tl):=by
 intro aa s σ H R I h
 refine a7 (hl aa s σ H _ I h) λv s1 aq=>?_
 obtain ⟨x,H1,I1,r1,q1⟩:=aq
 obtain ⟨a,e,⟨xs,hq⟩,q⟩:=q1
 subst e
 cases r1
 obtain ⟨its,rv,p,hz⟩:=I1.tuple hq
 refine Uj (show s1.heap.IsTuple a its.toArray from p) ?_
 refine ⟨s1.heap.objs.size,[s1.heap.objs.size],_,_,H1,rfl,I1.kept (t':=s1.toks) λb o e=>Qb _ e,aAM a _,⟨_,Qh _ rfl,rfl,rfl⟩,λb hb=>?_,q⟩
 have e:b=s1.heap.objs.size:=by simpa using hb
 subst e
 exact I1.fk (Qi _) (I1.az.fresh (Qi _))
theorem yQ {σ:St} {R:It->Hp->Prop} {hi:Int} {t u v:Tok} {tk:Nat} (I:Inv X aa σ H s) (h1:-(2^62)<=lo) (h2:lo < 2^62) (h3:-(2^62)<=hi) (h4:hi < 2^62) (q:R (yi lo (hi - lo).toNat) H):wpAny (model X.prog X.w) X.A (pyIter (.ref s.heap.objs.size)) (Q7 X aa σ tg R) E { s with heap:=s.heap.push { cls:=.type "range",data:=.fields #[.int lo t,.int hi u,.int 1 v] },toks:=tk }:=by
 refine wpAny_pyIter_range (IsRange.new ..) (small_one h1 h2 h3 h4) ?_
 have I1:Inv X aa σ H { s with heap:=s.heap.push { cls:=.type "range",data:=.fields #[.int lo t,.int hi u,.int 1 v] },toks:=tk }:=I.kept λb o e=>Qb _ e
 refine ⟨(s.heap.push { cls:=.type "range",data:=.fields #[.int lo t,.int hi u,.int 1 v] }).objs.size,[(s.heap.push { cls:=.type "range",data:=.fields #[.int lo t,.int hi u,.int 1 v] }).objs.size],_,_,H,rfl,
  I1.kept (t':=tk) λb o e=>Qb _ e,aAN _ lo (hi - lo).toNat,?_,λb hb=>?_,q⟩
 ·have e1:lo+((0:Nat):Int)*1=lo:=by simp
  have e2:(((hi - lo).toNat:Nat):Int) - ((0:Nat):Int)=Builtin.Range.rangeSize lo hi 1:=by rw [rangeSize_one]; split <;> omega
  show IsRangeIter _ _ (lo+((0:Nat):Int)*1) ((((hi - lo).toNat:Nat):Int) - ((0:Nat):Int)) 1
  rw [e1,e2]
  exact Qh _ rfl
 ·have e:b=(s.heap.push { cls:=.type "range",data:=.fields #[.int lo t,.int hi u,.int 1 v] }).objs.size:=by simpa using hb
  subst e
  exact I1.fk (Qi _) (I1.az.fresh (Qi _))
noncomputable def ZN (ta:TA):TI:=λσ H R=>ta σ H λvs H1=>∃ j:Int,vs = [.int j]/\-(2^62)<=j/\j < 2^62/\R (yi 0 j.toNat) H1
noncomputable def ZM (ta:TA):TI:=λσ H R=>ta σ H λvs H1=>∃ i j:Int,vs = [.int i,.int j]/\(-(2^62)<=i/\i < 2^62/\-(2^62)<=j/\j < 2^62)/\R (yi i (j - i).toNat) H1
theorem eA {a:Expr} {ta:TA} {pos:Pos} (hg:Gl X "range") (hm:X.mg "range" = none) (ha:PA X [a] ta) (hs:starEach [a] X.env = [(false,eval a X.env)]:=by rfl):PI X tg (.Call (.Name "range" p) [a] [] pos) (ZN ta):=by
 intro aa s σ H R I h
 refine Mk (iB I hg hm boot_range (PyProof.Rows.callWith_type1 (a7 (ha pos aa s σ H _ I h) λus s1 aq=>?_) hs rfl))
 obtain ⟨vs,H1,I1,r1,q1⟩:=aq
 obtain ⟨j,e,q1,q2,q⟩:=q1
 subst e
 cases r1 with
 | cons r rr =>
  cases rr
  obtain ⟨t,rfl⟩:=r
  exact call_range_1 (yQ I1 (by omega) (by omega) q1 q2 (by simpa using q))
theorem aCj {a b:Expr} {ta:TA} {pos:Pos} (hg:Gl X "range") (hm:X.mg "range" = none) (ha:PA X [a,b] ta) (hs:starEach [a,b] X.env = [(false,eval a X.env),(false,eval b X.env)]:=by rfl) (j6:starEach [b] X.env = [(false,eval b X.env)]:=by rfl) :
  PI X tg (.Call (.Name "range" p) [a,b] [] pos) (ZM ta):=by
 intro aa s σ H R I h
 refine Mk (iB I hg hm boot_range (PyProof.Rows.callWith_type1 (a7 (ha pos aa s σ H _ I h) λus s1 aq=>?_) (by rw [hs,j6]) (by rw [j6]; rfl)))
 obtain ⟨vs,H1,I1,r1,q1⟩:=aq
 obtain ⟨i,j,e,⟨q1,q2,q3,q4⟩,q⟩:=q1
 subst e
 cases r1 with
 | cons r rr =>
  cases rr with
  | cons r' rr =>
   cases rr
   obtain ⟨t,rfl⟩:=r
   obtain ⟨t',rfl⟩:=r'
   exact call_range_2 (yQ I1 q1 q2 q3 q4 q)
noncomputable def Oe (wi:TI) (g:TG) (tb:TS):TS:=λD σ H=>wi σ H λJ H1=>∃ W:Nat->Nat->St->Hp->Prop,(∃ m,W 0 m σ H1)/\∀ i m σ H,W i m σ H ->
 (J.stop i H/\D.nx σ H)∨(J.go i H/\∃ N:St->Hp->Prop,(∀ ar H',N ar H'->∃ m',m' < m/\W (i+1) m' ar H')/\∀ x H',J.oy i H x H'->g x σ H' λa8 H2=>tb { D with nx:=N,ct:=N,bk:=D.nx } a8 H2)
noncomputable def pC (fp:List Addr) (h:Heap):List (Addr×Obj):=fp.filterMap λb=>(h.get? b).map λo=>(b,o)
theorem nH (hb:b∈fp) (e:h.get? b=some o):(b,o)∈pC fp h:=Wy.mpr ⟨b,hb,by rw [e]; rfl⟩
theorem vJ {p:Addr×Obj} (hp:p∈pC fp h):p.1∈fp/\h.get? p.1=some p.2:=by
 obtain ⟨b,hb,e⟩:=Wy.mp hp
 cases q:h.get? b with
 | none=>rw [q] at e; cases e
 | some o =>
  rw [q] at e
  have e':(b,o)=p:=Option.some.inj e
  subst e'
  exact ⟨hb,q⟩
theorem Inv.pinned {σ:St} (I:Inv X aa σ H s) (hf:∀ b∈fp,lM X aa H b) (ho:∀ b∈fp,∃ o,s.heap.get? b=some o/\∀ v,o.data≠.cell v):Inv X (aa++pC fp s.heap) σ H s :=
 I.fm λp hp=>(Jo.mp hp).elim (λz=>I.pin p (Jf _ z)) λz=>by
  obtain ⟨hb,e⟩:=vJ z
  obtain ⟨f0,f1,f2,_⟩:=hf p.1 hb
  obtain ⟨o,e',d⟩:=ho p.1 hb
  rw [e] at e'; cases e'
  exact ⟨e,f0,f1,f2,d⟩
theorem Inv.fq {pl:List (Addr×Obj)} {σ:St} (I:Inv X (aa++pl) σ H s):Inv X aa σ H s:=I.fm λp hp=>I.pin p (Jf _ (Jv _ hp))
theorem eC {wi:TI} {pos:Pos} (hp:PassesOwn (model X.prog X.w) X.A X.env X.xe) (hc:X.calm=true) (hi:PI X tg iter wi) (hg:PG X tg g) (hb:j9 X body tb) (hs:∀ x,foldedSetIterable iter X.env x=pure x:=by intro _; rfl):PS X (.For tg iter body [] pos) (Oe wi g tb):=by
 intro aa s σ H D I h
 refine wpAny_For (a7 (hi aa s σ H _ I h) λv s1 h1=>a7 h1 λEw s2 h2=>?_) hs
 obtain ⟨it,fp,tn,J,H2,e,I2,T,gf,f2,W,⟨m0,w0⟩,turn⟩:=h2
 subst e
 -- what stays true of the iterator's objects through the loop
 have mi:∀ {H':Hp},(∀ b∈fp,H' b=none)->∀ b∈fp,lM X aa H' b:=λhn b hb=>⟨hn b hb,(f2 b hb).2⟩
 refine codeAny_forLoop_any (λn s'=>∃ i ar H',Inv X aa ar H' s'/\tn i s'.heap/\(∀ b∈fp,H' b=none)/\W i n ar H') ?_ m0 ⟨0,σ,H2,I2,gf,λb hb=>(f2 b hb).1,w0⟩
 rintro n s3 ⟨i,n9,H3,I3,B1,Nn,w3⟩
 rcases turn i n n9 H3 w3 with ⟨stop,qn⟩ | ⟨go,N,hN,step⟩
 ·refine Tt hp (a7 (T.done X rfl rfl rfl hc i aa s3 n9 H3 X.xe I3 (mi Nn) B1 stop) λr s4 aq=>?_)
  obtain ⟨hr,I4⟩:=aq
  subst hr
  exact Vf ⟨n9,H3,I4,qn⟩
 ·refine Tt hp (a7 (T.item X rfl rfl rfl hc i aa s3 n9 H3 X.xe I3 (mi Nn) B1 go) λr s4 aq=>?_)
  obtain ⟨u,hr,h4⟩:=aq
  subst hr
  refine Tt hp (a7 h4 λ_ s5 aq=>?_)
  obtain ⟨x,H5,I5,r5,y5,Be,EM⟩:=aq
  have I5':=I5.pinned (mi EM) (T.obj _ _ Be)
  refine Tt hp (a7 (hg _ s5 n9 H5 x u _ I5' r5 (step x H5 y5)) λ_ s6 aq=>?_)
  obtain ⟨KG,H6,I6,q6⟩:=aq
  refine Tt hp (a7 (hb _ s6 KG H6 _ I6 q6) λf s7 q7=>?_)
  have again:∀ {pd:St} {H7:Hp},Inv X (aa++pC fp s5.heap) pd H7 s7->N pd H7->∃ m,m < n/\∃ i ar H',Inv X aa ar H' s7/\tn i s7.heap/\(∀ b∈fp,H' b=none)/\W i m ar H':=λ{pd H7} I7 n7=>by
   obtain ⟨m',hm,w7⟩:=hN pd H7 n7
   refine ⟨m',hm,i+1,pd,H7,I7.fq,T.keep _ _ _ Be λb hb o e=>(I7.pin (b,o) (Jf _ (Jf _ (nH hb e)))).1,λb hb=>?_,w7⟩
   obtain ⟨o,e,d⟩:=T.obj _ _ Be b hb
   exact (I7.pin (b,o) (Jf _ (Jf _ (nH hb e)))).2.1
  cases f with
  | next=>obtain ⟨pd,H7,I7,n7⟩:=q7; exact again I7 n7
  | cont=>obtain ⟨pd,H7,I7,n7⟩:=q7; exact again I7 n7
  | brk=>obtain ⟨pd,H7,I7,q7⟩:=q7; exact ⟨pd,H7,I7.fq,q7⟩
  | ret v=>obtain ⟨x7,pd,H7,I7,r7,q7⟩:=q7; exact ⟨x7,pd,H7,I7.fq,r7,q7⟩
theorem gO {σ:St} (Pv:Nat->St->Hp->Prop) (h0:Pv 0 σ H) (hl:∀ i σ H,i<=xs.length->Pv i σ H->ai K H a xs) (hs:∀ i x σ H,xs[i]?=some x->Pv i σ H->g x σ H λa8 H2=>tb { D with nx:=Pv (i+1),ct:=Pv (i+1),bk:=D.nx } a8 H2) (hd:∀ σ H,Pv xs.length σ H->D.nx σ H) :
  ∃ W:Nat->Nat->St->Hp->Prop,(∃ m,W 0 m σ H)/\∀ i m σ H,W i m σ H ->
   ((yj K a).stop i H/\D.nx σ H)∨((yj K a).go i H/\∃ N:St->Hp->Prop,(∀ ar H',N ar H'->∃ m',m' < m/\W (i+1) m' ar H')/\∀ x H',(yj K a).oy i H x H'->g x σ H' λa8 H2=>tb { D with nx:=N,ct:=N,bk:=D.nx } a8 H2):=by
 refine ⟨λi m σ H=>m=xs.length - i/\i<=xs.length/\Pv i σ H,⟨xs.length,by simp,Jl _,h0⟩,?_⟩
 rintro i m σ H ⟨rfl,hi,p⟩
 have q:=hl i σ H hi p
 by_cases ax:i < xs.length
 ·refine .inr ⟨⟨xs,xs[i],q,by simp [ax]⟩,Pv (i+1),λar H' p'=>⟨xs.length - (i+1),by omega,rfl,ax,p'⟩,λx H' y=>?_⟩
  obtain ⟨e,y⟩:=y
  subst e
  exact hs i x σ _ (y xs q) p
 ·have e:i=xs.length:=by omega
  subst e
  exact .inl ⟨⟨xs,q,Qi _⟩,hd σ H p⟩
theorem qL {σ:St} (Pv:Nat->St->Hp->Prop) (h0:Pv 0 σ H) (hl:∀ i σ H,i<=xs.length->Pv i σ H->ah K H a xs) (hs:∀ i x σ H,xs[i]?=some x->Pv i σ H->g x σ H λa8 H2=>tb { D with nx:=Pv (i+1),ct:=Pv (i+1),bk:=D.nx } a8 H2) (hd:∀ σ H,Pv xs.length σ H->D.nx σ H) :
  ∃ W:Nat->Nat->St->Hp->Prop,(∃ m,W 0 m σ H)/\∀ i m σ H,W i m σ H ->
   ((yh K a).stop i H/\D.nx σ H)∨((yh K a).go i H/\∃ N:St->Hp->Prop,(∀ ar H',N ar H'->∃ m',m' < m/\W (i+1) m' ar H')/\∀ x H',(yh K a).oy i H x H'->g x σ H' λa8 H2=>tb { D with nx:=N,ct:=N,bk:=D.nx } a8 H2):=by
 refine ⟨λi m σ H=>m=xs.length - i/\i<=xs.length/\Pv i σ H,⟨xs.length,by simp,Jl _,h0⟩,?_⟩
 rintro i m σ H ⟨rfl,hi,p⟩
 have q:=hl i σ H hi p
 by_cases ax:i < xs.length
 ·refine .inr ⟨⟨xs,xs[i],q,by simp [ax]⟩,Pv (i+1),λar H' p'=>⟨xs.length - (i+1),by omega,rfl,ax,p'⟩,λx H' y=>?_⟩
  obtain ⟨e,y⟩:=y
  subst e
  exact hs i x σ _ (y xs q) p
 ·have e:i=xs.length:=by omega
  subst e
  exact .inl ⟨⟨xs,q,Qi _⟩,hd σ H p⟩
theorem kE {σ:St} (Pv:Nat->St->Hp->Prop) (h0:Pv 0 σ H) (hs:∀ i σ H,i < n->Pv i σ H->g (.int (lo+i)) σ H λa8 H2=>tb { D with nx:=Pv (i+1),ct:=Pv (i+1),bk:=D.nx } a8 H2) (hd:∀ σ H,Pv n σ H->D.nx σ H) :
  ∃ W:Nat->Nat->St->Hp->Prop,(∃ m,W 0 m σ H)/\∀ i m σ H,W i m σ H ->
   ((yi lo n).stop i H/\D.nx σ H)∨((yi lo n).go i H/\∃ N:St->Hp->Prop,(∀ ar H',N ar H'->∃ m',m' < m/\W (i+1) m' ar H')/\∀ x H',(yi lo n).oy i H x H'->g x σ H' λa8 H2=>tb { D with nx:=N,ct:=N,bk:=D.nx } a8 H2):=by
 refine ⟨λi m σ H=>m=n - i/\i<=n/\Pv i σ H,⟨n,by simp,Jl _,h0⟩,?_⟩
 rintro i m σ H ⟨rfl,hi,p⟩
 by_cases ax:i < n
 ·refine .inr ⟨ax,Pv (i+1),λar H' p'=>⟨n - (i+1),by omega,rfl,ax,p'⟩,λx H' y=>?_⟩
  obtain ⟨e,y⟩:=y
  subst e y
  exact hs i σ _ ax p
 ·have e:i=n:=by omega
  subst e
  exact .inl ⟨Qi _,hd σ H p⟩
noncomputable abbrev R2:=V->V->Hp->VK->Prop
noncomputable def d6 (X:Cx) (f:Value->Value->Sem Value) (r:R2):Prop :=
 ∀ (aa:List (Addr×Obj)) (s:Shared) (σ:St) (H:Hp) (x y:V) (v u:Value) (Q:VK),Inv X aa σ H s->bE x v->bE y u->r x y H Q ->
  wpAny (model X.prog X.w) X.A (f v u) (EP X aa σ Q) X.xe s
noncomputable def IJ (X:Cx) (f:Value->Sem Value) (r:V->Hp->VK->Prop):Prop :=
 ∀ (aa:List (Addr×Obj)) (s:Shared) (σ:St) (H:Hp) (x:V) (v:Value) (Q:VK),Inv X aa σ H s->bE x v->r x H Q ->
  wpAny (model X.prog X.w) X.A (f v) (EP X aa σ Q) X.xe s
noncomputable def dQ (X:Cx) (f:Value) (r:List V->Hp->VK->Prop):Prop :=
 ∀ (aa:List (Addr×Obj)) (s:Shared) (σ:St) (H:Hp) (xs:List V) (us:List Value) (Q:VK),Inv X aa σ H s->bF xs us->r xs H Q ->
  wpAny (model X.prog X.w) X.A (call f us) (EP X aa σ Q) X.xe s
noncomputable def ZC (X:Cx) (r:V->Hp->(Bool->Hp->Prop)->Prop):Prop :=
 ∀ (aa:List (Addr×Obj)) (s:Shared) (σ:St) (H:Hp) (x:V) (v:Value) (Q:Bool->Hp->Prop),Inv X aa σ H s->bE x v->r x H Q ->
  wpAny (model X.prog X.w) X.A (truthy v) (TP X aa σ Q) X.xe s
noncomputable def Eg (r:R2) (ta tb:TE):TE:=λσ H Q=>ta σ H λx H1=>tb σ H1 λy H2=>r x y H2 Q
noncomputable def Sl (r:V->Hp->VK->Prop) (ta:TE):TE:=λσ H Q=>ta σ H λx H1=>r x H1 Q
noncomputable def rI (C:Int->Int->Prop) (g:Int->Int->V):R2:=λx y H Q=>∃ i j,x=.int i/\y=.int j/\C i j/\Q (g i j) H
noncomputable def xm (g:Int->Int->V):R2:=λx y H Q=>∃ i j,x=.int i/\y=.int j/\Q (g i j) H
noncomputable def rU (g:Int->V):V->Hp->VK->Prop:=λx H Q=>∃ i,x=.int i/\Q (g i) H
section
variable {a b c:Expr} {tb tc:TE} {pos:Pos}
theorem HG (ha:PE X a ta) (hb:PE X b tb) {σ:St} {R:V->V->Hp->Prop} (I:Inv X aa σ H s) (h:ta σ H λx H1=>tb σ H1 λy H2=>R x y H2) {f:Value->Value->Sem Value} (hf:∀ v u s2 x y H2,Inv X aa σ H2 s2->bE x v->bE y u->R x y H2->wpAny (model X.prog X.w) X.A (f v u) Q X.xe s2) :
  wpAny (model X.prog X.w) X.A (eval a X.env) (λv bq=>wpAny (model X.prog X.w) X.A (eval b X.env) (λu gn=>wpAny (model X.prog X.w) X.A (f v u) Q X.xe gn) X.xe bq) X.xe s:=by
 refine a7 (ha aa s σ H _ I h) λv s1 aq=>?_
 obtain ⟨x,H1,I1,r1,q1⟩:=aq
 refine a7 (hb aa s1 σ H1 _ I1 q1) λu s2 aq=>?_
 obtain ⟨y,H2,I2,r2,q2⟩:=aq
 exact hf v u s2 x y H2 I2 r1 r2 q2
theorem bC {op:Operator} {r:R2} (ho:d6 X (binaryOp op) r) (ha:PE X a ta) (hb:PE X b tb):PE X (.BinOp a op b pos) (Eg r ta tb):=by
 intro aa s σ H Q I h
 exact wpAny_BinOp (HG ha hb I h λv u s2 x y H2 I2 rx ry q=>ho aa s2 σ H2 x y v u Q I2 rx ry q)
theorem E9 {op:UnaryOp} {r:V->Hp->VK->Prop} (ho:IJ X (unaryOp op) r) (ha:PE X a ta):PE X (.UnaryOp op a pos) (Sl r ta):=by
 intro aa s σ H Q I h
 refine UnaryOp_ (a7 (ha aa s σ H _ I h) λv s1 aq=>?_)
 obtain ⟨x,H1,I1,r1,q1⟩:=aq
 exact ho aa s1 σ H1 x v Q I1 r1 q1
theorem Bi {f:Value->Value->Sem Value} {C:Int->Int->Prop} {g:Int->Int->Int}
  (rule:∀ (i j:Int) (t u:Tok) (s:Shared) (Q:Value->Shared->Prop) (E:Value->Shared->Prop),C i j->Q (.int (g i j) s.toks) { s with toks:=s.toks+1 }->wpAny (model X.prog X.w) X.A (f (.int i t) (.int j u)) Q E s) :
  d6 X f (rI C λi j=>.int (g i j)):=by
 intro aa s σ H x y v u Q I rx ry h
 obtain ⟨i,j,rfl,rfl,hc,q⟩:=h
 obtain ⟨t,rfl⟩:=rx
 obtain ⟨t',rfl⟩:=ry
 exact rule i j t t' s _ _ hc ⟨.int (g i j),H,I.tok _,⟨_,rfl⟩,q⟩
theorem Od {f:Value->Value->Sem Value} {g:Int->Int->Int}
  (rule:∀ (i j:Int) (t u:Tok) (s:Shared) (Q:Value->Shared->Prop) (E:Value->Shared->Prop),Q (.int (g i j) s.toks) { s with toks:=s.toks+1 }->wpAny (model X.prog X.w) X.A (f (.int i t) (.int j u)) Q E s) :
  d6 X f (xm λi j=>.int (g i j)):=by
 intro aa s σ H x y v u Q I rx ry h
 obtain ⟨i,j,rfl,rfl,q⟩:=h
 obtain ⟨t,rfl⟩:=rx
 obtain ⟨t',rfl⟩:=ry
 exact rule i j t t' s _ _ ⟨.int (g i j),H,I.tok _,⟨_,rfl⟩,q⟩
theorem E1 {f:Value->Value->Sem Value} {g:Int->Int->Bool}
  (rule:∀ (i j:Int) (t u:Tok) (s:Shared) (Q:Value->Shared->Prop) (E:Value->Shared->Prop),Q (.bool (g i j)) s->wpAny (model X.prog X.w) X.A (f (.int i t) (.int j u)) Q E s) :
  d6 X f (xm λi j=>.bl (g i j)):=by
 intro aa s σ H x y v u Q I rx ry h
 obtain ⟨i,j,rfl,rfl,q⟩:=h
 obtain ⟨t,rfl⟩:=rx
 obtain ⟨t',rfl⟩:=ry
 exact rule i j t t' s _ _ ⟨.bl (g i j),H,I,rfl,q⟩
noncomputable def ZA (i j:Int):Prop:=0 < j/\j < 1073741824
noncomputable def HF (i j:Int):Prop:=(-(2^64) < i/\i < 2^64)∨(-(2^64) < j/\j < 2^64)
theorem HF.ok {i j:Int} (h:HF i j):IntMulOk i j:=by
 rcases h with ⟨h1,h2⟩ | ⟨h1,h2⟩
 ·exact .of_left (intBits_le_64 h1 h2)
 ·exact .of_right (intBits_le_64 h1 h2)
theorem iD:d6 X (binaryOp .Add) (xm λi j=>.int (i+j)):=Od λ_ _ _ _ _ _ _ q=>add_int q
theorem wR:d6 X (binaryOp .Sub) (xm λi j=>.int (i - j)):=Od λ_ _ _ _ _ _ _ q=>sub_int q
theorem rH:d6 X (binaryOp .Mult) (rI HF λi j=>.int (i*j)):=Bi λ_ _ _ _ _ _ _ hc q=>mul_int q hc.ok
theorem aES:d6 X (binaryOp .FloorDiv) (rI ZA λi j=>.int (i / j)):=Bi λi j _ _ _ _ _ hc q=>by
 have h1:(0:Int) < j:=hc.1
 have h2:j < 1073741824:=hc.2
 exact Md (by omega) (by rw [Zm i (by omega)]; exact q) (.inl (PyProof.noPylong_small (by omega)))
theorem nI:d6 X (binaryOp .Mod) (rI (λ_ j=>0 < j) λi j=>.int (i % j)):=Bi λi j _ _ _ _ _ hc q=>by
 have h1:(0:Int) < j:=hc
 exact mod_int' (by omega) (by rw [Int.fmod_eq_emod_of_nonneg i (by omega)]; exact q)
theorem Sa {f:Value->Sem Value} {g:Int->Int}
  (rule:∀ (i:Int) (t:Tok) (s:Shared) (Q:Value->Shared->Prop) (E:Value->Shared->Prop),Q (.int (g i) s.toks) { s with toks:=s.toks+1 }->wpAny (model X.prog X.w) X.A (f (.int i t)) Q E s) :
  IJ X f (rU λi=>.int (g i)):=by
 intro aa s σ H x v Q I rx h
 obtain ⟨i,rfl,q⟩:=h
 obtain ⟨t,rfl⟩:=rx
 exact rule i t s _ _ ⟨.int (g i),H,I.tok _,⟨_,rfl⟩,q⟩
theorem wS:IJ X (unaryOp .USub) (rU λi=>.int (-i)):=Sa λ_ _ _ _ _ q=>neg_int q
noncomputable def Oc:V->V->Bool
 | .bj,.bj=>true | .bj,.int _=>true | .int _,.bj=>true | .bj,.bl _=>true | .bl _,.bj=>true | .bj,.str _=>true | .str _,.bj=>true
 | .int _,.int _=>true | .bl _,.bl _=>true | .str _,.str _=>true | .ni _,.ni _=>true
 | .int _,.str _=>true | .str _,.int _=>true | .bl _,.str _=>true | .str _,.bl _=>true
 | _,_=>false
noncomputable def SJ:R2:=λx y H Q=>Oc x y=true/\Q (.bl (decide (x=y))) H
noncomputable def SG:R2:=λx y H Q=>Oc x y=true/\Q (.bl (!decide (x=y))) H
theorem PB {i j:Int}:decide (V.int i=V.int j)=(i==j):=by
 rw [Xf]
 simp
theorem Pf {i j:Bool}:decide (V.bl i=V.bl j)=(i==j):=by
 rw [Xf]
 simp
theorem Pz {i j:Str}:decide (V.str i=V.str j)=(i==j):=by
 rw [Xf]
 simp
theorem Py {i j:Array UInt8}:decide (V.ni i=V.ni j)=(i.toList==j.toList):=by
 rw [Xf]
 cases i
 cases j
 simp
theorem bX {σ:St} {Q:VK} {k k':Bool} (I:Inv X aa σ H s) (q:Q (.bl k) H) (e:k=k'):EP X aa σ Q (.bool k') s:=by
 subst e
 exact ⟨.bl k,H,I,rfl,q⟩
theorem pZ:d6 X (compareOp .Eq) SJ:=by
 intro aa s σ H x y v u Q I rx ry h
 obtain ⟨hs,q⟩:=h
 cases x with
 | bj =>
  cases rx
  cases y with
  | bj=>cases ry; exact Ral (bX I q (by simp))
  | bl j=>cases ry; exact Ram (bX I q (by simp))
  | int j=>obtain ⟨t',rfl⟩:=ry; exact Ran (bX I q (by simp))
  | str j=>obtain ⟨t',rfl⟩:=ry; exact Rao (bX I q (by simp))
  | _=>exact absurd (show false=true from hs) Qu
 | bl i =>
  cases rx
  cases y with
  | bj=>cases ry; exact Rap (bX I q (by simp))
  | bl j=>cases ry; exact eq_bool (bX I q Pf)
  | str j=>obtain ⟨t',rfl⟩:=ry; exact Mz (bX I q (by simp))
  | _=>exact absurd (show false=true from hs) Qu
 | int i =>
  obtain ⟨t,rfl⟩:=rx
  cases y with
  | bj=>cases ry; exact Raq (bX I q (by simp))
  | int j=>obtain ⟨t',rfl⟩:=ry; exact eq_int (bX I q PB)
  | str j=>obtain ⟨t',rfl⟩:=ry; exact Raa (bX I q (by simp))
  | _=>exact absurd (show false=true from hs) Qu
 | str i =>
  obtain ⟨t,rfl⟩:=rx
  cases y with
  | bj=>cases ry; exact Rar (bX I q (by simp))
  | bl j=>cases ry; exact Rab (bX I q (by simp))
  | int j=>obtain ⟨t',rfl⟩:=ry; exact Rac (bX I q (by simp))
  | str j=>obtain ⟨t',rfl⟩:=ry; exact eq_str (bX I q Pz)
  | _=>exact absurd (show false=true from hs) Qu
 | ni i =>
  obtain ⟨t,rfl⟩:=rx
  cases y with
  | ni j=>obtain ⟨t',rfl⟩:=ry; exact PySem.W.eq_bytes (bX I q Py)
  | _=>exact absurd (show false=true from hs) Qu
 | _=>cases y <;> exact absurd (show false=true from hs) Qu
theorem mW:d6 X (compareOp .NotEq) SG:=by
 intro aa s σ H x y v u Q I rx ry h
 obtain ⟨hs,q⟩:=h
 cases x with
 | bj =>
  cases rx
  cases y with
  | bj=>cases ry; exact Ras (bX I q (by simp))
  | bl j=>cases ry; exact Rau (bX I q (by simp))
  | int j=>obtain ⟨t',rfl⟩:=ry; exact Rav (bX I q (by simp))
  | str j=>obtain ⟨t',rfl⟩:=ry; exact Rax (bX I q (by simp))
  | _=>exact absurd (show false=true from hs) Qu
 | bl i =>
  cases rx
  cases y with
  | bj=>cases ry; exact Ray (bX I q (by simp))
  | bl j=>cases ry; exact ne_bool (bX I q (congrArg not Pf))
  | str j=>obtain ⟨t',rfl⟩:=ry; exact Rad (bX I q (by simp))
  | _=>exact absurd (show false=true from hs) Qu
 | int i =>
  obtain ⟨t,rfl⟩:=rx
  cases y with
  | bj=>cases ry; exact Raz (bX I q (by simp))
  | int j=>obtain ⟨t',rfl⟩:=ry; exact ne_int (bX I q (congrArg not PB))
  | str j=>obtain ⟨t',rfl⟩:=ry; exact Rae (bX I q (by simp))
  | _=>exact absurd (show false=true from hs) Qu
 | str i =>
  obtain ⟨t,rfl⟩:=rx
  cases y with
  | bj=>cases ry; exact RaA (bX I q (by simp))
  | bl j=>cases ry; exact Raf (bX I q (by simp))
  | int j=>obtain ⟨t',rfl⟩:=ry; exact Rag (bX I q (by simp))
  | str j=>obtain ⟨t',rfl⟩:=ry; exact ne_str (bX I q (congrArg not Pz))
  | _=>exact absurd (show false=true from hs) Qu
 | ni i =>
  obtain ⟨t,rfl⟩:=rx
  cases y with
  | ni j=>obtain ⟨t',rfl⟩:=ry; exact PySem.W.ne_bytes (bX I q (congrArg not Py))
  | _=>exact absurd (show false=true from hs) Qu
 | _=>cases y <;> exact absurd (show false=true from hs) Qu
theorem E5:d6 X (compareOp .Lt) (xm λi j=>.bl (decide (i < j))):=E1 λ_ _ _ _ _ _ _ q=>lt_int q
theorem vK:d6 X (compareOp .LtE) (xm λi j=>.bl (decide (i<=j))):=E1 λ_ _ _ _ _ _ _ q=>le_int q
theorem qA:d6 X (compareOp .Gt) (xm λi j=>.bl (decide (j < i))):=E1 λ_ _ _ _ _ _ _ q=>gt_int q
theorem O1:d6 X (compareOp .GtE) (xm λi j=>.bl (decide (j<=i))):=E1 λ_ _ _ _ _ _ _ q=>ge_int q
theorem bJ (b:Expr) (h:op≠.In:=by decide) (h2:op≠.NotIn:=by decide):behindInMarks op b=false:=by
 have e1:(op==CmpOp.In)=false:=by cases op <;> first | rfl | exact absurd rfl h
 have e2:(op==CmpOp.NotIn)=false:=by cases op <;> first | rfl | exact absurd rfl h2
 cases b <;> simp [behindInMarks,e1,e2]
theorem gQ {r:R2} (ho:d6 X (compareOp op) r) (ha:PE X a ta) (hb:PE X b tb) (hm:behindInMarks op b=false):PE X (.Compare a [op] [b] pos) (Eg r ta tb):=by
 intro aa s σ H Q I h
 exact wpAny_Compare1 (HG ha hb I h λv u s2 x y H2 I2 rx ry q=>ho aa s2 σ H2 x y v u Q I2 rx ry q) hm
noncomputable def O0 (t:TE):TT:=λσ H Q=>t σ H λx H'=>∃ k,x=.bl k/\Q k H'
theorem bG {r:R2} (ho:d6 X (compareOp op) r) (ha:PE X a ta) (hb:PE X b tb) (hm:behindInMarks op b=false):PT X (.Compare a [op] [b] pos) (O0 (Eg r ta tb)):=by
 intro aa s σ H Q I h
 refine Mg (a7 (ha aa s σ H _ I h) λv s1 ⟨x,H1,I1,r1,q1⟩=>a7 (hb aa s1 σ H1 _ I1 q1) λu s2 ⟨y,H2,I2,r2,q2⟩ =>
  a7 (ho aa s2 σ H2 x y v u _ I2 r1 r2 q2) λc s3 ⟨z,H3,I3,r3,k,e,q3⟩=>?_) hm
 subst e
 cases r3
 exact Rv ⟨H3,I3,q3⟩
noncomputable def Pe (r r':R2) (ta tb tc:TE):TE:=λσ H Q=>ta σ H λx H1=>tb σ H1 λy H2=>r x y H2 λz H3=>∃ k,z=.bl k /\
 (if k=true then tc σ H3 λw' H4=>r' y w' H4 Q else Q (.bl false) H3)
theorem yR {y_:CmpOp} {r r':R2} (ho:d6 X (compareOp op) r) (lx:d6 X (compareOp y_) r') (ha:PE X a ta) (hb:PE X b tb) (hc:PE X c tc) (hm:lastMarks [op,y_] [b,c]=false:=by with_unfolding_all rfl):PE X (.Compare a [op,y_] [b,c] pos) (Pe r r' ta tb tc):=by
 intro aa s σ H Q I h
 refine Compare_chain (a7 (ha aa s σ H _ I h) λv s1 ⟨x,H1,I1,r1,q1⟩=>chain_link (a7 (hb aa s1 σ H1 _ I1 q1) λu s2 ⟨y,H2,I2,r2,q2⟩ =>
  a7 (ho aa s2 σ H2 x y v u _ I2 r1 r2 q2) λd s3 ⟨z,H3,I3,r3,k,e,q3⟩=>?_)) hm
 subst e
 cases r3
 refine Rv ?_
 cases k with
 | false=>exact ite_ff ⟨.bl false,H3,I3,rfl,q3⟩
 | true=>exact ite_tt (chain_last (a7 (hc aa s3 σ H3 _ I3 q3) λw' s4 ⟨z',H4,I4,r4,q4⟩=>lx aa s4 σ H4 y z' u w' Q I4 r2 r4 q4))
theorem aDl {y_:CmpOp} {r r':R2} (ho:d6 X (compareOp op) r) (lx:d6 X (compareOp y_) r') (ha:PE X a ta) (hb:PE X b tb) (hc:PE X c tc) (hm:lastMarks [op,y_] [b,c]=false:=by with_unfolding_all rfl):PT X (.Compare a [op,y_] [b,c] pos) (O0 (Pe r r' ta tb tc)):=by
 intro aa s σ H Q I h
 refine isTrue_chain (a7 (ha aa s σ H _ I h) λv s1 ⟨x,H1,I1,r1,q1⟩=>test_link (a7 (hb aa s1 σ H1 _ I1 q1) λu s2 ⟨y,H2,I2,r2,q2⟩ =>
  a7 (ho aa s2 σ H2 x y v u _ I2 r1 r2 q2) λd s3 ⟨z,H3,I3,r3,k,e,q3⟩=>?_)) hm
 subst e
 cases r3
 refine Rv ?_
 cases k with
 | false =>
  obtain ⟨k',e',q'⟩:=q3
  cases e'
  exact ite_ff ⟨H3,I3,q'⟩
 | true =>
  refine ite_tt (test_last (a7 (hc aa s3 σ H3 _ I3 q3) λw' s4 ⟨z',H4,I4,r4,q4⟩=>a7 (lx aa s4 σ H4 y z' u w' _ I4 r2 r4 q4) λd' s5 aq=>?_))
  obtain ⟨z2,H5,I5,r5,k2,e2,q5⟩:=aq
  subst e2
  cases r5
  exact Rv ⟨H5,I5,q5⟩
noncomputable def Ob (K:Rb) (x:V) (H:Hp) (k:Bool):Prop :=
 match x with
 | .bj=>k=false
 | .bl b=>k=b
 | .int i=>k=(i !=0)
 | .str y=>y.length<=sizeLine/\k=((y.length:Int) !=0)
 | .ni y=>y.size<=sizeLine/\k=((y.size:Int) !=0)
 | .ref p=>(∃ xs,ai K H p xs/\k=!xs.isEmpty)∨(∃ xs,ah K H p xs/\k=!xs.isEmpty)∨∃ kvs,H p=some (.dK kvs)/\k=!kvs.isEmpty
 | _=>False
theorem aAO {kvs:List (κ×V)} {vs:List (κ×Value)} (r:KV kvs vs):(!vs.isEmpty)=!kvs.isEmpty:=by
 cases r <;> rfl
theorem rJ (r:bF xs its):(!its.toArray.isEmpty)=!xs.isEmpty:=by
 cases r <;> simp
theorem rK:(sizeLine:Nat) < 2^63:=by rw [Rf]; decide
theorem b?:ZC X (λx H Q=>∃ k,Ob X.K x H k/\Q k H):=by
 intro aa s σ H x v Q I rx h
 obtain ⟨k,e,q⟩:=h
 have hl:=rK
 have hs:sizeLine=16777216:=Rf
 cases x with
 | bj =>
  cases rx
  have e':k=false:=e
  subst e'
  exact truthy_none ⟨H,I,q⟩
 | bl b =>
  cases rx
  have e':k=b:=e
  subst e'
  exact Rv ⟨H,I,q⟩
 | int i =>
  obtain ⟨t,rfl⟩:=rx
  have e':k=(i !=0):=e
  subst e'
  exact PySem.P.truthy_int ⟨H,I,q⟩
 | str y =>
  obtain ⟨t,rfl⟩:=rx
  obtain ⟨hy,e'⟩:y.length<=sizeLine/\k=((y.length:Int) !=0):=e
  subst e'
  exact PySem.P.truthy_str (by omega) ⟨H,I.tok _,q⟩
 | ni y =>
  obtain ⟨t,rfl⟩:=rx
  obtain ⟨hy,e'⟩:y.size<=sizeLine/\k=((y.size:Int) !=0):=e
  subst e'
  exact PySem.W.truthy_bytes (by omega) ⟨H,I.tok _,q⟩
 | ref p =>
  cases rx
  have e':(∃ xs,ai X.K H p xs/\k=!xs.isEmpty)∨(∃ xs,ah X.K H p xs/\k=!xs.isEmpty)∨∃ kvs,H p=some (.dK kvs)/\k=!kvs.isEmpty:=e
  rcases e' with ⟨xs,hx,e'⟩ | ⟨xs,hx,e'⟩ | ⟨kvs,hx,e'⟩
  ·subst e'
   obtain ⟨its,r,pl,hz⟩:=I.list hx
   have hlen:=r.length
   exact wpAny_truthy_list pl.isList (by simp only [Qj]; omega) ⟨H,I.tok _,by rw [rJ r]; exact q⟩
  ·subst e'
   obtain ⟨its,r,pl,hz⟩:=I.tuple hx
   have hlen:=r.length
   exact truthy_tuple pl (by simp only [Qj]; omega) ⟨H,I.tok _,by rw [rJ r]; exact q⟩
  ·subst e'
   obtain ⟨hz,hS,vs,r,m⟩:kvs.length<=sizeLine/\(p==sysModules)=false/\∃ vs,KV kvs vs/\s.heap.DictOf (cG X.prog X.w) p vs:=I.az p _ hx
   have hlen:kvs.length=vs.length:=Paired.length r
   exact wpAny_truthy_dict hS m (by omega) ⟨H,I.tok _,by rw [aAO r]; exact q⟩
 | _=>exact (show False from e).elim
theorem yS (ha:PE X a ta) (he:∀ whole,isTrue a X.env whole=(do let v<-whole; standAt a.pos; holding [v] (truthy v))) :
  PT X a (λσ H Q=>ta σ H λx H'=>∃ k,Ob X.K x H' k/\Q k H'):=by
 intro aa s σ H Q I h
 refine isTrue_plain (a7 (ha aa s σ H _ I h) λv s1 aq=>?_) (he _)
 obtain ⟨x,H1,I1,r1,q1⟩:=aq
 exact b? aa s1 σ H1 x v Q I1 r1 q1
theorem fO {x:V} (r:bF [x] us):∃ u,us = [u]/\bE x u:=by
 cases r with
 | cons r1 r2=>cases r2; exact ⟨_,rfl,r1⟩
theorem mX {x:V} (r:bF [x,y] us):∃ u w',us = [u,w']/\bE x u/\bE y w':=by
 cases r with
 | cons r1 r2 =>
  cases r2 with
  | cons r3 r4=>cases r4; exact ⟨_,_,rfl,r1,r3⟩
theorem aCk (hc:X.calm=true):dQ X (.builtin "max") (λxs H Q=>∃ i j,xs = [.int i,.int j]/\Q (.int (if j > i then j else i)) H):=by
 intro aa s σ H xs us Q I r h
 obtain ⟨i,j,rfl,q⟩:=h
 obtain ⟨u,w',rfl,⟨t,rfl⟩,⟨t',rfl⟩⟩:=mX r
 refine max_two_ints (I.ok.hd hc) λh' tk k=>⟨_,H,I.kept k,?_,q⟩
 by_cases hj:j > i
 ·rw [if_pos hj,if_pos hj]; exact ⟨_,rfl⟩
 ·rw [if_neg hj,if_neg hj]; exact ⟨_,rfl⟩
theorem aCl (hc:X.calm=true):dQ X (.builtin "min") (λxs H Q=>∃ i j,xs = [.int i,.int j]/\Q (.int (if j < i then j else i)) H):=by
 intro aa s σ H xs us Q I r h
 obtain ⟨i,j,rfl,q⟩:=h
 obtain ⟨u,w',rfl,⟨t,rfl⟩,⟨t',rfl⟩⟩:=mX r
 refine min_two_ints (I.ok.hd hc) λh' tk k=>⟨_,H,I.kept k,?_,q⟩
 by_cases hj:j < i
 ·rw [if_pos hj,if_pos hj]; exact ⟨_,rfl⟩
 ·rw [if_neg hj,if_neg hj]; exact ⟨_,rfl⟩
theorem aCm:dQ X (.type "int") (λxs H Q=>(∃ i,xs = [.int i]/\Q (.int i) H)∨∃ k,xs = [.bl k]/\Q (.int (if k then 1 else 0)) H):=by
 intro aa s σ H xs us Q I r h
 rcases h with ⟨i,rfl,q⟩ | ⟨k,rfl,q⟩
 ·obtain ⟨u,rfl,t,rfl⟩:=fO r
  exact call_int_int ⟨.int i,H,I,⟨_,rfl⟩,q⟩
 ·obtain ⟨u,rfl,r1⟩:=fO r
  cases r1
  exact call_int_bool ⟨.int (if k then 1 else 0),H,I.tok _,⟨_,rfl⟩,q⟩
end
section
variable {x:Addr} {mA:Str->Option Value} {v:Value}
end
theorem qI.some_of {o:Option Value} (r:qI (some v) o):∃ u,o=some u/\bE v u:=by
 cases o with
 | none=>exact (show False from r).elim
 | some u=>exact ⟨u,rfl,r⟩
section
variable {fs WK:List (Str×V)}
end
section
variable {σ:St} {fs:List (Str×V)} {f:Str}
end
noncomputable def Ou (X:Cx) (op:Operator) (rd:V->V->Hp->VK->Prop):Prop :=
 ∀ (aa:List (Addr×Obj)) (s:Shared) (σ:St) (H:Hp) (x y:V) (u v:Value) (Q:VK),Inv X aa σ H s->bE x u->bE y v->rd x y H Q->wpAny (model X.prog X.w) X.A (inplaceOp op u v) (EP X aa σ Q) X.xe s
section
variable {o:Expr} {f:Str} {pos:Pos}
noncomputable def Y_:V->V->Hp->VK->Prop:=λx y H Q=>∃ i j,x=.int i/\y=.int j/\Q (.int (i - j)) H
theorem b!:Ou X .Sub Y_:=by
 rintro aa s σ H x y u v Q I rx ry ⟨i,j,rfl,rfl,q⟩
 obtain ⟨t,rfl⟩:=(show ∃ t,u=Value.int i t from rx)
 obtain ⟨t',rfl⟩:=(show ∃ t',v=Value.int j t' from ry)
 exact PyProof.Rows.isub_int ⟨.int (i - j),H,I.tok _,⟨_,rfl⟩,q⟩
end
section
variable {σ:St} {c:Value} {b:Bool}
end
structure au (k:Nat) (A:Around):Prop where
 hd:A.handled=none
 dp:A.depth+3*k+5 < recursionLimit
 un:A.units+16*k+200 < cLine
 gd:A.guards=some []
theorem au.mono {k:Nat} (r:au k A) (h:j<=k):au j A:=⟨r.hd,by have:=r.dp; omega,by have:=r.un; omega,r.gd⟩
theorem au.deeper {k:Nat} (r:au (k+1) A) (env:Env):au k (A.deeper env) :=
 ⟨r.hd,by have:=r.dp; show A.depth+1+3*k+5 < _; omega,by have:=r.un; show A.units+3+16*k+200 < _; omega,r.gd⟩
theorem au.in1 {k:Nat} (r:au (k+1) A):au k A.in1 :=
 ⟨r.hd,by have:=r.dp; show A.depth+3*k+5 < _; omega,by have:=r.un; show A.units+1+16*k+200 < _; omega,r.gd⟩
theorem au.depth {k:Nat} (r:au k A):A.depth < recursionLimit:=by have:=r.dp; omega
theorem au.units {k:Nat} (r:au k A):A.units+64 < cLine:=by have:=r.un; omega
noncomputable abbrev BN:TA:=λ_ H Q=>Q [] H
noncomputable abbrev yT (ta:TE) (tr:TA):TA:=λσ H Q=>ta σ H λx H1=>tr σ H1 λxs H2=>Q (x::xs) H2
section
variable {t:TA} {pos:Pos}
theorem aC:PA X [] BN:=λ_ _ _ _ H Q I h=>Calls.spliced_nil ⟨[],H,I,.nil,h⟩
theorem aA (ha:PE X e te) (hr:PA X es t) (hs:starEach (e::es) X.env=(false,eval e X.env)::starEach es X.env:=by rfl):PA X (e::es) (yT te t):=by
 intro pos aa s σ H Q I h
 rw [hs]
 show wpAny _ _ (spliced ((false,eval e X.env)::backTo pos (starEach es X.env))) _ _ s
 refine Calls.spliced_cons (a7 (ha aa s σ H _ I h) λu s1 aq=>?_)
 obtain ⟨x,H1,I1,r1,q1⟩:=aq
 refine a7 (hr pos aa s1 σ H1 _ I1 q1) λus s2 aq=>?_
 obtain ⟨xs,H2,I2,r2,q2⟩:=aq
 exact ⟨x::xs,H2,I2,.cons r1 r2,q2⟩
noncomputable def Y' (t:TA):TE:=λσ H Q=>t σ H λxs H1=>xs.length<=sizeLine/\∀ p,H1 p=none->Q (.ref p) (upd H1 p (.tup xs))
noncomputable def Ot (t:TA):TE:=λσ H Q=>t σ H λxs H1=>xs.length<=sizeLine/\∀ p,H1 p=none->Q (.ref p) (upd H1 p (.lst xs))
theorem cV {x1} (h:PA X es t):PE X (.Tuple es x1 pos) (Y' t):=by
 intro aa s σ H Q I hq
 refine wpAny_Tuple_spliced (a7 (h pos aa s σ H _ I hq) λus s1 ⟨xs,H1,I1,r,z,q⟩=>⟨by rw [<- r.length]; exact z,?_⟩)
 have hf:H1 s1.heap.objs.size=none:=I1.az.fresh (Qi _)
 refine ⟨.ref s1.heap.objs.size,upd H1 s1.heap.objs.size (.tup xs),I1.laid (t':=s1.toks) (λb u e=>Qb _ e) (Qi _) ?_,rfl,q _ hf⟩
 exact ⟨z,us,0,r,Qh _ rfl⟩
theorem dY (h:PA X es t):PE X (.List es pos) (Ot t):=by
 intro aa s σ H Q I hq
 refine wpAny_List_spliced (a7 (h pos aa s σ H _ I hq) λus s1 ⟨xs,H1,I1,r,z,q⟩=>⟨by rw [<- r.length]; exact z,?_⟩)
 have hf:H1 s1.heap.objs.size=none:=I1.az.fresh (Qi _)
 refine ⟨.ref s1.heap.objs.size,upd H1 s1.heap.objs.size (.lst xs),I1.laid (t':=s1.toks) (λb u e=>Qb _ e) (Qi _) ?_,rfl,q _ hf⟩
 exact ⟨z,us,0,r,Qh _ rfl⟩
end
noncomputable abbrev Sp:=List V->Hp->VK->XK->Prop
end L2
variable {sp:Sp}
namespace L2
open PySem PySem.Spec PyProof.Rows
noncomputable abbrev Au:=List Env->Hp->Shared->XK->Value->Shared->Prop
end L2
variable {CX:Au}
namespace L2
open PySem PySem.Spec PyProof.Rows
structure xf (P:Program) (w:World) (K:Rb) (mg:Str->Option Value) (base:Heap) (A:Around) (outer:List Env) (s:Shared) (H:Hp):Prop where
 frames:A.frames=some outer
 mod:Mod K mg base
 bs:∀ b o,base.get? b=some o->s.heap.get? b=some o/\H b=none
 Al:base.objs.size<=s.heap.objs.size
 il:s.heap.FunFrames base outer
 BI:∀ b∈m_ outer,H b=none
 az:fh P w H s.heap
 bare:AllBare s.gens
noncomputable def CE (outer:List Env) (P:Program) (w:World) (H:Hp) (s:Shared) (Q:VK) (u:Value) (s':Shared):Prop :=
 ∃ v H',s'.os=s.os/\AllBare s'.gens/\Un (m_ outer) [] H H' s.heap s'.heap/\fh P w H' s'.heap/\bE v u/\Q v H'
noncomputable def CR (CX:Au) (outer:List Env) (P:Program) (w:World) (H:Hp) (s:Shared) (Q:VK) (E:XK) (r:Result) (s':Shared):Prop :=
 match r with
 | .ok (.ret u)=>CE outer P w H s Q u s'
 | .ok _=>False
 | .error e=>CX outer H s E e s'
structure ab (P:Program) (w:World) (K:Rb) (mg:Str->Option Value) (base:Heap) (CX:Au) (k:Nat) (f:Addr) (fd:FuncData) (ps:List Str) (sp:Sp):Prop where
 len:∀ vs H Q E,sp vs H Q E->vs.length=ps.length
 run:∀ (A:Around) (outer:List Env) (s:Shared) (H:Hp) (args:Args) (us:List Value) (vs:List V) (Q:VK) (E:XK),au k A->xf P w K mg base A outer s H->BindsTo s fd args (ps.zip us)->bF vs us->sp vs H Q E ->
  codeAny (model P w) A (.call (.ref f) args) (CR CX outer P w H s Q E) s
section
variable {σ:St}
theorem Inv.Kv (I:Inv X aa σ H s):xf X.prog X.w X.K X.mg X.base X.A X.stack s H :=
 ⟨I.ok.frames,I.ok.mod,I.bs,Qw I.ok.Al I.sz,I.stack,I.ny,I.az,I.bare⟩
theorem Inv.after {Q:VK} (I:Inv X aa σ H s) (h:CE X.stack X.prog X.w H s Q u s'):EP X aa σ Q u s':=by
 obtain ⟨v,H',os,bare,un,az,r,q⟩:=h
 obtain ⟨hh,g,d,t,Bh⟩:=s'
 obtain rfl:Bh=s.os:=os
 exact ⟨v,H',I.call (h':=hh) (g':=g) (d':=d) (t':=t) (ch:=[]) un az bare (λb z=>absurd z (by simp)),r,q⟩
end
noncomputable def OZ (sp:Sp) (vi:List V) (E:XK) (t:TA):TE:=λσ H Q=>t σ H λvs H1=>sp (vs++vi) H1 Q E
noncomputable def vL (K:Rb) (fd:FuncData) (ps:List Str) (ds:List Value):Prop :=
 ∀ (s:Shared) (us:List Value),K.In s.heap->(us++ds).length=ps.length->BindsTo s fd ⟨us,[]⟩ (ps.zip (us++ds))
theorem vL.all (h:∀ us:List Value,us.length=ps.length->bindArgs fd ⟨us,[]⟩=pure (ps.zip us)):vL K fd ps []:=λs us _ hl=>by
 rw [Xl] at hl ⊢
 exact .of_eq (h us hl)
noncomputable def IC (CX:Au) (X:Cx) (E:XK):Prop:=∀ (aa:List (Addr×Obj)) (σ:St) (H:Hp) (s:Shared) (e:Value) (s':Shared),Inv X aa σ H s->CX X.stack H s E e s'->X.xe e s'
section
variable {k:Nat} {vi:List V} {ds:List Value} {E:XK} {m:Str} {pos:Pos} {o:Expr} {t:TA}
theorem v! {σ:St} {Q:VK} (F:ab X.prog X.w X.K X.mg X.base CX k f fd ps sp) (hr:au k X.A) (hb:vL X.K fd ps ds) (hd:bF vi ds) (hx:IC CX X E) (I:Inv X aa σ H s) (r:bF vs us) (h:sp (vs++vi) H Q E):wpAny (model X.prog X.w) X.A (call (.ref f) us) (EP X aa σ Q) X.xe s:=by
 have r2:bF (vs++vi) (us++ds):=r.append hd
 have hl:(us++ds).length=ps.length:=by rw [<- r2.length]; exact F.len _ _ _ _ h
 refine Iw (Uq (F.run X.A X.stack s H ⟨us,[]⟩ (us++ds) (vs++vi) Q E hr I.Kv (hb s us I.Bm hl) r2 h) λr s' hq=>?_)
 cases r with
 | error e=>exact hx aa σ H s e s' I hq
 | ok fl =>
  cases fl with
  | ret u=>exact I.after hq
  | next=>exact False.elim hq
  | brk=>exact False.elim hq
  | cont=>exact False.elim hq
theorem aET (F:ab X.prog X.w X.K X.mg X.base CX k f fd ps sp) (hr:au k X.A) (hg:Gl X x) (hm:X.mg x=some (.ref f)) (hk:Ud X.K (.ref f)=true) (hb:vL X.K fd ps ds) (hd:bF vi ds) (hx:IC CX X E)
  (ha:PA X (e::es) t) (zw:(x==("__debug__" : Str))=false:=by decide) (he:starEach (e::es) X.env=(false,eval e X.env)::starEach es X.env:=by rfl) (jo:(backTo pos (starEach es X.env)).any (·.1)=false:=by rfl) :
  PE X (.Call (.Name x p) (e::es) [] pos) (OZ sp vi E t):=by
 intro aa s σ H Q I h
 refine Ts (PD I hg hm ?_ zw)
 refine PySem.W.callWith_K (h₀:=X.base) I.ok.mod.Eu hk (a7 (ha pos aa s σ H _ I h) λus s1 ⟨vs,H1,I1,r,q⟩=>⟨I1.Bm,?_⟩) he jo
 exact v! F hr hb hd hx I1 r q
end
noncomputable def PK (X:Cx) (Ca:List Keyword) (t:TA):Prop :=
 ∀ (pos:Pos) (aa:List (Addr×Obj)) (s:Shared) (σ:St) (H:Hp) (Q:List V->Hp->Prop),Inv X aa σ H s->t σ H Q->wpAny (model X.prog X.w) X.A (evalAll ((backToKw pos (keywordEach Ca X.env)).map (·.2))) (AP X aa σ Q) X.xe s
section
variable {k:Nat} {ks:List Str} {E:XK} {m:Str} {pos:Pos} {o:Expr} {Ca:List Keyword} {t tk:TA} {nm:Option Str}
theorem u?:PK X [] BN:=λ_ _ _ _ H Q I h=>wpAny_evalAll_nil ⟨[],H,I,.nil,h⟩
theorem aEU (ha:PE X e te) (hr:PK X Ca t):PK X (⟨nm,e,vt⟩::Ca) (yT te t):=by
 intro pos aa s σ H Q I h
 show wpAny _ _ (evalAll ((do let v<-eval e X.env; standAt pos; pure v)::(backToKw pos (keywordEach Ca X.env)).map (·.2))) _ _ s
 refine wpAny_evalAll_cons (Ra (a7 (ha aa s σ H _ I h) λu s1 ⟨x,H1,I1,r1,q1⟩=>Ra (Tc (Rc ?_))))
 refine a7 (hr pos aa s1 σ H1 _ I1 q1) λus s2 aq=>?_
 obtain ⟨xs,H2,I2,r2,q2⟩:=aq
 exact ⟨x::xs,H2,I2,.cons r1 r2,q2⟩
variable {g:List Value->List Value->List Value} {gV:List V->List V->List V}
end
structure ae (N P:List Str) (sc:Scope):Prop where
 kind:sc.kind=.function
 co:sc.isCoroutine=false
 gen:sc.isGenerator=false
 nd:N.Nodup
 pre:N.take P.length=P
 par:∀ x∈P,sc.names.lookup x=some .local∨sc.names.lookup x=some .cell
 A6:∀ y∈sc.names,y.2≠.free
theorem ae.of {P:List Str} (a:sc.kind=.function:=by exact rfl) (b:sc.isCoroutine=false:=by exact rfl) (c:sc.isGenerator=false:=by exact rfl) (d:N.Nodup:=by decide +kernel) (e:N.take P.length=P:=by exact rfl) (f:∀ x∈P,sc.names.lookup x=some .local∨sc.names.lookup x=some .cell:=by decide +kernel) (g:∀ y∈sc.names,y.2≠.free:=by decide +kernel):ae N P sc:=⟨a,b,c,d,e,f,g⟩
theorem vM:∀ {binds:List (Str×Value)} {m:Str->Option Value},(∀ v,(x,v)∉binds)->bindL kindOf binds m x=m x
 | [],_,_=>rfl
 | (n,v)::r,m,h=>by
  unfold bindL
  rw [vM λw hw=>h w (Qo _ hw)]
  split
  ·have:x≠n:=by rintro rfl; exact h v Ql
   simp [this]
  ·rfl
theorem vN:∀ {binds:List (Str×Value)} {m:Str->Option Value},(∀ v,(x,v)∉binds)->bindC kindOf binds m x=m x
 | [],_,_=>rfl
 | (n,v)::r,m,h=>by
  unfold bindC
  rw [vN λw hw=>h w (Qo _ hw)]
  split
  ·rfl
  ·have:x≠n:=by rintro rfl; exact h v Ql
   simp [this]
theorem vO {v:Value}:∀ {P:List Str} {vs:List Value} {i:Nat} {m:Str->Option Value},P.Nodup->P[i]?=some x->vs[i]?=some v->kindOf x=some .local ->
  bindL kindOf (P.zip vs) m x=some v
 | [],_,_,_,_,h,_,_=>by simp at h
 | _::_,[],_,_,_,_,h,_=>by simp at h
 | p::P,w::vs,0,m,nd,h1,h2,hk=>by
  simp at h1 h2; subst h1; subst h2
  show bindL kindOf ((p,w)::P.zip vs) m p=_
  unfold bindL
  rw [vM λv hv=>(Xm.mp nd).1 (Yl hv).1,if_pos hk]
  simp
 | p::P,w::vs,i+1,m,nd,h1,h2,hk=>by
  show bindL kindOf ((p,w)::P.zip vs) m x=_
  unfold bindL
  exact vO (i:=i) (Xm.mp nd).2 (by simpa using h1) (by simpa using h2) hk
theorem vP {v:Value}:∀ {P:List Str} {vs:List Value} {i:Nat} {m:Str->Option Value},P.Nodup->P[i]?=some x->vs[i]?=some v->kindOf x≠some .local ->
  bindC kindOf (P.zip vs) m x=some v
 | [],_,_,_,_,h,_,_=>by simp at h
 | _::_,[],_,_,_,_,h,_=>by simp at h
 | p::P,w::vs,0,m,nd,h1,h2,hk=>by
  simp at h1 h2; subst h1; subst h2
  show bindC kindOf ((p,w)::P.zip vs) m p=_
  unfold bindC
  rw [vN λv hv=>(Xm.mp nd).1 (Yl hv).1,if_neg hk]
  simp
 | p::P,w::vs,i+1,m,nd,h1,h2,hk=>by
  show bindC kindOf ((p,w)::P.zip vs) m x=_
  unfold bindC
  exact vP (i:=i) (Xm.mp nd).2 (by simpa using h1) (by simpa using h2) hk
noncomputable def start (N:List Str) (vs:List V):St:=vs.map some++List.replicate (N.length - vs.length) none
noncomputable def yU (CX:Au) (P:Program) (w:World) (K:Rb) (mg:Str->Option Value) (base:Heap) (N:List Str) (qual:Str) (scope:Scope) (f:Addr) (cd:Value) (A:Around) (outer:List Env) (s:Shared) (H:Hp) (E:XK):Cx where
 prog:=P
 w:=w
 K:=K
 mg:=mg
 base:=base
 A:=A.deeper (envOfC qual scope s.heap.objs.size f cd)
 N:=N
 fv:=s
 qw:=H
 env:=envOfC qual scope s.heap.objs.size f cd
 outer:=outer
 stack:=envOfC qual scope s.heap.objs.size f cd::outer
 ex:=[]
 calm:=true
 fn:=λ_=>true
 pn:=[]
 xe:=λe s'=>wpAny (model P w) (A.deeper (envOfC qual scope s.heap.objs.size f cd)) (leaving (envOfC qual scope s.heap.objs.size f cd) e) (λ_ B4=>CX outer H s E e B4) (λe' B4=>CX outer H s E e' B4) s'
theorem yV (h:sc.names.lookup x=some .cell):∃ c,(cellsFrom n sc.names []).lookup x=some c:=by
 have q:=Ij sc.names n [] (.inl h)
 exact Wa.mp q
theorem aCo {cd:Value} {outer:List Env} {s1:Shared} {E:XK} (S:ae N ps scope) (hd:A.handled=none) (e0:xf P w K mg base A outer s H) (hl:vs.length=ps.length) (r:bF vs us) (x:InCallC s s.heap.objs.size (bindL (envOfC qual scope s.heap.objs.size f cd).kindOf (ps.zip us) λ_=>none) (cellsFrom (s.heap.objs.size+1) scope.names []) (bindC (envOfC qual scope s.heap.objs.size f cd).kindOf (ps.zip us) λ_=>none) s1) :
  Inv (yU CX P w K mg base N qual scope f cd A outer s H E) [] (start N vs) H s1:=by
 have jo:ps.length<=N.length:=by have:=congrArg Ym S.pre; rw [Qy] at this; omega
 obtain ⟨h1,tk,rfl,hk⟩:=x.done
 have B9:∀ b:Addr,b∉(yU CX P w K mg base N qual scope f cd A outer s H E).ex:=λb z=>absurd (show b∈([]:List Addr) from z) (by simp)
 refine ⟨⟨e0.mod,S.kind,rfl,rfl,Qi _,λy z c h1 h2=>?_,λy hy=>?_,λy c _ h=>?_,λ_=>hd,Around.frames_deeper e0.frames,.inr ⟨rfl,rfl⟩,λb z=>absurd z (B9 b),e0.bs,e0.Al,λb _ _=>B9 b,λb z=>absurd z (B9 b),e0.il,e0.BI⟩,
  rfl,e0.bare,Un.kept hk,⟨_,x.toInCall.ns,λi y v h1 h2 h3=>?_⟩,λy c h=>⟨_,x.cell y c h⟩,e0.az.fresh (Qi _),λy c h=>?_,λp hp=>absurd (show p∈([]:List (Addr×Obj)) from hp) (by simp),e0.az.kept hk,?_⟩
 ·exact name_of_addr x.apart (Tw h1) (Tw h2)
 ·have hy:scope.names.lookup y=some .cell∨scope.names.lookup y=some .free:=hy
  rcases hy with hy | hy
  ·exact yV hy
  ·exact absurd rfl (S.A6 _ (Tw hy))
 ·exact Ya (x.above y c (Tw h))
 ·have hi:i < vs.length:=by
   unfold start at h2
   by_cases hi:i < vs.length
   ·exact hi
   ·rw [Jp (by simpa using hi)] at h2
    rw [Xc] at h2
    split at h2 <;> cases h2
  have ha:vs[i]?=some v:=by
   unfold start at h2
   rw [Jb (by simpa using hi),Qe] at h2
   cases e:vs[i]? with
   | none=>rw [e] at h2; cases h2
   | some a=>rw [e] at h2; cases h2; rfl
  obtain ⟨u,hu,rv⟩:=r.get ha
  have hp:ps[i]?=some y:=by
   rw [<- S.pre,List.getElem?_take_of_lt (by omega)]; exact h1
  have Lk:ps.Nodup:=by rw [<- S.pre]; exact S.nd.sublist (List.take_sublist _ _)
  refine ⟨u,rv,?_⟩
  rcases S.par y (Qg hp) with k | k
  ·exact .inl ⟨k,vO Lk hp hu k⟩
  ·obtain ⟨c,e⟩:=yV (n:=s.heap.objs.size+1) k
   refine .inr ⟨.inl k,c,e,?_⟩
   have q:=x.cell y c e
   rw [vP Lk hp hu (by show scope.names.lookup y≠_; rw [k]; decide)] at q
   exact q
 ·exact e0.az.fresh (Ya (x.above y c (Tw h)))
 ·unfold start
  show _=N.length
  rw [Qr,Qa,Xh]
  omega
theorem OY {k:Nat} {dV kV:Value} (lk:K.lookup f=some ⟨oc,od,.func (Td name qual params body scope dV kV doc pm an a_ ct),pj⟩) (j7:Uo K a_ qual=true) (S:ae N ps scope) (len:∀ vs H Q E,sp vs H Q E->vs.length=ps.length) (iy:∀ (A:Around) (outer:List Env) (s:Shared) (H:Hp) (vs:List V) (Q:VK) (E:XK),au k (A.deeper (envOfC qual scope s.heap.objs.size f a_))->sp vs H Q E ->
   ∃ t,j9 (yU CX P w K mg base N qual scope f a_ A outer s H E) body t/\t { nx:=λ_ H'=>Q .bj H',rt:=Q } (start N vs) H) :
  ab P w K mg base CX (k+1) f (Td name qual params body scope dV kV doc pm an a_ ct) ps sp:=by
 refine ⟨len,λA outer s H args us vs Q E hr e0 hb r ie=>?_⟩
 have hl:=len _ _ _ _ ie
 have KX:K.In s.heap:=e0.mod.Eu.keeps λb o e=>(e0.bs b o e).1
 have lim:s.heap.NoLimit:=e0.mod.nolimit.keeps λb o e=>(e0.bs b o e).1
 have D5:∀ y∈ps.zip us,scope.names.lookup y.1=some .local∨(scope.names.lookup y.1=some .cell/\((cellsFrom (s.heap.objs.size+1) scope.names []).lookup y.1).isSome=true):=λ⟨n,v⟩ hy=>by
  rcases S.par n (Yl hy).1 with q | q
  ·exact .inl q
  ·exact .inr ⟨q,Ij _ _ _ (.inl q)⟩
 refine codeAny_call_function hr.depth (KX _ _ lk) rfl S.co S.gen rfl (PySem.W.codeRec_of KX j7) (hb _ _ _ _ ?_)
 refine wpAny_newFunctionEnv_cells S.kind D5 λenv he s1 x=>?_
 subst he
 refine ⟨lim.keeps x.toInCall.keep,codeAny_func ?_⟩
 obtain ⟨t,ht,hq⟩:=iy A outer s H vs Q E (hr.deeper _) ie
 have I:Inv (yU CX P w K mg base N qual scope f a_ A outer s H E) [] (start N vs) H s1:=aCo S hr.hd e0 hl r x
 refine Ru (ht [] s1 (start N vs) H _ I hq) (λfl s' hs=>?_) λe s' hs=>hs
 have fin:∀ {ar:St} {H':Hp} {v:V} {u:Value},Inv (yU CX P w K mg base N qual scope f a_ A outer s H E) [] ar H' s'->bE v u->Q v H'->CE outer P w H s Q u s' :=
  λ{ar H' v u} J rv q=>⟨v,H',J.os,J.bare,J.base,J.az,rv,q⟩
 cases fl with
 | ret u =>
  obtain ⟨v,ar,H',J,rv,q⟩:=hs
  exact fin J rv q
 | next =>
  obtain ⟨ar,H',J,q⟩:=hs
  exact fin (v:=V.bj) (u:=Value.none) J rfl q
 | brk =>
  obtain ⟨_,_,_,q⟩:=hs
  exact False.elim q
 | cont =>
  obtain ⟨_,_,_,q⟩:=hs
  exact False.elim q
section
variable {pos:Pos} {t:TA} {id:String} {r:List V->Hp->VK->Prop}
noncomputable def KW (r:List V->Hp->VK->Prop) (t:TA):TE:=λσ H Q=>t σ H λvs H1=>r vs H1 Q
theorem aO (hc:dQ X (.builtin id) r) (hg:Gl X x) (hm:X.mg x=none) (hv:bootBuiltins x=some (.builtin id)) (ha:PA X (e::es) t) (hn:x ≠ "__name__" := by decide) (zw:(x==("__debug__" : Str))=false:=by decide)
  (he:starEach (e::es) X.env=(false,eval e X.env)::starEach es X.env:=by rfl) (jo:(backTo pos (starEach es X.env)).any (·.1)=false:=by rfl):PE X (.Call (.Name x p) (e::es) [] pos) (KW r t):=by
 intro aa s σ H Q I h
 refine Ts (iB I hg hm hv ?_ hn zw)
 refine PyProof.Rows.callWith_builtin1 (a7 (ha pos aa s σ H _ I h) λus s1 aq=>?_) he jo
 obtain ⟨vs,H1,I1,r1,q1⟩:=aq
 exact hc aa s1 σ H1 vs us Q I1 r1 q1
theorem bU (hc:dQ X (.type T) r) (hg:Gl X x) (hm:X.mg x=none) (hv:bootBuiltins x=some (.type T)) (ha:PA X (e::es) t) (hn:x ≠ "__name__" := by decide) (zw:(x==("__debug__" : Str))=false:=by decide)
  (he:starEach (e::es) X.env=(false,eval e X.env)::starEach es X.env:=by rfl) (jo:(backTo pos (starEach es X.env)).any (·.1)=false:=by rfl):PE X (.Call (.Name x p) (e::es) [] pos) (KW r t):=by
 intro aa s σ H Q I h
 refine Ts (iB I hg hm hv ?_ hn zw)
 refine PyProof.Rows.callWith_type1 (a7 (ha pos aa s σ H _ I h) λus s1 aq=>?_) he jo
 obtain ⟨vs,H1,I1,r1,q1⟩:=aq
 exact hc aa s1 σ H1 vs us Q I1 r1 q1
end
end L2
namespace HT
open PySem PyProof.Rows
section
open PySem.SeqAt
open PySem.AutoSeq1 (wpAny_loadPart')
open PySem.MeetsSeq PySem.MeetsSeq2 PySem.MeetsSeq3
end
theorem xg {vs ws:List Value} (ht:IsTup s.heap t vs.toArray) (hb:IsTup s.heap b ws.toArray) (hv:vs≠[]) (h1:ws = []->Q (.ref t) s) (h2:ws≠[]->Q (.ref s.heap.objs.size) { s with heap:=s.heap.push { cls:=.type "tuple",data:=.seq (vs++ws).toArray } }) (hsz:vs.length+ws.length<=sizeLine):wpAny (model prog w) A (binaryOp .Add (.ref t) (.ref b)) Q E s:=by
 obtain ⟨⟨cls,dd,data,sl⟩,ho,hc,n,hd⟩:=id ht
 obtain ⟨⟨DS,yd,data2,xk⟩,t9,me,n2,hd2⟩:=id hb
 simp only at hc hd me hd2
 subst hc hd me hd2
 have e:vs.toArray++ws.toArray=(vs++ws).toArray:=by simp
 by_cases hw:ws = []
 ·exact Ia ⟨_,ho,rfl⟩ ⟨_,t9,rfl⟩ Va Vp Ue Ub (Tx _ _)
   (tuple_addW1 t b vs.toArray ws.toArray n n2 dd yd sl xk (by simpa using hv) (by simp [hw])) ⟨ho,t9,h1 hw⟩
 ·refine Ia ⟨_,ho,rfl⟩ ⟨_,t9,rfl⟩ Va Vp Ue Ub (Tx _ _)
   (tuple_addW2 t b vs.toArray ws.toArray n n2 dd yd sl xk (by simpa using hv) (by simpa using hw) (by rw [Qj,Qj]; exact hsz)) ⟨ho,t9,?_⟩
  rw [e]
  exact h2 hw
noncomputable def bt (n d:Nat):Option Int->Nat
 | none=>d
 | some v=>if v < 0 then (v+(n:Int)).toNat else min v.toNat n
theorem k4 (n d:Nat):bt n d none=d:=rfl
theorem n8 (n d k:Nat):bt n d (some (k:Int))=min k n:=by
 show (if (k:Int) < 0 then ((k:Int)+(n:Int)).toNat else min (k:Int).toNat n)=min k n
 rw [if_neg (by omega),Zb]
theorem u! (n d:Nat) (hd:d<=n) (o:Option Int):bt n d o<=n:=by
 cases o with
 | none=>exact hd
 | some v =>
  show (if v < 0 then (v+(n:Int)).toNat else min v.toNat n)<=n
  by_cases hv:v < 0
  ·rw [if_pos hv]; omega
  ·rw [if_neg hv]; exact Nat.min_le_right _ _
theorem Px (v:Int) (n d:Nat):(if v < 0 then max (v+(n:Int)) 0 else min v (n:Int))=((bt n d (some v):Nat):Int):=by
 show (if v < 0 then max (v+(n:Int)) 0 else min v (n:Int))=(((if v < 0 then (v+(n:Int)).toNat else min v.toNat n):Nat):Int)
 by_cases hv:v < 0
 ·simp only [if_pos hv]; omega
 ·simp only [if_neg hv]; omega
theorem aAQ (lo hi:Option Int) (n:Nat):Builtin.Slice.sliceAdjust lo hi 1 (n:Int)=(((bt n 0 lo:Nat):Int),((bt n n hi:Nat):Int)):=by
 have h1:¬ ((1:Int) < 0):=by omega
 unfold Builtin.Slice.sliceAdjust
 simp only [h1,if_false]
 refine Prod.ext ?_ ?_
 ·cases lo with
  | none=>rfl
  | some v=>exact Px v n 0
 ·cases hi with
  | none=>rfl
  | some v=>exact Px v n n
theorem aAR (i j:Nat):Builtin.Slice.slicePlaces (i:Int) (j:Int) 1=j - i:=by
 unfold Builtin.Slice.slicePlaces
 have h1:(1:Int) > 0:=by omega
 simp only [h1,if_true,Int.ediv_one]
 split <;> omega
theorem rM {v:Value} {o:Option Int} {Q:Option Int->Shared->Prop} (p:IsPart v o) (h:Q o s):wpAny (model prog w) A (Builtin.Slice.slicePartIndex v) Q E s:=by
 cases p with
 | none=>exact slicePart_none h
 | int i t=>exact slicePart_int h
theorem dg {lo:Option Int} {Q:Int×Int×Nat->Shared->Prop} (hs:s.heap.IsSliceOf sl vl vu .none) (pl:IsPart vl lo) (pu:IsPart vu hi) (h:Q (((bt n 0 lo:Nat):Int),1,bt n n hi - bt n 0 lo) s):wpAny (model prog w) A (Builtin.Slice.sliceApplied (.ref sl) (pure (n:Int))) Q E s:=by
 obtain ⟨os,uy,zy,cg⟩:=id hs
 unfold Builtin.Slice.sliceApplied Builtin.Slice.sliceFields
 refine Ra (Ra (Ri uy cg (x:=vl) rfl (Ra (Ri uy cg (x:=vu) rfl (Ra (Ri uy cg (x:=.none) rfl (Rc ?_)))))))
 refine Ra (slicePart_none ?_)
 show wpAny _ _ (if ((1:Int)==0)=true then _ else _) _ _ s
 rw [if_neg (by decide)]
 refine Ra (rM pl (Ra (rM pu (Ra (Rc ?_)))))
 show wpAny _ _ (match Builtin.Slice.sliceAdjust lo hi 1 (n:Int) with | (lo,hi)=>pure (lo,(1:Int),Builtin.Slice.slicePlaces lo hi 1)) _ _ s
 rw [aAQ lo hi n]
 show wpAny _ _ (pure (((bt n 0 lo:Nat):Int),(1:Int),Builtin.Slice.slicePlaces ((bt n 0 lo:Nat):Int) ((bt n n hi:Nat):Int) 1)) _ _ s
 rw [aAR]
 exact Rc h
theorem k7 (xs:Array Value) (i k:Nat):((List.range k).filterMap λ(m:Nat)=>xs[((i:Int)+(m:Int)*1).toNat]?).toArray=((xs.toList.drop i).take k).toArray:=by
 have e:(λ(m:Nat)=>xs[((i:Int)+(m:Int)*1).toNat]?)=λm=>xs[i+m]?:=by
  funext m
  have:((i:Int)+(m:Int)*1).toNat=i+m:=by omega
  rw [this]
 rw [e]
 have:=pick_run xs i k
 rw [Wz] at this
 have e2:((λx=>xs[x]?) ∘ λx=>i+x)=λm=>xs[i+m]?:=rfl
 rw [e2] at this
 rw [this]
theorem ft {lo:Option Int} (ht:IsTup s.heap t items) (hs:s.heap.IsSliceOf sl vl vu .none) (pl:IsPart vl lo) (pu:IsPart vu hi) (hw:¬ (bt items.size 0 lo=0/\bt items.size items.size hi=items.size)) (h:Q (.ref s.heap.objs.size) { s with heap:=s.heap.push { cls:=.type "tuple",data:=.seq ((items.toList.drop (bt items.size 0 lo)).take (bt items.size items.size hi - bt items.size 0 lo)).toArray } }) (hsz:items.size<=sizeLine):wpAny (model prog w) A (getItem (.ref t) (.ref sl)) Q E s:=by
 have nj:sizeOk (.seq ((items.toList.drop (bt items.size 0 lo)).take (bt items.size items.size hi - bt items.size 0 lo)).toArray):=by
  show ((items.toList.drop (bt items.size 0 lo)).take (bt items.size items.size hi - bt items.size 0 lo)).toArray.size<=sizeLine
  rw [Qj,Qy,Zo,Array.length_toList]
  omega
 have hj:bt items.size items.size hi<=items.size:=u! _ _ (Qi _) hi
 obtain ⟨os,uy,zy,cg⟩:=id hs
 have G6:s.TypeIs (.ref sl) "slice" := ⟨os,uy,zy⟩
 unfold getItem
 try with_reducible refine Rn ?_
 first | refine Ra (Rc ?_) | skip
 refine Ra (Mv ht.typeIs (by decide) ?_)
 refine Ra (Rg (name:=Str.ofString "__getitem__") ht.typeIs PyProof.Rows.slot_tuple_getitem
  (Rp PyProof.Rows.slot_tuple_getitem ht.typeIs Mq ?_ (Mr _ _)))
 show wpAny _ _ (Builtin.Tuple.tupleItemsOf (.ref t) >>= _) _ _ s
 refine Ra (tupleItemsOf_ ht ?_)
 refine Ra (Ib G6 ?_)
 rw [if_pos (by decide)]
 refine Ra (dg hs pl pu ?_)
 have Cq:¬ ((((bt items.size 0 lo:Nat):Int)==0 && (1:Int)==1 && (bt items.size items.size hi - bt items.size 0 lo)==items.size)=true):=by
  intro q
  rw [Jm,Jm] at q
  have q1:((bt items.size 0 lo:Nat):Int)=0:=eq_of_beq q.1.1
  have q2:bt items.size items.size hi - bt items.size 0 lo=items.size:=eq_of_beq q.2
  exact hw ⟨by omega,by omega⟩
 show wpAny _ _ (if (((bt items.size 0 lo:Nat):Int)==0 && (1:Int)==1 && (bt items.size items.size hi - bt items.size 0 lo)==items.size)=true then _ else _) _ _ s
 rw [if_neg Cq,k7]
 first
  | exact Ra (m:=Builtin.Tuple.tupleExact _) (Rx (Rc ⟨_,rfl,Rc h⟩) nj)
  | exact Ra (m:=Builtin.Tuple.tupleExact _) (Rx (Ra (Rc (Rc ⟨_,rfl,Rc h⟩))) nj)
  | exact Ra (Ra (m:=Builtin.Tuple.tupleExact _) (Rx (Rc (Rc ⟨_,rfl,Rc h⟩)) nj))
  | exact Ra (Ra (m:=Builtin.Tuple.tupleExact _) (Rx (Rc ⟨_,rfl,Rc h⟩) nj))
end HT
namespace L2
open PySem PySem.Spec PyProof.Rows
noncomputable abbrev TO:=St->Hp->(Option Int->Hp->Prop)->Prop
noncomputable def PO (X:Cx) (e:Option Expr) (t:TO):Prop :=
 ∀ (aa:List (Addr×Obj)) (s:Shared) (σ:St) (H:Hp) (Q:Option Int->Hp->Prop),Inv X aa σ H s->t σ H Q ->
  wpAny (model X.prog X.w) X.A (evalPart e X.env) (λu s'=>∃ o H',Inv X aa σ H' s'/\IsPart u o/\Q o H') X.xe s
noncomputable def aEV:TO:=λ_ H Q=>Q none H
noncomputable def ω (t:TE):TO:=λσ H Q=>t σ H λx H1=>∃ i,x=.int i/\Q (some i) H1
theorem fQ:∀ {us:List Value},bF (ns.map V.int) us->IntsAre us ns:=by
 induction ns with
 | nil=>intro us r; rw [Yb] at r; cases r; exact .nil
 | cons n ns ih =>
  intro us r
  rw [Jh] at r
  cases r with
  | cons r1 r2 =>
   obtain ⟨t,e⟩:=r1
   subst e
   exact .cons n t (ih r2)
section
variable {lo hi:Option Expr} {tl th:TO} {pos:Pos}
theorem P':PO X none aEV:=by
 intro aa s σ H Q I h
 rw [Vq]
 exact Rc ⟨none,H,I,.none,h⟩
theorem P9 (h:PE X e te):PO X (some e) (ω te):=by
 intro aa s σ H Q I hw
 rw [evalPart_some]
 refine a7 (h aa s σ H _ I hw) λu s1 aq=>?_
 obtain ⟨x,H1,I1,r1,q1⟩:=aq
 obtain ⟨i,rfl,q⟩:=q1
 obtain ⟨t,rfl⟩:=r1
 exact ⟨some i,H1,I1,.int i t,q⟩
noncomputable def C9 (X:Cx) (r:V->Option Int->Option Int->Hp->VK->Prop):Prop :=
 ∀ (aa:List (Addr×Obj)) (s:Shared) (σ:St) (H:Hp) (x:V) (v vl vu:Value) (lo hi:Option Int) (sl:Addr) (Q:VK),Inv X aa σ H s->bE x v->s.heap.IsSliceOf sl vl vu .none->IsPart vl lo->IsPart vu hi->r x lo hi H Q ->
  ∃ T id,typeLookup (.type T) "__getitem__" = pure (some (.builtin id))/\s.TypeIs v T/\wpAny (model X.prog X.w) X.A (getItem v (.ref sl)) (EP X aa σ Q) X.xe s
noncomputable def Sn (r:V->Option Int->Option Int->Hp->VK->Prop) (te:TE) (tl th:TO):TE:=λσ H Q=>te σ H λx H1=>tl σ H1 λl H2=>th σ H2 λu H3=>r x l u H3 Q
theorem yW {r:V->Option Int->Option Int->Hp->VK->Prop} (hr:C9 X r) (he:PE X e te) (hl:PO X lo tl) (hu:PO X hi th):PE X (.Subscript e (.Slice lo hi none p2) pos) (Sn r te tl th):=by
 intro aa s σ H Q I h
 refine Vx (a7 (he aa s σ H _ I h) λv s1 aq=>?_)
 obtain ⟨x,H1,I1,r1,q1⟩:=aq
 refine wpAny_Slice (a7 (hl aa s1 σ H1 _ I1 q1) λvl s2 ⟨l,H2,I2,pl,q2⟩=>a7 (hu aa s2 σ H2 _ I2 q2) λvu s3 aq=>?_)
 obtain ⟨u,H3,I3,pu,q3⟩:=aq
 rw [Vq]
 refine Rc ?_
 have I4:Inv X aa σ H3 { s3 with heap:=s3.heap.push { cls:=.type "slice",data:=.fields #[vl,vu,.none] } }:=I3.kept (t':=s3.toks) λb ob q=>Qb _ q
 obtain ⟨T,id,hT,ht,hg⟩:=hr aa { s3 with heap:=s3.heap.push { cls:=.type "slice",data:=.fields #[vl,vu,.none] } } σ H3 x v vl vu l u s3.heap.objs.size Q I4 r1 (Heap.IsSliceOf.new ..) pl pu q3
 show wpAny (model X.prog X.w) X.A (subscriptTail e (.Slice lo hi none p2) v (.ref s3.heap.objs.size)) (EP X aa σ Q) X.xe { s3 with heap:=s3.heap.push { cls:=.type "slice",data:=.fields #[vl,vu,.none] } }
 exact tail_any (ops:=[.ref s3.heap.objs.size,v]) ht hT hg (by with_unfolding_all rfl)
noncomputable def nJ (xs:List V) (lo hi:Option Int):List V:=(xs.drop (HT.bt xs.length 0 lo)).take (HT.bt xs.length xs.length hi - HT.bt xs.length 0 lo)
theorem qB (xs:List V) (lo hi:Option Int):(nJ xs lo hi).length<=xs.length:=by
 unfold nJ
 rw [Qy,Zo]
 exact Qw (Nat.min_le_right _ _) (Nat.sub_le _ _)
noncomputable def Y9 (K:Rb):V->Option Int->Option Int->Hp->VK->Prop:=λx lo hi H Q=>∃ a xs,x=.ref a/\ah K H a xs /\
 ¬ (HT.bt xs.length 0 lo=0/\HT.bt xs.length xs.length hi=xs.length)/\∀ p,H p=none->Q (.ref p) (upd H p (.tup (nJ xs lo hi)))
theorem t?:C9 X (Y9 X.K):=by
 intro aa s σ H x v vl vu lo hi sl Q I rx hs pl pu h
 obtain ⟨a,xs,rfl,hx,hw,q⟩:=h
 cases rx
 obtain ⟨its,r,ht,hz⟩:=I.tuple hx
 have hlen:its.toArray.size=xs.length:=by rw [Qj]; exact r.length.symm
 refine ⟨"tuple",_,PyProof.Rows.slot_tuple_getitem.lookup,ht.typeIs,?_⟩
 refine HT.ft ht hs pl pu (by rw [hlen]; exact hw) ?_ (by rw [hlen]; exact hz)
 rw [hlen]
 refine ⟨.ref s.heap.objs.size,_,I.laid (t':=s.toks) (o:=.tup (nJ xs lo hi)) (λb ob q=>Qb _ q) (Qi _) ?_,rfl,q _ (I.az.fresh (Qi _))⟩
 exact ⟨Qw (qB xs lo hi) hz,_,0,(r.drop (HT.bt xs.length 0 lo)).take (HT.bt xs.length xs.length hi - HT.bt xs.length 0 lo),Qh _ rfl⟩
noncomputable def ψ (K:Rb):R2:=λx y H Q=>∃ a b xs ys,x=.ref a/\y=.ref b/\ah K H a xs/\ah K H b ys/\xs≠[]/\xs.length+ys.length<=sizeLine /\
 (ys = []->Q (.ref a) H)/\(ys≠[]->∀ p,H p=none->Q (.ref p) (upd H p (.tup (xs++ys))))
theorem bF.j5 (r:bF xs us):us = []↔xs = []:=by
 cases r with
 | nil=>simp
 | cons _ _=>simp
theorem P8:d6 X (binaryOp .Add) (ψ X.K):=by
 intro aa s σ H x y v u Q I rx ry h
 obtain ⟨a,b,xs,ys,rfl,rfl,ha,hb,hx,hz,q1,q2⟩:=h
 cases rx
 cases ry
 obtain ⟨its,r1,p1,_⟩:=I.tuple ha
 obtain ⟨rf,r2,p2,_⟩:=I.tuple hb
 refine HT.xg p1 p2 (λz=>hx (r1.j5.mp z)) (λz=>⟨.ref a,H,I,rfl,q1 (r2.j5.mp z)⟩) (λz=>?_) (by rw [<- r1.length,<- r2.length]; exact hz)
 refine ⟨.ref s.heap.objs.size,_,I.laid (t':=s.toks) (o:=.tup (xs++ys)) (λb ob q=>Qb _ q) (Qi _) ?_,rfl,q2 (λw=>z (r2.j5.mpr w)) _ (I.az.fresh (Qi _))⟩
 exact ⟨by rw [Qr]; exact hz,_,0,r1.append r2,Qh _ rfl⟩
end
noncomputable def oh (n:Nat) (i:Int):Option Nat:=if 0<=i then (if i < n then some i.toNat else none) else if -(n:Int)<=i then some (i+n).toNat else none
noncomputable def g9 (xs:List α) (i:Int):Option α:=(oh xs.length i).bind λj=>xs[j]?
theorem P6 {i:Int} (h:oh n i=some j):seqIndex? i n=some j/\j < n/\-(n:Int)<=i/\i < n:=by
 unfold oh at h
 by_cases h0:0<=i
 ·rw [if_pos h0] at h
  by_cases h1:i < n
  ·rw [if_pos h1] at h
   have e:i.toNat=j:=Option.some.inj h
   exact ⟨by rw [Ml h0 h1,e],by omega,by omega,h1⟩
  ·rw [if_neg h1] at h; cases h
 ·rw [if_neg h0] at h
  by_cases h1:-(n:Int)<=i
  ·rw [if_pos h1] at h
   have e:(i+n).toNat=j:=Option.some.inj h
   exact ⟨by rw [Me (by omega) h1,e],by omega,h1,by omega⟩
  ·rw [if_neg h1] at h; cases h
theorem P5 {xs:List α} {i:Int} {v:α} (h:g9 xs i=some v):∃ j,seqIndex? i xs.length=some j/\xs[j]?=some v/\j < xs.length/\-(xs.length:Int)<=i/\i < xs.length:=by
 unfold g9 at h
 cases e:oh xs.length i with
 | none=>rw [e] at h; cases h
 | some j =>
  rw [e] at h
  obtain ⟨h1,h2,h3,h4⟩:=P6 e
  exact ⟨j,h1,h,h2,h3,h4⟩
theorem cM {xs:List α} {v:α} (h:xs[j]?=some v):g9 xs (j:Int)=some v:=by
 have hj:j < xs.length:=(Qd.mp h).1
 have e:oh xs.length (j:Int)=some j:=by
  unfold oh
  rw [if_pos (by omega),if_pos (by omega)]; simp
 unfold g9; rw [e]; exact h
theorem aDm (xs:List α) (v:α):g9 (xs++[v]) (-1)=some v:=by
 have hl:(xs++[v]).length=xs.length+1:=by simp
 have e:oh (xs++[v]).length (-1)=some xs.length:=by
  unfold oh
  rw [hl,if_neg (by decide),if_pos (by omega)]
  congr 1
  omega
 unfold g9
 rw [e]
 show (xs++[v])[xs.length]?=some v
 simp
noncomputable def aEW (b:Expr):Prop:=∀ o i,subscripted b false o i=operate [o,i] (getItem o i)
noncomputable def BU (X:Cx) (r:R2):Prop :=
 ∀ (value slice:Expr) (aa:List (Addr×Obj)) (s:Shared) (σ:St) (H:Hp) (x y:V) (v u:Value) (Q:VK),Inv X aa σ H s->bE x v->bE y u->r x y H Q ->
  subscripted slice false v u=operate [v,u] (getItem v u)->wpAny (model X.prog X.w) X.A (subscriptTail value slice v u) (EP X aa σ Q) X.xe s
noncomputable def Dg (X:Cx) (id:String) (r:V->List V->Hp->VK->Prop):Prop :=
 ∀ (aa:List (Addr×Obj)) (s:Shared) (σ:St) (H:Hp) (x:V) (xs:List V) (v:Value) (us:List Value) (Q:VK),Inv X aa σ H s->bE x v->bF xs us->r x xs H Q ->
  wpAny (model X.prog X.w) X.A (call (.builtin id) (v::us)) (EP X aa σ Q) X.xe s
section
variable {a b:Expr} {tb:TE} {pos:Pos}
theorem aY {r:R2} (hr:BU X r) (ha:PE X a ta) (hb:PE X b tb) (hs:aEW b):PE X (.Subscript a b pos) (Eg r ta tb):=by
 intro aa s σ H Q I h
 exact Vx (HG ha hb I h λv u s2 x y H2 I2 rx ry q=>hr a b aa s2 σ H2 x y v u Q I2 rx ry q (hs _ _))
noncomputable def HL (K:Rb):R2:=λx y H Q=>∃ p xs i v,x=.ref p/\y=.int i/\ai K H p xs/\g9 xs i=some v/\Q v H
noncomputable def HK (K:Rb):R2:=λx y H Q=>∃ p xs i v,x=.ref p/\y=.int i/\ah K H p xs/\g9 xs i=some v/\Q v H
theorem cQ:BU X (HL X.K):=by
 intro value slice aa s σ H x y v u Q I rx ry h hs
 obtain ⟨p,xs,i,z,rfl,rfl,hq,he,q⟩:=h
 cases rx
 obtain ⟨t,rfl⟩:=ry
 obtain ⟨its,r,pl,hz⟩:=I.list hq
 obtain ⟨j,h1,h2,h3,h4,h5⟩:=P5 he
 obtain ⟨w,ew,c8⟩:=r.get h2
 have hl:=r.length
 have hn:=rK
 have fin:EP X aa σ Q w s:=⟨z,H,I,c8,q⟩
 by_cases h0:0<=i
 ·have hj:i.toNat=j:=by
   rw [Ml h0 h5] at h1
   exact Option.some.inj h1
  exact item_listR pl.isList h0 (by omega) (by rw [hj]; simpa using ew) fin hs
 ·have hj:(i+(its.toArray.size:Int)).toNat=j:=by
   rw [Me (by omega) h4] at h1
   rw [Qj,<- hl]
   exact Option.some.inj h1
  exact Ul (x:=w) pl.isList.typeIs slot_list_getitem.lookup
   (wpAny_getItem_list_neg (Q:=λr s'=>r=w/\EP X aa σ Q r s') pl.isList (by omega) (by rw [Qj] <;> omega) (by omega) (by rw [hj]; simpa using ew) ⟨rfl,fin⟩) hs
theorem cD:BU X (HK X.K):=by
 intro value slice aa s σ H x y v u Q I rx ry h hs
 obtain ⟨p,xs,i,z,rfl,rfl,hq,he,q⟩:=h
 cases rx
 obtain ⟨t,rfl⟩:=ry
 obtain ⟨its,r,pl,hz⟩:=I.tuple hq
 obtain ⟨j,h1,h2,h3,h4,h5⟩:=P5 he
 obtain ⟨w,ew,c8⟩:=r.get h2
 have hl:=r.length
 have hn:=rK
 have fin:EP X aa σ Q w s:=⟨z,H,I,c8,q⟩
 exact Ul (x:=w) pl.typeIs slot_tuple_getitem.lookup
  (getItem_tuple (j:=j) (Q:=λr s'=>r=w/\EP X aa σ Q r s') pl (by omega) (by omega) (by rw [Qj,<- hl]; exact h1) (by simpa using ew) ⟨rfl,fin⟩) hs
theorem aAS (its:List Value) (n j:Nat) (u:Value):Obj.mapSeq (·.setIfInBounds j u) { cls:=.type "list",data:=.seq its.toArray n }={ cls:=.type "list",data:=.seq (its.set j u).toArray n }:=by
 simp [Obj.mapSeq]
theorem Inv.lst {σ:St} {p:Addr} (I:Inv X aa σ H s) (h:H p=some (.lst xs)) :
  ∃ (its:List Value) (n:Nat),bF xs its/\s.heap.get? p=some { cls:=.type "list",data:=.seq its.toArray n }/\xs.length<=sizeLine:=by
 obtain ⟨z,its,n,r,e⟩:=I.az p _ h
 exact ⟨its,n,r,e,z⟩
theorem Inv.A9 {σ:St} {p:Addr} {its':List Value} {n':Nat} {f:Obj->Obj} (I:Inv X aa σ H s) (h:H p=some (.lst xs)) (ho:s.heap.get? p=some { cls:=.type "list",data:=.seq its.toArray n }) (hf:f { cls:=.type "list",data:=.seq its.toArray n }={ cls:=.type "list",data:=.seq its'.toArray n' }) (r:bF ys its') (hz:ys.length<=sizeLine) (t:Nat) :
  Inv X aa σ (upd H p (.lst ys)) { s with heap:=s.heap.update p f,toks:=t }:=by
 have e:(s.heap.update p f).get? p=some { cls:=.type "list",data:=.seq its'.toArray n' }:=by
  rw [Xr f ho (by rw [hf] <;> rfl),hf]
 refine I.write (x:=p) (e:=p) (by rw [h]; trivial) (.inl rfl) (λb u hb q=>(Jq _ _ (Ne.symm hb)).trans q) ⟨_,e⟩ ?_
 exact ⟨hz,its',n',r,e⟩
noncomputable def χ:V->V->V->Hp->(Hp->Prop)->Prop:=λo i v H Q=>∃ p xs k j,o=.ref p/\i=.int k/\H p=some (.lst xs)/\oh xs.length k=some j/\Q (upd H p (.lst (xs.set j v)))
theorem nW:HH X χ:=by
 intro aa s σ H o i v ov iv u Q I ro ri rv h
 obtain ⟨p,xs,k,j,rfl,rfl,hp,hj,q⟩:=h
 cases ro
 obtain ⟨t,rfl⟩:=ri
 obtain ⟨its,n,r,ho,hz⟩:=I.lst hp
 obtain ⟨h1,h2,h3,h4⟩:=P6 hj
 have hl:=r.length
 have hn:=rK
 have I':Inv X aa σ (upd H p (.lst (xs.set j v))) { s with heap:=s.heap.update p (Obj.mapSeq (·.setIfInBounds j u)) } :=
  I.A9 hp ho (aAS its n j u) (r.set rv j) (by rw [Xn]; exact hz) s.toks
 by_cases h0:0<=k
 ·have hk:k.toNat=j:=by
   rw [Ml h0 h4] at h1
   exact Option.some.inj h1
  exact PySem.W.ki_setAt ho h0 (by omega) (by rw [Qj,<- hl]; exact h4) (by rw [hk]; exact ⟨_,I',q⟩)
 ·have hk:(k+(its.toArray.size:Int)).toNat=j:=by
   rw [Me (by omega) h3] at h1
   rw [Qj,<- hl]
   exact Option.some.inj h1
  exact PySem.W.ki_setBack ho (by omega) (by rw [Qj,<- hl]; exact h3) (by omega) (by rw [hk]; exact ⟨_,I',q⟩)
theorem wT (lo hi:Option Int) (n:Nat):(sliceBounds lo hi none n).1=((HT.bt n 0 lo:Nat):Int)/\(sliceBounds lo hi none n).2.1=((HT.bt n n hi:Nat):Int)/\(sliceBounds lo hi none n).2.2=1:=by
 refine ⟨?_,?_,rfl⟩
 ·cases lo with
  | none=>simp [sliceBounds,HT.bt]
  | some i =>
   simp only [sliceBounds,HT.bt,Qaf,show (1:Int) > 0 by decide,if_true]
   by_cases h:i < 0
   ·simp only [h,if_true] <;> omega
   ·simp only [h,if_false] <;> omega
 ·cases hi with
  | none=>simp [sliceBounds,HT.bt]
  | some i =>
   simp only [sliceBounds,HT.bt,Qaf,show (1:Int) > 0 by decide,if_true]
   by_cases h:i < 0
   ·simp only [h,if_true] <;> omega
   ·simp only [h,if_false] <;> omega
theorem uR (its:List Value) (lo hi:Option Int):slicePick its.toArray lo hi none=((its.drop (HT.bt its.length 0 lo)).take (HT.bt its.length its.length hi - HT.bt its.length 0 lo)).toArray:=by
 obtain ⟨h1,h2,h3⟩:=wT lo hi its.toArray.size
 unfold slicePick
 rw [h1,h2,h3]
 simp only [sliceRange_one,pick_run,Qj] <;> rfl
noncomputable def Y8 (K:Rb):V->Option Int->Option Int->Hp->VK->Prop:=λx lo hi H Q=>∃ a xs,x=.ref a/\ai K H a xs/\∀ p,H p=none->Q (.ref p) (upd H p (.lst (nJ xs lo hi)))
theorem aEX:C9 X (Y8 X.K):=by
 intro aa s σ H x v vl vu lo hi sl Q I rx hs pl pu h
 obtain ⟨a,xs,rfl,hx,q⟩:=h
 cases rx
 obtain ⟨its,r,ht,hz⟩:=I.list hx
 have hlen:=r.length
 refine ⟨"list",_,slot_list_getitem.lookup,ht.isList.typeIs,?_⟩
 refine Ma ht.isList hs pl pu .none (by simp) ?_ (by rw [Qj] <;> omega)
 rw [uR,<- hlen]
 refine ⟨.ref s.heap.objs.size,_,I.laid (t':=s.toks) (o:=.lst (nJ xs lo hi)) (λb ob q=>Qb _ q) (Qi _) ?_,rfl,q _ (I.az.fresh (Qi _))⟩
 exact ⟨Qw (qB xs lo hi) hz,_,0,(r.drop (HT.bt xs.length 0 lo)).take (HT.bt xs.length xs.length hi - HT.bt xs.length 0 lo),Qh _ rfl⟩
noncomputable def nX:V->Bool
 | .bj=>true
 | .bl _=>true
 | .int _=>true
 | .str _=>true
 | _=>false
noncomputable def yc:V->V->Bool
 | .bj,.bj=>true
 | .bl a,.bl b=>a==b
 | .bl a,.int b=>(if a then 1 else 0)==b
 | .int a,.bl b=>a==(if b then 1 else 0)
 | .int a,.int b=>a==b
 | .str a,.str b=>a==b
 | _,_=>false
theorem t! {x:V} {v:Value} (ry:bE y u) (rx:bE x v) (fy:nX y=true) (fx:nX x=true):SeqAt.EqAt A s u v (yc y x):=by
 cases y with
 | bj =>
  cases ry
  cases x with
  | bj=>cases rx; exact SeqAt.EqAt.same _
  | bl b=>cases rx; exact SeqAt.EqAt.none_bool b
  | int b=>obtain ⟨t,rfl⟩:=rx; exact SeqAt.EqAt.none_int b t
  | str b=>obtain ⟨t,rfl⟩:=rx; exact SeqAt.EqAt.none_str b t
  | _=>exact absurd (show false=true from fx) Qu
 | bl a =>
  cases ry
  cases x with
  | bj=>cases rx; exact SeqAt.EqAt.bool_none a
  | bl b=>cases rx; exact SeqAt.EqAt.bool_bool a b
  | int b=>obtain ⟨t,rfl⟩:=rx; exact SeqAt.EqAt.bool_int a b t
  | str b=>obtain ⟨t,rfl⟩:=rx; exact SeqAt.EqAt.bool_str a b t
  | _=>exact absurd (show false=true from fx) Qu
 | int a =>
  obtain ⟨t',rfl⟩:=ry
  cases x with
  | bj=>cases rx; exact SeqAt.EqAt.int_none a t'
  | bl b=>cases rx; exact SeqAt.EqAt.int_bool a t' b
  | int b=>obtain ⟨t,rfl⟩:=rx; exact SeqAt.EqAt.int_int a t' b t
  | str b=>obtain ⟨t,rfl⟩:=rx; exact SeqAt.EqAt.int_str a t' b t
  | _=>exact absurd (show false=true from fx) Qu
 | str a =>
  obtain ⟨t',rfl⟩:=ry
  cases x with
  | bj=>cases rx; exact SeqAt.EqAt.str_none a t'
  | bl b=>cases rx; exact SeqAt.EqAt.str_bool a t' b
  | int b=>obtain ⟨t,rfl⟩:=rx; exact SeqAt.EqAt.str_int a t' b t
  | str b=>obtain ⟨t,rfl⟩:=rx; exact SeqAt.EqAt.str_str a t' b t
  | _=>exact absurd (show false=true from fx) Qu
 | _=>exact absurd (show false=true from fy) Qu
noncomputable def mh (x:V) (u:Value):Bool:=match u with
 | .none=>yc .bj x
 | .bool b=>yc (.bl b) x
 | .int i _=>yc (.int i) x
 | .str z _=>yc (.str z) x
 | _=>false
theorem Pd {x:V} (r:bE y u) (f:nX y=true):mh x u=yc y x:=by
 cases y with
 | bj=>cases r; rfl
 | bl b=>cases r; rfl
 | int i=>obtain ⟨t,rfl⟩:=r; rfl
 | str z=>obtain ⟨t,rfl⟩:=r; rfl
 | _=>exact absurd (show false=true from f) Qu
theorem qM {x:V}:∀ {xs:List V} {us:List Value},bF xs us->xs.all nX=true->us.any (mh x)=xs.any λy=>yc y x
 := by
 intro xs us h
 induction h with
 | nil=>intro _; rfl
 | cons r t ih =>
  intro f
  rw [Yi,Jm] at f
  rw [Yj,Yj,Pd r f.1,ih f.2]
theorem lO {x:V} {v:Value} (rx:bE x v) (fx:nX x=true):∀ {xs:List V} {us:List Value},bF xs us->xs.all nX=true->∀ u∈us,SeqAt.EqAt A s u v (mh x u)
 | _,_,.nil,_=>λu hu=>by cases hu
 | y::xs,u::us,.cons r t,f=>λu' hu=>by
  rw [Yi,Jm] at f
  rcases Qk.mp hu with rfl | hu
  ·rw [Pd r f.1]; exact t! r rx f.1 fx
  ·exact lO rx fx t f.2 u' hu
noncomputable def ma (x:V) (xs:List V):Bool:=xs.any λy=>yc y x
noncomputable def Ep (K:Rb) (neg:Bool):R2:=λx y H Q=>∃ p xs,y=.ref p/\(ai K H p xs∨ah K H p xs)/\nX x=true/\xs.all nX=true/\Q (.bl (if neg then !ma x xs else ma x xs)) H
theorem vQ:d6 X (compareOp .In) (Ep X.K false):=by
 intro aa s σ H x y v u Q I rx ry h
 obtain ⟨p,xs,rfl,hq,fx,fs,q⟩:=h
 cases ry
 rcases hq with hq | hq
 ·obtain ⟨its,r,pl,hz⟩:=I.list hq
  refine SeqAt.in_listAt (mh x) pl.isList (λw hw=>lO rx fx r fs w (by simpa using hw)) ⟨.bl _,H,I,rfl,?_⟩
  rw [show its.toArray.any (mh x)=its.any (mh x) by simp,qM r fs]
  exact q
 ·obtain ⟨its,r,pl,hz⟩:=I.tuple hq
  refine SeqAt.in_tupleAt (mh x) pl (λw hw=>lO rx fx r fs w (by simpa using hw)) ⟨.bl _,H,I,rfl,?_⟩
  rw [show its.toArray.any (mh x)=its.any (mh x) by simp,qM r fs]
  exact q
theorem wU:d6 X (compareOp .NotIn) (Ep X.K true):=by
 intro aa s σ H x y v u Q I rx ry h
 obtain ⟨p,xs,rfl,hq,fx,fs,q⟩:=h
 cases ry
 rcases hq with hq | hq
 ·obtain ⟨its,r,pl,hz⟩:=I.list hq
  refine SeqAt.notIn_listAt (mh x) pl.isList (λw hw=>lO rx fx r fs w (by simpa using hw)) ⟨.bl _,H,I,rfl,?_⟩
  rw [show its.toArray.any (mh x)=its.any (mh x) by simp,qM r fs]
  exact q
 ·obtain ⟨its,r,pl,hz⟩:=I.tuple hq
  refine SeqAt.notIn_tupleAt (mh x) pl (λw hw=>lO rx fx r fs w (by simpa using hw)) ⟨.bl _,H,I,rfl,?_⟩
  rw [show its.toArray.any (mh x)=its.any (mh x) by simp,qM r fs]
  exact q
theorem aX:dQ X (.builtin "len") (λxs H Q=>∃ p ys,xs = [.ref p]/\(ai X.K H p ys∨ah X.K H p ys)/\Q (.int ys.length) H):=by
 intro aa s σ H xs us Q I r h
 obtain ⟨p,ys,rfl,hq,q⟩:=h
 obtain ⟨u,rfl,rx⟩:=fO r
 cases rx
 have hn:=rK
 rcases hq with hq | hq
 ·obtain ⟨its,r',pl,hz⟩:=I.list hq
  have hlen:=r'.length
  exact Calls.call_len_list pl.isList (by simp only [Qj] <;> omega) ⟨.int ys.length,H,I.tok _,⟨s.toks+1,by rw [Qj,hlen]⟩,q⟩
 ·obtain ⟨its,r',pl,hz⟩:=I.tuple hq
  have hlen:=r'.length
  exact len_tuple pl (by simp only [Qj] <;> omega) ⟨.int ys.length,H,I.tok _,⟨s.toks+1,by rw [Qj,hlen]⟩,q⟩
theorem nY:dQ X (.type "list") (λxs H Q=>∃ p ys,xs = [.ref p]/\(ai X.K H p ys∨ah X.K H p ys)/\∀ l,H l=none->Q (.ref l) (upd H l (.lst ys))):=by
 intro aa s σ H xs us Q I r h
 obtain ⟨p,ys,rfl,hq,q⟩:=h
 obtain ⟨u,rfl,rx⟩:=fO r
 cases rx
 have fin:∀ (its:List Value),bF ys its->ys.length<=sizeLine->∀ (h':Heap) (c':Nat),(∀ b o',s.heap.get? b=some o'->h'.get? b=some o') ->
   h'.get? s.heap.objs.size=some { cls:=.type "list",dict:=none,data:=.seq its.toArray c',slots:=#[] }->EP X aa σ Q (.ref s.heap.objs.size) { s with heap:=h' }:=λits r' hz h' c' kp e =>
  ⟨.ref s.heap.objs.size,_,I.laid (t':=s.toks) kp (Qi _) (show bO X.prog X.w _ h' _ (.lst ys) from ⟨hz,its,c',r',e⟩),rfl,q _ (I.az.fresh (Qi _))⟩
 rcases hq with hq | hq
 ·obtain ⟨its,r',pl,hz⟩:=I.list hq
  have hlen:=r'.length
  obtain ⟨o,ho,hc,n,hd⟩:=pl.isList
  exact call_list_seq p (.inl rfl) ho hc hd (λh' c' kp e=>fin its r' hz h' c' kp e) (by simp only [Qj] <;> omega)
 ·obtain ⟨its,r',pl,hz⟩:=I.tuple hq
  have hlen:=r'.length
  obtain ⟨o,ho,hc,n,hd⟩:=pl
  exact call_list_seq p (.inr rfl) ho hc hd (λh' c' kp e=>fin its r' hz h' c' kp e) (by simp only [Qj] <;> omega)
theorem cN:dQ X (.type "tuple") (λxs H Q=>∃ p ys,xs = [.ref p]/\((ai X.K H p ys/\∀ l,H l=none->Q (.ref l) (upd H l (.tup ys)))∨(ah X.K H p ys/\Q (.ref p) H))):=by
 intro aa s σ H xs us Q I r h
 obtain ⟨p,ys,rfl,h⟩:=h
 obtain ⟨u,rfl,rx⟩:=fO r
 cases rx
 rcases h with ⟨hq,q⟩ | ⟨hq,q⟩
 ·obtain ⟨its,r',pl,hz⟩:=I.list hq
  have hlen:=r'.length
  refine call_tuple_list pl.isList (λh' kp=>?_) (by simp only [Qj] <;> omega)
  have I1:Inv X aa σ H { s with heap:=h' }:=I.kept (t':=s.toks) kp
  have I2:Inv X aa σ (upd H h'.objs.size (.tup ys)) { s with heap:=h'.push { cls:=.type "tuple",data:=.seq its.toArray } } :=
   I1.laid (t':=s.toks) (λb o e=>Qb _ e) (Qi _) (show bO X.prog X.w _ _ _ (.tup ys) from ⟨hz,its,0,r',Qh _ rfl⟩)
  exact ⟨.ref h'.objs.size,_,I2,rfl,q _ (I1.az.fresh (Qi _))⟩
 ·obtain ⟨its,r',pl,hz⟩:=I.tuple hq
  exact call_tuple_same pl ⟨.ref p,H,I,rfl,q⟩
noncomputable def KU (K:Rb) (T:String) (x:V) (H:Hp):Prop:=match x with
 | .str _=>T = "str"
 | .int _=>T = "int"
 | .ref p => (T = "list" /\ ∃ xs, ai K H p xs) ∨ (T = "tuple" /\ ∃ xs, ah K H p xs) ∨
     (T = "dict" /\ ((∃ kvs,H p=some (.dK kvs))∨∃ kvs,H p=some (.dT kvs)))∨(T = "set" /\ ∃ S n,H p=some (.set S n))
 | _=>False
theorem s? {σ:St} {x:V} {v:Value} (I:Inv X aa σ H s) (r:bE x v) (ty:KU X.K T x H) :
  s.TypeIs v T/\∀ a,v=.ref a->∃ ob,s.heap.get? a=some ob/\ob.dict=none:=by
 cases x with
 | str z =>
  obtain ⟨t,rfl⟩:=r
  cases (show T = "str" from ty)
  exact ⟨typeIs_str s z t,λ_ e=>nomatch e⟩
 | int i =>
  obtain ⟨t,rfl⟩:=r
  cases (show T = "int" from ty)
  exact ⟨Ur s i t,λ_ e=>nomatch e⟩
 | ref p =>
  cases r
  rcases ty with ⟨rfl,xs,hq⟩ | ⟨rfl,xs,hq⟩ | ⟨rfl,hk⟩ | ⟨rfl,S,n,hk⟩
  ·obtain ⟨its,_,pl,_⟩:=I.list hq
   refine ⟨pl.isList.typeIs,λa e=>?_⟩
   cases e
   obtain ⟨o,n,e,c,hd,_⟩:=pl
   exact ⟨o,e,hd⟩
  ·obtain ⟨o,e,hc,hd⟩:∃ o,s.heap.get? p=some o/\o.cls=.type "tuple" /\ o.dict=none:=by
    rcases hq with hq | ⟨o,_,_,hk,hc,hd,_⟩
    ·obtain ⟨_,its,n,_,e⟩:=hq.ok I.az
     exact ⟨_,e,rfl,rfl⟩
    ·exact ⟨o,I.Bm p o hk,hc,hd⟩
   refine ⟨⟨o,e,hc⟩,λa e2=>?_⟩
   cases e2
   exact ⟨o,e,hd⟩
  ·have z:∃ o,s.heap.get? p=some o/\o.ExactDict:=by
    rcases hk with ⟨kvs,hk⟩ | ⟨kvs,hk⟩
    ·obtain ⟨_,_,_,_,o,_,_,e,ex,_⟩:=I.az p _ hk
     exact ⟨o,e,ex⟩
    ·obtain ⟨_,_,_,_,o,_,_,e,ex,_⟩:=I.az p _ hk
     exact ⟨o,e,ex⟩
   obtain ⟨o,e,ex⟩:=z
   refine ⟨⟨o,e,ex.1⟩,λa e2=>?_⟩
   cases e2
   exact ⟨o,e,ex.2.1⟩
  ·obtain ⟨o,_,_,_,e,ex,_⟩:=I.az p _ hk
   refine ⟨⟨o,e,ex.1⟩,λa e2=>?_⟩
   cases e2
   exact ⟨o,e,ex.2.1⟩
 | _=>exact False.elim ty
noncomputable def KY (K:Rb) (T:String) (r:V->List V->Hp->VK->Prop) (to:TE) (t:TA):TE:=λσ H Q=>to σ H λx H1=>KU K T x H1/\t σ H1 λxs H2=>r x xs H2 Q
variable {o:Expr} {t:TA} {id:String} {r:V->List V->Hp->VK->Prop}
theorem lK (pa:PlainAttrs T) (slot:Slot T name id) (Gf:typeOf (.builtin id)=pure (.type "method_descriptor")) (hm:Dg X id r) (ho:PE X o to) (ha:PA X (e::es) t)
  (sk:attributeBase o name X.env (eval o X.env)=eval o X.env:=by rfl)
  (AV:((backTo fg (starEach (e::es) X.env)).all (λx=>!x.1) && (backToKw fg (keywordEach [] X.env)).all (λx=>x.1.isSome)
   && decide ((e::es).length+([]:List Keyword).length+(if ([]:List Keyword).isEmpty then 0 else 1) < 30))=true:=by rfl)
  (si:(apos.endLine==fg.line)=true:=by rfl) (hs:starEach (e::es) X.env=(false,eval e X.env)::starEach es X.env:=by rfl) (ml:(backTo fg (starEach es X.env)).any (·.1)=false:=by rfl) :
  PE X (.Call (.Attribute o name apos) (e::es) [] fg) (KY X.K T r to t):=by
 intro aa s σ H Q I h
 refine wpAny_Call_method_late sk AV si rfl (a7 (ho aa s σ H _ I h) λv s1 aq=>?_)
 obtain ⟨x,H1,I1,r1,ty,q1⟩:=aq
 obtain ⟨h1,h2⟩:=s? I1 r1 ty
 refine ⟨T,id,pa,slot,Gf,h1,h2,?_⟩
 have hA:=ha fg aa s1 σ H1 _ I1 q1
 rw [hs] at hA ⊢
 refine Calls.callWith_builtin (by show (false || (backTo fg (starEach es X.env)).any (·.1))=false; rw [ml] <;> rfl) (Calls.evalArgs_plain ?_)
 refine a7 hA λus s2 aq=>?_
 obtain ⟨vs,H2,I2,r2,q2⟩:=aq
 exact hm aa s2 σ H2 x vs v us Q I2 r1 r2 q2
end
noncomputable def RF (X:Cx) (id:String) (r:V->List V->Hp->VK->Prop):Prop :=
 ∀ (aa:List (Addr×Obj)) (s:Shared) (σ:St) (H:Hp) (x:V) (xs:List V) (v:Value) (us:List Value) (Q:VK),Inv X aa σ H s->bE x v->bF xs us->r x xs H Q ->
  wpAny (model X.prog X.w) X.A (call (.builtin id) (v::us)) (EP X aa σ Q) X.xe s
theorem bF.one {x:V} (r:bF [x] us):∃ u,us = [u]/\bE x u:=fO r
theorem bF.eraseIdx:∀ {xs:List V} {us:List Value} (i:Nat),bF xs us->bF (xs.eraseIdx i) (us.eraseIdx i)
 | _,_,_,.nil=>.nil
 | _,_,0,.cons _ t=>t
 | _,_,i+1,.cons r t=>.cons r (bF.eraseIdx i t)
theorem bF.reverse (h:bF xs us):bF xs.reverse us.reverse:=by
 induction h with
 | nil=>exact .nil
 | cons r t ih=>rw [Wb,Wb]; exact bF.append ih (.cons r .nil)
theorem bF.rep (h:bF xs us):∀ k:Nat,bF (List.replicate k xs).flatten (List.replicate k us).flatten
 | 0=>.nil
 | k+1=>by
  rw [Xi,Xi,Zc,Zc]
  exact bF.append h (bF.rep h k)
theorem vR:∀ (l:List α) (i:Nat),(l.eraseIdx i).length<=l.length
 | [],_=>Qi _
 | _::_,0=>Wt _
 | _::r,i+1=>Zp (vR r i)
theorem mI (its:List Value):∀ (k:Nat) (acc:List Value),
  List.foldl (λx1 x2=>x1++x2) acc.toArray (List.replicate k its.toArray)=(acc++(List.replicate k its).flatten).toArray
 | 0,acc=>by simp
 | k+1,acc=>by
  have e:acc.toArray++its.toArray=(acc++its).toArray:=by simp
  have e2:(acc++its)++(List.replicate k its).flatten=acc++(List.replicate (k+1) its).flatten:=by
   rw [Xi,Zc,List.append_assoc]
  rw [<- e2,<- mI its k (acc++its),<- e,Xi,List.foldl_cons]
section
variable {σ:St} {l:Addr}
theorem Inv.ot {its':List Value} {f:Array Value->Array Value} (I:Inv X aa σ H s) (hH:H l=some (.lst xs)) (e:s.heap.get? l=some { cls:=.type "list",data:=.seq its.toArray n }) (hf:f its.toArray=its'.toArray) (hv:bF ys its') (hz:ys.length<=sizeLine) :
  Inv X aa σ (upd H l (.lst ys)) { s with heap:=s.heap.update l (Obj.mapSeq f),toks:=t' }:=by
 have q:=PySem.IsL.update e f
 rw [hf] at q
 refine I.write (x:=l) (e:=l) (by rw [hH]; exact trivial) (.inl rfl) (λb' u hb hu=>(Jq s.heap (Obj.mapSeq f) (Ne.symm hb)).trans hu) ⟨_,q⟩ ?_
 exact ⟨hz,its',_,hv,q⟩
theorem Inv.AG (I:Inv X aa σ H s) (hv:bF ys its) (hz:ys.length<=sizeLine) :
  Inv X aa σ (upd H s.heap.objs.size (.lst ys)) { s with heap:=s.heap.push { cls:=.type "list",data:=.seq its.toArray },toks:=t' } :=
 I.laid (λ_ _ q=>Qb _ q) (Qi _) ⟨hz,its,0,hv,Qh _ rfl⟩
theorem Inv.fresh (I:Inv X aa σ H s):H s.heap.objs.size=none:=I.az.fresh (Qi _)
theorem Inv.oq (I:Inv X aa σ H s) (hH:H l=some (.lst xs)):xs.length<=sizeLine/\∃ (its:List Value) (n:Nat),bF xs its/\xs.length=its.length/\s.heap.get? l=some { cls:=.type "list",data:=.seq its.toArray n }:=by
 obtain ⟨z,its,n,r,e⟩:=I.az l _ hH
 exact ⟨z,its,n,r,r.length,e⟩
theorem aDo (h:n<=sizeLine):Builtin.List.listTooLong n=false:=by
 unfold Builtin.List.listTooLong
 exact decide_eq_false (by omega)
end
noncomputable def aEY:V->List V->Hp->VK->Prop:=λx vs H Q=>∃ l xs y,x=.ref l/\vs = [y]/\H l=some (.lst xs)/\xs.length < sizeLine/\Q .bj (upd H l (.lst (xs++[y])))
theorem gB:RF X "list.append" aEY:=by
 intro aa s σ H x vs v us Q I rx rv h
 obtain ⟨l,xs,y,rfl,rfl,hH,hz,q⟩:=h
 cases rx
 obtain ⟨u,rfl,ru⟩:=rv.one
 obtain ⟨z,its,n,r,hl,e⟩:=I.oq hH
 refine Tn F.slot_list_append ⟨_,e,rfl⟩ F.entry_list_append (F.args_list_append_2 _ _) (PySem.list_append l its.toArray n u (by rw [Qj]; omega)) ⟨e,?_⟩
 refine ⟨.bj,_,I.ot (its':=its++[u]) hH e (by simp) (r.append (.cons ru .nil)) ?_,rfl,q⟩
 rw [Qr,Xe]
 omega
noncomputable def r?:V->List V->Hp->VK->Prop:=λx vs H Q=>∃ l xs i k y,x=.ref l/\vs = [.int i]/\H l=some (.lst xs)/\-(2^63)<=i/\i < 2^63/\seqIndex? i xs.length=some k/\xs[k]?=some y/\Q y (upd H l (.lst (xs.eraseIdx k)))
theorem aDp:RF X "list.pop" r?:=by
 intro aa s σ H x vs v us Q I rx rv h
 obtain ⟨l,xs,i,k,y,rfl,rfl,hH,h1,h2,hk,hy,q⟩:=h
 cases rx
 obtain ⟨u,rfl,ru⟩:=rv.one
 obtain ⟨t,rfl⟩:=ru
 obtain ⟨z,its,n,r,hl,e⟩:=I.oq hH
 obtain ⟨w,hw,c8⟩:=r.get hy
 refine Tn F.slot_list_pop ⟨_,e,rfl⟩ F.entry_list_pop (F.args_list_pop_2 _ _)
  (MeetsSeq.list_pop_at l its.toArray n i t k w (fitsIndex_both h1 h2) (by rw [Qj,<- hl]; exact hk) (by rw [<- Array.getElem?_toList]; exact hw) (by rw [Qj]; omega)) ⟨e,?_⟩
 refine ⟨y,_,I.ot (its':=its.eraseIdx k) hH e ?_ (r.eraseIdx k) ?_,c8,q⟩
 ·show its.toArray.eraseIdxIfInBounds k=(its.eraseIdx k).toArray
  rw [List.eraseIdxIfInBounds_toArray]
 ·have:=vR xs k
  omega
noncomputable def Y7:R2:=λx y H Q=>∃ l b xs zs,x=.ref l/\y=.ref b/\H l=some (.lst xs)/\H b=some (.lst zs)/\xs.length+zs.length<=sizeLine/\∀ p,H p=none->Q (.ref p) (upd H p (.lst (xs++zs)))
theorem rN:d6 X (binaryOp .Add) Y7:=by
 intro aa s σ H x y v u Q I rx ry h
 obtain ⟨l,b,xs,zs,rfl,rfl,hH,hB,hz,q⟩:=h
 cases rx
 cases ry
 obtain ⟨z,its,n,r,hl,e⟩:=I.oq hH
 obtain ⟨z2,rf,n2,r2,ly,e2⟩:=I.oq hB
 refine PySem.P.add_list e e2 ?_ (by rw [Qj,Qj]; omega)
 have ea:its.toArray++rf.toArray=(its++rf).toArray:=by simp
 rw [ea]
 exact ⟨.ref _,_,I.AG (t':=s.toks) (r.append r2) (by rw [Qr]; omega),rfl,q _ I.fresh⟩
noncomputable def Y6:R2:=λx y H Q=>∃ l k xs,x=.ref l/\y=.int k/\H l=some (.lst xs)/\-(2^63)<=k/\k < 2^63/\xs.length*k.toNat<=sizeLine /\
 ∀ p,H p=none->Q (.ref p) (upd H p (.lst (List.replicate k.toNat xs).flatten))
theorem wV (xs:List α) (k:Nat):(List.replicate k xs).flatten.length=k*xs.length:=by
 induction k with
 | zero=>simp
 | succ k ih=>rw [Xi,Zc,Qr,ih,Nat.succ_mul,Nat.add_comm]
theorem r!:d6 X (binaryOp .Mult) Y6:=by
 intro aa s σ H x y v u Q I rx ry h
 obtain ⟨l,k,xs,rfl,rfl,hH,h1,h2,hz,q⟩:=h
 cases rx
 obtain ⟨t,rfl⟩:=ry
 obtain ⟨z,its,n,r,hl,e⟩:=I.oq hH
 have hlen:its.toArray.size*k.toNat<=sizeLine:=by rw [Qj,<- hl]; exact hz
 have Kp:¬ its.toArray.size*k.toNat > (2^63 - 1) / 8:=by
  have:(sizeLine:Nat)<=(2^63 - 1) / 8:=by decide
  omega
 have Kh:¬ (!Builtin.List.listFitsIndex k)=true:=by
  rw [fitsIndex_both h1 h2]
  exact Qu
 have D0:¬ Builtin.List.listTooLong (its.toArray.size*k.toNat)=true:=by
  rw [aDo hlen]
  exact Qu
 have j4:List.foldl (λx1 x2=>x1++x2) #[] (List.replicate (if its.toArray.isEmpty=true then 0 else k.toNat) its.toArray)=(List.replicate k.toNat its).flatten.toArray:=by
  have f0:∀ m:Nat,List.foldl (λx1 x2=>x1++x2) #[] (List.replicate m its.toArray)=(List.replicate m its).flatten.toArray:=λm=>by
   have:=mI its m []
   rw [Zh] at this
   exact this
  rw [f0]
  cases its with
  | nil=>simp
  | cons a r'=>rw [if_neg (by simp)]
 refine Ut (T := "list") (U := "int") (by decide) ⟨_,e,rfl⟩ (λs'=>Ur s' k t) noFill_list_mul F.fills_int_mul F.slot_int_rmul repeat_list F.slot_int_index.lookup
  (Tn F.slot_int_rmul (Ur s k t) F.entry_int_rmul (F.args_int_rmul_2 _ _) (int___rmul___int_list k t l its.toArray n)
   ⟨e,rfl,⟨_,e,rfl⟩,Tn F.slot_list_mul ⟨_,e,rfl⟩ F.entry_list_mul (F.args_list_mul_2 _ _) (AutoListH.list___mul___list_int_3 l its.toArray n k t Kh Kp D0) ⟨e,?_⟩⟩)
 rw [j4]
 exact ⟨.ref _,_,I.AG (t':=s.toks) (r.rep k.toNat) (by rw [wV,Nat.mul_comm]; exact hz),rfl,q _ I.fresh⟩
end L2
namespace RJ
open PySem PySem.W PySem.Calls PyProof.Rows
theorem qJ {P:Params}:∀ (ns:List Int) (vs:List Value),WellAll P h vs (ns.map WData.int)->IntsAre vs ns:=by
 intro ns
 induction ns with
 | nil =>
  intro vs w
  rw [Yb] at w
  cases w
  exact .nil
 | cons n ns ih =>
  intro vs w
  rw [Jh] at w
  cases w with
  | cons a b =>
   cases a
   exact .cons _ _ (ih _ b)
theorem aCp {l:OpenLaw} (hn:l.most=some n) {P:Params} {args:List WData} {vals:List Value} (wd:l.row.toRowW.claim.pre args=true) (zk:WellAll P h vals args) :
  ∃ a vs ns,vals = [Value.ref a]/\args = [WData.list (ns.map WData.int)]/\h.get? a=some { cls:=.type "list",data:=.seq vs.toArray }/\IntsAre vs ns/\ns.length<=n:=by
 have UK:WShape.hasAll [] args [.list .int]=true:=(pre_splitW wd).1
 have hc:l.pre.holds [] { args:=args }=true:=(pre_splitW wd).2
 obtain ⟨d,r,rfl,h1,h2⟩:=hasAllW_cons UK
 obtain rfl:=hasAllW_nil h2
 obtain ⟨xs,rfl,h3⟩:=hasW_list h1
 obtain ⟨ns,rfl⟩:=items_int h3
 have hlen:ns.length<=n:=by
  unfold OpenLaw.pre at hc
  have h4:(WTm.not (.lt (.lit (.int (n:Int))) (.len (.arg 0)))).holds [] { args:=[.list (ns.map .int)] }=true:=by
   have h4:=(holds_andW hc).1
   rw [hn] at h4
   exact h4
  have h5:=condW_of h4 (w_not (w_lt w_lit (w_len_list (w_arg rfl))))
  rw [Qa] at h5
  refine Nat.le_of_not_lt λq=>?_
  have q':(n:Int) < ((ns.length:Nat):Int):=by omega
  first
   | (rw [decide_eq_true q'] at h5; exact absurd h5 (by decide))
   | (simp at h5; omega)
 cases zk with
 | cons w1 w2 =>
  cases w2
  cases w1 with
  | list ho jj=>exact ⟨_,_,ns,rfl,rfl,ho,qJ ns _ jj,hlen⟩
theorem aCq (l:OpenLaw) (args:List WData):l.row.toRowW.claim.post args (.bool true) args=true :=
 postW_of (r:=l.row.toRowW) (X:=(true==true))
  (show WShape.has [] (.bool true) .bool=true by first | rfl | decide | simp [WShape.has,WShape.arms,WShape.armsAll])
  (show (WTm.eq .res (.lit (.bool true))).value [] { args:=args,res:=some (.bool true),after:=args }=some (.bool (true==true)) from w_eq_bool (w_res rfl) w_lit) rfl
theorem k9 {l:OpenLaw} {q:Program} {d:DefRec} (hn:l.most=some n) (CB:d.params.defaults = []) (call:∀ (w:World) (fv bq:Shared) (mg mb:Str->Option Value) (fa:Addr) (o:Obj) (pm cd doc:Value) (a:Addr) (vs:List Value) (ns:List Int),
   Ground q loose [] XP w fv mg mb bq.heap->YP w bq.heap ->
   bq.heap.get? fa=some o->o.data=.func (docDef d.name d.params d.body d.scope pm cd doc)->bq.heap.CodeRec cd d.name->mg d.name=some (.ref fa) ->
   bq.heap.get? a=some { cls:=.type "list",data:=.seq vs.toArray }->IntsAre vs ns->ns.length<=n->bq.gens = #[] ->
   codeAny (model l.prog w) callerA (.call (.ref fa) ⟨[.ref a],[]⟩) (λr s'=>r=.ok (.ret (.bool true))/\OldK bq.heap s'.heap/\s'.os=bq.os/\AllBare s'.gens) bq) :
  WalkO q loose XP YP l.row.toRowW d [] (λf vs=>Mc f vs):=by
 intro w fv bq mg mb G Y fa o pm cd doc dV kV ho hd j7 hD Cr hg args vals as wd aam Bs zk Bv
 obtain rfl:dV=.none:=Dflts.none hD CB
 obtain rfl:kV=.none:=Dflts.noKw hD
 obtain ⟨a,vs,ns,rfl,rfl,AM,hints,hlen⟩:=aCp hn wd zk
 refine enter_call (Uq (call w fv bq mg mb fa o pm cd doc a vs ns G Y ho (fd_plain hd) j7 Cr AM hints hlen hg) λr s' hq=>?_)
 obtain ⟨rfl,h2,h3,h4⟩:=hq
 exact ⟨.inl ⟨.bool true,.bool true,[],rfl,λ_=>rfl,.bool true,aCq l _,λ_=>⟨List.Pairwise.nil,λ_ hm=>(nomatch hm)⟩⟩,h2,h3,h4⟩
section
variable {K:Frag}
end
end RJ
namespace L2
open PySem PySem.Spec PyProof.Rows
theorem pE:∀ {vs:List Value} {ns:List Int},IntsAre vs ns->bF (ns.map V.int) vs
 := by
 intro vs ns h
 induction h with
 | nil=>exact .nil
 | cons n t h ih=>exact .cons ⟨t,rfl⟩ ih
noncomputable def jO (s:Stmt):Arguments:=match s with
 | .FunctionDef _ a _ _ _ _ _ _ _ _=>a
 | _=>{ posonlyargs:=[],args:=[],vararg:=none,kwonlyargs:=[],kw_defaults:=[],kwarg:=none,defaults:=[] }
noncomputable def fF (s:Stmt):List Stmt:=match s with
 | .FunctionDef _ _ b _ _ _ _ _ _ _=>b
 | _=>[]
noncomputable def aF (s:Stmt):Scope:=match s with
 | .FunctionDef _ _ _ _ _ _ sc _ _ _=>sc
 | _=>{ kind:=.function,names:=[],isGenerator:=false,isCoroutine:=false }
noncomputable abbrev ao:Au:=λ_ _ _ _ _ _=>False
noncomputable abbrev E0:XK:=λ_ _ _=>False
theorem υ:IC ao X E0:=λ_ _ _ _ _ _ _ h=>h.elim
structure uo (K:Rb) (x qual:Str) (st:Stmt) (f:Addr) (fd:FuncData):Prop where
 ex:∃ (oc:Value) (od:Option Addr) (kV doc pm:Value) (an:Option Addr) (a_ ct:Value) (pj:Array (Option Value)),
  fd=Td x qual (jO st) (fF st) (aF st) .none kV doc pm an a_ ct/\K.lookup f=some ⟨oc,od,.func fd,pj⟩/\Uo K a_ qual=true
 kp:Ud K (.ref f)=true
theorem uo.ok {k:Nat} (F:uo K x qual st f fd) (S:ae N ps (aF st)) (len:∀ vs H Q E,sp vs H Q E->vs.length=ps.length) (iy:∀ (a_:Value) (A:Around) (outer:List Env) (s:Shared) (H:Hp) (vs:List V) (Q:VK) (E:XK),au k (A.deeper (envOfC qual (aF st) s.heap.objs.size f a_))->sp vs H Q E ->
   ∃ t,j9 (yU ao P w K mg base N qual (aF st) f a_ A outer s H E).za (fF st) t/\t { nx:=λ_ H'=>Q .bj H',rt:=Q } (start N vs) H):ab P w K mg base ao (k+1) f fd ps sp:=by
 obtain ⟨oc,od,kV,doc,pm,an,a_,ct,pj,rfl,lk,j7⟩:=F.ex
 refine OY lk j7 S len λA outer s H vs Q E hr ie=>?_
 obtain ⟨t,h,q⟩:=iy a_ A outer s H vs Q E hr ie
 exact ⟨t,h.za,q⟩
theorem uo.oK {k:Nat} (F:uo K x qual st f fd) (S:ae N ps (aF st)) (iy:∀ (a_:Value) (A:Around) (outer:List Env) (s:Shared) (H:Hp) (vs:List V) (Q:VK) (E:XK),au k (A.deeper (envOfC qual (aF st) s.heap.objs.size f a_))->sp vs H Q E ->
   ∃ t,j9 (yU ao P w K mg base N qual (aF st) f a_ A outer s H E).za (fF st) t/\t { nx:=λ_ H'=>Q .bj H',rt:=Q } (start N vs) H) (len:∀ vs H Q E,sp vs H Q E->vs.length=ps.length:=by
  intro vs H Q E h
  repeat (first | (obtain ⟨h,-⟩:=h; subst h; rfl) | obtain ⟨_,h⟩:=h)):ab P w K mg base ao (k+1) f fd ps sp:=F.ok S len iy
theorem uo.binds (F:uo K x qual st f fd) (h:∀ (kV doc pm:Value) (an:Option Addr) (a_ ct:Value) (us:List Value),us.length=ps.length->bindArgs (Td x qual (jO st) (fF st) (aF st) .none kV doc pm an a_ ct) ⟨us,[]⟩=pure (ps.zip us)):vL K fd ps []:=by
 obtain ⟨oc,od,kV,doc,pm,an,a_,ct,pj,rfl,lk,j7⟩:=F.ex
 exact .all (h kV doc pm an a_ ct)
theorem Pc {kV:Value} (l:K.lookup f=some ⟨oc,od,.func (Td x qual (jO st) (fF st) (aF st) .none kV doc pm an a_ ct),pj⟩) (c:Uo K a_ qual=true) (k:Ud K (.ref f)=true):uo K x qual st f (Td x qual (jO st) (fF st) (aF st) .none kV doc pm an a_ ct):=⟨⟨oc,od,kV,doc,pm,an,a_,ct,pj,rfl,l,c⟩,k⟩
theorem kF {k:Nat} (hr:au k A):A.units+1 < cLine:=Xg (Nat.add_le_add_left (by decide:1<=64) _) hr.units
theorem pv (i:Nat) {pos:Pos} (hN:X.N[i]?=some x:=by rfl) (hv:Fj X.env.scope x:=by first | exact Or.inl rfl | exact Or.inr (Or.inl rfl) | exact Or.inr (Or.inr rfl)) (hd:(x==("__debug__" : Str))=false:=by decide) (j7:(x==("__classdict__" : Str))=false:=by decide):PE X (.Name x pos) (Ol i):=g? hN hv hd j7
theorem iS {A:Prop} (h:B):if false=true then A else B:=by
 rw [if_neg Qu]
 exact h
theorem iE {A:Prop} (h:A):if true=true then A else B:=by
 rw [if_pos rfl]
 exact h
theorem gC {c A:Prop} [Decidable c] (h1:c->A) (h2:¬ c->B):if c then A else B:=by
 by_cases h:c
 ·rw [if_pos h]
  exact h1 h
 ·rw [if_neg h]
  exact h2 h
noncomputable def aD (H H':Hp):Prop:=∀ b o,H b=some o->H' b=some o
theorem aD.refl (H:Hp):aD H H:=λ_ _ h=>h
theorem aD.trans (a:aD H H1) (b:aD H1 H2):aD H H2:=λc o h=>b c o (a c o h)
theorem aD.free (e:aD H H') {l:Addr} (h:H' l=Option.none):H l=Option.none:=by
 cases q:H l with
 | none=>rfl
 | some o =>
  rw [e l o q] at h
  cases h
noncomputable def fM (env:Env):List (Str×NameKind)->List (Str×Addr)->List (Str×Addr)
 | [],acc=>acc
 | (n,k)::r,acc=>if k==.free then (match env.cells.lookup n with | some c=>fM env r ((n,c)::acc) | none=>fM env r acc) else fM env r acc
theorem yX {env:Env}:∀ (names:List (Str×NameKind)) (acc:List (Str×Addr)),(∀ y∈names,y.2=.free->∃ c,env.cells.lookup y.1=some c) ->
  (forIn names acc λ(x:Str×NameKind) (r:List (Str×Addr))=>(match x with
   | (name,kind)=>if (kind==NameKind.free)=true then (do let a<-cellOf env name; pure (ForInStep.yield ((name,a)::r))) else pure (ForInStep.yield r):Sem (ForInStep (List (Str×Addr)))))=(pure (fM env names acc):Sem _)
 | [],acc,_=>rfl
 | (n,k)::r,acc,h=>by
  have ih:=λacc=>yX r acc λy hy=>h y (Qo _ hy)
  rw [Zs]
  by_cases hk:(k==NameKind.free)=true
  ·obtain ⟨c,hc⟩:=h (n,k) Ql (by simpa using hk)
   have e1:fM env ((n,k)::r) acc=fM env r ((n,c)::acc):=by
    show (if k==.free then _ else _)=_
    rw [if_pos hk]; simp only at hc; rw [hc]
   simp only at hc
   rw [e1,<- ih]
   simp only [hk,if_true,cellOf,hc]
   rfl
  ·have e1:fM env ((n,k)::r) acc=fM env r acc:=by
    show (if k==.free then _ else _)=_
    rw [if_neg hk]
   rw [e1,<- ih]
   simp only [hk,if_false]
   rfl
theorem Pb {env:Env} (h:∀ y∈scope.names,y.2=.free->∃ c,env.cells.lookup y.1=some c):closureFor scope env=pure (fM env scope.names []):=by
 unfold closureFor
 have e:=yX scope.names [] h
 show (forIn scope.names [] _ >>= _)=_
 exact (congrArg (λz=>z >>= λr=>pure r) e).trans rfl
theorem lP {env:Env}:∀ (names:List (Str×NameKind)) (acc:List (Str×Addr)) (n:Str) (c:Addr),(n,c)∈fM env names acc->(n,c)∈acc∨env.cells.lookup n=some c
 | [],_,_,_,h=>.inl h
 | (m,k)::r,acc,n,c,h=>by
  by_cases hk:(k==NameKind.free)=true
  ·rw [show fM env ((m,k)::r) acc=(match env.cells.lookup m with | some c=>fM env r ((m,c)::acc) | none=>fM env r acc) from if_pos hk] at h
   cases e:env.cells.lookup m with
   | none=>rw [e] at h; exact lP r acc n c h
   | some d =>
    rw [e] at h
    rcases lP r _ n c h with q | q
    ·rcases Qk.mp q with q | q
     ·cases q; exact .inr e
     ·exact .inl q
    ·exact .inr q
  ·rw [show fM env ((m,k)::r) acc=fM env r acc from if_neg hk] at h
   exact lP r acc n c h
theorem lQ {env:Env}:∀ (names:List (Str×NameKind)) (acc:List (Str×Addr)) (n:Str),((∃ c,(n,c)∈acc)∨((n,NameKind.free)∈names/\∃ c,env.cells.lookup n=some c))->∃ c,(n,c)∈fM env names acc
 | [],_,_,h=>by
  rcases h with h | ⟨h,_⟩
  ·exact h
  ·cases h
 | (m,k)::r,acc,n,h=>by
  by_cases hk:(k==NameKind.free)=true
  ·rw [show fM env ((m,k)::r) acc=(match env.cells.lookup m with | some c=>fM env r ((m,c)::acc) | none=>fM env r acc) from if_pos hk]
   cases e:env.cells.lookup m with
   | none =>
    refine lQ r acc n ?_
    rcases h with h | ⟨h,c,hc⟩
    ·exact .inl h
    ·rcases Qk.mp h with h | h
     ·cases h; rw [e] at hc; cases hc
     ·exact .inr ⟨h,c,hc⟩
   | some d =>
    refine lQ r _ n ?_
    rcases h with ⟨c,h⟩ | ⟨h,c,hc⟩
    ·exact .inl ⟨c,Qo _ h⟩
    ·rcases Qk.mp h with h | h
     ·cases h; exact .inl ⟨d,Ql⟩
     ·exact .inr ⟨h,c,hc⟩
  ·rw [show fM env ((m,k)::r) acc=fM env r acc from if_neg hk]
   refine lQ r acc n ?_
   rcases h with h | ⟨h,c,hc⟩
   ·exact .inl h
   ·rcases Qk.mp h with h | h
    ·cases h; exact absurd rfl hk
    ·exact .inr ⟨h,c,hc⟩
theorem jP:∀ {l:List (Str×β)} {a:Str} {b:β},l.lookup a=some b->(a,b)∈l:=PySem.mem_of_lookup_some
theorem lR:∀ {l:List (Str×β)} {a:Str} {b:β},(a,b)∈l->∃ c,l.lookup a=some c
 | (k,v)::l,a,b,h=>by
  rw [Xa]
  by_cases e:(a==k)=true
  ·rw [e]; exact ⟨v,rfl⟩
  ·have e':(a==k)=false:=by simpa using e
   rw [e']
   rcases Qk.mp h with h | h
   ·cases h; simp at e
   ·exact lR h
theorem jC {env:Env} (x:Str):∀ (names:List (Str×NameKind)),
  (names.map λ(n,k)=>if (k==NameKind.free && env.scope.kind==.function && env.kindOf n==some .cell) then (n,NameKind.cell) else (n,k)).lookup x =
   (names.lookup x).map λk=>if (k==NameKind.free && env.scope.kind==.function && env.kindOf x==some .cell) then NameKind.cell else k
 | []=>rfl
 | (n,k)::r=>by
  have ih:=jC (env:=env) x r
  rw [Jh]
  by_cases e:(x==n)=true
  ·have en:x=n:=by simpa using e
   subst en
   dsimp only
   by_cases c:(k==NameKind.free && env.scope.kind==.function && env.kindOf x==some .cell)=true
   ·rw [if_pos c,Xa,Xa,e]
    simp only [Xs,c,if_true]
   ·rw [if_neg c,Xa,Xa,e]
    simp only [Xs,c]
    rfl
  ·have e':(x==n)=false:=by simpa using e
   dsimp only
   by_cases c:(k==NameKind.free && env.scope.kind==.function && env.kindOf n==some .cell)=true
   ·rw [if_pos c,Xa,Xa,e']; exact ih
   ·rw [if_neg c,Xa,Xa,e']; exact ih
noncomputable def zc (z:Option Str) (C:Addr):List (Str×Addr):=match z with
 | none=>[]
 | some x=>[(x,C+1)]
theorem kS (h:(zc z C++cl).lookup x=some c):(z=some x/\c=C+1)∨(z≠some x/\cl.lookup x=some c):=by
 cases z with
 | none=>exact .inr ⟨λq=>(by cases q),h⟩
 | some z0 =>
  have h:((z0,C+1)::cl).lookup x=some c:=h
  rw [Xa] at h
  cases e:x==z0 with
  | true=>rw [e] at h; exact .inl ⟨by rw [show x=z0 by simpa using e],(Option.some.inj h).symm⟩
  | false=>rw [e] at h; exact .inr ⟨λq=>(by cases q; simp at e),h⟩
theorem OX (h:z≠some x):(zc z C++cl).lookup x=cl.lookup x:=by
 cases z with
 | none=>rfl
 | some z0 =>
  show ((z0,C+1)::cl).lookup x=_
  rw [Xa,show (x==z0)=false by simpa using λq=>h (by rw [q])]
theorem τ:(zc (some x) C++cl).lookup x=some (C+1):=by
 show ((x,C+1)::cl).lookup x=_
 rw [Xa,show (x==x)=true by simp]
noncomputable def bY (X:Cx) (scope:Scope) (z:Option Str) (N:List Str) (C:Addr) (s0:Shared) (H0:Hp) (fp:List Addr):Cx where
 prog:=X.prog
 w:=X.w
 K:=X.K
 mg:=X.mg
 base:=X.base
 A:=X.A
 N:=N
 fv:=s0
 qw:=H0
 env:={ compEnvC scope (fM X.env scope.names []) C X.env with cells:=zc z C++fM X.env scope.names [] }
 outer:=X.stack
 stack:=X.stack
 ex:=fp
 fn:=λy=>z==some y
 calm:=X.calm
 pn:=[]
 xe:=λ_ _=>False
noncomputable def kG (sc scope:Scope) (z:Option Str) (own:List Str) (a9:List Str):Bool :=
 scope.kind==.function && scope.names.all (λy=>y.2 !=.cell || z==some y.1) && scope.names.all (λy=>y.2 !=.local || scope.names.lookup y.1==some .local) &&
 scope.names.all (λy=>y.2 !=.free || sc.names.lookup y.1==some .cell || sc.names.lookup y.1==some .free) && decide (own++a9).Nodup &&
 a9.all (λx=>scope.names.lookup x==some .free) && scope.names.all (λy=>y.2 !=.free || z !=some y.1)
noncomputable def d7 (own:Nat) (fr:List Nat) (σ:St):St:=List.replicate own none++fr.map λj=>(σ[j]?).join
structure bg (X:Cx) (scope:Scope) (z:Option Str) (own:List Str) (fr:List Nat) (a9:List Str):Prop where
 ck:kG X.env.scope scope z own a9=true
 ix:∀ (k:Nat) (x:Str),a9[k]?=some x->∃ j:Nat,fr[k]?=some j/\X.N[j]?=some x
 len:fr.length=a9.length
 cf:∀ z0,z=some z0->(∀ (n:Nat) (cl:List (Str×Addr)),cellsFrom n scope.names cl=(z0,n)::cl)/\∀ h:Heap,pushCells h scope.names=h.push { cls:=.type "cell",data:=.cell none }
theorem bg.parts (S:bg X scope z own fr a9):scope.kind=.function/\(∀ y∈scope.names,y.2=.cell->z=some y.1)/\(∀ y∈scope.names,y.2=.local->scope.names.lookup y.1=some .local) /\
  (∀ y∈scope.names,y.2=.free->X.env.scope.names.lookup y.1=some .cell∨X.env.scope.names.lookup y.1=some .free)/\(own++a9).Nodup/\(∀ x∈a9,scope.names.lookup x=some .free)/\∀ y∈scope.names,y.2=.free->z≠some y.1:=by
 have h:=S.ck
 unfold kG at h
 simp only [Jm,Qt,decide_eq_true_eq,Bool.or_eq_true,bne_iff_ne,ne_eq,beq_iff_eq] at h
 obtain ⟨⟨⟨⟨⟨⟨h1,h2⟩,h3⟩,h4⟩,h5⟩,h7⟩,h9⟩:=h
 exact ⟨h1,λy hy e=>(h2 y hy).resolve_left λq=>q e,λy hy e=>(h3 y hy).resolve_left λq=>q e,λy hy e=>by
  rcases h4 y hy with (q | q) | q
  ·exact absurd e q
  ·exact .inl q
  ·exact .inr q,h5,h7,λy hy e=>(h9 y hy).resolve_left λq=>q e⟩
theorem bg.env (S:bg X scope z own fr a9) {Q:Env->Shared->Prop} (h:∀ i8 tk,i8.Ns s.heap.objs.size (λ_=>none)->(∀ b o,s.heap.get? b=some o->i8.get? b=some o)->(z≠none->i8.IsCell (s.heap.objs.size+1) none)->Q (newEnv scope s.heap.objs.size X.env.globals (zc z s.heap.objs.size++fM X.env scope.names []) X.env.qual none .none (some X.env) builtinsNs) { s with heap:=i8,toks:=tk }) :
  wpAny M A (newFunctionEnv scope X.env.globals (fM X.env scope.names []) [] X.env.qual none .none (some X.env)) Q E s:=by
 obtain ⟨p1,p2,_⟩:=S.parts
 cases z with
 | none=>exact Mm (λy hy e=>by cases p2 y hy e) (by intro y hy; simp at hy) (λi8 fw Bq=>h i8 _ fw (λb o e=>Bq.extBut b o (Jc (Qm e)) (Qb _ e)) λq=>absurd rfl q) p1
 | some z0 =>
  obtain ⟨cf,pc⟩:=S.cf z0 rfl
  simp only [newFunctionEnv,Qaa,if_true]
  refine Ra (wpAny_alloc ?_)
  refine Ra (wpAny_layCells _ (λname kind cells=>by cases VA:kind==NameKind.cell <;> simp [VA]) _ _ _ _ ?_)
  rw [cf,pc,show ({ s with heap:=s.heap.push { cls:=.type "dict",data:=.dict #[] } }:Shared).heap.objs.size=s.heap.objs.size+1 from Jk ..]
  rw [Zn]
  refine Ra (Rc (Rc (h _ s.toks ((Heap.Ns.new s.heap (.type "dict")).push _) (λb o e=>Qb _ (Qb _ e)) λ_=>⟨{ cls:=.type "cell",data:=.cell none },by
   have e:=Qh (s.heap.push { cls:=.type "dict",data:=.dict #[] }) (o:={ cls:=.type "cell",data:=.cell none }) rfl
   rw [Jk] at e
   exact e,rfl⟩)))
theorem bg.KD (S:bg X scope z own fr a9) (σ:St):(d7 own.length fr σ).length=(own++a9).length:=by
 unfold d7
 rw [Qr,Qr,Xh,Qa,S.len]
theorem aDs {σ:St} {h1:Heap} {tk:Nat} {D:Addr} {oD:Obj} {m:Str->Option Value} (I:Inv X aa σ H s) (S:bg X scope z own fr a9) (jd:∀ b∈fp,lM X aa H b) (ax:∀ b∈fp,b < s.heap.objs.size) (hC:s.heap.objs.size<=C) (hn:h1.Ns C m) (hk:∀ b o,s.heap.get? b=some o->h1.get? b=some o) (hD:s.heap.objs.size<=D) (vf:D≠C) (UZ:h1.get? D=some oD) (VU:∀ v,oD.data≠.cell v) (uh:z≠none->h1.IsCell (C+1) none) :
  Inv (bY X scope z (own++a9) C s H fp) [(D,oD)] (d7 own.length fr σ) H { s with heap:=h1,toks:=tk }:=by
 obtain ⟨p1,p2,p3,p4,p5,p7,p9⟩:=S.parts
 have below:∀ b,b < s.heap.objs.size->b≠C:=λb hb z=>Js _ (Qq (z ▸ hb) hC)
 have gk:∀ x c,(fM X.env scope.names []).lookup x=some c->X.env.cells.lookup x=some c:=λx c e=>by
  rcases lP _ _ _ _ (jP e) with q | q
  ·cases q
  ·exact q
 have N0:∀ x c,X.env.cells.lookup x=some c->c < s.heap.objs.size:=λx c e=>by
  obtain ⟨v,q⟩:=I.cell x c e
  exact q.lt
 have JJ:∀ b∈fp,b∉m_ X.stack:=λb hb z=>by
  obtain ⟨_,f1,f2,_⟩:=jd b hb
  rcases Qk.mp (I.f7 b z) with e | e
  ·exact f1 e
  ·exact f2 e
 have Dfs:D∉m_ X.stack:=λz=>by
  have q:=I.f7 D z
  rcases Qk.mp q with e | e
  ·exact Js _ (Qq (e ▸ I.lt:D < _) hD)
  ·exact I.AA hD e
 refine ⟨⟨I.ok.mod,p1,I.ok.glob,I.ok.blt,hC,λx y c e1 e2=>?inj,λx hx=>?has,λx c e e2=>?Ak,I.ok.hd,I.ok.frames,.inl rfl,λb hb=>?ES,I.bs,Qw I.ok.Al I.sz,λb o e hb=>?kq,JJ,I.stack,I.ny⟩,
  rfl,I.bare,Un.kept hk,⟨m,hn,λi x v e1 e2 e3=>?loc⟩,λx c e=>?cell,I.az.fresh hC,λx c e=>?cu,λp hp=>?pin,I.az.kept hk,S.KD σ⟩
 case inj =>
  have CU:(zc z C++fM X.env scope.names []).lookup x=some c:=e1
  have js:(zc z C++fM X.env scope.names []).lookup y=some c:=e2
  rcases kS CU with ⟨r1,rfl⟩ | ⟨n1,q1⟩ <;> rcases kS js with ⟨r2,e⟩ | ⟨n2,q2⟩
  ·exact Option.some.inj (r1.symm.trans r2)
  ·exact absurd (N0 _ _ (gk _ _ q2)) (Nat.not_lt.mpr (Zd hC))
  ·subst e
   exact absurd (N0 _ _ (gk _ _ q1)) (Nat.not_lt.mpr (Zd hC))
  ·exact I.ok.inj x y c (gk x c q1) (gk y c q2)
 case has =>
  have my:(relabel scope X.env).names.lookup x=some .cell∨(relabel scope X.env).names.lookup x=some .free:=hx
  show ∃ c,(zc z C++fM X.env scope.names []).lookup x=some c
  by_cases hz:z=some x
  ·rw [hz,τ]
   exact ⟨_,rfl⟩
  ·rw [OX hz]
   have hl:(relabel scope X.env).names.lookup x=_:=jC (env:=X.env) x scope.names
   rw [hl] at my
   cases e:scope.names.lookup x with
   | none =>
    rw [e] at my
    rcases my with z | z <;> cases z
   | some k =>
    have jh:=jP e
    have U_:k=.free:=by
     rw [e] at my
     simp only [Xs,Option.some.injEq] at my
     by_cases c:(k==NameKind.free && X.env.scope.kind==.function && X.env.kindOf x==some .cell)=true
     ·simp only [Jm,beq_iff_eq] at c
      exact c.1.1
     ·rw [if_neg c] at my
      rcases my with z | z
      ·exact absurd (p2 _ jh z) hz
      ·exact z
    subst U_
    obtain ⟨c,hc⟩:=I.ok.has x (p4 _ jh rfl)
    obtain ⟨c',aj⟩:=lQ (env:=X.env) scope.names [] x (.inr ⟨jh,c,hc⟩)
    exact lR aj
 case Ak =>
  have e':(z==some x)=true:=e
  have js:(zc z C++fM X.env scope.names []).lookup x=some c:=e2
  rcases kS js with ⟨_,rfl⟩ | ⟨n1,_⟩
  ·exact Zd hC
  ·exact absurd (by simpa using e') n1
 case ES =>
  refine ⟨below b (ax b hb),λx c e=>?_⟩
  have e':(zc z C++fM X.env scope.names []).lookup x=some c:=e
  rcases kS e' with ⟨_,rfl⟩ | ⟨_,q⟩
  ·exact λz=>Js _ (Qq (ax b hb) (by rw [<- z]; exact Zd hC))
  ·exact (jd b hb).2.2.2.2.1 x c (gk x c q)
 case kq =>
  rcases (jd b hb).2.2.2.1 with z | z
  ·exact I.ok.kq b o e z
  ·exact absurd (Qq (Qm (I.ok.bs b o e).1) z) (Js _)
 case loc =>
  show ∃ u,bE v u/\Om _ _ _ x u
  have CU:(own++a9)[i]?=some x:=e1
  have js:(d7 own.length fr σ)[i]?=some (some v):=e2
  unfold d7 at js
  by_cases hi:i < own.length
  ·rw [Jb (by simpa using hi),Xc] at js
   rw [if_pos hi] at js
   cases js
  ·rw [Jp (by simpa using hi)] at js
   rw [Jp (by omega)] at CU
   rw [Xh,Qe] at js
   obtain ⟨j,u7,qi⟩:=S.ix _ _ CU
   rw [u7] at js
   simp only [Xs,Option.some.injEq] at js
   have gq:σ[j]?=some (some v):=by
    cases q:σ[j]? with
    | none=>rw [q] at js; cases js
    | some w=>rw [q] at js; exact congrArg some js
   have iw:=p7 x (Qg CU)
   have jh:=jP iw
   have TZ:z≠some x:=p9 _ jh rfl
   have kx:=p4 _ jh rfl
   have R_:Fj X.env.scope x:=by
    rcases kx with z | z
    ·exact .inr (.inl z)
    ·exact .inr (.inr z)
   obtain ⟨m0,hn0,LQ⟩:=I.loc
   obtain ⟨u,ru,lk⟩:=LQ j x v qi gq R_
   refine ⟨u,ru,.inr ⟨?_,?_⟩⟩
   ·show (relabel scope X.env).names.lookup x=some .cell∨(relabel scope X.env).names.lookup x=some .free
    have hl:(relabel scope X.env).names.lookup x=_:=jC (env:=X.env) x scope.names
    rw [hl,iw]
    simp only [Xs,Option.some.injEq]
    by_cases c:(NameKind.free==NameKind.free && X.env.scope.kind==.function && X.env.kindOf x==some .cell)=true
    ·rw [if_pos c]; exact .inl rfl
    ·rw [if_neg c]; exact .inr rfl
   ·rcases lk with ⟨kl,_⟩ | ⟨_,c,hc,dr⟩
    ·have TN:X.env.scope.names.lookup x=some .local:=kl
     rcases kx with z | z <;> (have z':X.env.scope.names.lookup x=_:=z; rw [TN] at z'; cases z')
    ·obtain ⟨c',aj⟩:=lQ (env:=X.env) scope.names [] x (.inr ⟨jh,c,hc⟩)
     obtain ⟨c2,me⟩:=lR aj
     have ec:c2=c:=by
      have:=gk x c2 me
      rw [hc] at this
      exact (Option.some.inj this).symm
     subst ec
     obtain ⟨oc,ho,hd⟩:=dr
     exact ⟨c2,(OX TZ).trans me,oc,hk _ _ ho,hd⟩
 case cell =>
  have e':(zc z C++fM X.env scope.names []).lookup x=some c:=e
  rcases kS e' with ⟨_,rfl⟩ | ⟨_,q⟩
  ·exact ⟨none,uh λq=>by simp_all⟩
  ·obtain ⟨v,o,ho,hd⟩:=I.cell x c (gk x c q)
   exact ⟨v,o,hk _ _ ho,hd⟩
 case cu =>
  have e':(zc z C++fM X.env scope.names []).lookup x=some c:=e
  rcases kS e' with ⟨_,rfl⟩ | ⟨_,q⟩
  ·exact I.az.fresh (Zd hC)
  ·exact I.cu x c (gk x c q)
 case pin =>
  have x8:p∈([]:List (Addr×Obj))++[(D,oD)]:=hp
  simp only [Zh,Qs] at x8
  subst x8
  exact ⟨UZ,I.az.fresh hD,vf,Dfs,VU⟩
structure c7 (P:Program) (w:World) (A:Around) (e:Expr) (d:Nat) (tg iter:Expr) (ifs:List Expr) (bd:Env->Addr->Sem Unit):Prop where
 BY:∀ (it:Value) (D:Addr) (env:Env),A.under (.compLoop e d it (.ref D) env)=A/\(model P w).den (.compLoop e d it (.ref D) env)=(compTurn e d it (.ref D) env).onRaise (λx=>do noteFrame x env; theTreesLotGoes x)
 turn:∀ (it:Value) (D:Addr) (env:Env),compTurn e d it (.ref D) env=(do
   standAt iter.pos
   match<-pyNext it with
   | none=>pure (.done .next)
   | some v =>
    letOwnedTupleGo tg it v
    assign tg env v
    let mut ok:=true
    for c in ifs do
     if ok then ok<-isTrue c env (eval c env)
    if ok then bd env D
    again (.compLoop e d it (.ref D) env))
 start:∀ {R:Result->Shared->Prop} {s:Shared} {it acc:Value} {env:Env},codeAny (model P w) A (.compLoop e d it acc env) R s->wpAny (model P w) A (pyIter it) (λCc s'=>codeAny (model P w) A (.compLoop e d Cc acc env) R s') (notedBy (model P w) A env λx s'=>R (.error x) s') s->codeAny (model P w) A (.compStart e d it acc env) R s
structure d8 {α:Type} (P:Program) (w:World) (A:Around) (na:Sem Value) (a0:α) (Ok:Addr->α->Heap->Prop):Prop where
 new:∃ o0:Obj,(∀ v,o0.data≠.cell v)/\o0.isFreed=false/\(∀ (h:Heap) D,h.get? D=some o0->Ok D a0 h)/\∀ {Q:Value->Shared->Prop} {E:Value->Shared->Prop} {s:Shared},Q (.ref s.heap.objs.size) { s with heap:=s.heap.push o0 }->wpAny (model P w) A na Q E s
 keep:∀ {D:Addr} {a:α} {h h':Heap},Ok D a h->(∀ o,h.get? D=some o->h'.get? D=some o)->Ok D a h'
 obj:∀ {D:Addr} {a:α} {h:Heap},Ok D a h->∃ o,h.get? D=some o/\∀ v,o.data≠.cell v
theorem yY {d:Nat} {D:Addr} {target:Expr} {it:Value} {env:Env} (LO:c7 prog w A e d target iter ifs bd) (I:Nat->Shared->Prop) (turn:∀ n s,I n s->wpAny (model prog w) A (pyNext it) (λr bq=>match r with
   | none=>R (.ok .next) bq
   | some v=>wpAny (model prog w) A (letOwnedTupleGo target it v) (λ_ K5=>wpAny (model prog w) A (assign target env v) (λ_ gn =>
     wpAny (model prog w) A (forIn ifs true λc r=>if r=true then do let ok<-isTrue c env (eval c env); pure (ForInStep.yield ok) else pure (ForInStep.yield r)) (λok xl =>
      if ok=true then wpAny (model prog w) A (bd env D) (λ_ K1=>∃ m,m < n/\I m K1) (λ_ _=>False) xl
      else ∃ m,m < n/\I m xl) (λ_ _=>False) gn) (λ_ _=>False) K5) (λ_ _=>False) bq) (λ_ _=>False) s) (n:Nat) (h:I n s) :
  codeAny (model prog w) A (.compLoop e d it (.ref D) env) R s:=by
 refine codeAny_loop rfl I (λn s hI=>?_) n h
 rw [(LO.BY it D env).1,(LO.BY it D env).2]
 refine wpAny_noted ?_
 rw [LO.turn]
 refine Ra (Tc (Ra (Ru (turn n s hI) (λr bq i8=>?_) λ_ _ h'=>h'.elim)))
 cases r with
 | none=>exact Rc i8
 | some v =>
  refine Ra (Ru i8 (λ_ K5 Ks=>?_) λ_ _ h'=>h'.elim)
  refine Ra (Ru Ks (λ_ gn Ag=>Ra (Ru Ag (λok xl EL=>?_) λ_ _ h'=>h'.elim)) λ_ _ h'=>h'.elim)
  cases ok with
  | false=>exact Rc ⟨rfl,EL⟩
  | true=>exact Ra (Ru EL (λ_ K1 WD=>Rc ⟨rfl,WD⟩) λ_ _ h'=>h'.elim)
noncomputable def PF (X:Cx) (ifs:List Expr) (t:TT):Prop :=
 ∀ (aa:List (Addr×Obj)) (s:Shared) (σ:St) (H:Hp) (Q:Bool->Hp->Prop),Inv X aa σ H s->t σ H Q ->
  wpAny (model X.prog X.w) X.A (forIn ifs true λc r=>if r=true then do let ok<-isTrue c X.env (eval c X.env); pure (ForInStep.yield ok) else pure (ForInStep.yield r)) (TP X aa σ Q) X.xe s
noncomputable def pF:TT:=λ_ H Q=>Q true H
theorem bZ:PF X [] pF:=λ_ _ _ H _ I h=>wpAny_tests_nil ⟨H,I,h⟩
theorem lT {c:Expr} {t:TT} (h:PT X c t):PF X [c] t:=λaa s σ H Q I hq=>wpAny_tests_one (h aa s σ H Q I hq)
noncomputable def ja (J:It) (a0:α) (Ea:St) (H1:Hp) (q:α->St->Hp->Prop) (g:TG) (tt:TT) (tb:α->St->Hp->(α->St->Hp->Prop)->Prop):Prop:=∃ W:Nat->Nat->α->St->Hp->Prop,(∃ m,W 0 m a0 Ea H1)/\∀ i m a ar H,W i m a ar H->(J.stop i H/\q a ar H) ∨
 (J.go i H/\∃ N:α->St->Hp->Prop,(∀ a' a8 H2,N a' a8 H2->∃ m',m' < m/\W (i+1) m' a' a8 H2)/\∀ x H',J.oy i H x H'->g x ar H' λa8 H2=>tt a8 H2 λb H3=>if b=true then tb a a8 H3 N else N a a8 H3)
noncomputable def oa (te:TE) (ys:List V) (σ:St) (H:Hp) (R:List V->St->Hp->Prop):Prop:=te σ H λy H4=>ys.length < sizeLine/\R (ys++[y]) σ H4
noncomputable def OV (own:Nat) (fr:List Nat) (wi:TI) (g:TG) (tt:TT) (te:TE):TE:=λσ H Q=>wi σ H λJ H1=>ja J [] (d7 own fr σ) H1 (λys _ H=>∀ p,H p=none->Q (.ref p) (upd H p (.lst ys))) g tt (oa te)
structure Fz (Y:Cx) (D:Addr) (ps:List (Addr×Obj)):Prop where
 L:D≠Y.env.locals
 ex:D∈Y.ex∨Y.fv.heap.objs.size<=D
 c:∀ x c,Y.env.cells.lookup x=some c->c≠D
 pn:∀ p∈Y.pn,p.1≠D
 fs:D∉Y.fs
 ps:∀ p∈ps,p.1≠D
section
variable {d:Nat} {gs:List Comprehension} {pos:Pos} {wi:TI} {na:Sem Value} {a0:α} {Ok:Addr->α->Heap->Prop} {tb:α->St->Hp->(α->St->Hp->Prop)->Prop} {ps:List (Addr×Obj)} {σ:St} {D:Addr}
theorem Inv.su {u:HO} (I:Inv X aa σ H s) (hn:H D=none) (hL:D≠X.env.locals)
  (h1:X.fv.heap.objs.size<=D) (h2:∀ x c,X.env.cells.lookup x=some c->c≠D) (h3:∀ p∈X.pn++aa,p.1≠D) (hu:bO X.prog X.w (upd H D u) s.heap D u):Inv X aa σ (upd H D u) s:=by
 have ne:∀ b u,H b=some u->b≠D:=λb u e z=>by rw [z,hn] at e; cases e
 refine I.step (g':=s.gens) (d':=s.drawn) (t':=s.toks) (h':=s.heap) (ch:=[D]) (λb hb=>?_) (λb o _ _ _ e _=>e) (λb o _ _ _ e _=>⟨o.slots,e⟩) (λb o hc _ n=>?_) (λb o _ e=>⟨o,e⟩)
  (λb xs e=>by rw [aI (ne b _ e)]; exact e) (λb o u e=>by rw [aI (ne b _ e)]; exact e) (λb ps e=>⟨#[],by rw [aI (ne b _ e),e]; simp⟩) (λ_ h=>h) (λb u e=>?_) I.bare
 ·have e:b=D:=by simpa using hb
  subst e
  exact ⟨.inr h1,hL,h2,h3⟩
 ·rw [aI (by simpa using hc)]; exact n
 ·by_cases hb:b=D
  ·subst hb
   rw [aB] at e; cases e
   exact hu
  ·rw [aI hb] at e
   exact (I.az b u e).dc (λc v _ q=>q) (λc q=>by rw [aI (ne c _ q)]; exact q) λc xs q=>by rw [aI (ne c _ q)]; exact q
theorem Fz.put {t:Nat} {a:α} (dn:Fz Y D ps) (AO:d8 Y.prog Y.w Y.A na a0 Ok) (I:Inv Y ((D,o)::ps) σ H s) (sb:Heap.SameBut D s.heap h') (ok:Ok D a h'):∃ o',Inv Y ((D,o')::ps) σ H { s with heap:=h',toks:=t }:=by
 have hD:=(I.pin (D,o) (Jf _ (Ql ..))).2.1
 have I':Inv Y [] σ H s:=I.fm λp hp=>by cases hp
 have I11:=I'.turned (t':=t) (it:=D) (λb o hb e=>(sb.2 b hb).trans e) hD dn.L dn.ex dn.c (λp hp=>by rw [Xl] at hp; exact dn.pn p hp)
 obtain ⟨o',e',c'⟩:=AO.obj ok
 refine ⟨o',I11.fm λp hp=>?_⟩
 rcases Qk.mp hp with h | h
 ·subst h
  exact ⟨e',hD,dn.L,dn.fs,c'⟩
 ·obtain ⟨a1,a2,a3,a4,a5⟩:=I.pin p (Jf _ (Qo _ h))
  exact ⟨(sb.2 p.1 (dn.ps p h)).trans a1,a2,a3,a4,a5⟩
noncomputable def kT (Y:Cx) (bd:Env->Addr->Sem Unit) (Ok:Addr->α->Heap->Prop) (tb:α->St->Hp->(α->St->Hp->Prop)->Prop):Prop:=∀ ps s σ H D o a R,Fz Y D ps->Inv Y ((D,o)::ps) σ H s->Ok D a s.heap->tb a σ H R->wpAny (model Y.prog Y.w) Y.A (bd Y.env D) (λ_ s'=>∃ ar H' a' o',Inv Y ((D,o')::ps) ar H' s'/\Ok D a' s'.heap/\R a' ar H') Y.xe s
theorem d8.dc {a:α} {ar:St} (AO:d8 Y.prog Y.w Y.A na a0 Ok) (I:Inv Y ((D,o)::ps) σ H s) (I':Inv Y ((D,o)::ps) ar H' s') (pl:Ok D a s.heap):Ok D a s'.heap :=
 AO.keep pl λ_ e=>(I'.pin (D,o) (Jf _ (Ql ..))).1.trans ((I.pin (D,o) (Jf _ (Ql ..))).1.symm.trans e)
theorem vS {tn:Nat->Heap->Prop} {a:α} {F:α->St->Hp->Prop} (LO:c7 Y.prog Y.w Y.A e d tg iter ifs bd) (AO:d8 Y.prog Y.w Y.A na a0 Ok) (hx:∀ v s',¬ Y.xe v s') (hc:Y.calm=true) (T:Turn Y.prog Y.w Y.K tg J fp it tn) (hg:PG Y tg g) (ht:PF Y ifs tt) (hb:kT Y bd Ok tb) (dn:Fz Y D ps) (I0:Inv Y ((D,o)::ps) σ H s) (SS:Ok D a s.heap) (Ej:tn 0 s.heap) (f0:∀ b∈fp,lM Y ((D,o)::ps) H b) (w:ja J a σ H F g tt tb) (hR:∀ (s':Shared) (ar:St) (H':Hp) (a':α) (o':Obj),Inv Y ((D,o')::ps) ar H' s'->Ok D a' s'.heap->F a' ar H'->R (.ok .next) s') :
  codeAny (model Y.prog Y.w) Y.A (.compStart e d (.ref it) (.ref D) Y.env) R s:=by
 obtain ⟨W,⟨m0,w0⟩,turn⟩:=w
 have mi:∀ {H':Hp} {o':Obj},(∀ b∈fp,H' b=none)->∀ b∈fp,lM Y ((D,o')::ps) H' b:=λ{H' o'} hn b hb=>by
  obtain ⟨_,q1,q2,q3,q4,q5⟩:=f0 b hb
  refine ⟨hn b hb,q1,q2,q3,q4,λp hp=>?_⟩
  rcases Jo.mp hp with h | h
  ·exact q5 p (Jv _ h)
  ·rcases Qk.mp h with h | h
   ·rw [h]; exact q5 (D,o) (Jf _ (Ql ..))
   ·exact q5 p (Jf _ (Qo _ h))
 have loop:codeAny (model Y.prog Y.w) Y.A (.compLoop e d (.ref it) (.ref D) Y.env) R s:=by
  refine yY LO (λn s'=>∃ i ar H' a o,Inv Y ((D,o)::ps) ar H' s'/\Ok D a s'.heap/\tn i s'.heap/\(∀ b∈fp,H' b=none)/\W i n a ar H') ?_ m0 ⟨0,σ,H,a,o,I0,SS,Ej,λb hb=>(f0 b hb).1,w0⟩
  rintro n s5 ⟨i,BV,H5,ys,o,I5,La,Be,EM,w5⟩
  rcases turn i n ys BV H5 w5 with ⟨stop,qn⟩ | ⟨go,N,hN,step⟩
  ·refine Ru (T.done Y rfl rfl rfl hc i _ s5 BV H5 (λ_ _=>False) I5 (mi EM) Be stop) (λr s6 aq=>?_) λ_ _ z=>z
   obtain ⟨hr,I6⟩:=aq
   subst hr
   exact hR s6 BV H5 ys o I6 (AO.dc I5 I6 La) qn
  ·refine Ru (T.item Y rfl rfl rfl hc i _ s5 BV H5 (λ_ _=>False) I5 (mi EM) Be go) (λr s6 aq=>?_) λ_ _ z=>z
   obtain ⟨u,hr,h6⟩:=aq
   subst hr
   refine Ru h6 (λ_ s7 aq=>?_) λ_ _ z=>z
   obtain ⟨x,H7,I7,r7,y7,xj,WL⟩:=aq
   have I7':=I7.pinned (mi WL) (T.obj _ _ xj)
   refine Ru (hg _ s7 BV H7 x u _ I7' r7 (step x H7 y7)) (λ_ s8 aq=>?_) λv s' z=>hx v s' z
   obtain ⟨FC,H8,I8,q8⟩:=aq
   refine Ru (ht _ s8 FC H8 _ I8 q8) (λb s9 aq=>?_) λv s' z=>hx v s' z
   obtain ⟨H9,I9,q9⟩:=aq
   have K_:Ok D ys s9.heap:=AO.dc I5 (I9.fq:Inv Y ((D,o)::ps) FC H9 s9) La
   have fin:∀ {s':Shared} {ar:St} {H':Hp} {o':Obj} {a':α},Inv Y ((D,o')::(ps++pC fp s7.heap)) ar H' s'->Ok D a' s'.heap->N a' ar H'->∃ m,m < n/\∃ i ar H' a o,Inv Y ((D,o)::ps) ar H' s'/\Ok D a s'.heap/\tn i s'.heap/\(∀ b∈fp,H' b=none)/\W i m a ar H':=λ{s' ar H' o' a'} I' ok q=>by
    obtain ⟨m',hm,w'⟩:=hN a' ar H' q
    have pin:=λb (hb:b∈fp) o e=>I'.pin (b,o) (Jf _ (Qo _ (Jf _ (nH hb e))))
    refine ⟨m',hm,i+1,ar,H',a',o',I'.fm λp hp=>I'.pin p (Jf _ ?_),ok,T.keep _ _ _ xj λb hb o e=>(pin b hb o e).1,λb hb=>?_,w'⟩
    ·rcases Qk.mp hp with h | h
     ·exact h ▸ Ql ..
     ·exact Qo _ (Jv _ h)
    ·obtain ⟨o,e,_⟩:=T.obj _ _ xj b hb
     exact (pin b hb o e).2.1
   cases b with
   | false =>
    rw [if_neg Qu] at q9
    rw [if_neg Qu]
    exact fin I9 K_ q9
   | true =>
    rw [if_pos rfl] at q9
    rw [if_pos rfl]
    refine Ru (hb (ps++pC fp s7.heap) s9 FC H9 D o ys _ ⟨dn.L,dn.ex,dn.c,dn.pn,dn.fs,λp hp=>?_⟩ I9 K_ q9) (λ_ h8 aq=>?_) λv s' z=>hx v s' z
    ·rcases Jo.mp hp with h | h
     ·exact dn.ps p h
     ·exact λq=>(f0 p.1 (vJ h).1).2.2.2.2.2 (D,_) (Jf _ (Ql ..)) q.symm
    ·obtain ⟨ar,H',a',o',I',ok,q⟩:=aq
     exact fin I' ok q
 exact LO.start loop (T.self Y.A 0 _ _ _ Ej loop)
theorem aAT {s2:Shared} {tn:Nat->Heap->Prop} {RR:Value->Addr->Result->Shared->Prop} {Q:α->Hp->Prop} (S:bg X scope z own fr a9) (LO:c7 X.prog X.w X.A e 0 tg iter ifs bd) (AO:d8 X.prog X.w X.A na a0 Ok) (hc:X.calm=true) (I2:Inv X aa σ H2 s2) (T:Turn X.prog X.w X.K tg J fp it tn) (gf:tn 0 s2.heap) (f2:∀ b∈fp,lM X aa H2 b) (hg:∀ C s0 H0 fp,PG (bY X scope z (own++a9) C s0 H0 fp) tg g) (ht:∀ C s0 H0 fp,PF (bY X scope z (own++a9) C s0 H0 fp) ifs tt) (hb:∀ C s0 H0 fp,kT (bY X scope z (own++a9) C s0 H0 fp) bd Ok tb) (w:ja J a0 (d7 own.length fr σ) H2 (λa _ H=>Q a H) g tt tb) (V3:∀ (C D:Addr) (s':Shared) (H':Hp) (ys:α) (m:Str->Option Value),s2.heap.objs.size<=C->s2.heap.objs.size<=D->D≠C->s'.heap.Ns C m->H' C=none->H' D=none->Ok D ys s'.heap->Inv X aa σ H' s'->Q ys H'->RR (.ref D) C (.ok .next) s') :
  wpAny (model X.prog X.w) X.A na (λacc xl=>wpAny (model X.prog X.w) X.A (newFunctionEnv scope X.env.globals (fM X.env scope.names []) [] X.env.qual none .none (some X.env)) (λDU Sz =>
   codeAny (model X.prog X.w) X.A (.compStart e 0 (.ref it) acc { DU with scope:=relabel scope X.env }) (RR acc DU.locals) Sz) E xl) E s2:=by
 obtain ⟨o0,n0,f0,k0,nw⟩:=AO.new
 refine nw (S.env λi8 tk sg ol dr=>?_)
 dsimp only at sg ol dr ⊢
 generalize Hd:s2.heap.push o0=HD at sg ol dr ⊢
 have hCs:HD.objs.size=s2.heap.objs.size+1:=by rw [<- Hd,Jk]
 have vf:s2.heap.objs.size≠HD.objs.size:=by omega
 have wu:s2.heap.objs.size<=HD.objs.size:=by omega
 have below:∀ b,b < s2.heap.objs.size->b≠HD.objs.size/\b≠s2.heap.objs.size:=λb hb=>⟨by omega,by omega⟩
 have old:∀ b o,s2.heap.get? b=some o->i8.get? b=some o:=λb o e=>ol b o (Hd ▸ Qb _ e)
 have DJ:i8.get? s2.heap.objs.size=some o0:=ol _ _ (Hd ▸ Qh _ f0)
 have vh:∀ b∈fp,b < s2.heap.objs.size:=λb hb=>by
  obtain ⟨o,e,_⟩:=T.obj _ _ gf b hb
  exact Qm e
 generalize Af:s2.heap.objs.size=D at *
 generalize hCg:HD.objs.size=C at *
 have B1:tn 0 i8:=T.keep _ _ _ gf λb _ o e=>old b o e
 have zy:∀ x c,(zc z C++fM X.env scope.names []).lookup x=some c->c=C+1∨X.env.cells.lookup x=some c:=λx c e=>by
  rcases kS e with ⟨_,e⟩ | ⟨_,e⟩
  ·exact .inl e
  ·rcases lP _ _ _ _ (jP e) with q | q
   ·cases q
   ·exact .inr q
 have I3:Inv (bY X scope z (own++a9) C s2 H2 fp) [(D,_)] (d7 own.length fr σ) H2 { s2 with heap:=i8,toks:=tk } :=
  aDs (m:=λ_=>none) I2 S f2 (by rw [Af]; exact vh) (by rw [Af]; exact wu) (sg:i8.Ns C _) old (by rw [Af]; exact Qi _) vf DJ n0 dr
 refine vS (Y:=bY X scope z (own++a9) C s2 H2 fp) LO AO (λ_ _ z=>z) hc T (hg C s2 H2 fp) (ht C s2 H2 fp) (hb C s2 H2 fp) ⟨vf,.inr (by show s2.heap.objs.size<=D; rw [Af]; exact Qi _),λx c e q=>?_,λp hp=>(by cases hp),λz=>?_,λp hp=>(by cases hp)⟩ I3 (k0 _ _ DJ) B1 (λb hb=>?_) w (λs6 KG H6 a o I6 pl qn=>?_)
 ·rcases zy x c e with e | e
  ·exact Js _ (Qq (Xw C) (Qw (Nat.le_of_eq (e.symm.trans q)) wu))
  obtain ⟨v,u⟩:=I2.cell x c e
  exact Js _ (Qq u.lt (by rw [Af,q]; exact Qi _))
 ·rcases Qk.mp (I2.f7 D z) with e | e
  ·exact Js _ (Qq I2.lt (by rw [Af,e]; exact Qi _))
  ·exact I2.AA (by rw [Af]; exact Qi _) e
 ·refine ⟨(f2 b hb).1,(below b (vh b hb)).1,λz=>?_,.inl hb,λx c e=>(by
   rcases zy x c e with e | e
   ·exact λq=>Js _ (Qq (vh b hb) (by rw [<- q,e]; exact Zd wu))
   ·exact (f2 b hb).2.2.2.2.1 x c e),λp hp=>?_⟩
  ·have z':b∈m_ X.stack:=z
   rcases Qk.mp (I2.f7 b z') with e | e
   ·exact (f2 b hb).2.1 e
   ·exact (f2 b hb).2.2.1 e
  ·rw [Qs.mp (show p∈[(D,o0)] from hp)]
   exact Ne.symm (below b (vh b hb)).2
 ·obtain ⟨m6,gu,_⟩:=I6.loc
  have p6:=I6.pin (D,o) (Jf _ (Ql ..))
  have IX:Inv X aa σ H6 s6:=I2.D_ (ch:=fp) I6.os I6.base I6.az I6.bare λb hb=>⟨(f2 b hb).2.2.2.1,(f2 b hb).2.1,(f2 b hb).2.2.2.2.1,(f2 b hb).2.2.2.2.2⟩
  exact V3 C D s6 H6 a m6 wu (Qi _) vf gu I6.free p6.2.1 pl IX qn
theorem yZ {R:Value->Shared->Prop} {use:Option (Value->Sem Unit)} {q:α->Hp->Prop} (S:bg X scope z own fr a9) (cl:clausesOf e=⟨tg,iter,ifs,0⟩::gs) (LO:c7 X.prog X.w X.A e 0 tg iter ifs bd) (AO:d8 X.prog X.w X.A na a0 Ok) (hc:X.calm=true) (hi:PI X tg iter wi) (hg:∀ C s0 H0 fp,PG (bY X scope z (own++a9) C s0 H0 fp) tg g) (ht:∀ C s0 H0 fp,PF (bY X scope z (own++a9) C s0 H0 fp) ifs tt)
  (hb:∀ C s0 H0 fp,kT (bY X scope z (own++a9) C s0 H0 fp) bd Ok tb) (hs:∀ x,foldedSetIterable iter X.env x=pure x) (I:Inv X aa σ H s)
  (h:wi σ H λJ H1=>ja J a0 (d7 own.length fr σ) H1 (λa _ H=>q a H) g tt tb)
  (hq:∀ (C D:Addr) (s':Shared) (H':Hp) (a:α) (m:Str->Option Value),D≠C->s'.heap.Ns C m->H' C=none->H' D=none->Ok D a s'.heap->Inv X aa σ H' s'->q a H' ->
   (∀ b,b=C∨b=D->b≠X.env.locals/\X.fv.heap.objs.size<=b/\sysModules < b/\(∀ x c,X.env.cells.lookup x=some c->c≠b)/\∀ p∈X.pn++aa,p.1≠b)->compPost (model X.prog X.w) X.A X.xe use R (.ref D) C (.ok .next) s') :
  wpAny (model X.prog X.w) X.A (comprehension e scope X.env pos na false (eval iter X.env) use) R X.xe s:=by
 obtain ⟨p1,p2,p3,p4,p5,p7,p9⟩:=S.parts
 refine wpAny_comprehension_free cl hs (Pb λy hy e=>I.ok.has y.1 (p4 y hy e)) p1 p3 (a7 (hi aa s σ H _ I h) λv s1 h1=>a7 h1 λEw s2 h2=>?_)
 obtain ⟨it,fp,tn,J,H2,e,I2,T,gf,f2,hw⟩:=h2
 subst e
 refine aAT (RR:=λacc C=>compPost (model X.prog X.w) X.A X.xe use R acc C) S LO AO hc I2 T gf f2 hg ht hb hw λC D s' H' a m hC hD vf fw CK Ae pl IX z=>hq C D s' H' a m vf fw CK Ae pl IX z λb hb=>?_
 have l8:s2.heap.objs.size<=b:=by rcases hb with rfl | rfl; exact hC; exact hD
 exact ⟨λz=>Js _ (Qq I2.lt (by rw [<- z]; exact l8)),Qw I2.sz l8,Qq (Qac (by decide) (I2.mod.glob.keeps I2.bk).lt) l8,λx c e z=>by
  obtain ⟨v,w⟩:=I2.cell x c e
  exact Js _ (Qq w.lt (by rw [z]; exact l8)),λp hp z=>Js _ (Qq (Qm (I2.pin p hp).1) (by rw [z]; exact l8))⟩
theorem zC {hq:(V->Hp->Prop)->α->Hp->Prop} (S:bg X scope z own fr a9) (cl:clausesOf e=⟨tg,iter,ifs,0⟩::gs) (LO:c7 X.prog X.w X.A e 0 tg iter ifs bd) (AO:d8 X.prog X.w X.A na a0 Ok) (hc:X.calm=true) (ev:eval e X.env=comprehension e scope X.env pos na false (eval iter X.env) none) (hi:PI X tg iter wi) (hg:∀ C s0 H0 fp,PG (bY X scope z (own++a9) C s0 H0 fp) tg g) (ht:∀ C s0 H0 fp,PF (bY X scope z (own++a9) C s0 H0 fp) ifs tt)
  (hb:∀ C s0 H0 fp,kT (bY X scope z (own++a9) C s0 H0 fp) bd Ok tb) (hs:∀ x,foldedSetIterable iter X.env x=pure x)
  (tr:∀ {D:Addr} {a:α} {H:Hp} {h:Heap} {Q:V->Hp->Prop},Ok D a h->H D=none->(D==sysModules)=false->hq Q a H->∃ u,bO X.prog X.w (upd H D u) h D u/\Q (.ref D) (upd H D u)) :
  PE X e λσ H Q=>wi σ H λJ H1=>ja J a0 (d7 own.length fr σ) H1 (λa _ H=>hq Q a H) g tt tb:=by
 intro aa s σ H Q I h
 rw [ev]
 refine yZ (use:=none) S cl LO AO hc hi hg ht hb hs I h λC D s' H' a m vf fw CK Ae pl IX q ne=>?_
 obtain ⟨c1,c2,_,c3,c4⟩:=ne C (.inl rfl)
 obtain ⟨d1,d2,d5,d3,d4⟩:=ne D (.inr rfl)
 obtain ⟨u,ou,qu⟩:=tr pl Ae (beq_eq_false_iff_ne.mpr (Ne.symm (Jc d5))) q
 refine ⟨m,fw,λh' hs'=>⟨.ref D,upd H' D u,?_,rfl,qu⟩⟩
 exact (IX.su Ae d1 d2 d3 d4 ou).turned (t':=s'.toks) (it:=C) (λb o hb e=>(hs'.2 b hb).trans e) (by rw [aI (Ne.symm vf)]; exact CK) c1 (.inr c2) c3 c4
noncomputable def De (D:Addr) (ys:List V) (h:Heap):Prop:=ys.length<=sizeLine/\∃ its:Array Value,h.PlainList D its/\bF ys its.toList
noncomputable def N8 (elt:Expr) (env:Env) (D:Addr):Sem Unit:=do let _<-call (.builtin "list.append") [.ref D,<- eval elt env]
theorem EZ:d8 P w A (newList []) [] De where
 new:=⟨{ cls:=.type "list",dict:=none,data:=.seq ([]:List Value).toArray },λv z=>(by cases z),rfl,λh D e=>⟨Jl _,#[],⟨_,e⟩,.nil⟩,λh=>Rx h⟩
 keep:=λ⟨hl,its,⟨k,e⟩,v⟩ f=>⟨hl,its,⟨k,f _ e⟩,v⟩
 obj:=λ⟨_,its,⟨k,e⟩,_⟩=>⟨_,e,λv z=>by cases z⟩
theorem OU {pos:Pos}:c7 P w A (.ListComp elt [⟨tg,iter,ifs,0⟩] scope pos) 0 tg iter ifs (N8 elt) where
 BY:=λ_ _ _=>⟨rfl,rfl⟩
 turn:=λit D env=>compTurn_list elt tg iter ifs scope pos it (.ref D) env
 start:=codeAny_compStart_list
theorem Oq (he:PE Y elt te):kT Y (N8 elt) De (oa te):=by
 intro ps s σ H D o ys R dn I pl h
 refine Ra (a7 (he _ s σ H _ I h) λy s1 hx=>?_)
 obtain ⟨yv,H1,I1,r1,lt,q⟩:=hx
 obtain ⟨hl,its,SR,v⟩:=EZ.dc I I1 pl
 have hlen:=v.length
 refine Ra (wpAny_list_append_plain SR (λHh Az Av=>Rc ?_) (by rw [<- Array.length_toList,<- hlen]; exact Ya lt))
 have ok:De D (ys++[yv]) Hh:=⟨by rw [Qr]; exact lt,_,Az,by rw [Array.toList_push]; exact v.append (.cons r1 .nil)⟩
 obtain ⟨o',I'⟩:=dn.put (t:=s1.toks) EZ I1 Av ok
 exact ⟨σ,H1,_,o',I',ok,q⟩
theorem Sd {Q:V->Hp->Prop} {D:Addr} (ok:De D ys h) (hn:H D=none) (q:∀ p,H p=none->Q (.ref p) (upd H p (.lst ys))):∃ u,bO P w (upd H D u) h D u/\Q (.ref D) (upd H D u) :=
 let ⟨hl,its,⟨k,e⟩,v⟩:=ok; ⟨.lst ys,⟨hl,its.toList,k,v,by simpa using e⟩,q _ hn⟩
theorem bK (S:bg X scope z own fr a9) (hc:X.calm=true) (hi:PI X tg iter wi) (hg:∀ C s0 H0 fp,PG (bY X scope z (own++a9) C s0 H0 fp) tg g) (ht:∀ C s0 H0 fp,PF (bY X scope z (own++a9) C s0 H0 fp) ifs tt) (he:∀ C s0 H0 fp,PE (bY X scope z (own++a9) C s0 H0 fp) elt te) (hs:∀ x,foldedSetIterable iter X.env x=pure x:=by intro _; rfl) :
  PE X (.ListComp elt [⟨tg,iter,ifs,0⟩] scope pos) (OV own.length fr wi g tt te) :=
 zC S rfl OU EZ hc (eval_ListComp ..) hi hg ht (λC s0 H0 fp=>Oq (he C s0 H0 fp)) hs λok hn _ q=>Sd ok hn q
theorem zD {tb:List V->St->Hp->(List V->St->Hp->Prop)->Prop} {y:Str} {qz:Pos} (S:bg X scope z own fr a9) (LO:c7 X.prog X.w X.A (.ListComp elt (⟨tg,iter,ifs,0⟩::gs) scope pos) 0 tg iter ifs bd) (hc:X.calm=true) (hN:X.N.Nodup) (F9:X.N[i]?=some y) (hx:X.env.scope.names.lookup y=some .local) (Gi:swapsWith (.ListComp elt (⟨tg,iter,ifs,0⟩::gs) scope pos) (some (.Name y py)) qz.line X.env=pure true) (hi:PI X tg iter wi) (hg:∀ C s0 H0 fp,PG (bY X scope z (own++a9) C s0 H0 fp) tg g) (ht:∀ C s0 H0 fp,PF (bY X scope z (own++a9) C s0 H0 fp) ifs tt) (hb:∀ C s0 H0 fp,kT (bY X scope z (own++a9) C s0 H0 fp) bd De tb) (hs:∀ x,foldedSetIterable iter X.env x=pure x) :
  PS X (.Assign [.Name y py] (.ListComp elt (⟨tg,iter,ifs,0⟩::gs) scope pos) qz) (BO (λσ H Q=>wi σ H λJ H1=>ja J [] (d7 own.length fr σ) H1 (λys _ H=>∀ p,H p=none->Q (.ref p) (upd H p (.lst ys))) g tt tb) (cU i)):=by
 intro aa s σ H D I h
 rw [exec_Assign_Name_used _ _ _ _ Gi]
 refine Ra (Tc (Ra ?_))
 show wpAny _ X.A (do let _<-comprehension (.ListComp elt (⟨tg,iter,ifs,0⟩::gs) scope pos) scope X.env _ (newList []) false (eval iter X.env) (some (assign (.Name y py) X.env))) _ _ s
 refine Ra (Ru (yZ (use:=some (assign (.Name y py) X.env)) (R:=λ_ s'=>SP X aa D .next s') S rfl LO EZ hc hi hg ht hb hs I h λC L s' H' ys m V' fw CK M3 pl IX q ne=>?_) (λ_ s' hq=>Rc (Rc hq)) λ_ _ e=>e)
 obtain ⟨c1,c2,_,c3,c4⟩:=ne C (.inl rfl)
 obtain ⟨d1,d2,_,d3,d4⟩:=ne L (.inr rfl)
 obtain ⟨hl,its,⟨k,e⟩,v⟩:=pl
 have IT:Inv X aa σ (upd H' L (.lst ys)) s':=IX.su M3 d1 d2 d3 d4 ⟨hl,its.toList,k,v,by simpa using e⟩
 show wpAny _ _ (assign (.Name y py) X.env (.ref L)) _ _ s'
 refine Mt (vH IT hN F9 (.inl hx) (v:=.ref L) rfl (λB4 I'' m9=>?_) (.inr hx))
 obtain ⟨a,sb,ha⟩:=m9
 have WC:C≠a:=by
  rcases ha with e | e
  ·rw [e]; exact c1
  ·exact Ne.symm (c3 y a e)
 refine ⟨m,fw.sameBut sb WC,λh' hs'=>⟨σ.set i (some (.ref L)),upd H' L (.lst ys),?_,q L M3⟩⟩
 exact I''.turned (t':=B4.toks) (it:=C) (λb o hb e=>(hs'.2 b hb).trans e) (by rw [aI (Ne.symm V')]; exact CK) c1 (.inr c2) c3 c4
theorem eL {y:Str} {qz:Pos} (S:bg X scope z own fr a9) (hc:X.calm=true) (hN:X.N.Nodup) (F9:X.N[i]?=some y) (hx:X.env.scope.names.lookup y=some .local) (Gi:swapsWith (.ListComp elt [⟨tg,iter,ifs,0⟩] scope pos) (some (.Name y py)) qz.line X.env=pure true) (hi:PI X tg iter wi) (hg:∀ C s0 H0 fp,PG (bY X scope z (own++a9) C s0 H0 fp) tg g) (ht:∀ C s0 H0 fp,PF (bY X scope z (own++a9) C s0 H0 fp) ifs tt) (he:∀ C s0 H0 fp,PE (bY X scope z (own++a9) C s0 H0 fp) elt te) (hs:∀ x,foldedSetIterable iter X.env x=pure x:=by intro _; rfl) :
  PS X (.Assign [.Name y py] (.ListComp elt [⟨tg,iter,ifs,0⟩] scope pos) qz) (BO (OV own.length fr wi g tt te) (cU i)) :=
 zD S OU hc hN F9 hx Gi hi hg ht (λC s0 H0 fp=>Oq (he C s0 H0 fp)) hs
end
inductive Kd where
 | int | bl | bj | str | tup | lst | NP
 deriving DecidableEq
noncomputable def Dh (K:Rb) (H:Hp):V->Kd->Prop
 | .int _,k=>k=.int
 | .bl _,k=>k=.bl
 | .bj,k=>k=.bj
 | .str _,k=>k=.str
 | .ref p,k=>(k=.lst/\∃ xs,ai K H p xs)∨(k=.tup/\∃ xs,ah K H p xs)∨(k=.NP/\∃ kvs,H p=some (.dK kvs))
 | _,_=>False
theorem wW {σ:St} {p:Addr} (I:Inv X aa σ H s) (h:H p=some (.dK kvs)):∃ o,s.heap.get? p=some o/\o.cls=.type "dict" := by
 obtain ⟨_,_,vs,_,o,es,ep,e,ex,_⟩:=I.az p _ h
 exact ⟨o,e,ex.1⟩
theorem wX:dQ X (.builtin "isinstance") (λxs H Q=>∃ x k,xs = [x,.ty "int"]/\Dh X.K H x k/\Q (.bl (decide (k=.int∨k=.bl))) H):=by
 intro aa s σ H xs us Q I r h
 obtain ⟨x,k,rfl,hk,q⟩:=h
 obtain ⟨u,t,rfl,rx,rt⟩:=mX r
 cases rt
 cases x with
 | int i=>cases hk; obtain ⟨t,rfl⟩:=rx; exact IsiPair.int_int ⟨.bl true,H,I,rfl,q⟩
 | bl b=>cases hk; cases rx; exact IsiPair.bool_int ⟨.bl true,H,I,rfl,q⟩
 | bj=>cases hk; cases rx; exact IsiPair.NoneType_int ⟨.bl false,H,I.tok _,rfl,q⟩
 | str y=>cases hk; obtain ⟨t,rfl⟩:=rx; exact IsiPair.str_int ⟨.bl false,H,I.tok _,rfl,q⟩
 | ref p =>
  cases rx
  rcases hk with ⟨rfl,xs,hx⟩ | ⟨rfl,xs,hx⟩ | ⟨rfl,kvs,hx⟩
  ·obtain ⟨its,r',pl,hz⟩:=I.list hx; exact IsiPair.isList_int pl.isList (λ_ _ e=>e) ⟨.bl false,H,I.tok _,rfl,q⟩
  ·obtain ⟨its,r',pl,hz⟩:=I.tuple hx; exact IsiPair.isTuple_int pl (λ_ _ e=>e) ⟨.bl false,H,I.tok _,rfl,q⟩
  ·obtain ⟨o,e,c⟩:=wW I hx; exact IsiPair.dict_int e c ⟨.bl false,H,I.tok _,rfl,q⟩
 | _=>exact hk.elim
theorem uS:dQ X (.builtin "isinstance") (λxs H Q=>∃ x k,xs = [x,.ty "bool"]/\Dh X.K H x k/\Q (.bl (decide (k=.bl))) H):=by
 intro aa s σ H xs us Q I r h
 obtain ⟨x,k,rfl,hk,q⟩:=h
 obtain ⟨u,t,rfl,rx,rt⟩:=mX r
 cases rt
 cases x with
 | int i=>cases hk; obtain ⟨t,rfl⟩:=rx; exact IsiPair.int_bool ⟨.bl false,H,I.tok _,rfl,q⟩
 | bl b=>cases hk; cases rx; exact IsiPair.bool_bool ⟨.bl true,H,I,rfl,q⟩
 | bj=>cases hk; cases rx; exact IsiPair.NoneType_bool ⟨.bl false,H,I.tok _,rfl,q⟩
 | str y=>cases hk; obtain ⟨t,rfl⟩:=rx; exact IsiPair.str_bool ⟨.bl false,H,I.tok _,rfl,q⟩
 | ref p =>
  cases rx
  rcases hk with ⟨rfl,xs,hx⟩ | ⟨rfl,xs,hx⟩ | ⟨rfl,kvs,hx⟩
  ·obtain ⟨its,r',pl,hz⟩:=I.list hx; exact IsiPair.isList_bool pl.isList (λ_ _ e=>e) ⟨.bl false,H,I.tok _,rfl,q⟩
  ·obtain ⟨its,r',pl,hz⟩:=I.tuple hx; exact IsiPair.isTuple_bool pl (λ_ _ e=>e) ⟨.bl false,H,I.tok _,rfl,q⟩
  ·obtain ⟨o,e,c⟩:=wW I hx; exact IsiPair.dict_bool e c ⟨.bl false,H,I.tok _,rfl,q⟩
 | _=>exact hk.elim
theorem eD:dQ X (.builtin "isinstance") (λxs H Q=>∃ x k,xs = [x,.ty "tuple"]/\Dh X.K H x k/\Q (.bl (decide (k=.tup))) H):=by
 intro aa s σ H xs us Q I r h
 obtain ⟨x,k,rfl,hk,q⟩:=h
 obtain ⟨u,t,rfl,rx,rt⟩:=mX r
 cases rt
 cases x with
 | int i=>cases hk; obtain ⟨t,rfl⟩:=rx; exact IsiPair.int_tuple ⟨.bl false,H,I.tok _,rfl,q⟩
 | bl b=>cases hk; cases rx; exact IsiPair.bool_tuple ⟨.bl false,H,I.tok _,rfl,q⟩
 | bj=>cases hk; cases rx; exact IsiPair.NoneType_tuple ⟨.bl false,H,I.tok _,rfl,q⟩
 | str y=>cases hk; obtain ⟨t,rfl⟩:=rx; exact IsiPair.str_tuple ⟨.bl false,H,I.tok _,rfl,q⟩
 | ref p =>
  cases rx
  rcases hk with ⟨rfl,xs,hx⟩ | ⟨rfl,xs,hx⟩ | ⟨rfl,kvs,hx⟩
  ·obtain ⟨its,r',pl,hz⟩:=I.list hx; exact IsiPair.isList_tuple pl.isList (λ_ _ e=>e) ⟨.bl false,H,I.tok _,rfl,q⟩
  ·obtain ⟨its,r',pl,hz⟩:=I.tuple hx; exact IsiPair.isTuple_tuple pl (λ_ _ e=>e) ⟨.bl true,H,I,rfl,q⟩
  ·obtain ⟨o,e,c⟩:=wW I hx; exact IsiPair.dict_tuple e c ⟨.bl false,H,I.tok _,rfl,q⟩
 | _=>exact hk.elim
theorem mY:dQ X (.builtin "isinstance") (λxs H Q=>∃ x k,xs = [x,.ty "list"]/\Dh X.K H x k/\Q (.bl (decide (k=.lst))) H):=by
 intro aa s σ H xs us Q I r h
 obtain ⟨x,k,rfl,hk,q⟩:=h
 obtain ⟨u,t,rfl,rx,rt⟩:=mX r
 cases rt
 cases x with
 | int i=>cases hk; obtain ⟨t,rfl⟩:=rx; exact IsiPair.int_list ⟨.bl false,H,I.tok _,rfl,q⟩
 | bl b=>cases hk; cases rx; exact IsiPair.bool_list ⟨.bl false,H,I.tok _,rfl,q⟩
 | bj=>cases hk; cases rx; exact IsiPair.NoneType_list ⟨.bl false,H,I.tok _,rfl,q⟩
 | str y=>cases hk; obtain ⟨t,rfl⟩:=rx; exact IsiPair.str_list ⟨.bl false,H,I.tok _,rfl,q⟩
 | ref p =>
  cases rx
  rcases hk with ⟨rfl,xs,hx⟩ | ⟨rfl,xs,hx⟩ | ⟨rfl,kvs,hx⟩
  ·obtain ⟨its,r',pl,hz⟩:=I.list hx; exact IsiPair.isList_list pl.isList (λ_ _ e=>e) ⟨.bl true,H,I,rfl,q⟩
  ·obtain ⟨its,r',pl,hz⟩:=I.tuple hx; exact IsiPair.isTuple_list pl (λ_ _ e=>e) ⟨.bl false,H,I.tok _,rfl,q⟩
  ·obtain ⟨o,e,c⟩:=wW I hx; exact IsiPair.dict_list e c ⟨.bl false,H,I.tok _,rfl,q⟩
 | _=>exact hk.elim
theorem aCr (bs:List Bool) (tr:Nat->Bool) (h:∀ i b,bs[i]?=some b->tr i=b):(List.range bs.length).all tr=bs.all id:=by
 rw [Xf,Qt,Qt]
 constructor
 ·intro q b hb
  obtain ⟨i,hi⟩:=Wn hb
  have:=q i (Jy.mpr (Qd.mp hi).1)
  rw [h i b hi] at this
  exact this
 ·intro q i hi
  have va:=Jy.mp hi
  have e:bs[i]?=some bs[i]:=Qc va
  rw [h i _ e]
  exact q _ (Xu va)
theorem jD (hc:X.calm=true):dQ X (.builtin "all") (λxs H Q=>∃ (p:Addr) (bs:List Bool),xs = [.ref p]/\ai X.K H p (bs.map V.bl)/\Q (.bl (bs.all id)) H):=by
 intro aa s σ H xs us Q I r h
 obtain ⟨p,bs,rfl,hx,q⟩:=h
 obtain ⟨u,rfl,rx⟩:=fO r
 cases rx
 obtain ⟨its,rv,pl,hz⟩:=I.list hx
 have hl:=rv.length
 rw [Qa] at hl
 have ax:p < s.heap.objs.size:=by obtain ⟨o,n,e,_⟩:=pl; exact Qm e
 refine call_all_walk (Ti pl.isList ?_)
 refine ⟨s.heap.objs.size,_,_,_,_,_,λi=>(bs[i]?).getD false,rfl,Walks.list (A:=X.A.in1) (I.ok.hd hc) s.heap.objs.size p (Jc ax) its.toArray,⟨⟨_,Qh _ rfl,rfl,rfl⟩,pl.isList.push _⟩,?_,λh' tk hk=>?_⟩
 ·intro i v s' Q' E' hP qo
  have kj:its[i]?=some v:=by simpa using hP
  have hi:i < bs.length:=by rw [hl]; exact (Qd.mp kj).1
  obtain ⟨w,hw,c8⟩:=rv.get (i:=i) (x:=.bl bs[i]) (by rw [Qe,Qc hi]; rfl)
  rw [hw] at kj
  cases kj
  cases c8
  have e:(bs[i]?).getD false=bs[i]:=by rw [Qc hi]; rfl
  rw [<- e]
  exact Rv qo
 ·have e:(List.range its.toArray.size).all (λi=>(bs[i]?).getD false)=bs.all id:=by
   rw [Qj,<- hl]
   exact aCr bs _ λi b hb=>by rw [hb]; rfl
  rw [e]
  refine ⟨.bl _,H,I.kept (h':=h') λb o e=>hk b o ?_ (Qb _ e),rfl,q⟩
  intro z
  have z':b=s.heap.objs.size:=by simpa using z
  exact Js _ (z' ▸ Qm e)
noncomputable def aG (ns:List Int):Int:=ns.foldr (· + ·) 0
theorem lU (ns:List Int) (val:Nat->Int) (h:∀ (i:Nat) (v:Int),ns[i]?=some v->val i=v):∀ j,j<=ns.length->preSum val j=aG (ns.take j)
 | 0,_=>rfl
 | j+1,hj=>by
  have ih:=lU ns val h j (by omega)
  have e:ns[j]?=some ns[j]:=Qc (by omega)
  show preSum val j+val j=_
  rw [ih,h j _ e,Xj,e]
  unfold aG
  rw [List.foldr_append]
  simp only [Option.toList_some,List.foldr_cons,List.foldr_nil,Int.add_zero]
  generalize ns[j]=v
  induction (List.take j ns) with
  | nil=>simp
  | cons a l Lu=>simp only [List.foldr_cons]; omega
theorem aDt (hc:X.calm=true):dQ X (.builtin "sum") (λxs H Q=>∃ (p:Addr) (ns:List Int),xs = [.ref p]/\ai X.K H p (ns.map V.int)/\(∀ n∈ns,0<=n/\n < 1000000)/\ns.length<=1000000/\Q (.int (aG ns)) H):=by
 intro aa s σ H xs us Q I r h
 obtain ⟨p,ns,rfl,hx,hb,hlen,q⟩:=h
 obtain ⟨u,rfl,rx⟩:=fO r
 cases rx
 obtain ⟨its,rv,pl,hz⟩:=I.list hx
 have hl:=rv.length
 rw [Qa] at hl
 have ax:p < s.heap.objs.size:=by obtain ⟨o,n,e,_⟩:=pl; exact Qm e
 have mj:∀ (i:Nat) (v:Int),ns[i]?=some v->(ns[i]?).getD 0=v:=λi v e=>by rw [e]; rfl
 have YX:∀ (ms:List Int),(∀ n∈ms,0<=n/\n < 1000000)->0<=aG ms/\aG ms<=ms.length*1000000:=λms=>by
  induction ms with
  | nil=>intro _; exact ⟨Je _,Je _⟩
  | cons a l ih =>
   intro hh
   have h1:=hh a Ql
   have h2:=ih λn hn=>hh n (Qo _ hn)
   have e:aG (a::l)=a+aG l:=rfl
   rw [e,Jr]
   rw [Yn]
   omega
 refine call_sum_walk (Ti pl.isList ?_)
 refine ⟨s.heap.objs.size,_,_,_,_,_,λi=>(ns[i]?).getD 0,rfl,Walks.list (A:=X.A.in1) (I.ok.hd hc) s.heap.objs.size p (Jc ax) its.toArray,⟨⟨_,Qh _ rfl,rfl,rfl⟩,pl.isList.push _⟩,?_,?_,?_,λh' tk t' hk=>?_⟩
 ·intro b l8
  rw [Jk]
  rcases Qk.mp l8 with e | e
  ·rw [e]; exact Xw _
  ·have e':b=p:=by simpa using e
   rw [e']; exact Xd ax
 ·intro i v hP
  have kj:its[i]?=some v:=by simpa using hP
  have hi:i < ns.length:=by rw [hl]; exact (Qd.mp kj).1
  obtain ⟨w,hw,c8⟩:=rv.get (i:=i) (x:=.int ns[i]) (by rw [Qe,Qc hi]; rfl)
  rw [hw] at kj
  cases kj
  obtain ⟨t,rfl⟩:=c8
  exact ⟨t,by show Value.int ns[i] t=Value.int ((ns[i]?).getD 0) t; rw [Qc hi]; rfl⟩
 ·intro j hj
  have u9:j < ns.length:=by rw [hl]; simpa using hj
  have e:ns[j]?=some ns[j]:=Qc u9
  have h1:=hb _ (Xu u9)
  have h2:=YX (ns.take (j+1)) λn hn=>hb n (Yh hn)
  rw [lU ns _ mj (j+1) (by omega)]
  have h3:(ns.take (j+1)).length<=1000000:=by rw [Qy]; omega
  unfold InLong
  have e5:(λi:Nat=>(ns[i]?).getD 0) j=ns[j]:=by show (ns[j]?).getD 0=_; rw [e]; rfl
  rw [e5]
  have h4:((ns.take (j+1)).length:Int)*1000000<=1000000*1000000:=by omega
  omega
 ·have e:preSum (λi=>(ns[i]?).getD 0) its.toArray.size=aG ns:=by
   rw [Qj,<- hl,lU ns _ mj ns.length (Qi _),Jt]
  rw [e]
  refine ⟨.int _,H,I.kept (h':=h') λb o e=>hk b o ?_ (Qb _ e),⟨_,rfl⟩,q⟩
  intro z
  have z':b=s.heap.objs.size:=by simpa using z
  exact Js _ (z' ▸ Qm e)
mutual
noncomputable def Den (K:Rb) (H:Hp):PyData->V->Prop
 | .none,v=>v=.bj
 | .bool b,v=>v=.bl b
 | .int i,v=>v=.int i
 | .str x,v=>v=.str x
 | .list ds,v=>∃ a xs,v=.ref a/\ai K H a xs/\aP K H ds xs
 | .tuple ds,v=>∃ a xs,v=.ref a/\ah K H a xs/\aP K H ds xs
 | .dict kvs,v=>kvs = []/\∃ a,v=.ref a/\H a=some (.dK [])
noncomputable def aP (K:Rb) (H:Hp):List PyData->List V->Prop
 | [],xs=>xs = []
 | d::ds,xs=>∃ x r,xs=x::r/\Den K H d x/\aP K H ds r
end
theorem aD.rd {u:HO} (e:aD H H') (h:Rd H a u):Rd H' a u:=by
 rcases h with h | ⟨o,h⟩
 ·exact .inl (e a u h)
 ·exact .inr ⟨o,e a _ h⟩
theorem aD.b_ (e:aD H H') (h:ai K H a xs):ai K H' a xs:=by
 rcases h with h | h
 ·exact .inl (e.rd h)
 ·exact .inr h
theorem aD.ag (e:aD H H') (h:ah K H a xs):ah K H' a xs:=by
 rcases h with h | h
 ·exact .inl (e.rd h)
 ·exact .inr h
theorem aD.new {p:Addr} {o:HO} (h:H p=none):aD H (upd H p o):=λb u e=>by rw [aI (iA e h)]; exact e
mutual
theorem aD.den (e:aD H H'):∀ (d:PyData) (v:V),Den K H d v->Den K H' d v
 | .none,v,h=>by unfold Den at h ⊢; exact h
 | .bool b,v,h=>by unfold Den at h ⊢; exact h
 | .int i,v,h=>by unfold Den at h ⊢; exact h
 | .str x,v,h=>by unfold Den at h ⊢; exact h
 | .list ds,v,h=>by unfold Den at h ⊢; obtain ⟨a,xs,h1,h2,h3⟩:=h; exact ⟨a,xs,h1,e.b_ h2,aD.af e ds xs h3⟩
 | .tuple ds,v,h=>by unfold Den at h ⊢; obtain ⟨a,xs,h1,h2,h3⟩:=h; exact ⟨a,xs,h1,e.ag h2,aD.af e ds xs h3⟩
 | .dict kvs,v,h=>by unfold Den at h ⊢; obtain ⟨h1,a,h2,h3⟩:=h; exact ⟨h1,a,h2,e a _ h3⟩
theorem aD.af (e:aD H H'):∀ (ds:List PyData) (xs:List V),aP K H ds xs->aP K H' ds xs
 | [],xs,h=>by unfold aP at h ⊢; exact h
 | d::ds,xs,h=>by unfold aP at h ⊢; obtain ⟨x,r,h1,h2,h3⟩:=h; exact ⟨x,r,h1,aD.den e d x h2,aD.af e ds r h3⟩
end
theorem dE {i:Int}:Den K H (.int i) v↔v=.int i:=by unfold Den; exact Iff.rfl
theorem zE {b:Bool}:Den K H (.bool b) v↔v=.bl b:=by unfold Den; exact Iff.rfl
theorem zF:Den K H .none v↔v=.bj:=by unfold Den; exact Iff.rfl
theorem P4:Den K H (.str x) v↔v=.str x:=by unfold Den; exact Iff.rfl
theorem gR:Den K H (.list ds) v↔∃ a xs,v=.ref a/\ai K H a xs/\aP K H ds xs:=by
 constructor
 ·intro h; unfold Den at h; exact h
 ·intro h; unfold Den; exact h
theorem bL:Den K H (.tuple ds) v↔∃ a xs,v=.ref a/\ah K H a xs/\aP K H ds xs:=by
 constructor
 ·intro h; unfold Den at h; exact h
 ·intro h; unfold Den; exact h
theorem aDu {kvs:List (PyData×PyData)}:Den K H (.dict kvs) v↔kvs = []/\∃ a,v=.ref a/\H a=some (.dK []):=by
 constructor
 ·intro h; unfold Den at h; exact h
 ·intro h; unfold Den; exact h
theorem aN:aP K H [] xs↔xs = []:=by unfold aP; exact Iff.rfl
theorem aL:aP K H (d::ds) xs↔∃ x r,xs=x::r/\Den K H d x/\aP K H ds r:=by
 constructor
 ·intro h; unfold aP at h; exact h
 ·intro h; unfold aP; exact h
theorem aH:∀ {ds:List PyData} {xs:List V},aP K H ds xs->xs.length=ds.length
 | [],xs,h=>by rw [aN.mp h]; rfl
 | d::ds,xs,h=>by
  obtain ⟨x,r,rfl,_,h3⟩:=aL.mp h
  rw [Jr,Jr,aH h3]
theorem rO:∀ {ds:List PyData} {xs:List V} {i:Nat} {d:PyData},aP K H ds xs->ds[i]?=some d->∃ x,xs[i]?=some x/\Den K H d x
 | [],_,_,_,_,e=>by simp at e
 | d::ds,xs,0,d',h,e=>by
  obtain ⟨x,r,rfl,h2,_⟩:=aL.mp h
  simp at e; subst e
  exact ⟨x,rfl,h2⟩
 | d::ds,xs,i+1,d',h,e=>by
  obtain ⟨x,r,rfl,_,h3⟩:=aL.mp h
  obtain ⟨y,h4,h5⟩:=rO (i:=i) (d:=d') h3 (by simpa using e)
  exact ⟨y,by simpa using h4,h5⟩
theorem eV {x:V} (h:aP K H ds xs) (e:xs[i]?=some x):∃ d,ds[i]?=some d/\Den K H d x:=by
 have hl:=aH h
 have hi:i < ds.length:=by rw [<- hl]; exact (Qd.mp e).1
 obtain ⟨y,h1,h2⟩:=rO h (Qc hi)
 rw [e] at h1; cases h1
 exact ⟨_,Qc hi,h2⟩
theorem bH:∀ {ds es:List PyData} {xs ys:List V},aP K H ds xs->aP K H es ys->aP K H (ds++es) (xs++ys)
 | [],es,xs,ys,h,h'=>by rw [aN.mp h]; exact h'
 | d::ds,es,xs,ys,h,h'=>by
  obtain ⟨x,r,rfl,h2,h3⟩:=aL.mp h
  exact aL.mpr ⟨x,r++ys,rfl,h2,bH h3 h'⟩
theorem eK:∀ {ns:List Int} {xs:List V},aP K H (ns.map PyData.int) xs↔xs=ns.map V.int
 | [],xs=>aN
 | n::ns,xs=>by
  rw [Jh,aL]
  constructor
  ·rintro ⟨x,r,rfl,h2,h3⟩
   rw [dE.mp h2,eK.mp h3]
   rfl
  ·intro e
   exact ⟨_,_,e,dE.mpr rfl,eK.mpr rfl⟩
theorem aS:Den K H (.tuple (ns.map .int)) v↔∃ a,v=.ref a/\ah K H a (ns.map V.int):=by
 rw [bL]
 constructor
 ·rintro ⟨a,xs,rfl,h1,h2⟩
  rw [eK.mp h2] at h1
  exact ⟨a,rfl,h1⟩
 ·rintro ⟨a,rfl,h⟩
  exact ⟨a,_,rfl,h,eK.mpr rfl⟩
theorem vT:Den K H (.list (ns.map .int)) v↔∃ a,v=.ref a/\ai K H a (ns.map V.int):=by
 rw [gR]
 constructor
 ·rintro ⟨a,xs,rfl,h1,h2⟩
  rw [eK.mp h2] at h1
  exact ⟨a,rfl,h1⟩
 ·rintro ⟨a,rfl,h⟩
  exact ⟨a,_,rfl,h,eK.mpr rfl⟩
noncomputable def lN:PyData->Kd
 | .none=>.bj | .bool _=>.bl | .int _=>.int | .str _=>.str | .list _=>.lst | .tuple _=>.tup | .dict _=>.NP
theorem Den.kd (h:Den K H d v):Dh K H v (lN d):=by
 cases d with
 | none=>rw [zF.mp h]; rfl
 | bool b=>rw [zE.mp h]; rfl
 | int i=>rw [dE.mp h]; rfl
 | str x=>rw [P4.mp h]; rfl
 | list ds=>obtain ⟨a,xs,rfl,h1,_⟩:=gR.mp h; exact .inl ⟨rfl,xs,h1⟩
 | tuple ds=>obtain ⟨a,xs,rfl,h1,_⟩:=bL.mp h; exact .inr (.inl ⟨rfl,xs,h1⟩)
 | dict kvs=>obtain ⟨_,a,rfl,h1⟩:=aDu.mp h; exact .inr (.inr ⟨rfl,[],h1⟩)
section
variable {σ:St}
mutual
noncomputable def eM:PyData->Bool
 | .dict _=>false
 | .list ds=>iJ ds
 | .tuple ds=>iJ ds
 | _=>true
noncomputable def iJ:List PyData->Bool
 | []=>true
 | d::ds=>eM d && iJ ds
end
mutual
theorem Den.reads (I:Inv X aa σ H s):∀ (d:PyData) (v:V) (u:Value),eM d=true->Den X.K H d v->bE v u->∃ as,Reads s.heap u d as
 | .none,v,u,_,h,r=>by rw [zF.mp h] at r; cases r; exact ⟨_,.none⟩
 | .bool b,v,u,_,h,r=>by rw [zE.mp h] at r; cases r; exact ⟨_,.bool b⟩
 | .int i,v,u,_,h,r=>by rw [dE.mp h] at r; obtain ⟨t,rfl⟩:=r; exact ⟨_,.int i t⟩
 | .str x,v,u,_,h,r=>by rw [P4.mp h] at r; obtain ⟨t,rfl⟩:=r; exact ⟨_,.str x t⟩
 | .list ds,v,u,hn,h,r=>by
  obtain ⟨a,xs,rfl,h1,h2⟩:=gR.mp h
  cases r
  obtain ⟨its,rv,⟨o,n,e,c,_,d⟩,_⟩:=I.list h1
  obtain ⟨as,ra⟩:=aP.reads I ds xs its (by unfold eM at hn; exact hn) h2 rv
  exact ⟨_,.list e c d (by simpa using ra)⟩
 | .tuple ds,v,u,hn,h,r=>by
  obtain ⟨a,xs,rfl,h1,h2⟩:=bL.mp h
  cases r
  obtain ⟨its,rv,⟨o,e,c,n,d⟩,_⟩:=I.tuple h1
  obtain ⟨as,ra⟩:=aP.reads I ds xs its (by unfold eM at hn; exact hn) h2 rv
  exact ⟨_,.tuple e c d (by simpa using ra)⟩
 | .dict kvs,v,u,hn,_,_=>by unfold eM at hn; cases hn
theorem aP.reads (I:Inv X aa σ H s):∀ (ds:List PyData) (xs:List V) (us:List Value),iJ ds=true->aP X.K H ds xs->bF xs us->∃ as,ReadsAll s.heap us ds as
 | [],xs,us,_,h,r=>by rw [aN.mp h] at r; cases r; exact ⟨_,.nil⟩
 | d::ds,xs,us,hn,h,r=>by
  obtain ⟨x,rr,rfl,h2,h3⟩:=aL.mp h
  unfold iJ at hn
  rw [Jm] at hn
  cases r with
  | cons r1 r2 =>
   obtain ⟨as,ra⟩:=Den.reads I d x _ hn.1 h2 r1
   obtain ⟨bs,rb⟩:=aP.reads I ds rr _ hn.2 h3 r2
   exact ⟨_,.cons ra rb⟩
end
theorem aCs (hg:X.A.guards=some []) (hu:X.A.units+64 < cLine):dQ X (.builtin "repr") (λxs H Q=>∃ d a,xs = [.ref a]/\Den X.K H d (.ref a)/\eM d=true/\d.hasDict=false/\d.showable=true/\d.depth<=60/\d.shown.length<=sizeLine/\Q (.str d.shown) H):=by
 intro aa s σ H xs us Q I r h
 obtain ⟨d,a,rfl,hd,h1,h2,h3,h4,h5,q⟩:=h
 obtain ⟨u,rfl,rx⟩:=fO r
 obtain ⟨as,rd⟩:=Den.reads I d _ _ h1 hd rx
 cases rx
 exact repr_of_reads' rd h3 (λz=>by rw [h2] at z; cases z) hg (by omega) (λ_ _ e=>e) (λh' u tk kp=>⟨.str d.shown,H,I.kept kp,⟨_,rfl⟩,q⟩) h5
theorem IB (hu:X.A.units+64 < cLine):d6 X (compareOp .Eq) (λx y H Q=>∃ d e,Den X.K H d x/\Den X.K H e y/\eM d=true/\eM e=true/\SeqAt.shaped d=true/\SeqAt.shaped e=true/\Q (.bl (PyData.eqv d e)) H):=by
 intro aa s σ H x y v u Q I rx ry h
 obtain ⟨d,e,hd,he,n1,n2,s1,s2,q⟩:=h
 obtain ⟨as,ra⟩:=Den.reads I d x v n1 hd rx
 obtain ⟨bs,rb⟩:=Den.reads I e y u n2 he ry
 exact eq_dataH ra rb s1 s2 hu ⟨.bl _,H,I,rfl,q⟩
theorem aCt:Dg X "tuple.count" (λx vs H Q=>∃ (a:Addr) (ns:List Int) (n:Int),x=.ref a/\vs = [.int n]/\ah X.K H a (ns.map V.int)/\Q (.int (ns.count n:Nat)) H):=by
 intro aa s σ H x v vs us Q I rx r h
 obtain ⟨a,ns,n,rfl,rfl,ha,q⟩:=h
 obtain ⟨u,rfl,t,rfl⟩:=fO r
 cases rx
 obtain ⟨its,rv,⟨⟨cls,dd,data,sl⟩,ho,hc,k,hd⟩,uu⟩:=I.tuple ha
 simp only at hc hd
 subst hc hd
 have hi:IntsAre its ns:=fQ rv
 refine Tn Ie ⟨_,ho,rfl⟩ PySem.F.entry_tuple_count (PySem.F.args_tuple_count_2 _ _) (SeqAt.tuple_countAt a its.toArray k dd sl (.int n t) (isInt n)) ⟨ho,λy hy=>(eq_isInt n t hi y (by simpa using hy)).at _ _,?_⟩
 have e:(its.toArray.toList.countP (isInt n))=ns.count n:=by
  simp only [List.toList_toArray]
  clear q r ha rv ho uu
  induction hi with
  | nil=>rfl
  | cons m t' _ ih =>
   rw [List.countP_cons,Zi,ih]
   rfl
 rw [e]
 exact ⟨.int _,H,I.tok _,⟨_,rfl⟩,q⟩
end
theorem aCu {x:Value} (CL:ns.length < 64) (hc:∀ Q':List Value->Shared->Prop,(∀ h' tk vs,(∀ b o,s.heap.get? b=some o->h'.get? b=some o)->IntsAre vs ns->Q' vs { s with heap:=h',toks:=tk })->wpAny (model prog w) A.in1 (collect x) Q' E s) (h:∀ (h1 h':Heap) tk out kc,(∀ b o,s.heap.get? b=some o->h1.get? b=some o)->(∀ b o,h1.get? b=some o->h'.get? b=some o)->h'.PlainList h1.objs.size out->IntsAre out.toList kc->kc.Perm ns->kc.Pairwise (·<=·)->Q (.ref h1.objs.size) { s with heap:=h',toks:=tk }) :
  wpAny (model prog w) A (call (.builtin "sorted") [x]) Q E s:=by
 refine Calls.call_function_entry kind_sorted plain_sorted entry_sorted (args_sorted1 _) ?_
 unfold Builtin.«sorted»
 refine Ra (m:=checkCount "sorted" 1 1 _) (Rc ?_)
 refine Ra (hc _ λh1 tk vs kp hi=>?_)
 have hlen:=hi.length
 refine Ra (wpAny_newList ?_ (by rw [Rf]; omega))
 have kg:(h1.push (seqObj "list" vs.toArray 0)).get? h1.objs.size=some (seqObj "list" vs.toArray 0):=Qh _ rfl
 refine Ra (Rn (Rp slot_list_sort ⟨_,kg,rfl⟩ Rah (list_sort_tree kg hi (by omega) λout kc a1 a2 a3=>⟨_,rfl,?_⟩) (args_list_sort _)))
 refine Rc ⟨_,rfl,?_⟩
 obtain ⟨e,he⟩:=sortedHeap_at (out:=out) kg
 refine h h1 _ tk out kc kp (λb o q=>?_) ⟨e,he⟩ a1 a2 a3
 rw [sortedHeap_old (Jc (Qm q)) (by rw [size_push']; exact Xd (Qm q))]
 exact Qb _ q
theorem uT {x:Value} {b:Bool} (CL:ns.length < 64) (hc:∀ Q':List Value->Shared->Prop,(∀ h' tk vs,(∀ b o,s.heap.get? b=some o->h'.get? b=some o)->IntsAre vs ns->Q' vs { s with heap:=h',toks:=tk })->wpAny (model prog w) A.in1 (collect x) Q' E s) (h:∀ (h1 h':Heap) tk out kc,(∀ b o,s.heap.get? b=some o->h1.get? b=some o)->(∀ b o,h1.get? b=some o->h'.get? b=some o)->h'.PlainList h1.objs.size out->IntsAre out.toList kc->kc.Perm ns->Ordered b kc->Q (.ref h1.objs.size) { s with heap:=h',toks:=tk }) :
  wpAny (model prog w) A (call (.builtin "sorted") [x] [(Str.ofString "reverse",.bool b)]) Q E s:=by
 refine call_function_entry_kw kind_sorted plain_sorted entry_sorted (args_sorted_rev _ _) ?_
 unfold Builtin.«sorted»
 refine Ra (m:=checkCount "sorted" 1 1 _) (Rc ?_)
 refine Ra (hc _ λh1 tk vs kp hi=>?_)
 have hlen:=hi.length
 refine Ra (wpAny_newList ?_ (by rw [Rf]; omega))
 have kg:(h1.push (seqObj "list" vs.toArray 0)).get? h1.objs.size=some (seqObj "list" vs.toArray 0):=Qh _ rfl
 refine Ra (Rn (wpAny_call_entry_kw slot_list_sort ⟨_,kg,rfl⟩ Rah (list_sort_tree_rev kg hi (by omega) λout kc a1 a2 a3=>⟨_,rfl,?_⟩) (args_list_sort_rev _ _)))
 refine Rc ⟨_,rfl,?_⟩
 obtain ⟨e,he⟩:=sortedHeap_at (out:=out) kg
 refine h h1 _ tk out kc kp (λb o q=>?_) ⟨e,he⟩ a1 a2 a3
 rw [sortedHeap_old (Jc (Qm q)) (by rw [size_push']; exact Xd (Qm q))]
 exact Qb _ q
theorem zG:dQ X (.type "range") (λxs H Q=>∃ j,xs = [.int j]/\∀ p,H p=none->Q (.ref p) (upd H p (.jm 0 j))):=by
 intro aa s σ H xs us Q I r h
 obtain ⟨j,rfl,q⟩:=h
 obtain ⟨u,rfl,t,rfl⟩:=fO r
 refine call_range_1 ⟨.ref s.heap.objs.size,_,I.laid (λb o e=>Qb _ e) (Qi _) ?_,rfl,q _ (I.az.fresh (Qi _))⟩
 exact ⟨_,_,_,Qh _ rfl⟩
noncomputable def aQ (n:Nat):List Int:=(List.range n).map λ(i:Nat)=>(i:Int)
theorem zH:dQ X (.builtin "sorted") (λxs H Q=>∃ (a:Addr) (ns:List Int),xs = [.ref a]/\(ai X.K H a (ns.map V.int)∨ah X.K H a (ns.map V.int))/\ns.length < 64 /\
  ∀ (p:Addr) (ms:List Int),H p=none->ms.Perm ns->ms.Pairwise (·<=·)->Q (.ref p) (upd H p (.lst (ms.map V.int)))):=by
 intro aa s σ H xs us Q I r h
 obtain ⟨a,ns,rfl,ha,CL,q⟩:=h
 obtain ⟨u,rfl,rx⟩:=fO r
 cases rx
 refine aCu CL (λQ' qo=>?_) λh1 h' tk out kc k1 k2 pl hi hp ho=>?_
 ·rcases ha with ha | ha
  ·obtain ⟨its,rv,⟨o,n,e,c,_,d⟩,hz⟩:=I.list ha
   have hl:=rv.length
   exact Ux a (.inl rfl) e c d (λh' kp=>qo h' s.toks _ kp (by simpa using fQ rv)) (by rw [Qj,<- hl]; exact hz)
  ·obtain ⟨its,rv,⟨o,e,c,n,d⟩,hz⟩:=I.tuple ha
   have hl:=rv.length
   exact Ux a (.inr rfl) e c d (λh' kp=>qo h' s.toks _ kp (by simpa using fQ rv)) (by rw [Qj,<- hl]; exact hz)
 ·have I1:Inv X aa σ H { s with heap:=h1,toks:=tk }:=I.kept k1
  have hf:=I1.az.fresh (Qi _)
  have hl:=hp.length_eq
  obtain ⟨n,e⟩:=pl
  have I2:Inv X aa σ (upd H h1.objs.size (.lst (kc.map V.int))) { s with heap:=h',toks:=tk } :=
   I1.laid (t':=tk) k2 (Qi _) (show bO X.prog X.w _ _ _ (.lst _) from ⟨by rw [Qa,hl,Rf]; omega,out.toList,n,pE hi,by simpa using e⟩)
  exact ⟨.ref h1.objs.size,_,I2,rfl,q _ kc hf hp ho⟩
theorem uU {x:Expr} {pos:Pos} {tx:TE} {cj fg} (hg:Gl X "sorted") (hm:X.mg "sorted" = none) (hx:PE X x tx) (he:starEach [x] X.env = [(false,eval x X.env)]:=by rfl) :
  PE X (.Call (.Name "sorted" p) [x] [⟨some "reverse",.Constant (.bool true) cj fg,vt⟩] pos) (λσ H Q=>tx σ H λv H1=>∃ (a:Addr) (ns:List Int),v=.ref a/\(ai X.K H1 a (ns.map V.int)∨ah X.K H1 a (ns.map V.int))/\ns.length < 64 /\
   ∀ (p:Addr) (ms:List Int),H1 p=none->ms.Perm ns->ms.Pairwise (·≥·)->Q (.ref p) (upd H1 p (.lst (ms.map V.int)))):=by
 intro aa s σ H Q I h
 refine Ts (iB (u:=.builtin "sorted") I hg hm (by decide +kernel) ?_)
 have Gw:PA X [x] (yT tx BN):=aA hx aC he
 refine callWith_kw (a7 (Gw pos aa s σ H (λvs H1=>match vs with
   | [v]=>∃ (a:Addr) (ns:List Int),v=.ref a/\(ai X.K H1 a (ns.map V.int)∨ah X.K H1 a (ns.map V.int))/\ns.length < 64/\∀ (p:Addr) (ms:List Int),H1 p=none->ms.Perm ns->ms.Pairwise (·≥·)->Q (.ref p) (upd H1 p (.lst (ms.map V.int)))
   | _=>False) I h) λus s1 ⟨vs,H1,I1,r1,q1⟩=>?_) (by rw [he]; rfl) (by rw [he]; rfl)
 have hk:PK X [⟨some "reverse",.Constant (.bool true) cj fg,vt⟩] (yT (tC (.bl true)) BN):=aEU iN u?
 refine a7 (hk pos aa s1 σ H1 (λzs H2=>zs = [.bl true]/\H2=H1) I1 ⟨rfl,rfl⟩) λws s2 aq=>?_
 obtain ⟨zs,H2,I2,rz,ez,eH⟩:=aq
 subst ez eH
 obtain ⟨w1,rfl,SF⟩:=fO rz
 cases SF
 match vs,r1,q1 with
 | [v],r1,q1 =>
  obtain ⟨a,ns,rfl,ha,CL,q⟩:=q1
  obtain ⟨u,rfl,rx⟩:=fO r1
  cases rx
  show wpAny (model X.prog X.w) X.A (call (.builtin "sorted") [.ref a] [(Str.ofString "reverse",.bool true)]) _ _ _
  refine uT CL (λQ' qo=>?_) λh1 h' tk out kc k1 k2 pl hi hp ho=>?_
  ·rcases ha with ha | ha
   ·obtain ⟨its,rv,⟨o,n,e,c,_,d⟩,hz⟩:=I2.list ha
    have hl:=rv.length
    exact Ux a (.inl rfl) e c d (λh' kp=>qo h' s2.toks _ kp (by simpa using fQ rv)) (by rw [Qj,<- hl]; exact hz)
   ·obtain ⟨its,rv,⟨o,e,c,n,d⟩,hz⟩:=I2.tuple ha
    have hl:=rv.length
    exact Ux a (.inr rfl) e c d (λh' kp=>qo h' s2.toks _ kp (by simpa using fQ rv)) (by rw [Qj,<- hl]; exact hz)
  ·have J1:Inv X aa σ H2 { s2 with heap:=h1,toks:=tk }:=I2.kept k1
   have hf:=J1.az.fresh (Qi _)
   have hl:=hp.length_eq
   obtain ⟨n,e⟩:=pl
   have J2:Inv X aa σ (upd H2 h1.objs.size (.lst (kc.map V.int))) { s2 with heap:=h',toks:=tk } :=
    J1.laid (t':=tk) k2 (Qi _) (show bO X.prog X.w _ _ _ (.lst _) from ⟨by rw [Qa,hl,Rf]; omega,out.toList,n,pE hi,by simpa using e⟩)
   exact ⟨.ref h1.objs.size,_,J2,rfl,q _ kc hf hp ho⟩
 | [],_,q1=>exact q1.elim
 | _::_::_,_,q1=>exact q1.elim
noncomputable def tab (L:Bool) (ns:List Nat):SetTable:={ mask:=7,place:=ns.toArray,dummies:=#[],finger:=0,led:=L,moves:=0,plain:=true }
noncomputable def Y5 (l:List (Nat×Tok)):Array (Int×Value):=(l.map λp=>((p.1:Int),Value.int (p.1:Int) p.2)).toArray
noncomputable def SX (L:Bool) (h:Heap) (a:Addr) (l:List (Nat×Tok)):Prop:=∃ o ep,h.get? a=some o/\o.ExactSet/\o.data=.set (Y5 l) ep (tab L (l.map (·.1)))
noncomputable abbrev Led (w:World):Bool:=!(w.params.followText "set-order")
theorem rP (a:Value) {Q₁:Value->Shared->Prop}
  (h:Q₁ (.ref s.heap.objs.size) { s with heap:=s.heap.push { cls:=.type "set",dict:=none,data:=.set #[] 0 (.fresh 0 0 (Led w)) } }) :
  codeAny (model prog w) A (.call (.builtin "set.__new__") ⟨[.type "set",a],[]⟩) (wants Q₁ E) s:=by
 refine Ir ?_
 show wpAny _ A.in1 (do checkBuiltinCall "set.__new__" ⟨[.type "set",a],[]⟩; again (.builtin "set.__new__" ⟨[.type "set",a],[]⟩)) _ _ s
 refine Ra (Il (PySem.F.newCall_set_1 a) (Rc ⟨To Im _,Tb PySem.F.entry_set_new ?_⟩))
 rw [Around.under_plainId Im _]
 unfold Builtin.«set.__new__» Builtin.Frozenset.newClass
 have v_:=sub_set_self
 obtain ⟨hp,g,d,tk,os⟩:=s
 dsimp only
 wp_walk
 refine My (Rc ?_)
 dsimp only
 simp only [newObj]
 refine Ra (wpAny_alloc (Rc ?_))
 exact Rc h
theorem aDv {wr:List Addr} {P:Nat->Value->Prop} {St:Nat->Heap->Prop} (W:Walks prog w A.in1 I fp wr n P St) (hi:i < n) (st:St i s.heap) (h:∀ v h' tk,P i v->St (i+1) h'->(∀ b o,b∉wr->s.heap.get? b=some o->h'.get? b=some o) ->
   wpAny (model prog w) A.in1 (setAdd S v) (λ_ s2=>codeAny (model prog w) A (.builtin "set.update.loop" ⟨[.ref S,.ref I],[]⟩) R s2) (λe s'=>R (.error e) s') { s with heap:=h',toks:=tk }) :
  codeAny (model prog w) A (.builtin "set.update.loop" ⟨[.ref S,.ref I],[]⟩) R s:=by
 refine Tb PyProof.Rows.F.entry_set_update_loop ?_
 rw [Around.under_plainId PyProof.Rows.F.plain_set_update_loop _]
 show wpAny _ A.in1 (pyNext (.ref I) >>= _) _ _ s
 refine Ra (W.item i s _ _ hi st λv h' tk hP JT hk=>?_)
 show wpAny _ A.in1 (holding [v] (setAdd S v) >>= _) _ _ _
 refine Ra (Rn (Ru (h v h' tk hP JT hk) (λ_ s2 q=>?_) λ_ _ e=>e))
 exact Rc ⟨To PyProof.Rows.F.plain_set_update_loop _,q⟩
theorem aDw {wr:List Addr} {P:Nat->Value->Prop} {St:Nat->Heap->Prop} (W:Walks prog w A.in1 I fp wr n P St) (st:St n s.heap) (h:∀ h' tk,(∀ b o,b∉wr->s.heap.get? b=some o->h'.get? b=some o)->R (.ok (.ret .none)) { s with heap:=h',toks:=tk }) :
  codeAny (model prog w) A (.builtin "set.update.loop" ⟨[.ref S,.ref I],[]⟩) R s:=by
 refine Tb PyProof.Rows.F.entry_set_update_loop ?_
 rw [Around.under_plainId PyProof.Rows.F.plain_set_update_loop _]
 show wpAny _ A.in1 (pyNext (.ref I) >>= _) _ _ s
 refine Ra (W.done s _ _ st λh' tk hk=>?_)
 show wpAny _ A.in1 (ret Value.none) _ _ _
 exact Rc (h h' tk hk)
noncomputable def two (a b:Nat) (t u:Tok):List (Nat×Tok):=if a=b then [(a,t)] else if a < b then [(a,t),(b,u)] else [(b,u),(a,t)]
noncomputable def ρ (ns:List Nat) (i:Nat):Nat:=if i=0 then 0 else (ns[i - 1]?).getD 0+1
theorem N6:∀ (k j:Fin 8) (i:Fin 3),k < j->SetTable.below #[k.val,j.val] (ρ [k.val,j.val] i.val)=i.val:=by decide +kernel
section
variable {l:List (Nat×Tok)}
end
noncomputable def aIu (w:World) (p:Addr) (a b:Nat):HO:=.ext λh=>∃ t u,SX (Led w) h p (two a b t u)
structure Sub (prog:Program) (w:World) (i l:Addr) (n:Nat) (P:Nat->Value->Prop) (st:Nat->Heap->Prop):Prop where
 keep:∀ k h h',st k h->(∀ b,b=i∨b=l->∀ o,h.get? b=some o->h'.get? b=some o)->st k h'
 obj:∀ k h,st k h->(∃ o,h.get? i=some o/\∀ v,o.data≠.cell v)/\∃ o,h.get? l=some o
 item:∀ (A:Around) k (s:Shared) (Q:Value->Shared->Prop) (E:Value->Shared->Prop),k < n->st k s.heap->(∀ v h',P k v->st (k+1) h'->Heap.SameBut i s.heap h'->Q v { s with heap:=h' })->wpAny (model prog w) A (Builtin.SmallTypes.nextOf (.ref i)) Q E s
 done:∀ (A:Around) (s:Shared) (Q:Value->Shared->Prop) (E:Value->Shared->Prop),A.handled=none->st n s.heap->(∀ h' e,Heap.ExtBut i s.heap h'->(∃ o,h'.get? e=some o/\o.cls=.type "StopIteration")->E (.ref e) { s with heap:=h' }) ->
  wpAny (model prog w) A (Builtin.SmallTypes.nextOf (.ref i)) Q E s
theorem aDx (prog:Program) (w:World) (i l:Addr) (items:Array Value) (br:l≠i):Sub prog w i l items.size (λk v=>items[k]?=some v) (λk h=>h.IsListIter i l k/\h.IsList l items) where
 keep:=λk h h' st kp=>⟨st.1.at λo e=>kp i (.inl rfl) o e,st.2.at λo e=>kp l (.inr rfl) o e⟩
 obj:=λk h st=>by
  obtain ⟨⟨o,e,_,d⟩,⟨o2,e2,_⟩⟩:=st
  exact ⟨⟨o,e,λv z=>by rw [d] at z; cases z⟩,o2,e2⟩
 item:=λA k s Q E hk st hQ=>wpAny_nextOf_list_item st.1 st.2 (Array.getElem?_eq_getElem hk) λh' a b=>hQ _ h' (Array.getElem?_eq_getElem hk) ⟨a,st.2.at λo e=>b.extBut l o br e⟩ b
 done:=λA s Q E hh st hE=>wpAny_nextOf_list_end hh st.1 st.2 (Array.getElem?_eq_none (Qi _)) hE
theorem nZ {x:Value} (hit:s.heap.IsTupleIter it t i) (ht:s.heap.IsTuple t items) (hx:items[i]?=some x) (hQ:∀ h',h'.IsTupleIter it t (i+1)->Heap.SameBut it s.heap h'->Q x { s with heap:=h' }):wpAny (model prog w) A (Builtin.SmallTypes.nextOf (.ref it)) Q E s:=by
 obtain ⟨o,ho,hc,hd⟩:=id hit
 obtain ⟨ol,Bt,_,nl,fe⟩:=ht
 have hT:=hit.typeIs
 unfold Builtin.SmallTypes.nextOf
 refine Ra (Rg (name:=Str.ofString "__next__") hT Tf (Rp Tf hT Vg ?_ (Vd _)))
 refine Ra (m:=field (.ref it) 0) (Ri ho hd (x:=.ref t) rfl ?_)
 have Cq:¬ ((Value.ref t==Value.none)=true):=Qu
 show wpAny _ _ (if (Value.ref t==Value.none)=true then _ else _) _ _ s
 rw [if_neg Cq]
 refine Ra (m:=field (.ref it) 1) (Ri ho hd (x:=.int i 0) rfl ?_)
 refine Ra (m:=seqItems? (.ref t)) (Ry Bt fe ?_)
 simp only [Zb,hx]
 refine Ra (wpAny_setField ho hd (by simp) (Rc ⟨x,rfl,Rc (hQ _ ?_ (Heap.SameBut.update ..))⟩))
 refine ⟨_,Xr _ ho (Obj.isFreed_of_fields (Obj.data_mapFields hd _)),(Obj.cls_mapFields ..).trans hc,?_⟩
 rw [Obj.data_mapFields hd]
 simp [rawInt]
theorem pG (hh:A.handled=none) (hit:s.heap.IsTupleIter it t i) (ht:s.heap.IsTuple t items) (hx:items[i]?=none) (hE:∀ h' e,Heap.ExtBut it s.heap h'->(∃ o,h'.get? e=some o/\o.cls=.type "StopIteration")->E (.ref e) { s with heap:=h' }):wpAny (model prog w) A (Builtin.SmallTypes.nextOf (.ref it)) Q E s:=by
 obtain ⟨o,ho,hc,hd⟩:=id hit
 obtain ⟨ol,Bt,_,nl,fe⟩:=ht
 have hT:=hit.typeIs
 unfold Builtin.SmallTypes.nextOf
 refine Ra (Rg (name:=Str.ofString "__next__") hT Tf (Rp Tf hT Vg ?_ (Vd _)))
 refine Ra (m:=field (.ref it) 0) (Ri ho hd (x:=.ref t) rfl ?_)
 have Cq:¬ ((Value.ref t==Value.none)=true):=Qu
 show wpAny _ _ (if (Value.ref t==Value.none)=true then _ else _) _ _ s
 rw [if_neg Cq]
 refine Ra (m:=field (.ref it) 1) (Ri ho hd (x:=.int i 0) rfl ?_)
 refine Ra (m:=seqItems? (.ref t)) (Ry Bt fe ?_)
 simp only [Zb,hx]
 refine Ra (Ua (Ra (wpAny_setField ho hd (by simp) ?_)))
 refine Ra (m:=newExc (.type "StopIteration") []) ?_
 simp only [newExc,newTuple]
 refine Ra (Rx ?_ (by size_fits))
 refine Ra (m:=firstArgMember _ _) (Il (a:=Value.none) (by first | rfl | (simp only [firstArgMember]; rfl)) ?_)
 refine Rx ?_ (by size_fits)
 simp only [raiseNew]
 refine Ra (wpAny_handled ?_)
 first | rw [show A.in1.handled=none from hh] | rw [hh]
 refine Ra (Rc (wpAny_throw ?_))
 exact hE _ _ (((Heap.SameBut.update ..).extBut.push _).push _) ⟨_,Qh _ rfl,rfl⟩
theorem aCv (prog:Program) (w:World) (i l:Addr) (items:Array Value) (br:l≠i):Sub prog w i l items.size (λk v=>items[k]?=some v) (λk h=>h.IsTupleIter i l k/\h.IsTuple l items) where
 keep:=λk h h' st kp=>⟨st.1.at λo e=>kp i (.inl rfl) o e,by obtain ⟨o,e,r⟩:=st.2; exact ⟨o,kp l (.inr rfl) o e,r⟩⟩
 obj:=λk h st=>by
  obtain ⟨⟨o,e,_,d⟩,⟨o2,e2,_⟩⟩:=st
  exact ⟨⟨o,e,λv z=>by rw [d] at z; cases z⟩,o2,e2⟩
 item:=λA k s Q E hk st hQ=>nZ st.1 st.2 (Array.getElem?_eq_getElem hk) λh' a b=>hQ _ h' (Array.getElem?_eq_getElem hk) ⟨a,by obtain ⟨o,e,r⟩:=st.2; exact ⟨o,b.extBut l o br e,r⟩⟩ b
 done:=λA s Q E hh st hE=>pG hh st.1 st.2 (Array.getElem?_eq_none (Qi _)) hE
noncomputable abbrev gJ (h:Heap) (z TI TO:Addr) (f0:Value) (f1:Bool):Prop :=
 h.get? z=some { cls:=.type "zip",dict:=none,data:=.fields #[f0,.bool f1,.bool false,.ref TI,.ref TO],slots:=#[] }
noncomputable def F0 (f:Value):Prop:=f=.none∨∃ a t,f=.int a t
theorem zI {Q:Option Obj->Shared->Prop} (h:Q (s.heap.get? a) s):wpAny M A (loadIfAlive a) Q E s:=λΓ p _=>by
 show Sem.wp M Γ (.loadIfAlive a .pure) _ _ p s
 rw [Sem.wp_loadIfAlive]
 exact (Sem.wp_pure ..).mpr h
section
variable {z TI TO:Addr} {n1:Nat}
theorem Pa {Q:Bool->Shared->Prop} (hz:gJ s.heap z TI TO f0 f1) (hf:F0 f0) (h1:Q true s) (h2:∀ h' b,f0≠.none->gJ h' z TI TO f0 b->Heap.SameBut z s.heap h'->Q false { s with heap:=h' }) :
  wpAny (model prog w) A (Builtin.SmallTypes.ownedTupleIsFree (.ref z)) Q E s:=by
 unfold Builtin.SmallTypes.ownedTupleIsFree
 rcases hf with rfl | ⟨a,t,rfl⟩
 ·exact Ra (Ri hz rfl (x:=.none) rfl (Rc h1))
 ·refine Ra (Ri hz rfl (x:=.int a t) rfl ?_)
  show wpAny (model prog w) A (loadIfAlive a.toNat >>= _) Q E s
  refine Ra (zI ?_)
  cases hq:s.heap.get? a.toNat with
  | none=>exact Rc h1
  | some o =>
   show wpAny (model prog w) A (field (.ref z) 1 >>= _) Q E s
   refine Ra (Ri hz rfl (x:=.bool f1) rfl ?_)
   cases f1 with
   | true=>exact Rc (h2 s.heap true (by simp) hz (Heap.SameBut.refl _ _))
   | false =>
    show wpAny (model prog w) A (setField (.ref z) 1 (.bool true) >>= _) Q E s
    refine Ra (Rj hz (by simp) λg hg b=>Rc (h2 g true (by simp) hg b))
theorem rQ {k:Nat} {a b:Value} (D:ZipApart z TI TO i1 i2 l1 l2) (S1:Sub prog w i1 l1 n1 P1 k_) (S2:Sub prog w i2 l2 n2 P2 gf) (hz:gJ s.heap z TI TO f0 f1) (hf:F0 f0) (fc:IsPair s.heap TI (.ref i1) (.ref i2)) (ff:IsPair s.heap TO a b) (h1:k_ k s.heap) (h2:gf k s.heap) (k1:k < n1) (k2:k < n2) (hQ:∀ h' x y EN Hk,(f0=.none->EN=rawInt s.heap.objs.size/\Hk=false)->P1 k x->P2 k y->F0 EN->gJ h' z TI TO EN Hk->(∃ a b,IsPair h' TO a b)->k_ (k+1) h'->gf (k+1) h'->IsPair h' s.heap.objs.size x y->h'.objs.size=s.heap.objs.size+1 ->
   (∀ c o,c≠z->c≠TO->c≠i1->c≠i2->s.heap.get? c=some o->h'.get? c=some o)->Q (.ref s.heap.objs.size) { s with heap:=h' }) :
  wpAny (model prog w) A (Builtin.«zip.__next__» ⟨[.ref z],[]⟩) (λfin s'=>∃ v,fin=.done (.ret v)/\Q v s') E s:=by
 refine Ra (m:=field (.ref z) 2) (Ri hz rfl (x:=.bool false) rfl ?_)
 refine Ra (m:=field (.ref z) 3) (Ri hz rfl (x:=.ref TI) rfl ?_)
 refine Ra (Ry fc rfl ?_)
 refine Ra (m:=Builtin.SmallTypes.ownedTupleIsFree (.ref z)) (Pa hz hf ?_ λh0 fb nf xo b0=>?_)
 ·simp only [if_true]
  refine Ra (Ua ?_)
  refine Ra (Ri hz rfl (x:=.ref TO) rfl ?_)
  refine Ra (Rj hz (by simp) λg1 F8 b1=>?_)
  have vw:gJ g1 z TI TO .ellipsis f1:=F8
  refine Ra ?_
  simp only [List.zipIdx_cons,List.zipIdx_nil,Zs,Zn]
  have s1:k_ k g1:=S1.keep _ _ _ h1 λc hc o e=>b1.extBut c o (by rcases hc with r | r <;> rw [r]; exact D.i1z; exact D.l1z) e
  refine Ra (Ra (Vr ?_))
  refine Ra (m:=Builtin.SmallTypes.nextOf (.ref i1)) (S1.item _ k _ _ _ k1 s1 λx g2 px t1 b2=>Rc ?_)
  have o2:IsPair g2 TO a b:=b2.extBut _ _ D.TOi1 (b1.extBut _ _ D.TOz ff)
  refine Ra (Ry o2 rfl ?_)
  refine Ra (Vi o2 λg3 o3 b3=>?_)
  have SV:IsPair g3 TO x b:=o3
  refine Ra (Tr (Rc ?_))
  have s2:gf k g3:=S2.keep _ _ _ h2 λc hc o e=>by
   rcases hc with r | r
   ·rw [r] at e ⊢; exact b3.extBut _ _ D.TOi2.symm (b2.extBut _ _ D.i12.symm (b1.extBut _ _ D.i2z e))
   ·rw [r] at e ⊢; exact b3.extBut _ _ D.l2TO (b2.extBut _ _ D.l2i1 (b1.extBut _ _ D.l2z e))
  refine Ra (Ra (Vr ?_))
  refine Ra (m:=Builtin.SmallTypes.nextOf (.ref i2)) (S2.item _ k _ _ _ k2 s2 λy g4 py t2 b4=>Rc ?_)
  have o4:IsPair g4 TO x b:=b4.extBut _ _ D.TOi2 SV
  refine Ra (Ry o4 rfl ?_)
  refine Ra (Vi o4 λg5 o5 b5=>?_)
  have Lb:IsPair g5 TO x y:=o5
  refine Ra (Tr (Rc (Rc ?_)))
  refine Ra (Ry Lb rfl ?_)
  refine Ra (Vj ?_)
  have sz:g5.objs.size=s.heap.objs.size:=by rw [b5.1,b4.1,b3.1,b2.1,b1.1]
  have z5:gJ g5 z TI TO .ellipsis f1:=b5.extBut _ _ D.TOz.symm (b4.extBut _ _ D.i2z.symm (b3.extBut _ _ D.TOz.symm (b2.extBut _ _ D.i1z.symm vw)))
  have TM:∀ c o,c≠z->c≠TO->c≠i1->c≠i2->s.heap.get? c=some o->g5.get? c=some o:=λc o c1 c2 c3 c4 e =>
   b5.extBut _ _ c2 (b4.extBut _ _ c4 (b3.extBut _ _ c2 (b2.extBut _ _ c3 (b1.extBut _ _ c1 e))))
  have FI:k_ (k+1) g5:=S1.keep _ _ _ t1 λc hc o e=>by
   rcases hc with r | r
   ·rw [r] at e ⊢; exact b5.extBut _ _ D.TOi1.symm (b4.extBut _ _ D.i12 (b3.extBut _ _ D.TOi1.symm e))
   ·rw [r] at e ⊢; exact b5.extBut _ _ D.l1TO (b4.extBut _ _ D.l1i2 (b3.extBut _ _ D.l1TO e))
  have Ss:gf (k+1) g5:=S2.keep _ _ _ t2 λc hc o e=>by
   rcases hc with r | r
   ·rw [r] at e ⊢; exact b5.extBut _ _ D.TOi2.symm e
   ·rw [r] at e ⊢; exact b5.extBut _ _ D.l2TO e
  have KL:g5.objs.size≠z:=Ze (Qm z5)
  refine Ra (m:=Builtin.SmallTypes.ownedTupleHandOut (.ref z) (.ref g5.objs.size)) ?_
  unfold Builtin.SmallTypes.ownedTupleHandOut
  have z6:gJ (g5.push { cls:=.type "tuple",data:=.seq #[x,y] }) z TI TO .ellipsis f1:=Qb _ z5
  refine Ra (Rj z6 (by simp) λg7 z7 b7=>?_)
  have RV:gJ g7 z TI TO (rawInt g5.objs.size) f1:=z7
  refine Rj RV (by simp) λg8 z8 b8=>?_
  have KN:gJ g8 z TI TO (rawInt g5.objs.size) false:=z8
  have up:∀ c o,c≠z->g5.get? c=some o->g8.get? c=some o:=λc o c1 e=>b8.extBut _ _ c1 (b7.extBut _ _ c1 (Qb _ e))
  have T8:IsPair g8 g5.objs.size x y:=b8.extBut _ _ KL (b7.extBut _ _ KL (Qh _ rfl))
  have Su:g8.objs.size=s.heap.objs.size+1:=by rw [b8.1,b7.1,Jk,sz]
  rw [sz] at KN T8
  refine Rc ⟨_,rfl,?_⟩
  show Q (.ref g5.objs.size) _
  rw [sz]
  refine hQ g8 x y _ _ (λ_=>⟨rfl,rfl⟩) px py (.inr ⟨_,_,rfl⟩) KN ⟨_,_,up _ _ D.TOz Lb⟩ (S1.keep _ _ _ FI λc hc o e=>up c o (by rcases hc with r | r <;> rw [r]; exact D.i1z; exact D.l1z) e) (S2.keep _ _ _ Ss λc hc o e=>up c o (by rcases hc with r | r <;> rw [r]; exact D.i2z; exact D.l2z) e) T8 Su λc o c1 c2 c3 c4 e=>up c o c1 (TM c o c1 c2 c3 c4 e)
 ·simp only [Ju,if_false]
  have s1:k_ k h0:=S1.keep _ _ _ h1 λc hc o e=>b0.extBut c o (by rcases hc with r | r <;> rw [r]; exact D.i1z; exact D.l1z) e
  rw [<- Array.forIn_toList]
  simp only [Zs,Zn]
  refine Ra (Ra (Ra (Rn ?_)))
  refine Ra (m:=Builtin.SmallTypes.nextOf (.ref i1)) (S1.item _ k _ _ _ k1 s1 λx g2 px t1 b2=>Rc ?_)
  refine Rc ?_
  have s2:gf k g2:=S2.keep _ _ _ h2 λc hc o e=>by
   rcases hc with r | r
   ·rw [r] at e ⊢; exact b2.extBut _ _ D.i12.symm (b0.extBut _ _ D.i2z e)
   ·rw [r] at e ⊢; exact b2.extBut _ _ D.l2i1 (b0.extBut _ _ D.l2z e)
  refine Ra (Ra (Rn ?_))
  refine Ra (m:=Builtin.SmallTypes.nextOf (.ref i2)) (S2.item _ k _ _ _ k2 s2 λy g4 py t2 b4=>Rc ?_)
  refine Rc (Rc ?_)
  refine Ra (Vj ?_ (by show 2<=sizeLine; rw [Rf]; decide))
  have sz:g4.objs.size=s.heap.objs.size:=by rw [b4.1,b2.1,b0.1]
  have z4:gJ g4 z TI TO f0 fb:=b4.extBut _ _ D.i2z.symm (b2.extBut _ _ D.i1z.symm xo)
  have Cb:∀ c o,c≠z->c≠i1->c≠i2->s.heap.get? c=some o->g4.get? c=some o:=λc o c1 c3 c4 e=>b4.extBut _ _ c4 (b2.extBut _ _ c3 (b0.extBut _ _ c1 e))
  have FI:k_ (k+1) g4:=S1.keep _ _ _ t1 λc hc o e=>by
   rcases hc with r | r
   ·rw [r] at e ⊢; exact b4.extBut _ _ D.i12 e
   ·rw [r] at e ⊢; exact b4.extBut _ _ D.l1i2 e
  refine Rc ⟨_,rfl,?_⟩
  show Q (.ref g4.objs.size) _
  have T8:IsPair (g4.push { cls:=.type "tuple",data:=.seq #[x,y] }) g4.objs.size x y:=Qh _ rfl
  rw [sz] at T8 ⊢
  refine hQ _ x y _ _ (λq=>absurd q nf) px py hf (Qb _ z4) ⟨_,_,Qb _ (Cb _ _ D.TOz D.TOi1 D.TOi2 ff)⟩ (S1.keep _ _ _ FI λc hc o e=>Qb _ e) (S2.keep _ _ _ t2 λc hc o e=>Qb _ e) T8 (by rw [Jk,sz]) λc o c1 c2 c3 c4 e=>Qb _ (Cb c o c1 c3 c4 e)
theorem wY {k:Nat} {a b:Value} {Q:Fin->Shared->Prop} (hh:A.handled=none) (D:ZipApart z TI TO i1 i2 l1 l2) (S1:Sub prog w i1 l1 n1 P1 k_) (S2:Sub prog w i2 l2 n2 P2 gf) (hz:gJ s.heap z TI TO f0 f1) (hf:F0 f0) (fc:IsPair s.heap TI (.ref i1) (.ref i2)) (ff:IsPair s.heap TO a b) (h1:k_ k s.heap) (h2:gf k s.heap) (kr:k=n1/\k<=n2∨k=n2/\k < n1) (hE:∀ h' e,(∀ c o,c≠z->c≠TO->c≠i1->c≠i2->s.heap.get? c=some o->h'.get? c=some o)->(∃ o,h'.get? e=some o/\o.cls=.type "StopIteration")->E (.ref e) { s with heap:=h' }) :
  wpAny (model prog w) A (Builtin.«zip.__next__» ⟨[.ref z],[]⟩) Q E s:=by
 refine Ra (m:=field (.ref z) 2) (Ri hz rfl (x:=.bool false) rfl ?_)
 refine Ra (m:=field (.ref z) 3) (Ri hz rfl (x:=.ref TI) rfl ?_)
 refine Ra (Ry fc rfl ?_)
 refine Ra (m:=Builtin.SmallTypes.ownedTupleIsFree (.ref z)) (Pa hz hf ?_ λh0 fb nf xo b0=>?_)
 ·simp only [if_true]
  refine Ra (Ua ?_)
  refine Ra (Ri hz rfl (x:=.ref TO) rfl ?_)
  refine Ra (Rj hz (by simp) λg1 F8 b1=>?_)
  have vw:gJ g1 z TI TO .ellipsis f1:=F8
  refine Ra ?_
  simp only [List.zipIdx_cons,List.zipIdx_nil,Zs,Zn]
  have s1:k_ k g1:=S1.keep _ _ _ h1 λc hc o e=>b1.extBut c o (by rcases hc with r | r <;> rw [r]; exact D.i1z; exact D.l1z) e
  refine Ra (Ra (Vr ?_))
  have fin:∀ (g:Heap) (e:Addr) (g0:Heap),(∃ o,g.get? e=some o/\o.cls=.type "StopIteration")->gJ g z TI TO .ellipsis f1->(∀ c o,c≠z->c≠TO->c≠i1->c≠i2->s.heap.get? c=some o->g.get? c=some o) ->
    wpAny (model prog w) A (setField (.ref z) 0 .none) (λ_ s'=>E (.ref e) s') E { s with heap:=g }:=λg e g0 ⟨oe,qb,ui⟩ uu kp=>by
   have VL:e≠z:=λq=>by rw [q,uu] at qb; cases qb; simp at ui
   exact Rj uu (by simp) λg' _ b'=>hE g' e (λc o c1 c2 c3 c4 q=>b'.extBut _ _ c1 (kp c o c1 c2 c3 c4 q)) ⟨oe,b'.extBut _ _ VL qb,ui⟩
  rcases kr with ⟨e1,_⟩ | ⟨e2,k1⟩
  ·rw [e1] at s1
   refine Ra (m:=Builtin.SmallTypes.nextOf (.ref i1)) (S1.done _ _ _ _ hh s1 λg2 e b2 he=>?_)
   exact fin g2 e g1 he (b2 _ _ D.i1z.symm vw) λc o c1 _ c3 _ q=>b2 _ _ c3 (b1.extBut _ _ c1 q)
  ·refine Ra (m:=Builtin.SmallTypes.nextOf (.ref i1)) (S1.item _ k _ _ _ k1 s1 λx g2 px t1 b2=>Rc ?_)
   have o2:IsPair g2 TO a b:=b2.extBut _ _ D.TOi1 (b1.extBut _ _ D.TOz ff)
   refine Ra (Ry o2 rfl ?_)
   refine Ra (Vi o2 λg3 o3 b3=>?_)
   refine Ra (Tr (Rc ?_))
   have s2:gf n2 g3:=by
    rw [<- e2]
    exact S2.keep _ _ _ h2 λc hc o e=>by
     rcases hc with r | r
     ·rw [r] at e ⊢; exact b3.extBut _ _ D.TOi2.symm (b2.extBut _ _ D.i12.symm (b1.extBut _ _ D.i2z e))
     ·rw [r] at e ⊢; exact b3.extBut _ _ D.l2TO (b2.extBut _ _ D.l2i1 (b1.extBut _ _ D.l2z e))
   refine Ra (Ra (Vr ?_))
   refine Ra (m:=Builtin.SmallTypes.nextOf (.ref i2)) (S2.done _ _ _ _ hh s2 λg4 e b4 he=>?_)
   exact fin g4 e g3 he (b4 _ _ D.i2z.symm (b3.extBut _ _ D.TOz.symm (b2.extBut _ _ D.i1z.symm vw))) λc o c1 c2 c3 c4 q=>b4 _ _ c4 (b3.extBut _ _ c2 (b2.extBut _ _ c3 (b1.extBut _ _ c1 q)))
 ·simp only [Ju,if_false]
  have s1:k_ k h0:=S1.keep _ _ _ h1 λc hc o e=>b0.extBut c o (by rcases hc with r | r <;> rw [r]; exact D.i1z; exact D.l1z) e
  rw [<- Array.forIn_toList]
  simp only [Zs,Zn]
  refine Ra (Ra (Ra (Rn ?_)))
  rcases kr with ⟨e1,_⟩ | ⟨e2,k1⟩
  ·rw [e1] at s1
   refine Ra (m:=Builtin.SmallTypes.nextOf (.ref i1)) (S1.done _ _ _ _ hh s1 λg2 e b2 he=>?_)
   exact hE g2 e (λc o c1 _ c3 _ q=>b2 _ _ c3 (b0.extBut _ _ c1 q)) he
  ·refine Ra (m:=Builtin.SmallTypes.nextOf (.ref i1)) (S1.item _ k _ _ _ k1 s1 λx g2 px t1 b2=>Rc ?_)
   refine Rc ?_
   have s2:gf n2 g2:=by
    rw [<- e2]
    exact S2.keep _ _ _ h2 λc hc o e=>by
     rcases hc with r | r
     ·rw [r] at e ⊢; exact b2.extBut _ _ D.i12.symm (b0.extBut _ _ D.i2z e)
     ·rw [r] at e ⊢; exact b2.extBut _ _ D.l2i1 (b0.extBut _ _ D.l2z e)
   refine Ra (Ra (Rn ?_))
   refine Ra (m:=Builtin.SmallTypes.nextOf (.ref i2)) (S2.done _ _ _ _ hh s2 λg4 e b4 he=>?_)
   exact hE g4 e (λc o c1 c2 c3 c4 q=>b4 _ _ c4 (b2.extBut _ _ c3 (b0.extBut _ _ c1 q))) he
end
inductive Sk where
 | l | t
end L2
variable {k1 k2:Sk}
namespace L2
open PySem PySem.Spec PyProof.Rows
noncomputable def dz (k:Sk) (K:Rb) (H:Hp) (a:Addr) (xs:List V):Prop:=match k with | .l=>ai K H a xs | .t=>ah K H a xs
noncomputable def oo (k:Sk) (h:Heap) (a:Addr) (its:Array Value):Prop:=match k with | .l=>h.IsList a its | .t=>h.IsTuple a its
noncomputable def fj (k:Sk) (h:Heap) (i a:Addr) (n:Nat):Prop:=match k with | .l=>h.IsListIter i a n | .t=>h.IsTupleIter i a n
noncomputable def oi (k:Sk) (a:Addr):Obj:=match k with | .l=>{ cls:=.type "list_iterator",data:=.fields #[.ref a,.int 0 0] } | .t=>{ cls:=.type "tuple_iterator",data:=.fields #[.ref a,.int 0 0] }
theorem fj.new (k:Sk) (h:Heap) (a:Addr):fj k (h.push (oi k a)) h.objs.size a 0:=by
 cases k
 ·exact ⟨_,Qh _ rfl,rfl,rfl⟩
 ·exact ⟨_,Qh _ rfl,rfl,rfl⟩
theorem fj.obj {k:Sk} {i:Addr} (x:fj k h i a n):∃ o,h.get? i=some o/\∀ v,o.data≠.cell v:=by
 cases k
 ·obtain ⟨o,e,_,d⟩:=x; exact ⟨o,e,λv z=>by rw [d] at z; cases z⟩
 ·obtain ⟨o,e,_,d⟩:=x; exact ⟨o,e,λv z=>by rw [d] at z; cases z⟩
theorem fj.at {k:Sk} {i:Addr} (x:fj k h i a n) (kp:∀ o,h.get? i=some o->h'.get? i=some o):fj k h' i a n:=by
 cases k
 ·exact Heap.IsListIter.at x kp
 ·exact Heap.IsTupleIter.at x kp
theorem oo.at {k:Sk} {its:Array Value} (x:oo k h a its) (kp:∀ o,h.get? a=some o->h'.get? a=some o):oo k h' a its:=by
 cases k
 ·exact Heap.IsList.at x kp
 ·obtain ⟨o,e,r⟩:=x; exact ⟨o,kp o e,r⟩
theorem oA (k:Sk) (prog:Program) (w:World) (i l:Addr) (items:Array Value) (br:l≠i):Sub prog w i l items.size (λj v=>items[j]?=some v) (λj h=>fj k h i l j/\oo k h l items):=by
 cases k
 ·exact aDx prog w i l items br
 ·exact aCv prog w i l items br
theorem zJ {k:Sk} {its:Array Value} (h:oo k s.heap a its) (hQ:Q (.ref s.heap.objs.size) { s with heap:=s.heap.push (oi k a) }):wpAny (model prog w) A (pyIter (.ref a)) Q E s:=by
 cases k
 ·exact Ti h hQ
 ·exact Uj h hQ
section
variable {σ:St}
theorem Inv.cz (I:Inv X aa σ H s) {k:Sk} (h:dz k X.K H a xs):∃ its:List Value,bF xs its/\oo k s.heap a its.toArray:=by
 cases k
 ·obtain ⟨its,r,p,_⟩:=I.list h; exact ⟨its,r,p.isList⟩
 ·obtain ⟨its,r,p,_⟩:=I.tuple h; exact ⟨its,r,p⟩
theorem Inv.e_ (I:Inv X aa σ H s) {k:Sk} (h:dz k X.K H a xs) (h':dz k X.K H a ys):xs=ys:=by
 cases k
 ·exact I.k8 h h'
 ·exact I.jw h h'
theorem Inv.bx (I:Inv X aa σ H s) {k:Sk} (h:dz k X.K H a xs) (f:lM X aa H b):a≠b:=by
 have rd:∀ {u:HO},Rd H a u->a≠b:=λ{u} r z=>by
  rcases r with r | ⟨o,r⟩ <;> (rw [z,f.1] at r; cases r)
 have kk:∀ {o:Obj},X.K.lookup a=some o->a≠b:=λ{o} e z=>by
  have e1:=I.ok.mod.Eu a o e
  rcases f.2.2.2.1 with q | q
  ·exact I.ok.kq a o e1 (z ▸ q)
  ·exact Js _ (Qq (Qm (I.ok.bs a o e1).1) (z ▸ q))
 cases k
 ·rcases h with h | ⟨o,_,_,e,_⟩
  ·exact rd h
  ·exact kk e
 ·rcases h with h | ⟨o,_,_,e,_⟩
  ·exact rd h
  ·exact kk e
theorem Inv.cy (ch:List Addr) (I:Inv X aa σ H s) (k:∀ b o,b∉ch->s.heap.get? b=some o->h'.get? b=some o) (f:∀ b∈ch,lM X aa H b):Inv X aa σ H { s with heap:=h',toks:=t' }:=by
 have B':∀ b u,H b=some u->b∉ch:=λb u e z=>by rw [(f b z).1] at e; cases e
 have nL:X.env.locals∉ch:=λz=>(f _ z).2.1 rfl
 refine I.step (g':=s.gens) (d':=s.drawn) (ch:=ch) (λb hb=>⟨(f b hb).2.2.2.1,(f b hb).2.1,(f b hb).2.2.2.2.1,(f b hb).2.2.2.2.2⟩) (λb o _ _ hc e _=>k b o hc e) (λb o _ _ hc e _=>⟨o.slots,k b o hc e⟩) (λ_ _ _ _ n=>n)
  (λb o hc e=>⟨o,k b o hc e⟩) (λ_ _ e=>e) (λ_ _ _ e=>e) (λb ps e=>⟨#[],by rw [e]; simp⟩) (λm hm=>?_) (λb u e=>?_) I.bare
 ·obtain ⟨o,es,ep,ho,r⟩:=hm
  exact ⟨o,es,ep,k _ o nL ho,r⟩
 ·refine (I.az b u e).dc (λc v hc q=>k c v ?_ q) (λ_ q=>q) λ_ _ q=>q
  rcases hc with z | z
  ·rw [z]; exact B' b u e
  ·exact B' c _ z
theorem Inv.iz {D:Addr} {u:HO} (I:Inv X aa σ H s) (new:bO X.prog X.w (upd H D u) s.heap D u) (hn:H D=none) (hL:D≠X.env.locals)
  (h1:X.fv.heap.objs.size<=D) (h2:∀ x c,X.env.cells.lookup x=some c->c≠D) (h3:∀ p∈X.pn++aa,p.1≠D):Inv X aa σ (upd H D u) s:=by
 have ne:∀ b v,H b=some v->b≠D:=λb v e z=>by rw [z,hn] at e; cases e
 refine I.step (g':=s.gens) (d':=s.drawn) (t':=s.toks) (h':=s.heap) (ch:=[D]) (λb hb=>?_) (λb o _ _ _ e _=>e) (λb o _ _ _ e _=>⟨o.slots,e⟩) (λb o hc _ n=>?_) (λb o _ e=>⟨o,e⟩)
  (λb xs e=>by rw [aI (ne b _ e)]; exact e) (λb o v e=>by rw [aI (ne b _ e)]; exact e) (λb ps e=>⟨#[],by rw [aI (ne b _ e),e]; simp⟩) (λ_ h=>h) (λb v e=>?_) I.bare
 ·have e:b=D:=by simpa using hb
  subst e
  exact ⟨.inr h1,hL,h2,h3⟩
 ·rw [aI (by simpa using hc)]; exact n
 ·by_cases hb:b=D
  ·subst hb
   rw [aB] at e; cases e
   exact new
  ·rw [aI hb] at e
   exact (I.az b v e).dc (λc v _ q=>q) (λc q=>by rw [aI (ne c _ q)]; exact q) λc xs q=>by rw [aI (ne c _ q)]; exact q
end
noncomputable def Fu (K:Rb) (k1 k2:Sk) (a b:Addr):It :=
 ⟨λi H => ∃ xs ys x y, dz k1 K H a xs /\ dz k2 K H b ys /\ xs[i]? = some x /\ ys[i]? = some y,
  λi H v H'=>∃ p,H p=none/\v=.ref p/\∀ xs ys,dz k1 K H a xs->dz k2 K H b ys->∃ x y,xs[i]?=some x/\ys[i]?=some y/\H'=upd H p (.tup [x,y]),
  λi H=>∃ xs ys,dz k1 K H a xs/\dz k2 K H b ys/\min xs.length ys.length=i⟩
theorem aDz {x1} {pos:Pos} (k1 k2:Sk) (a b z TI TO i1 i2:Addr) (D:∀ l1 l2:Addr,(∀ c∈[z,TI,TO,i1,i2],l1≠c)->(∀ c∈[z,TI,TO,i1,i2],l2≠c)->ZipApart z TI TO i1 i2 l1 l2) :
  Turn P w K (.Tuple es x1 pos) (Fu K k1 k2 a b) [z,TI,TO,i1,i2] z (λi h=>IsZip h z TI TO .none/\IsPair h TI (.ref i1) (.ref i2)/\(∃ x y,IsPair h TO x y)/\fj k1 h i1 a i/\fj k2 h i2 b i) where
 mem:=by simp
 obj:=λi h st c hc=>by
  obtain ⟨hz,fc,⟨x,y,ff⟩,h1,h2⟩:=st
  simp only [Qk,Qn,or_false] at hc
  rcases hc with rfl | rfl | rfl | rfl | rfl
  ·exact ⟨_,hz,λv q=>by cases q⟩
  ·exact ⟨_,fc,λv q=>by cases q⟩
  ·exact ⟨_,ff,λv q=>by cases q⟩
  ·exact h1.obj
  ·exact h2.obj
 keep:=λi h h' st k=>by
  obtain ⟨hz,fc,⟨x,y,ff⟩,h1,h2⟩:=st
  exact ⟨k z (by simp) _ hz,k TI (by simp) _ fc,⟨x,y,k TO (by simp) _ ff⟩,h1.at λo e=>k i1 (by simp) o e,h2.at λo e=>k i2 (by simp) o e⟩
 item:=by
  intro X hP hw hK hc i aa s σ H E I hf st hg
  subst hP hw hK
  obtain ⟨hz,fc,⟨x0,y0,ff⟩,h1,h2⟩:=st
  obtain ⟨xs,ys,x,y,ha,hb,hx,hy⟩:=hg
  obtain ⟨its,rv,pa⟩:=I.cz ha
  obtain ⟨ia,c8,pb⟩:=I.cz hb
  obtain ⟨u,hu,ru⟩:=rv.get hx
  obtain ⟨v,hv,B5⟩:=c8.get hy
  have na:∀ c∈[z,TI,TO,i1,i2],a≠c:=λc aj=>I.bx ha (hf c aj)
  have nb:∀ c∈[z,TI,TO,i1,i2],b≠c:=λc aj=>I.bx hb (hf c aj)
  have DD:=D a b na nb
  have hT:s.TypeIs (.ref z) "zip" := ⟨_,hz,rfl⟩
  have l7:i < its.toArray.size:=by rw [Qj]; exact (Qd.mp hu).1
  have u_:i < ia.toArray.size:=by rw [Qj]; exact (Qd.mp hv).1
  unfold pyNext
  refine Ra (Tv (Rg (name:=Str.ofString "__next__") hT Rm (Rp Rm hT Ta
   (rQ DD (oA k1 X.prog X.w i1 a its.toArray (na i1 (by simp))) (oA k2 X.prog X.w i2 b ia.toArray (nb i2 (by simp))) hz (.inl rfl) fc ff ⟨h1,pa⟩ ⟨h2,pb⟩ l7 u_ λh' u' v' f0 f1 nf pu pv _ xp gx s1 s2 CJ _ kp=>Rc ?_) (Rz _))))
  obtain ⟨rfl,rfl⟩:=nf rfl
  obtain ⟨_,_,gx⟩:=gx
  have eu:u'=u:=by
   have q:its[i]?=some u':=by simpa using pu
   rw [hu] at q
   exact (Option.some.inj q).symm
  have ev:v'=v:=by
   have q:ia[i]?=some v':=by simpa using pv
   rw [hv] at q
   exact (Option.some.inj q).symm
  subst eu ev
  refine ⟨_,rfl,wpAny_letOwnedTupleGo_zip xp λh2 Cf jx=>?_⟩
  have Tz:s.heap.objs.size≠z:=Ze (Qm hz)
  have G8:IsPair h2 s.heap.objs.size u' v':=jx.extBut _ _ Tz CJ
  have kh:=I.az.fresh (Qi s.heap.objs.size)
  have fz:=I.fk (Qi s.heap.objs.size) kh
  have I2:Inv X aa σ H { s with heap:=h2 }:=by
   refine I.cy (t':=s.toks) [z,TO,i1,i2] (λc o aj e=>?_) (λc aj=>hf c ?_)
   ·simp only [Qk,Qn,or_false,not_or] at aj
    exact jx.extBut _ _ aj.1 (kp c o aj.1 aj.2.1 aj.2.2.1 aj.2.2.2 e)
   ·simp only [Qk,Qn,or_false] at aj ⊢
    rcases aj with r | r | r | r
    ·exact .inl r
    ·exact .inr (.inr (.inl r))
    ·exact .inr (.inr (.inr (.inl r)))
    ·exact .inr (.inr (.inr (.inr r)))
  have I3:Inv X aa σ (upd H s.heap.objs.size (.tup [x,y])) { s with heap:=h2 }:=by
   refine I2.iz (show bO X.prog X.w _ _ _ (.tup [x,y]) from ⟨by show 2<=sizeLine; rw [Rf]; decide,[u',v'],0,.cons ru (.cons B5 .nil),G8⟩) kh fz.2.1 I.sz fz.2.2.2.2.1 fz.2.2.2.2.2
  refine ⟨.ref s.heap.objs.size,_,I3,rfl,⟨s.heap.objs.size,kh,rfl,λtm Bc ve l8=>?_⟩,⟨Cf,jx.extBut _ _ DD.TIz (kp _ _ DD.TIz DD.TITO DD.TIi1 DD.TIi2 fc),⟨_,_,jx.extBut _ _ DD.TOz gx⟩,s1.1.at λo e=>jx.extBut _ _ DD.i1z e,s2.1.at λo e=>jx.extBut _ _ DD.i2z e⟩,λc aj=>?_⟩
  ·rw [I.e_ ve ha,I.e_ l8 hb]
   exact ⟨x,y,hx,hy,rfl⟩
  ·have cl:c≠s.heap.objs.size:=by
    obtain ⟨o,e⟩:∃ o,s.heap.get? c=some o:=by
     simp only [Qk,Qn,or_false] at aj
     rcases aj with rfl | rfl | rfl | rfl | rfl
     ·exact ⟨_,hz⟩
     ·exact ⟨_,fc⟩
     ·exact ⟨_,ff⟩
     ·obtain ⟨o,e,_⟩:=h1.obj; exact ⟨o,e⟩
     ·obtain ⟨o,e,_⟩:=h2.obj; exact ⟨o,e⟩
    exact Jc (Qm e)
   rw [aI cl]
   exact (hf c aj).1
 done:=by
  intro X hP hw hK hc i aa s σ H E I hf st hg
  subst hP hw hK
  obtain ⟨hz,fc,⟨x0,y0,ff⟩,h1,h2⟩:=st
  obtain ⟨xs,ys,ha,hb,AN⟩:=hg
  obtain ⟨its,rv,pa⟩:=I.cz ha
  obtain ⟨ia,c8,pb⟩:=I.cz hb
  have la:=rv.length
  have lb:=c8.length
  have na:∀ c∈[z,TI,TO,i1,i2],a≠c:=λc aj=>I.bx ha (hf c aj)
  have nb:∀ c∈[z,TI,TO,i1,i2],b≠c:=λc aj=>I.bx hb (hf c aj)
  have DD:=D a b na nb
  have hT:s.TypeIs (.ref z) "zip" := ⟨_,hz,rfl⟩
  unfold pyNext
  refine Ra (Tv (Rg (name:=Str.ofString "__next__") hT Rm (Rp Rm hT Ta
   (wY (I.ok.hd hc) DD (oA k1 X.prog X.w i1 a its.toArray (na i1 (by simp))) (oA k2 X.prog X.w i2 b ia.toArray (nb i2 (by simp))) hz (.inl rfl) fc ff ⟨h1,pa⟩ ⟨h2,pb⟩ (by rw [Qj,Qj]; omega) λh' e kp he=>?_) (Rz _))))
  obtain ⟨oe,qb,ui⟩:=he
  refine Ra (Vb (T := "StopIteration") (b:=true) ⟨oe,qb,ui⟩ Vk (Rc ⟨rfl,?_⟩))
  refine I.cy (t':=s.toks) [z,TO,i1,i2] (λc o aj e=>?_) (λc aj=>hf c ?_)
  ·simp only [Qk,Qn,or_false,not_or] at aj
   exact kp c o aj.1 aj.2.1 aj.2.2.1 aj.2.2.2 e
  ·simp only [Qk,Qn,or_false] at aj ⊢
   rcases aj with r | r | r | r
   ·exact .inl r
   ·exact .inr (.inr (.inl r))
   ·exact .inr (.inr (.inr (.inl r)))
   ·exact .inr (.inr (.inr (.inr r)))
 self:=λ_ _ _ _ _ st h=>Uc st.1 h
noncomputable abbrev mn (k1:Sk) (h:Heap) (a:Addr):Heap:=h.push (oi k1 a)
noncomputable abbrev pg (k1 k2:Sk) (h:Heap) (a b:Addr):Heap:=(mn k1 h a).push (oi k2 b)
noncomputable abbrev pe (k1 k2:Sk) (h:Heap) (a b:Addr):Heap:=(pg k1 k2 h a b).push { cls:=.type "tuple",data:=.seq #[.ref h.objs.size,.ref (mn k1 h a).objs.size] }
noncomputable abbrev xi (k1 k2:Sk) (h:Heap) (a b:Addr):Heap:=(pe k1 k2 h a b).push { cls:=.type "tuple",data:=.seq #[.none,.none] }
noncomputable abbrev gm (k1 k2:Sk) (h:Heap) (a b:Addr):Heap:=(xi k1 k2 h a b).push { cls:=.type "zip",data:=.fields #[.none,.bool false,.bool false,.ref (pg k1 k2 h a b).objs.size,.ref (pe k1 k2 h a b).objs.size] }
theorem rR (k1 k2:Sk) (a b:Addr) (xs ys:Array Value) :
  Meets (Builtin.«zip.__new__» ⟨[.type "zip",.ref a,.ref b],[]⟩) (λ_ R s=>oo k1 s.heap a xs/\oo k2 s.heap b ys/\R (.ok (.ret (.ref (xi k1 k2 s.heap a b).objs.size))) { s with heap:=gm k1 k2 s.heap a b }) :=
 .of_wp λprog w A R s h=>by
  obtain ⟨hp,g,d,tk,os⟩:=s
  obtain ⟨qf,ly,h⟩:=h
  have v_:=sub_zip
  have hA:oo k1 (Shared.heap ⟨hp,g,d,tk,os⟩) a xs:=qf
  have hB:oo k2 (Shared.heap ⟨hp.push (oi k1 a),g,d,tk,os⟩) b ys:=oo.at ly λo e=>Qb _ e
  wp_walk using zJ hA,zJ hB
  exact ⟨_,rfl,h⟩
noncomputable def Y4 (K:Rb) (k1 k2:Sk) (ta:TA):TI:=λσ H R=>ta σ H λvs H1=>∃ a b xs ys,vs = [.ref a,.ref b]/\dz k1 K H1 a xs/\dz k2 K H1 b ys/\R (Fu K k1 k2 a b) H1
theorem Pl (k1 k2:Sk) {a b:Expr} {ta:TA} {pos:Pos} (hg:Gl X "zip") (hm:X.mg "zip" = none) (ha:PA X [a,b] ta) (hs:starEach [a,b] X.env = [(false,eval a X.env),(false,eval b X.env)]:=by rfl) (j6:starEach [b] X.env = [(false,eval b X.env)]:=by rfl) :
  PI X (.Tuple es x1 qy) (.Call (.Name "zip" p) [a,b] [] pos) (Y4 X.K k1 k2 ta):=by
 intro aa s σ H R I h
 refine Mk (iB (u:=.type "zip") I hg hm (by decide +kernel) (PyProof.Rows.callWith_type1 (a7 (ha pos aa s σ H _ I h) λus s1 aq=>?_) (by rw [hs,j6]) (by rw [j6]; rfl)))
 obtain ⟨vs,H1,I1,r1,q1⟩:=aq
 obtain ⟨l1,l2,xs,ys,rfl,hA,hB,q⟩:=q1
 obtain ⟨u1,u2,rfl,oz,ur⟩:=mX r1
 cases oz
 cases ur
 obtain ⟨its,rv,pa⟩:=I1.cz hA
 obtain ⟨ia,c8,pb⟩:=I1.cz hB
 refine Vc Ve (by decide) (Us _ _) (Uu _ _) (λobj=>Up obj _ _) Uv (rR k1 k2 l1 l2 its.toArray ia.toArray) ⟨pa,pb,?_⟩
 have n1:(mn k1 s1.heap l1).objs.size=s1.heap.objs.size+1:=Jk ..
 have n2:(pg k1 k2 s1.heap l1 l2).objs.size=s1.heap.objs.size+2:=by rw [Jk,n1]
 have n3:(pe k1 k2 s1.heap l1 l2).objs.size=s1.heap.objs.size+3:=by rw [Jk,n2]
 have n4:(xi k1 k2 s1.heap l1 l2).objs.size=s1.heap.objs.size+4:=by rw [Jk,n3]
 have g5:IsZip (gm k1 k2 s1.heap l1 l2) (xi k1 k2 s1.heap l1 l2).objs.size (pg k1 k2 s1.heap l1 l2).objs.size (pe k1 k2 s1.heap l1 l2).objs.size .none:=Qh _ rfl
 have g4:IsPair (gm k1 k2 s1.heap l1 l2) (pe k1 k2 s1.heap l1 l2).objs.size .none .none:=Qb _ (Qh _ rfl)
 have g3:IsPair (gm k1 k2 s1.heap l1 l2) (pg k1 k2 s1.heap l1 l2).objs.size (.ref s1.heap.objs.size) (.ref (mn k1 s1.heap l1).objs.size):=Qb _ (Qb _ (Qh _ rfl))
 have g2:fj k2 (gm k1 k2 s1.heap l1 l2) (mn k1 s1.heap l1).objs.size l2 0:=(fj.new k2 (mn k1 s1.heap l1) l2).at λo e=>Qb _ (Qb _ (Qb _ e))
 have g1:fj k1 (gm k1 k2 s1.heap l1 l2) s1.heap.objs.size l1 0:=(fj.new k1 s1.heap l1).at λo e=>Qb _ (Qb _ (Qb _ (Qb _ e)))
 have kp:∀ c o,s1.heap.get? c=some o->(gm k1 k2 s1.heap l1 l2).get? c=some o:=λc o e=>Qb _ (Qb _ (Qb _ (Qb _ (Qb _ e))))
 refine ⟨⟨_,g5,rfl⟩,Uc (f0:=.none) g5 ?_⟩
 rw [n1,n2,n3,n4] at *
 have I2:Inv X aa σ H1 { s1 with heap:=gm k1 k2 s1.heap l1 l2 }:=I1.kept (t':=s1.toks) kp
 refine ⟨s1.heap.objs.size+4,[s1.heap.objs.size+4,s1.heap.objs.size+2,s1.heap.objs.size+3,s1.heap.objs.size,s1.heap.objs.size+1],_,_,H1,rfl,I2,aDz k1 k2 l1 l2 _ _ _ _ _ ?_,⟨g5,g3,⟨_,_,g4⟩,g1,g2⟩,λc hc=>?_,q⟩
 ·intro m1 m2 h1 h2
  have d:∀ i j:Nat,i≠j->s1.heap.objs.size+i≠s1.heap.objs.size+j:=λi j h=>by omega
  exact ⟨d 2 4 (by decide),d 3 4 (by decide),d 0 4 (by decide),d 1 4 (by decide),d 2 3 (by decide),d 2 0 (by decide),d 2 1 (by decide),d 3 0 (by decide),d 3 1 (by decide),d 0 1 (by decide),
   h1 _ (by simp),h1 _ (by simp),h1 _ (by simp),h1 _ (by simp),h2 _ (by simp),h2 _ (by simp),h2 _ (by simp),h2 _ (by simp)⟩
 ·have aj:s1.heap.objs.size<=c:=by
   simp only [Qk,Qn,or_false] at hc
   rcases hc with r | r | r | r | r
   ·rw [r]; exact Xx _ _
   ·rw [r]; exact Xx _ _
   ·rw [r]; exact Xx _ _
   ·rw [r]; exact Qi _
   ·rw [r]; exact Xx _ _
  exact I1.fk aj (I1.az.fresh aj)
open PySem.AutoSeq1 (wpAny_loadPart')
theorem mZ (l b:Addr) (items A':Array Value) (n n2:Nat) (dd yd:Option Addr) (sl xk:Array (Option Value)) (CF:items.isEmpty=true) :
  Meets (Builtin.«tuple.__add__» ⟨[.ref l,.ref b],[]⟩) (λ_ R s=>s.heap.get? l=some { cls:=.type "tuple",dict:=dd,data:=.seq items n,slots:=sl }/\s.heap.get? b=some { cls:=.type "tuple",dict:=yd,data:=.seq A' n2,slots:=xk }/\R (.ok (.ret (Value.ref b))) s) :=
 .of_wp λprog w A R s h=>by
  obtain ⟨hp,g,d,tk,os⟩:=s
  obtain ⟨hl,hb,h⟩:=h
  have f1:=AutoSeq1.idx_int
  have f2:=AutoSeq1.sub_tuple_tuple
  wp_walk using Rl hl,Rl hb
  exact ⟨_,rfl,h⟩
theorem aE0:d6 X (binaryOp .Add) (λx y H Q=>∃ a b xs ys,x=.ref a/\y=.ref b/\ah X.K H a xs/\ah X.K H b ys/\xs.length+ys.length<=sizeLine/\∀ p H',aD H H'->ah X.K H' p (xs++ys)->Q (.ref p) H'):=by
 intro aa s σ H x y v u Q I rx ry h
 obtain ⟨a,b,xs,ys,rfl,rfl,ha,hb,hz,q⟩:=h
 by_cases hx:xs = []
 ·subst hx
  cases rx
  cases ry
  obtain ⟨its,r1,⟨⟨cls,dd,data,sl⟩,ho,hc,n,hd⟩,_⟩:=I.tuple ha
  obtain ⟨rf,r2,⟨⟨DS,yd,data2,xk⟩,t9,me,n2,hd2⟩,_⟩:=I.tuple hb
  simp only at hc hd me hd2
  subst hc hd me hd2
  cases r1
  exact Ia ⟨_,ho,rfl⟩ ⟨_,t9,rfl⟩ Va Vp Ue Ub (Tx _ _)
   (mZ a b _ _ n n2 dd yd sl xk rfl) ⟨ho,t9,⟨.ref b,H,I,rfl,q b H (aD.refl H) hb⟩⟩
 ·refine P8 aa s σ H _ _ v u Q I rx ry ⟨a,b,xs,ys,rfl,rfl,ha,hb,hx,hz,λe=>?_,λe p hp=>?_⟩
  ·subst e
   exact q a H (aD.refl H) (by rw [Xl]; exact ha)
  ·exact q p _ (aD.new hp) (ah.of aB)
theorem mT {lo:Option Int} (ht:IsTup s.heap t items) (hs:s.heap.IsSliceOf sl vl vu .none) (pl:IsPart vl lo) (pu:IsPart vu hi) (hw:HT.bt items.size 0 lo=0/\HT.bt items.size items.size hi=items.size) (h:Q (.ref t) s):wpAny (model prog w) A (getItem (.ref t) (.ref sl)) Q E s:=by
 obtain ⟨os,uy,zy,cg⟩:=id hs
 have G6:s.TypeIs (.ref sl) "slice" := ⟨os,uy,zy⟩
 unfold getItem
 try with_reducible refine Rn ?_
 first | refine Ra (Rc ?_) | skip
 refine Ra (Mv ht.typeIs (by decide) ?_)
 refine Ra (Rg (name:=Str.ofString "__getitem__") ht.typeIs PyProof.Rows.slot_tuple_getitem
  (Rp PyProof.Rows.slot_tuple_getitem ht.typeIs Mq ?_ (Mr _ _)))
 refine Ra (m:=Builtin.Tuple.tupleItemsOf (.ref t)) (tupleItemsOf_ ht ?_)
 refine Ra (Ib G6 ?_)
 rw [if_pos (by decide)]
 refine Ra (HT.dg hs pl pu ?_)
 have JQ:(((HT.bt items.size 0 lo:Nat):Int)==0 && (1:Int)==1 && (HT.bt items.size items.size hi - HT.bt items.size 0 lo)==items.size)=true:=by
  rw [hw.1,hw.2]; simp
 show wpAny _ _ (if (((HT.bt items.size 0 lo:Nat):Int)==0 && (1:Int)==1 && (HT.bt items.size items.size hi - HT.bt items.size 0 lo)==items.size)=true then _ else _) _ _ s
 rw [if_pos JQ]
 unfold Builtin.Tuple.tupleIsExact
 refine Ra (Ra (Ib ht.typeIs (Rc ?_)))
 refine Rai (λ_=>Ra (Ua (Rc ⟨_,rfl,Rc h⟩))) (λV2=>absurd (by rfl) V2)
theorem aE1:C9 X (λx lo hi H Q=>∃ a xs,x=.ref a/\ah X.K H a xs/\∀ p H',aD H H'->ah X.K H' p (nJ xs lo hi)->Q (.ref p) H'):=by
 intro aa s σ H x v vl vu lo hi sl Q I rx hs pl pu h
 obtain ⟨a,xs,rfl,hx,q⟩:=h
 by_cases hw:HT.bt xs.length 0 lo=0/\HT.bt xs.length xs.length hi=xs.length
 ·cases rx
  obtain ⟨its,r,ht,hz⟩:=I.tuple hx
  have hlen:its.toArray.size=xs.length:=by rw [Qj]; exact r.length.symm
  refine ⟨"tuple",_,PyProof.Rows.slot_tuple_getitem.lookup,ht.typeIs,?_⟩
  refine mT ht hs pl pu (by rw [hlen]; exact hw) ⟨.ref a,H,I,rfl,q a H (aD.refl H) ?_⟩
  have e:nJ xs lo hi=xs:=by
   unfold nJ
   rw [hw.1,hw.2,Wr,Nat.sub_zero,Jt]
  rw [e]; exact hx
 ·exact t? aa s σ H _ v vl vu lo hi sl Q I rx hs pl pu ⟨a,xs,rfl,hx,hw,λp hp=>q p _ (aD.new hp) (ah.of aB)⟩
theorem aE2 (xs:List V) (k:Nat):nJ xs none (some (k:Int))=xs.take k:=by
 unfold nJ
 rw [HT.k4,HT.n8,Wr,Nat.sub_zero]
 by_cases h:k<=xs.length
 ·rw [Wg h]
 ·rw [Nat.min_eq_right (by omega),Jn (Qi _),Jn (by omega)]
theorem aCw (xs:List V) (k:Nat):nJ xs (some (k:Int)) none=xs.drop k:=by
 unfold nJ
 rw [HT.k4,HT.n8]
 by_cases h:k<=xs.length
 ·rw [Wg h,Jn (by rw [Zo]; exact Qi _)]
 ·rw [Nat.min_eq_right (by omega),Wf (Qi _),Wf (by omega),List.take_nil]
noncomputable def qN (N a9:List Str) (fr:List Nat):Bool:=a9.length==fr.length && (a9.zip fr).all λy=>N[y.2]?==some y.1
theorem zK (h1:X.env.scope=sc) (h2:X.N=N) (cf:∀ z0,z=some z0->(∀ (n:Nat) (cl:List (Str×Addr)),cellsFrom n scope.names cl=(z0,n)::cl)/\∀ h:Heap,pushCells h scope.names=h.push { cls:=.type "cell",data:=.cell none }) (h:(kG sc scope z own a9 && qN N a9 fr)=true):bg X scope z own fr a9:=by
 rw [Jm] at h
 obtain ⟨ha,hb⟩:=h
 unfold qN at hb
 simp only [Jm,beq_iff_eq,Qt] at hb
 refine ⟨by rw [h1]; exact ha,λk x hk=>?_,hb.1.symm,cf⟩
 have ax:k < fr.length:=by rw [<- hb.1]; exact (Qd.mp hk).1
 refine ⟨fr[k],Qc ax,?_⟩
 have hm:(x,fr[k])∈a9.zip fr:=by
  refine Qg (i:=k) ?_
  rw [Jz]
  exact ⟨hk,Qc ax⟩
 rw [h2]
 exact hb.2 _ hm
theorem aT (sc:Scope) (N:List Str) (h1:X.env.scope=sc) (h2:X.N=N) (h:(kG sc scope none own a9 && qN N a9 fr)=true):bg X scope none own fr a9:=zK h1 h2 (λ_ q=>by cases q) h
section
variable {own:Nat} {σ:St} {Q:Hp->List V->Prop}
theorem aE3 {a0:α} {Ea:St} {Q:Hp->α->Prop} {tb:α->St->Hp->(α->St->Hp->Prop)->Prop} (n:Nat) (SH:St->Prop) (Pv:Nat->α->Hp->Prop) (gq:SH Ea) (h0:Pv 0 a0 H) (ku:∀ a H,Pv n a H->J.stop n H) (Ct:∀ i a H,i < n->Pv i a H->J.go i H) (hs:∀ i a σ x H H',i < n->SH σ->Pv i a H->J.oy i H x H'->g x σ H' λa8 H2=>tt a8 H2 λb H3=>if b=true then tb a a8 H3 λa' n9 H4=>SH n9/\Pv (i+1) a' H4 else SH a8/\Pv (i+1) a H3) (hd:∀ a H,Pv n a H->Q H a):ja J a0 Ea H (λa _ H=>Q H a) g tt tb:=by
 refine ⟨λi m ys ar H=>m=n - i/\i<=n/\SH ar/\Pv i ys H,⟨n,by simp,Jl _,gq,h0⟩,?_⟩
 rintro i m ys ar H ⟨rfl,hi,sh,p⟩
 by_cases ax:i < n
 ·refine .inr ⟨Ct i ys H ax p,λBc a8 H2=>SH a8/\Pv (i+1) Bc H2,λBc a8 H2 ⟨e,q⟩=>⟨n - (i+1),by omega,rfl,ax,e,q⟩,λx H' y=>?_⟩
  exact hs i ys ar x H H' ax sh p y
 ·have e:i=n:=by omega
  subst e
  exact .inl ⟨ku ys H p,hd ys H p⟩
theorem mJ (n:Nat) (hn:n<=sizeLine) (SH:St->Prop) (Pv:Nat->List V->Hp->Prop) (gq:SH (d7 own fr σ)) (h0:Pv 0 [] H) (hlen:∀ i ys H,Pv i ys H->ys.length<=i)
  (ku:∀ ys H,Pv n ys H->J.stop n H) (Ct:∀ i ys H,i < n->Pv i ys H->J.go i H)
  (hs:∀ i ys σ x H H',i < n->SH σ->Pv i ys H->J.oy i H x H'->ys.length < sizeLine->g x σ H' λa8 H2=>tt a8 H2 λb H3=>if b=true then te a8 H3 λy H4=>ys.length < sizeLine/\SH a8/\Pv (i+1) (ys++[y]) H4 else SH a8/\Pv (i+1) ys H3)
  (hd:∀ ys H,Pv n ys H->Q H ys) :
  ja J [] (d7 own fr σ) H (λys _ H=>Q H ys) g tt (oa te) :=
 aE3 n SH Pv gq h0 ku Ct (λi ys σ x H H' hi sh p y=>hs i ys σ x H H' hi sh p y (by have:=hlen i ys H p; omega)) hd
theorem gS (SH:St->Prop) (Pv:Nat->List V->Hp->Prop) (hn:xs.length<=sizeLine) (gq:SH (d7 own fr σ)) (h0:Pv 0 [] H) (hlen:∀ i ys H,Pv i ys H->ys.length<=i) (hl:∀ i ys H,Pv i ys H->ah K H a xs) (hs:∀ i ys σ x H,xs[i]?=some x->SH σ->Pv i ys H->ys.length < sizeLine->g x σ H λa8 H2=>tt a8 H2 λb H3=>if b=true then te a8 H3 λy H4=>ys.length < sizeLine/\SH a8/\Pv (i+1) (ys++[y]) H4 else SH a8/\Pv (i+1) ys H3) (hd:∀ ys H,Pv xs.length ys H->Q H ys) :
  ja (yh K a) [] (d7 own fr σ) H (λys _ H=>Q H ys) g tt (oa te):=by
 refine mJ xs.length hn SH Pv gq h0 hlen (λys H p=>⟨xs,hl _ _ _ p,Qi _⟩) (λi ys H hi p=>⟨xs,xs[i],hl _ _ _ p,Qc hi⟩) (λi ys σ x H H' hi sh p y hz=>?_) hd
 obtain ⟨e,y⟩:=y
 subst e
 exact hs i ys σ x _ (y xs (hl _ _ _ p)) sh p hz
theorem iF (SH:St->Prop) (Pv:Nat->List V->Hp->Prop) (hn:xs.length<=sizeLine) (gq:SH (d7 own fr σ)) (h0:Pv 0 [] H) (hlen:∀ i ys H,Pv i ys H->ys.length<=i) (hl:∀ i ys H,Pv i ys H->ai K H a xs) (hs:∀ i ys σ x H,xs[i]?=some x->SH σ->Pv i ys H->ys.length < sizeLine->g x σ H λa8 H2=>tt a8 H2 λb H3=>if b=true then te a8 H3 λy H4=>ys.length < sizeLine/\SH a8/\Pv (i+1) (ys++[y]) H4 else SH a8/\Pv (i+1) ys H3) (hd:∀ ys H,Pv xs.length ys H->Q H ys) :
  ja (yj K a) [] (d7 own fr σ) H (λys _ H=>Q H ys) g tt (oa te):=by
 refine mJ xs.length hn SH Pv gq h0 hlen (λys H p=>⟨xs,hl _ _ _ p,Qi _⟩) (λi ys H hi p=>⟨xs,xs[i],hl _ _ _ p,Qc hi⟩) (λi ys σ x H H' hi sh p y hz=>?_) hd
 obtain ⟨e,y⟩:=y
 subst e
 exact hs i ys σ x _ (y xs (hl _ _ _ p)) sh p hz
theorem gK (SH:St->Prop) (Pv:Nat->List V->Hp->Prop) (hn:n<=sizeLine) (gq:SH (d7 own fr σ)) (h0:Pv 0 [] H) (hlen:∀ i ys H,Pv i ys H->ys.length<=i) (hs:∀ i ys σ H,i < n->SH σ->Pv i ys H->ys.length < sizeLine->g (.int (lo+i)) σ H λa8 H2=>tt a8 H2 λb H3=>if b=true then te a8 H3 λy H4=>ys.length < sizeLine/\SH a8/\Pv (i+1) (ys++[y]) H4 else SH a8/\Pv (i+1) ys H3) (hd:∀ ys H,Pv n ys H->Q H ys) :
  ja (yi lo n) [] (d7 own fr σ) H (λys _ H=>Q H ys) g tt (oa te):=by
 refine mJ n hn SH Pv gq h0 hlen (λys H p=>Qi _) (λi ys H hi p=>hi) (λi ys σ x H H' hi sh p y hz=>?_) hd
 obtain ⟨e,y⟩:=y
 subst e y
 exact hs i ys σ _ hi sh p hz
theorem aDB (SH:St->Prop) (Pv:Nat->List V->Hp->Prop) (hn:xs.length<=sizeLine) (heq:xs.length=ys.length) (gq:SH (d7 own fr σ)) (h0:Pv 0 [] H) (hlen:∀ i zs H,Pv i zs H->zs.length<=i) (hl:∀ i zs H,Pv i zs H->dz k1 K H a xs/\dz k2 K H b ys) (hs:∀ i zs σ x y p H,xs[i]?=some x->ys[i]?=some y->SH σ->Pv i zs H->H p=none->zs.length < sizeLine->g (.ref p) σ (upd H p (.tup [x,y])) λa8 H2=>tt a8 H2 λc H3=>if c=true then te a8 H3 λy H4=>zs.length < sizeLine/\SH a8/\Pv (i+1) (zs++[y]) H4 else SH a8/\Pv (i+1) zs H3) (hd:∀ zs H,Pv xs.length zs H->Q H zs) :
  ja (Fu K k1 k2 a b) [] (d7 own fr σ) H (λys _ H=>Q H ys) g tt (oa te):=by
 refine mJ xs.length hn SH Pv gq h0 hlen (λzs H p=>⟨xs,ys,(hl _ _ _ p).1,(hl _ _ _ p).2,by rw [<- heq,Nat.min_self]⟩) (λi zs H hi p=>⟨xs,ys,xs[i],ys[i]'(by omega),(hl _ _ _ p).1,(hl _ _ _ p).2,Qc hi,Qc (by omega)⟩) (λi zs σ v H H' hi sh p y hz=>?_) hd
 obtain ⟨q,hq,rfl,hy⟩:=y
 obtain ⟨x,y,h1,h2,rfl⟩:=hy xs ys (hl _ _ _ p).1 (hl _ _ _ p).2
 exact hs i zs σ x y q H h1 h2 sh p hq hz
end
noncomputable def π (i j:Int):Prop:=0 < j/\j < 1267650600228229401496703205376
theorem aDC:d6 X (binaryOp .FloorDiv) (rI π λi j=>.int (i / j)):=Bi λi j _ _ _ _ _ hc q=>by
 have h1:(0:Int) < j:=hc.1
 have h2:j < 1267650600228229401496703205376:=hc.2
 refine Md (by omega) (by rw [Zm i (by omega)]; exact q) (.inl (PyProof.noPylong_of_log2 ?_))
 have h3:j.natAbs.log2 < 100:=(Wu (by omega)).mpr (by omega)
 omega
theorem P0:∀ {xs:List V} {us:List Value},xs.length=us.length->(∀ (j:Nat) (x:V) (u:Value),xs[j]?=some x->us[j]?=some u->bE x u)->bF xs us
 | [],[],_,_=>.nil
 | [],_::_,h,_=>by cases h
 | _::_,[],h,_=>by cases h
 | x::xs,u::us,h,k=>.cons (k 0 x u rfl rfl) (P0 (by simpa using h) λj y v hy hv=>k (j+1) y v hy hv)
theorem uV (hc:X.calm=true):dQ X (.type "list") (λxs H Q=>∃ (a:Addr) (n:Nat),xs = [.ref a]/\H a=some (.jm 0 n)/\n<=1000/\∀ p,H p=none->Q (.ref p) (upd H p (.lst ((aQ n).map V.int)))):=by
 intro aa s σ H xs us Q I r h
 obtain ⟨a,n,rfl,ha,hn,q⟩:=h
 obtain ⟨u,rfl,rx⟩:=fO r
 cases rx
 obtain ⟨t,u,v,e⟩:=I.az a _ ha
 have hsz:Builtin.Range.rangeSize 0 (n:Int) 1=(n:Int):=by rw [rangeSize_one]; split <;> omega
 have Ez:Builtin.Range.small 0 (n:Int) 1=true:=small_one (by omega) (by omega) (by omega) (by omega)
 refine call_list_range (I.ok.hd hc) e Ez hsz (Qw hn (by decide)) λh' tk DV c' kp hl hi=>?_
 have hv:bF ((aQ n).map V.int) DV.toList:=by
  obtain ⟨h1,h2⟩:=hi
  refine P0 (by unfold aQ; simp [h1]) λj x u hx hu=>?_
  have hj:j < n:=by
   have:=(Qd.mp hu).1
   rw [Array.length_toList,h1] at this
   exact this
  obtain ⟨t,rfl⟩:=h2 j u (by rw [<- Array.getElem?_toList]; exact hu)
  unfold aQ at hx
  rw [Qe,Qe,Zq hj] at hx
  have e:V.int (j:Int)=x:=Option.some.inj hx
  rw [<- e]
  exact ⟨t,by rw [Zj,Int.mul_one]⟩
 have hlen:((aQ n).map V.int).length<=sizeLine:=by unfold aQ; rw [Qa,Qa,Zv,Rf]; omega
 exact ⟨.ref s.heap.objs.size,_,I.laid (t':=tk) kp (Qi _) (show bO X.prog X.w _ h' _ (.lst _) from ⟨hlen,DV.toList,c',hv,hl⟩),rfl,q _ (I.az.fresh (Qi _))⟩
theorem zL {f g:α->Option β}:∀ {l:List α},(∀ x∈l,f x=g x)->l.filterMap f=l.filterMap g
 | [],_=>rfl
 | x::r,h=>by rw [Zf,Zf,h x (Ql ..),zL λy hy=>h y (Qo _ hy)]
theorem aDD (xs:Array Value):((List.range xs.size).filterMap λ(k:Nat)=>xs[((xs.size:Int) - 1+(k:Int)*(-1)).toNat]?).toArray=xs.toList.reverse.toArray:=by
 have h:=HT.k7 xs.toList.reverse.toArray 0 xs.size
 have e:(List.range xs.size).filterMap (λ(k:Nat)=>xs[((xs.size:Int) - 1+(k:Int)*(-1)).toNat]?)=(List.range xs.size).filterMap (λ(m:Nat)=>xs.toList.reverse.toArray[(((0:Nat):Int)+(m:Int)*1).toNat]?):=by
  refine zL λk hk=>?_
  have zv:=Jy.mp hk
  have h1:((xs.size:Int) - 1+(k:Int)*(-1)).toNat=xs.size - 1 - k:=by omega
  have h2:(((0:Nat):Int)+(k:Int)*1).toNat=k:=by omega
  rw [h1,h2]
  simp only [List.getElem?_toArray]
  rw [List.getElem?_reverse (by simpa using zv)]
  simp
 rw [e,h]
 congr 1
 rw [Wr,Jn (by simp)]
noncomputable def Vw (S:List Addr) (H:Hp):Hp:=λb=>if b∈S then none else H b
theorem Vw.out {S:List Addr} (n:b∉S):Vw S H b=H b:=by unfold Vw; rw [if_neg n]
theorem Vw.sub {S:List Addr}:aD (Vw S H) H:=λb o h=>by
 by_cases z:b∈S
 ·unfold Vw at h; rw [if_pos z] at h; cases h
 ·rw [Vw.out z] at h; exact h
theorem Vw.keep {S:List Addr} (e:∀ b o,b∉S->H b=some o->H' b=some o):aD (Vw S H) (Vw S H'):=λb o h=>by
 by_cases z:b∈S
 ·unfold Vw at h; rw [if_pos z] at h; cases h
 ·rw [Vw.out z] at h ⊢; exact e b o z h
theorem Vw.same {S:List Addr} (e:aD H H'):aD (Vw S H) (Vw S H'):=Vw.keep λb o _ h=>e b o h
noncomputable def Fx (S:List Addr) (H:Hp):Prop:=∀ b∈S,∃ xs,H b=some (.lst xs)
section
variable {S:List Addr}
theorem Fx.ag (f:Fx S H) (h:ah K H a xs):ah K (Vw S H) a xs:=by
 rcases h with (h | ⟨o,h⟩) | h
 ·exact .inl (.inl (by rw [Vw.out λz=>by obtain ⟨ys,q⟩:=f a z; rw [q] at h; cases h]; exact h))
 ·exact .inl (.inr ⟨o,by rw [Vw.out λz=>by obtain ⟨ys,q⟩:=f a z; rw [q] at h; cases h]; exact h⟩)
 ·exact .inr h
noncomputable def Dn (K:Rb) (S:List Addr) (H:Hp) (x:V):Prop:=∃ d,Den K (Vw S H) d x
noncomputable def DT (K:Rb) (S:List Addr) (n:Nat) (H:Hp) (x:V):Prop:=∃ a xs,x=.ref a/\ah K (Vw S H) a xs/\xs.length<=n/\∀ y∈xs,Dn K S H y
noncomputable def II (_:Hp) (x:V):Prop:=∃ i,x=.int i
class Mo (R:Hp->V->Prop):Prop where
 mo:∀ {H H':Hp} {v:V},aD H H'->R H v->R H' v
theorem Dn.keep {x:V} (h:Dn K S H x) (e:aD (Vw S H) (Vw S H')):Dn K S H' x:=let ⟨d,h⟩:=h; ⟨d,e.den _ _ h⟩
theorem Dn.same {x:V} (h:Dn K S H x) (e:aD H H'):Dn K S H' x:=h.keep (Vw.same e)
theorem DT.keep {x:V} (h:DT K S n H x) (e:aD (Vw S H) (Vw S H')):DT K S n H' x:=let ⟨a,xs,h1,h2,h3,h4⟩:=h; ⟨a,xs,h1,e.ag h2,h3,λy hy=>(h4 y hy).keep e⟩
theorem DT.same {x:V} (h:DT K S n H x) (e:aD H H'):DT K S n H' x:=h.keep (Vw.same e)
instance:Mo (Dn K S):=⟨λe h=>Dn.same h e⟩
instance {n:Nat}:Mo (DT K S n):=⟨λe h=>DT.same h e⟩
instance:Mo II:=⟨λ_ h=>h⟩
variable {σ:St} {R R':Hp->V->Prop} {tb:TE} {t:TA} {tl th:TO}
noncomputable def ο (K:Rb):R2:=λx y H Q=>∃ a b xs ys,x=.ref a/\y=.ref b/\ah K H a xs/\ah K H b ys/\xs.length+ys.length<=sizeLine/\∀ p H',aD H H'->ah K H' p (xs++ys)->Q (.ref p) H'
theorem aDE (hK:X.K=K):d6 X (binaryOp .Add) (ο K):=by subst hK; exact aE0
noncomputable def Y3 (K:Rb):V->Option Int->Option Int->Hp->VK->Prop:=λx lo hi H Q=>∃ a xs,x=.ref a/\ah K H a xs/\∀ p H',aD H H'->ah K H' p (nJ xs lo hi)->Q (.ref p) H'
theorem aDF (hK:X.K=K):C9 X (Y3 K):=by subst hK; exact aE1
noncomputable def aE4 (K:Rb):List V->Hp->VK->Prop:=λxs H Q=>∃ p ys,xs = [.ref p]/\(ai K H p ys∨ah K H p ys)/\∀ l,H l=none->Q (.ref l) (upd H l (.lst ys))
theorem uW (hK:X.K=K):dQ X (.type "list") (aE4 K):=by subst hK; exact nY
instance {a:Addr} {xs:List V}:Mo (λH v=>v=.ref a/\ah K H a xs):=⟨λe h=>⟨h.1,e.ag h.2⟩⟩
instance {x:V}:Mo (λ_ v=>v=x):=⟨λ_ h=>h⟩
end
open PySem.AutoSeq1 (wpAny_loadPart')
theorem nf {b:Bool} (h:b=false):decide (b=true)=false:=by rw [h]; rfl
theorem nt {b:Bool} (h:b=true):decide (b=true)=true:=by rw [h]; rfl
theorem rS (l:Addr) (items:Array Value) (n:Nat) (dd:Option Addr) (sl:Array (Option Value)) (x:Int) (u:Tok) (h1:1 < x) (h2:x<=1000) (br:items.isEmpty=false) (hz:items.size<=1000) :
  Meets (Builtin.«tuple.__mul__» ⟨[.ref l,.int x u],[]⟩) (λ_ R s=>s.heap.get? l=some { cls:=.type "tuple",dict:=dd,data:=.seq items n,slots:=sl }/\R (.ok (.ret (Value.ref s.heap.objs.size))) { s with heap:=s.heap.push { cls:=Value.type "tuple",data:=Data.seq (List.foldl (λx1 x2=>x1++x2) #[] (List.replicate x.toNat items)) },toks:=s.toks }) :=
 .of_wp λprog w A R s h=>by
  obtain ⟨hp,g,d,tk,os⟩:=s
  obtain ⟨hl,h⟩:=h
  have f1:=AutoSeq1.idx_int
  have f2:=AutoSeq1.sub_tuple_tuple
  wp_walk using Rl hl
  refine Uh (nf (show (decide (x < -2^63) || decide (x≥2^63))=false from by rw [decide_eq_false (show ¬ x < -2^63 by omega),decide_eq_false (show ¬ x≥2^63 by omega)]; rfl)) ?_
  wp_walk using Rl hl
  refine Uh (nf (show (items.isEmpty || x==1)=false from by rw [br,beq_eq_false_iff_ne.mpr (show x≠1 by omega)]; rfl)) ?_
  wp_walk using Rl hl
  refine Uh (nf (show (decide (x<=0) || items.isEmpty)=false from by rw [br,decide_eq_false (show ¬ x<=0 by omega)]; rfl)) ?_
  wp_walk using Rl hl
  have hm:(items.size:Int)*x<=1000*1000:=Int.mul_le_mul (by omega) h2 (by omega) (by omega)
  refine Uh (decide_eq_false (show ¬ (items.size:Int)*x > (2^63 - 1) / 8 by omega)) ?_
  wp_walk using Rl hl
  refine Uh (nf (show decide ((items.size:Int)*x > (sizeLine:Int))=false from decide_eq_false (by rw [Rf]; omega))) ?_
  have hsz:¬ (List.foldl (λx1 x2=>x1++x2) #[] (List.replicate x.toNat items)).size > sizeLine:=by
   have e:=mI items.toList x.toNat []
   rw [Zh] at e
   have e2:List.foldl (λx1 x2=>x1++x2) #[] (List.replicate x.toNat items)=(List.replicate x.toNat items.toList).flatten.toArray:=e
   rw [e2,Qj,wV,Array.length_toList,Rf]
   have:x.toNat*items.size<=1000*1000:=Nat.mul_le_mul (by omega) hz
   omega
  wp_walk using Rl hl
  exact ⟨_,rfl,h⟩
theorem rT (l:Addr) (items:Array Value) (n:Nat) (dd:Option Addr) (sl:Array (Option Value)) (x:Int) (u:Tok) (h1:1 < x) (h2:x<=1000) (br:items.isEmpty=true) :
  Meets (Builtin.«tuple.__mul__» ⟨[.ref l,.int x u],[]⟩) (λ_ R s=>s.heap.get? l=some { cls:=.type "tuple",dict:=dd,data:=.seq items n,slots:=sl }/\R (.ok (.ret (Value.ref l))) s) :=
 .of_wp λprog w A R s h=>by
  obtain ⟨hp,g,d,tk,os⟩:=s
  obtain ⟨hl,h⟩:=h
  have f1:=AutoSeq1.idx_int
  have f2:=AutoSeq1.sub_tuple_tuple
  wp_walk using Rl hl
  refine Uh (nf (show (decide (x < -2^63) || decide (x≥2^63))=false from by rw [decide_eq_false (show ¬ x < -2^63 by omega),decide_eq_false (show ¬ x≥2^63 by omega)]; rfl)) ?_
  wp_walk using Rl hl
  exact ⟨_,rfl,h⟩
theorem kH:fillsNumberSlot (.type "tuple") "mul" = pure false :=
 PySem.fillsNumberSlot_seq (id := "tuple.__mul__") (r:=some (.builtin "tuple.__rmul__")) PySem.F.slot_tuple_mul.lookup (by decide +kernel) PySem.F.slot_tuple_rmul.lookup (by decide +kernel)
theorem oB:seqRepeat? (.type "tuple")=pure (some (.builtin "tuple.__mul__")):=by
 unfold seqRepeat?
 rw [Mf (T := "tuple") (name := "__mul__") (id := "tuple.__mul__") PySem.F.slot_tuple_mul.lookup (by decide +kernel),Mf (T := "tuple") (name := "__rmul__") (id := "tuple.__rmul__") PySem.F.slot_tuple_rmul.lookup (by decide +kernel)]
 rfl
theorem lV (a:Int) (t:Tok) (l:Addr) (items:Array Value) (n:Nat) (dd:Option Addr) (sl:Array (Option Value)) :
  Meets (Builtin.«int.__rmul__» ⟨[.int a t,.ref l],[]⟩) (λ_ R s=>s.heap.get? l=some { cls:=.type "tuple",dict:=dd,data:=.seq items n,slots:=sl }/\R (.ok (.ret Value.notImplemented)) s) :=
 .of_wp λprog w A R s h=>by
  obtain ⟨hp,g,d,tk,os⟩:=s
  obtain ⟨hl,h⟩:=h
  wp_walk using Rl hl
  exact ⟨_,rfl,h⟩
noncomputable def ξ (K:Rb):R2:=λx y H Q=>∃ a k xs,x=.ref a/\y=.int k/\ah K H a xs/\1 < k/\k<=1000/\xs.length<=1000/\∀ p H',aD H H'->ah K H' p (List.replicate k.toNat xs).flatten->Q (.ref p) H'
theorem aE5 (hK:X.K=K):d6 X (binaryOp .Mult) (ξ K):=by
 subst hK
 intro aa s σ H x y v u Q I rx ry h
 obtain ⟨a,k,xs,rfl,rfl,ha,h1,h2,hz,q⟩:=h
 cases rx
 obtain ⟨t,rfl⟩:=ry
 obtain ⟨its,r,⟨⟨cls,dd,data,sl⟩,ho,hc,n,hd⟩,uu⟩:=I.tuple ha
 simp only at hc hd
 subst hc hd
 have hl:=r.length
 refine Ut (T := "tuple") (U := "int") (by decide) ⟨_,ho,rfl⟩ (λs'=>Ur s' k t) kH Io Ui oB PySem.F.slot_int_index.lookup
  (Tn Ui (Ur s k t) Ik (Ih _ _) (lV k t a its.toArray n dd sl) ⟨ho,rfl,⟨_,ho,rfl⟩,?_⟩)
 by_cases hx:xs = []
 ·subst hx
  cases r
  refine Tn PySem.F.slot_tuple_mul ⟨_,ho,rfl⟩ Th (Tg _ _) (rT a _ n dd sl k t h1 h2 rfl) ⟨ho,?_⟩
  exact ⟨.ref a,H,I,rfl,q a H (aD.refl H) (by rw [List.flatten_replicate_nil]; exact ha)⟩
 ·have br:its.toArray.isEmpty=false:=by
   cases its with
   | nil=>cases r; exact absurd rfl hx
   | cons _ _=>rfl
  refine Tn PySem.F.slot_tuple_mul ⟨_,ho,rfl⟩ Th (Tg _ _) (rS a its.toArray n dd sl k t h1 h2 br (by rw [Qj]; omega)) ⟨ho,?_⟩
  have j4:List.foldl (λx1 x2=>x1++x2) #[] (List.replicate k.toNat its.toArray)=(List.replicate k.toNat its).flatten.toArray:=by
   have:=mI its k.toNat []
   rw [Zh] at this
   exact this
  rw [j4]
  have hlen:(List.replicate k.toNat xs).flatten.length<=sizeLine:=by
   rw [wV,Rf]
   have:k.toNat*xs.length<=1000*1000:=Nat.mul_le_mul (by omega) hz
   omega
  refine ⟨.ref _,_,I.laid (t':=s.toks) (o:=.tup (List.replicate k.toNat xs).flatten) (λb ob q=>Qb _ q) (Qi _) ?_,rfl,q _ _ (aD.new (I.az.fresh (Qi _))) (ah.of aB)⟩
  exact ⟨hlen,(List.replicate k.toNat its).flatten,0,r.rep k.toNat,Qh _ rfl⟩
section
variable {σ:St}
end
section
variable {S:List Addr} {E E':Hp->V->Prop}
noncomputable def DTe (K:Rb) (S:List Addr) (E:Hp->V->Prop) (n:Nat) (H:Hp) (x:V):Prop:=∃ a xs,x=.ref a/\ah K (Vw S H) a xs/\xs.length<=n/\∀ y∈xs,E H y
noncomputable def LTe (S:List Addr) (E:Hp->V->Prop) (n:Nat) (H:Hp) (x:V):Prop:=∃ a xs,x=.ref a/\Vw S H a=some (.lst xs)/\xs.length<=n/\∀ y∈xs,E H y
instance {n:Nat} [m:Mo E]:Mo (DTe K S E n):=⟨λe ⟨a,xs,h1,h2,h3,h4⟩=>⟨a,xs,h1,(Vw.same e).ag h2,h3,λy hy=>m.mo e (h4 y hy)⟩⟩
instance {n:Nat} [m:Mo E]:Mo (LTe S E n):=⟨λe ⟨a,xs,h1,h2,h3,h4⟩=>⟨a,xs,h1,Vw.same e _ _ h2,h3,λy hy=>m.mo e (h4 y hy)⟩⟩
variable {σ:St} {tb:TE} {t:TA} {tl th:TO}
end
section
variable {env:Env} {iM:List Expr} {k:Nat} {pos:Pos} {a b c:Expr}
end
theorem rV {z0:Str} (sc:Scope) (N:List Str) (h1:X.env.scope=sc) (h2:X.N=N) (cf:∀ (n:Nat) (cl:List (Str×Addr)),cellsFrom n scope.names cl=(z0,n)::cl) (pc:∀ h:Heap,pushCells h scope.names=h.push { cls:=.type "cell",data:=.cell none }) (h:(kG sc scope (some z0) own a9 && qN N a9 fr)=true):bg X scope (some z0) own fr a9 :=
 zK h1 h2 (λ_ q=>by cases q; exact ⟨cf,pc⟩) h
noncomputable def HJ (scope sc:Scope):Scope:={ scope with names:=scope.names.map λ(n,k)=>if (k==NameKind.free && sc.kind==.function && sc.names.lookup n==some .cell) then (n,NameKind.cell) else (n,k) }
theorem aCx (hc:X.calm=true):dQ X (.builtin "min") (λxs H Q=>∃ (p:Addr) (ns:List Int),xs = [.ref p]/\ai X.K H p (ns.map V.int)/\0 < ns.length/\∀ M,M∈ns->(∀ a∈ns,M<=a)->Q (.int M) H):=by
 intro aa s σ H xs us Q I r h
 obtain ⟨p,ns,rfl,hx,br,q⟩:=h
 obtain ⟨u,rfl,rx⟩:=fO r
 cases rx
 obtain ⟨its,rv,pl,hz⟩:=I.list hx
 have hi:IntsAre its ns:=fQ rv
 obtain ⟨xs,e⟩:=hi.allInts.items
 have fw:ns=xs.toList.map (·.1):=by
  rw [<- hi.numsOf,<- Mb,<- e]
 have hsz:0 < xs.size:=by
  have h3:=br; rw [fw,Qa,Array.length_toList] at h3; exact h3
 have hl:=pl.isList
 rw [e] at hl
 refine min_intList (I.ok.hd hc) hl hsz λv h' tk hv hk=>?_
 obtain ⟨t,rfl⟩:=Vl hv
 obtain ⟨h1,h2⟩:=Iy (numAt xs) (xs.size - 1)
 refine ⟨.int _,H,I.kept hk,⟨_,rfl⟩,q _ ?_ λa ha=>?_⟩
 ·rw [fw,Ic]; exact getD_mem (by rw [Qa,Array.length_toList]; omega)
 ·rw [fw] at ha
  obtain ⟨j,hj,rfl⟩:=mem_getD ha
  rw [Qa,Array.length_toList] at hj
  rw [<- Ic]; exact h2 j (by omega)
theorem HX:bootBuiltins "min" = some (.builtin "min"):=by decide +kernel
section
variable {cd:Value} {outer:List Env} {s0:Shared} {E:XK}
end
section
variable {g:Array GenState} {d:Drawn} {t:Nat} {os:OsState}
end
section
variable {l:List Env} {E:XK} {T:Addr}
end
section
variable {σ:St} {E:XK} {e:Value} {F:Value->Shared->Prop} {L:Addr}
end
section
variable {g:Array GenState} {d:Drawn} {t:Nat} {os:OsState} {C':Addr} {oe:Obj} {bm':List Value}
end
section
variable {k:Nat} {vi:List V} {ds:List Value} {pos:Pos} {t:TA}
end
structure Fp (X:Cx) (e:Expr) (t:TE):Prop where
 go:PE X e t
structure Q8 (X:Cx) (es:List Expr) (t:TA):Prop where
 go:PA X es t
structure BQ (X:Cx) (st:Stmt) (t:TS):Prop where
 go:PS X st t
structure gy (X:Cx) (Bd:List Stmt) (t:TS):Prop where
 go:j9 X Bd t
section
variable {pos:Pos} {a b:Expr} {tb:TE} {t:TA} {iM:List Stmt} {ts us:TS}
theorem PZ:Q8 X [] BN:=⟨aC⟩
theorem pH {i j}:Fp X (.Constant (.bool i) j pos) (tC (.bl i)):=⟨iN⟩
theorem PY (h:Q8 X es t):Fp X (.List es pos) (Ot t):=⟨dY h.go⟩
theorem eP (h:BQ X st ts):gy X [st] ts:=⟨aK h.go⟩
theorem bM (h:BQ X st ts) (r:gy X iM us):gy X (st::iM) (E2 ts us):=⟨aE h.go r.go⟩
theorem gT (hN:X.N.Nodup) (hi:X.N[i]?=some x) (hx:Loc X.env.scope x) (he:Fp X e te) (hs:swapsWith e (some (.Name x pos')) pos.line X.env=pure false:=by rfl) (hf:X.fn x=true∨X.env.scope.names.lookup x=some .local:=by first | exact .inl rfl | exact .inr rfl | assumption) :
  BQ X (.Assign [.Name x pos'] e pos) (BO te (cU i)):=⟨aU hN hi hx he.go hs hf⟩
end
section
variable {Z:List Addr} {S:St->Prop} {pos:Pos} {a b:Expr}
theorem gy.ex {Bd:List Stmt} {t:TS} {R:TS->Prop} (h:gy X Bd t) (r:R t):∃ t,j9 X Bd t/\R t:=⟨t,h.go,r⟩
theorem jQ (h:Fp X e te):BQ X (.Return (some e) pos) (Oj te):=⟨aW h.go⟩
end
section
variable {l:Expr} {pos:Pos}
end
noncomputable def nB:List Int->Nat
 | []=>0
 | k::r=>if k∈r then nB r else nB r+1
noncomputable def nK (l:List Int):Nat:=nB l.reverse
theorem aCy (l:List Int) (k:Int):nK (l++[k])=if k∈l then nK l else nK l+1:=by
 unfold nK
 rw [Wv]
 show nB (k::l.reverse)=_
 simp only [nB,List.mem_reverse]
theorem rW:∀ l:List Int,nB l<=l.length
 | []=>Qi _
 | k::r=>by
  have:=rW r
  unfold nB
  split <;> simp <;> omega
theorem aE6 (l:List Int):nK l<=l.length:=by
 have:=rW l.reverse
 rwa [Yo] at this
theorem qC:∀ l:List Int,nB l=l.length↔l.Nodup
 | []=>by simp [nB]
 | k::r=>by
  have h1:=qC r
  have h2:=rW r
  unfold nB
  rw [Xm,<- h1,Jr]
  by_cases hk:k∈r
  ·rw [if_pos hk]
   constructor
   ·intro h; omega
   ·intro h; exact absurd hk h.1
  ·rw [if_neg hk]
   constructor
   ·intro h; exact ⟨hk,by omega⟩
   ·intro h; omega
theorem aAV (l:List Int):nK l=l.length↔l.Nodup:=by
 have h:=qC l.reverse
 rw [Yo] at h
 unfold nK
 rw [h]
 unfold List.Nodup
 rw [List.pairwise_reverse]
 constructor <;> intro h <;> exact h.imp λz=>Ne.symm z
theorem aCz {S:Int->Bool} {k:Int} {t:Tok} {Q:Bool->Shared->Prop} (hS:s.heap.SetOf (intKind prog w) a S n) (iu:n+1 < scanBound) (h:∀ h',Heap.SameBut a s.heap h'->h'.SetOf (intKind prog w) a (λk'=>S k' || decide (k'=k)) (if S k then n else n+1)->Q (!S k) { s with heap:=h',toks:=s.toks+1 }) :
  wpAny (model prog w) A (setAdd a (.int k t)) Q E s:=by
 have ik:(intKind prog w).is k (.int k t)=true:=by simp [intKind,Value.isInt]
 unfold setAdd
 refine Ra ((intKind prog w).pyHash ik ?_)
 exact wpAny_setAddHashed_of (s:={ s with toks:=s.toks+1 }) ik rfl hS iu λh' Bq qm=>h h' Bq qm
theorem aDH {wr:List Addr} {P:Nat->Value->Prop} {St:Nat->Heap->Prop} {Z:Nat->Heap->Prop} (W:Walks prog w A.in1 I fp wr ns.length P St) (hP:∀ i v,P i v->∃ k t,ns[i]?=some k/\v=.int k t) (jd:∀ c∈fp,c≠S) (Cj:S∉wr) (kp:∀ i h h',Z i h->(∀ o,h.get? S=some o->h'.get? S=some o)->Z i h') (ad:∀ i k t {B:Around} {E':Value->Shared->Prop} {s':Shared} {Q':Bool->Shared->Prop},ns[i]?=some k->Z i s'.heap->(∀ h3 b,Heap.SameBut S s'.heap h3->Z (i+1) h3->Q' b { s' with heap:=h3,toks:=s'.toks+1 })->wpAny (model prog w) B (setAdd S (.int k t)) Q' E' s') :
  ∀ (j i:Nat) (s:Shared),i+j=ns.length->St i s.heap->Z i s.heap ->
   (∀ h' tk,Z ns.length h'->(∀ b o,b≠S->b∉wr->s.heap.get? b=some o->h'.get? b=some o)->R (.ok (.ret .none)) { s with heap:=h',toks:=tk }) ->
   codeAny (model prog w) A (.builtin "set.update.loop" ⟨[.ref S,.ref I],[]⟩) R s:=by
 intro j
 induction j with
 | zero =>
  intro i s hi st hS h
  obtain rfl:i=ns.length:=by omega
  exact aDw W st λh' tk k=>h h' tk (kp _ _ _ hS λo e=>k S o Cj e) λb o _ hb e=>k b o hb e
 | succ j ih =>
  intro i s hi st hS h
  refine aDv W (i:=i) (by omega) st λv h2 FG hv gf k2=>?_
  obtain ⟨k,t,hk,rfl⟩:=hP i v hv
  refine ad i k t (s':={ s with heap:=h2,toks:=FG }) hk (kp _ _ _ hS λo e=>k2 S o Cj e) λh3 b sb ql=>?_
  exact ih (i+1) _ (by omega) (W.frame _ _ _ gf λc hc o e=>(sb.2 c (jd c hc)).trans e) ql λh' tk qm F7=>h h' tk qm λb o nb hb e=>F7 b o nb hb ((sb.2 b nb).trans (k2 b o hb e))
set_option maxHeartbeats 3200000 in
theorem aAW {l:Addr} {its:Array Value} {Z:Nat->Heap->Prop} (hh:A.handled=none) (hl:s.heap.IsList l its) (hi:IntsAre its.toList ns) (z0:∀ h:Heap,h.get? s.heap.objs.size=some { cls:=.type "set",dict:=none,data:=.set #[] 0 (.fresh 0 0 (Led w)) }->Z 0 h) (kp:∀ i h h',Z i h->(∀ o,h.get? s.heap.objs.size=some o->h'.get? s.heap.objs.size=some o)->Z i h') (ad:∀ i k t {B:Around} {E':Value->Shared->Prop} {s':Shared} {Q':Bool->Shared->Prop},ns[i]?=some k->Z i s'.heap->(∀ h3 b,Heap.SameBut s.heap.objs.size s'.heap h3->Z (i+1) h3->Q' b { s' with heap:=h3,toks:=s'.toks+1 })->wpAny (model prog w) B (setAdd s.heap.objs.size (.int k t)) Q' E' s') (h:∀ (h':Heap) (tk:Nat),Z ns.length h'->(∀ b o,b < s.heap.objs.size->s.heap.get? b=some o->h'.get? b=some o)->Q (.ref s.heap.objs.size) { s with heap:=h',toks:=tk }) :
  wpAny (model prog w) A (call (.type "set") [.ref l]) Q E s:=by
 obtain ⟨c,tl,aaj⟩:=PySem.F.called_set.mro
 have RN:=PySem.F.called_set.made
 have v_:=PySem.F.called_set.sub
 refine Iw (Ir ?_)
 show wpAny _ _ (callAny (.type "set") _) _ _ _
 refine Rc ⟨Code.quiet_builtin _ (by decide +kernel),Tb PySem.F.entry_type_call ?_⟩
 rw [Around.under_plain (weight_type_call_type "set" [.ref l] []) rfl]
 have h1:=PySem.F.called_set.notType
 have h2:=PySem.F.called_set.canCreate
 have hct:=PySem.F.typeCall_set_1 (.ref l)
 repeat (any_goals (first | assumption | wp_step))
 refine Uq (rP (.ref l) (E:=E) (Q₁:=λobj bq=>obj=.ref s.heap.objs.size/\bq={ s with heap:=s.heap.push { cls:=.type "set",dict:=none,data:=.set #[] 0 (.fresh 0 0 (Led w)) } }) ⟨rfl,rfl⟩) λr bq hr=>?_
 cases r with
 | error e=>exact hr
 | ok fl =>
  cases fl with
  | ret obj =>
   obtain ⟨rfl,rfl⟩:=hr
   generalize aal:Led w=led at z0 ⊢
   have hS:(s.heap.push { cls:=.type "set",dict:=none,data:=.set #[] 0 (.fresh 0 0 led) }).get? s.heap.objs.size=some { cls:=.type "set",dict:=none,data:=.set #[] 0 (.fresh 0 0 led) }:=Qh _ rfl
   have hT:Shared.TypeIs { s with heap:=s.heap.push { cls:=.type "set",dict:=none,data:=.set #[] 0 (.fresh 0 0 led) } } (.ref s.heap.objs.size) "set" := ⟨_,hS,rfl⟩
   have Bw:=PySem.F.called_set.init.lookup
   have hbi:=PySem.F.called_set.init.bind (.ref s.heap.objs.size)
   repeat (any_goals (first | assumption | wp_step))
   refine Uq (Mn (R:=wants (λr gn=>r=.none/\∃ h' tk,gn={ s with heap:=h',toks:=tk }/\Z ns.length h' /\
     (∀ b o,b < s.heap.objs.size->s.heap.get? b=some o->h'.get? b=some o)) E) PySem.F.called_set.init.plain PySem.F.entry_set_init (check_set_init_1 hT ?_)) λSK gn AL=>?_
   ·obtain ⟨ol,Bt,uh,nl,fe⟩:=hl
    obtain ⟨aab,DX,RK,A5⟩:=ol
    simp only at uh fe
    subst uh; subst fe
    have J5:(s.heap.push { cls:=.type "set",dict:=none,data:=.set #[] 0 (.fresh 0 0 led) }).get? l=some { cls:=.type "list",dict:=DX,data:=.seq its nl,slots:=A5 }:=Qb _ Bt
    have aag:=PySem.F.sub_list_set
    have aah:=PySem.F.sub_list_frozenset
    have br:(Value.type "list" == Value.type "dict")=false:=by decide
    have qf:(s.heap.push { cls:=.type "set",dict:=none,data:=.set #[] 0 (.fresh 0 0 led) }).IsList l its:=⟨_,J5,rfl,nl,rfl⟩
    unfold Builtin.«set.__init__» noKeywords Builtin.Frozenset.updateFrom
    generalize V7:pyIter=PI
    wp_walk
    subst V7
    refine Ti qf ?_
    refine Ra (wpAny_runValue ?_)
    have LP:l < s.heap.objs.size:=Qm Bt
    have VG:A.in1.in1.in1.handled=none:=by simp [hh]
    generalize He:s.heap.push { cls:=.type "set",dict:=none,data:=.set #[] 0 (.fresh 0 0 led) }=H1 at *
    have JG:H1.objs.size=s.heap.objs.size+1:=by rw [<- He,Jk]
    have J9:l≠H1.objs.size:=by rw [JG]; exact Jc (Xd LP)
    have W:=Walks.list (prog:=prog) (w:=w) VG H1.objs.size l J9 its
    have hsz:its.size=ns.length:=by rw [<- hi.length,Array.length_toList]
    rw [hsz] at W
    generalize hS0:s.heap.objs.size=S at *
    have SI:S≠H1.objs.size:=by omega
    have lS:l≠S:=Jc LP
    refine aDH W (λi v hv=>?_) (λc hc=>?_) (by simpa using SI) kp ad ns.length 0 _ (by omega) ⟨⟨_,Qh _ rfl,rfl,rfl⟩,qf.push _⟩ ?_ λh6 Sg x6 k6=>?_
    ·have zl:its[i]?=some v:=hv
     have qj:i < its.toList.length:=by
      rw [Array.length_toList]
      exact (Array.getElem?_eq_some_iff.mp zl).1
     have e1:its.toList[i]?=some v:=by rw [Array.getElem?_toList]; exact zl
     obtain ⟨k,t,e2,e3⟩:=IntsAre.at hi i v e1
     exact ⟨k,t,e3,e2⟩
    ·rcases Qk.mp hc with z | z
     ·rw [z]; exact Ne.symm SI
     ·have z':c=l:=by simpa using z
      rw [z']; exact lS
    ·exact z0 _ (Qb _ hS)
    ·show wpAny _ _ _ _ _ _
     refine Rc ?_
     show wpAny _ _ (ret Value.none) _ _ _
     refine Rc ⟨rfl,h6,Sg,rfl,x6,λc o hc e=>?_⟩
     have c1:c≠S:=Jc hc
     have c2:c∉[H1.objs.size]:=by
      intro z
      have z':c=H1.objs.size:=by simpa using z
      omega
     exact k6 c o c1 c2 (Qb _ (He ▸ Qb _ e))
   ·cases SK with
    | error e=>exact AL
    | ok WM =>
     cases WM with
     | ret r =>
      obtain ⟨rfl,h',tk,rfl,qm,zv⟩:=AL
      repeat (any_goals (first | assumption | wp_step))
      exact h _ _ qm zv
     | _=>exact AL.elim
  | _=>exact hr.elim
theorem uX {l:Addr} {its:Array Value} (hh:A.handled=none) (hl:s.heap.IsList l its) (hi:IntsAre its.toList ns) (hlen:ns.length+1 < scanBound) (h:∀ (h':Heap) (tk:Nat),h'.SetOf (intKind prog w) s.heap.objs.size (λk=>decide (k∈ns)) (nK ns)->(∀ b o,b < s.heap.objs.size->s.heap.get? b=some o->h'.get? b=some o)->Q (.ref s.heap.objs.size) { s with heap:=h',toks:=tk }) :
  wpAny (model prog w) A (call (.type "set") [.ref l]) Q E s:=by
 refine aAW (Z:=λi h=>h.SetOf (intKind prog w) s.heap.objs.size (λk=>decide (k∈ns.take i)) (nK (ns.take i))) hh hl hi (λh e=>⟨_,#[],0,_,e,⟨rfl,rfl,rfl⟩,rfl,λe he=>by simp at he,λk=>by simp,by decide,by rfl,rfl⟩) (λi h h' ⟨o,es,ep,t,e,c⟩ k=>⟨o,es,ep,t,k _ e,c⟩) (λi k t _ _ s' Q' hk hS q=>?_) λh' tk z=>h h' tk (by rw [Jt] at z; exact z)
 have hd:=aE6 (ns.take i)
 rw [Qy] at hd
 refine aCz hS (by omega) λh3 sb ql=>q h3 _ sb ?_
 have et:ns.take (i+1)=ns.take i++[k]:=by rw [Xj,hk]; rfl
 have e1:(λk_1=>decide (k_1∈ns.take (i+1)))=(λk'=>decide (k'∈ns.take i) || decide (k'=k)):=by
  funext k'
  rw [et]
  simp
 have e2:nK (ns.take (i+1))=if decide (k∈ns.take i)=true then nK (ns.take i) else nK (ns.take i)+1:=by
  rw [et,aCy]
  by_cases z:k∈ns.take i
  ·rw [if_pos z,if_pos (decide_eq_true z)]
  ·rw [if_neg z,if_neg (by simpa using z)]
 rw [e1,e2]
 exact ql
theorem vU:∀ {vs:List Value} {ns:List Int},bF (ns.map V.int) vs->IntsAre vs ns
 | [],[],_=>.nil
 | v::vs,n::ns,h=>by
  cases h with
  | cons r t =>
   obtain ⟨k,rfl⟩:=r
   exact .cons n k (vU t)
 | [],n::ns,h=>by cases h
 | v::vs,[],h=>by cases h
theorem aCA (hK:X.K=K) (hc:X.calm=true):dQ X (.type "set") (λxs H Q=>∃ (l:Addr) (ns:List Int),xs = [.ref l]/\ai K H l (ns.map V.int)/\ns.length<=40/\∀ p,H p=none->Q (.ref p) (upd H p (.set (λk=>decide (k∈ns)) (nK ns)))):=by
 subst hK
 intro aa s σ H xs us Q I r h
 obtain ⟨l,ns,rfl,hL,hn,q⟩:=h
 obtain ⟨u,rfl,rx⟩:=fO r
 cases rx
 obtain ⟨its,rv,pl,hz⟩:=I.list hL
 refine uX (I.ok.hd hc) pl.isList (vU rv) (Xg (Zp hn) (by decide)) λh' tk x kp=>?_
 have F7:∀ b o,s.heap.get? b=some o->h'.get? b=some o:=λb o e=>kp b o (Qm e) e
 have hf:=I.az.fresh (Qi s.heap.objs.size)
 exact ⟨.ref s.heap.objs.size,_,I.laid (t':=tk) F7 (Qi _) (show bO X.prog X.w _ _ _ (.set _ _) from x),rfl,q _ hf⟩
theorem uY:dQ X (.builtin "len") (λxs H Q=>∃ p S n,xs = [.ref p]/\H p=some (.set S n)/\Q (.int (n:Nat)) H):=by
 intro aa s σ H xs us Q I r h
 obtain ⟨p,S,n,rfl,hp,q⟩:=h
 obtain ⟨u,rfl,rx⟩:=fO r
 cases rx
 obtain ⟨o,es,ep,t,ho,hex,hd,_,_,hb,hf,hn⟩:=I.az p _ hp
 subst hn
 have l8:es.size < 2^20:=Qac hb (by decide)
 have:(2:Int)^63=9223372036854775808:=by decide
 have:(2:Nat)^20=1048576:=by decide
 exact PySem.call_len_set ho hex hd hf (by omega) ⟨.int es.size,H,I.tok _,⟨_,rfl⟩,q⟩
section
variable {e l:Addr} {P:Nat->Value->Prop} {st:Nat->Heap->Prop}
theorem aDI (S:Sub prog w it l n P st) (BB:e≠it) (L1:l≠e) (he:IsEnum s.heap e it i old) (h1:st i s.heap) (hi:i < n) (hQ:∀ h' x tk,P i x->IsEnumOut h' e it ((i:Int)+1) x s.heap.objs.size->st (i+1) h'->h'.get? s.heap.objs.size=some { cls:=.type "tuple",data:=.seq #[.int i tk,x] } ->
   (∀ c o,c≠e->c≠it->s.heap.get? c=some o->h'.get? c=some o)->Q (.ref s.heap.objs.size) { s with heap:=h',toks:=s.toks+1 }) :
  wpAny (model prog w) A (Builtin.«enumerate.__next__» ⟨[.ref e],[]⟩) (λfin s'=>∃ v,fin=.done (.ret v)/\Q v s') E s:=by
 refine Ra (m:=field (.ref e) 2) (Ri he rfl (x:=.ref it) rfl ?_)
 refine Ra (m:=Builtin.SmallTypes.nextOf (.ref it)) (S.item _ i _ _ _ hi h1 λx g1 px t1 b1=>?_)
 have e1:IsEnum g1 e it i old:=b1.extBut _ _ BB he
 refine Ra (m:=field (.ref e) 3) (Ri e1 rfl (x:=rawInt i) rfl ?_)
 refine Ra (m:=field (.ref e) 4) (Ri e1 rfl (x:=.none) rfl ?_)
 refine Ra (m:=mkInt i) (wpAny_mkInt ?_)
 refine Ra (m:=setField (.ref e) 3 (rawInt ((i:Int)+1))) (Rj e1 (by simp) λg2 e2 b2=>?_)
 have js:IsEnum g2 e it ((i:Int)+1) old:=e2
 refine Ra (m:=setField (.ref e) 4 .none) (Rj js (by simp) λg3 e3 b3=>?_)
 have Hv:IsEnum g3 e it ((i:Int)+1) old:=e3
 refine Ra (m:=newTuple [.int i s.toks,x]) (Vj ?_)
 have sz:g3.objs.size=s.heap.objs.size:=by rw [b3.1,b2.1,b1.1]
 have e4:IsEnum (g3.push { cls:=.type "tuple",data:=.seq #[.int i s.toks,x] }) e it ((i:Int)+1) old:=Qb _ Hv
 have T4:(g3.push { cls:=.type "tuple",data:=.seq #[.int i s.toks,x] }).get? s.heap.objs.size=some { cls:=.type "tuple",data:=.seq #[.int i s.toks,x] }:=by rw [<- sz]; exact Qh _ rfl
 have Cb:∀ c o,c≠e->c≠it->s.heap.get? c=some o->(g3.push { cls:=.type "tuple",data:=.seq #[.int i s.toks,x] }).get? c=some o:=λc o c1 c2 q =>
  Qb _ (b3.extBut _ _ c1 (b2.extBut _ _ c1 (b1.extBut _ _ c2 q)))
 have t4:st (i+1) (g3.push { cls:=.type "tuple",data:=.seq #[.int i s.toks,x] }):=S.keep _ _ _ t1 λc hc o q=>by
  have c1:c≠e:=by rcases hc with r | r <;> rw [r]; exact Ne.symm BB; exact L1
  exact Qb _ (b3.extBut _ _ c1 (b2.extBut _ _ c1 q))
 have elt:s.heap.objs.size≠e:=Ze (Qm he)
 rw [sz]
 generalize g3.push { cls:=.type "tuple",data:=.seq #[.int i s.toks,x] }=g4 at e4 T4 Cb t4 ⊢
 refine Ra (m:=Builtin.SmallTypes.ownedTupleIsFree (.ref e)) ?_
 unfold Builtin.SmallTypes.ownedTupleIsFree
 refine Ra (Ri e4 rfl (x:=.none) rfl (Rc ?_))
 simp only [if_true]
 refine Ra (Ua ?_)
 refine Ra (Ri e4 rfl (x:=old) rfl ?_)
 refine Ra (Rj e4 (by simp) λg5 e5 b5=>?_)
 have Hu:IsEnum g5 e it ((i:Int)+1) x:=e5
 refine Ra (m:=Builtin.SmallTypes.ownedTupleHandOut (.ref e) (.ref s.heap.objs.size)) ?_
 unfold Builtin.SmallTypes.ownedTupleHandOut
 refine Ra (Rj Hu (by simp) λg6 e6 b6=>?_)
 have Ht:IsEnumOut g6 e it ((i:Int)+1) x s.heap.objs.size:=e6
 refine Rj Ht (by simp) λg7 e7 b7=>?_
 have Hs:IsEnumOut g7 e it ((i:Int)+1) x s.heap.objs.size:=e7
 have up:∀ c o,c≠e->g4.get? c=some o->g7.get? c=some o:=λc o c1 q=>b7.extBut _ _ c1 (b6.extBut _ _ c1 (b5.extBut _ _ c1 q))
 refine Ra (Tr (Rc ⟨_,rfl,hQ g7 x s.toks px Hs ?_ (up _ _ elt T4) λc o c1 c2 q=>up c o c1 (Cb c o c1 c2 q)⟩))
 exact S.keep _ _ _ t4 λc hc o q=>up c o (by rcases hc with r | r <;> rw [r]; exact Ne.symm BB; exact L1) q
theorem aE7 {Q:Fin->Shared->Prop} (hh:A.handled=none) (S:Sub prog w it l n P st) (he:IsEnum s.heap e it n old) (h1:st n s.heap) (hE:∀ h' x,Heap.ExtBut it s.heap h'->(∃ o,h'.get? x=some o/\o.cls=.type "StopIteration")->E (.ref x) { s with heap:=h' }) :
  wpAny (model prog w) A (Builtin.«enumerate.__next__» ⟨[.ref e],[]⟩) Q E s:=by
 refine Ra (m:=field (.ref e) 2) (Ri he rfl (x:=.ref it) rfl ?_)
 exact Ra (m:=Builtin.SmallTypes.nextOf (.ref it)) (S.done _ _ _ _ hh h1 hE)
end
noncomputable def Di (K:Rb) (k:Sk) (a:Addr):It :=
 ⟨λi H => ∃ xs x, dz k K H a xs /\ xs[i]? = some x,
  λi H v H'=>∃ p,H p=none/\v=.ref p/\∀ xs,dz k K H a xs->∃ x,xs[i]?=some x/\H'=upd H p (.tup [.int (i:Nat),x]),
  λi H=>∃ xs,dz k K H a xs/\xs.length=i⟩
theorem aCB {x1} {pos:Pos} (k:Sk) (a e it:Addr) (BB:e≠it) :
  Turn P w K (.Tuple es x1 pos) (Di K k a) [e,it] e (λi h=>(∃ old,IsEnum h e it i old)/\fj k h it a i) where
 mem:=by simp
 obj:=λi h st c hc=>by
  obtain ⟨⟨old,he⟩,h1⟩:=st
  simp only [Qk,Qn,or_false] at hc
  rcases hc with rfl | rfl
  ·exact ⟨_,he,λv q=>by cases q⟩
  ·exact h1.obj
 keep:=λi h h' st kp=>by
  obtain ⟨⟨old,he⟩,h1⟩:=st
  exact ⟨⟨old,kp e (by simp) _ he⟩,h1.at λo q=>kp it (by simp) o q⟩
 item:=by
  intro X hP hw hK hc i aa s σ H E I hf st hg
  subst hP hw hK
  obtain ⟨⟨old,he⟩,h1⟩:=st
  obtain ⟨xs,x,ha,hx⟩:=hg
  obtain ⟨its,rv,pa⟩:=I.cz ha
  obtain ⟨u,hu,ru⟩:=rv.get hx
  have na:∀ c∈[e,it],a≠c:=λc aj=>I.bx ha (hf c aj)
  have hT:s.TypeIs (.ref e) "enumerate" := ⟨_,he,rfl⟩
  have l7:i < its.toArray.size:=by rw [Qj]; exact (Qd.mp hu).1
  unfold pyNext
  refine Ra (Tv (Rg (name:=Str.ofString "__next__") hT Rt (Rp Rt hT Tq
   (aDI (oA k X.prog X.w it a its.toArray (na it (by simp))) BB (na e (by simp)) he ⟨h1,pa⟩ l7 λh' u' tk pu G1 s1 CJ kp=>Rc ?_) (Tj _))))
  have eu:u'=u:=by
   have q:its[i]?=some u':=by simpa using pu
   rw [hu] at q
   exact (Option.some.inj q).symm
  subst eu
  refine ⟨_,rfl,Iz G1 λh2 Cy jx=>?_⟩
  have Te:s.heap.objs.size≠e:=Ze (Qm he)
  have G8:h2.get? s.heap.objs.size=some { cls:=.type "tuple",data:=.seq #[.int i tk,u'] }:=jx.extBut _ _ Te CJ
  have kh:=I.az.fresh (Qi s.heap.objs.size)
  have fz:=I.fk (Qi s.heap.objs.size) kh
  have I2:Inv X aa σ H { s with heap:=h2,toks:=s.toks+1 }:=by
   refine I.cy (t':=s.toks+1) [e,it] (λc o aj q=>?_) hf
   simp only [Qk,Qn,or_false,not_or] at aj
   exact jx.extBut _ _ aj.1 (kp c o aj.1 aj.2 q)
  have I3:Inv X aa σ (upd H s.heap.objs.size (.tup [.int (i:Nat),x])) { s with heap:=h2,toks:=s.toks+1 }:=by
   refine I2.iz (show bO X.prog X.w _ _ _ (.tup [.int (i:Nat),x]) from ⟨by show 2<=sizeLine; rw [Rf]; decide,[.int i tk,u'],0,.cons ⟨tk,rfl⟩ (.cons ru .nil),G8⟩) kh fz.2.1 I.sz fz.2.2.2.2.1 fz.2.2.2.2.2
  refine ⟨.ref s.heap.objs.size,_,I3,rfl,⟨s.heap.objs.size,kh,rfl,λtm ve=>?_⟩,⟨⟨_,by simpa using Cy⟩,s1.1.at λo q=>jx.extBut _ _ (Ne.symm BB) q⟩,λc aj=>?_⟩
  ·rw [I.e_ ve ha]
   exact ⟨x,hx,rfl⟩
  ·have cl:c≠s.heap.objs.size:=by
    obtain ⟨o,q⟩:∃ o,s.heap.get? c=some o:=by
     simp only [Qk,Qn,or_false] at aj
     rcases aj with rfl | rfl
     ·exact ⟨_,he⟩
     ·obtain ⟨o,q,_⟩:=h1.obj; exact ⟨o,q⟩
    exact Jc (Qm q)
   rw [aI cl]
   exact (hf c aj).1
 done:=by
  intro X hP hw hK hc i aa s σ H E I hf st hg
  subst hP hw hK
  obtain ⟨⟨old,he⟩,h1⟩:=st
  obtain ⟨xs,ha,hlen⟩:=hg
  obtain ⟨its,rv,pa⟩:=I.cz ha
  have la:=rv.length
  have na:∀ c∈[e,it],a≠c:=λc aj=>I.bx ha (hf c aj)
  have hT:s.TypeIs (.ref e) "enumerate" := ⟨_,he,rfl⟩
  have ei:i=its.toArray.size:=by rw [Qj]; omega
  subst ei
  unfold pyNext
  refine Ra (Tv (Rg (name:=Str.ofString "__next__") hT Rt (Rp Rt hT Tq
   (aE7 (I.ok.hd hc) (oA k X.prog X.w it a its.toArray (na it (by simp))) he ⟨h1,pa⟩ λh' x kp hx=>?_) (Tj _))))
  obtain ⟨oe,qb,ui⟩:=hx
  refine Ra (Vb (T := "StopIteration") (b:=true) ⟨oe,qb,ui⟩ Vk (Rc ⟨rfl,?_⟩))
  refine I.cy (t':=s.toks) [e,it] (λc o aj q=>?_) hf
  simp only [Qk,Qn,or_false,not_or] at aj
  exact kp c o aj.2 q
 self:=λ_ _ _ _ _ st h=>by
  obtain ⟨⟨old,he⟩,_⟩:=st
  exact Uy he h
theorem aCC (k:Sk) (a:Addr) (xs:Array Value) :
  Meets (Builtin.«enumerate.__new__» ⟨[.type "enumerate",.ref a],[]⟩) (λ_ R s=>oo k s.heap a xs /\
   R (.ok (.ret (.ref (s.heap.push (oi k a)).objs.size))) { s with heap:=(s.heap.push (oi k a)).push { cls:=.type "enumerate",data:=.fields #[.none,.bool false,.ref s.heap.objs.size,rawInt 0,.none,.none] } }) :=
 .of_wp λprog w A R s h=>by
  obtain ⟨hp,g,d,tk,os⟩:=s
  obtain ⟨hl,h⟩:=h
  have v_:=sub_enumerate
  have hA:oo k (Shared.heap ⟨hp,g,d,tk,os⟩) a xs:=hl
  obtain ⟨o,ho,hc⟩:∃ o,hp.get? a=some o/\(o.cls=.type "list" ∨ o.cls=.type "tuple"):=by
   cases k
   ·obtain ⟨o,e,c,_⟩:=hl; exact ⟨o,e,.inl c⟩
   ·obtain ⟨o,e,c,_⟩:=hl; exact ⟨o,e,.inr c⟩
  have kg:(Shared.heap ⟨hp,g,d,tk,os⟩).get? a=some o:=ho
  wp_walk using AutoSeq1.wpAny_loadPart' kg
  refine Raj λst=>Rc ?_
  split
  ·rename_i c _ _ _ _ _
   cases (c==Value.type "enumerate")
   ·wp_walk using AutoSeq1.wpAny_loadPart' kg,zJ hA
    exact ⟨_,rfl,h⟩
   ·wp_walk using AutoSeq1.wpAny_loadPart' kg,zJ hA
    exact ⟨_,rfl,h⟩
  ·wp_walk using AutoSeq1.wpAny_loadPart' kg,zJ hA
   exact ⟨_,rfl,h⟩
noncomputable def ν (K:Rb) (k:Sk) (ta:TA):TI:=λσ H R=>ta σ H λvs H1=>∃ a xs,vs = [.ref a]/\dz k K H1 a xs/\R (Di K k a) H1
theorem aE8 (k:Sk) {a:Expr} {ta:TA} {pos:Pos} (hg:Gl X "enumerate") (hm:X.mg "enumerate" = none) (ha:PA X [a] ta) (hs:starEach [a] X.env = [(false,eval a X.env)]:=by rfl) :
  PI X (.Tuple es x1 qy) (.Call (.Name "enumerate" p) [a] [] pos) (ν X.K k ta):=by
 intro aa s σ H R I h
 refine Mk (iB (u:=.type "enumerate") I hg hm (by decide +kernel) (PyProof.Rows.callWith_type1 (a7 (ha pos aa s σ H _ I h) λus s1 aq=>?_) hs rfl))
 obtain ⟨vs,H1,I1,r1,q1⟩:=aq
 obtain ⟨l,xs,rfl,hA,q⟩:=q1
 obtain ⟨u1,rfl,oz⟩:=fO r1
 cases oz
 obtain ⟨its,rv,pa⟩:=I1.cz hA
 refine Vc Ig (by decide) (Vn _) (Vs _) (λobj=>Vz obj _) Vt (aCC k l its.toArray) ⟨pa,?_⟩
 have n1:(s1.heap.push (oi k l)).objs.size=s1.heap.objs.size+1:=Jk ..
 have g2:IsEnum ((s1.heap.push (oi k l)).push { cls:=.type "enumerate",data:=.fields #[.none,.bool false,.ref s1.heap.objs.size,rawInt 0,.none,.none] }) (s1.heap.push (oi k l)).objs.size s1.heap.objs.size 0 .none:=Qh _ rfl
 have g1:fj k ((s1.heap.push (oi k l)).push { cls:=.type "enumerate",data:=.fields #[.none,.bool false,.ref s1.heap.objs.size,rawInt 0,.none,.none] }) s1.heap.objs.size l 0:=(fj.new k s1.heap l).at λo e=>Qb _ e
 have kp:∀ c o,s1.heap.get? c=some o->((s1.heap.push (oi k l)).push { cls:=.type "enumerate",data:=.fields #[.none,.bool false,.ref s1.heap.objs.size,rawInt 0,.none,.none] }).get? c=some o:=λc o e=>Qb _ (Qb _ e)
 generalize (s1.heap.push (oi k l)).push { cls:=.type "enumerate",data:=.fields #[.none,.bool false,.ref s1.heap.objs.size,rawInt 0,.none,.none] }=h2 at g1 g2 kp ⊢
 refine ⟨⟨_,g2,rfl⟩,Uy g2 ?_⟩
 rw [n1] at *
 have I2:Inv X aa σ H1 { s1 with heap:=h2 }:=I1.kept (t':=s1.toks) kp
 refine ⟨s1.heap.objs.size+1,[s1.heap.objs.size+1,s1.heap.objs.size],_,_,H1,rfl,I2,aCB k l (s1.heap.objs.size+1) s1.heap.objs.size (Nat.succ_ne_self _),⟨⟨_,g2⟩,g1⟩,λc hc=>?_,q⟩
 have aj:s1.heap.objs.size<=c:=by
  simp only [Qk,Qn,or_false] at hc
  rcases hc with r | r
  ·rw [r]; exact Xx _ _
  ·rw [r]; exact Qi _
 exact I1.fk aj (I1.az.fresh aj)
theorem aDJ {k:Sk} {σ:St} (Pv:Nat->St->Hp->Prop) (h0:Pv 0 σ H) (hl:∀ i σ H,i<=xs.length->Pv i σ H->dz k K H a xs) (hs:∀ i x p σ H,xs[i]?=some x->Pv i σ H->H p=none->g (.ref p) σ (upd H p (.tup [.int (i:Nat),x])) λa8 H2=>tb { D with nx:=Pv (i+1),ct:=Pv (i+1),bk:=D.nx } a8 H2) (hd:∀ σ H,Pv xs.length σ H->D.nx σ H) :
  ∃ W:Nat->Nat->St->Hp->Prop,(∃ m,W 0 m σ H)/\∀ i m σ H,W i m σ H ->
   ((Di K k a).stop i H/\D.nx σ H)∨((Di K k a).go i H/\∃ N:St->Hp->Prop,(∀ ar H',N ar H'->∃ m',m' < m/\W (i+1) m' ar H')/\∀ x H',(Di K k a).oy i H x H'->g x σ H' λa8 H2=>tb { D with nx:=N,ct:=N,bk:=D.nx } a8 H2):=by
 refine ⟨λi m σ H=>m=xs.length - i/\i<=xs.length/\Pv i σ H,⟨xs.length,by simp,Jl _,h0⟩,?_⟩
 rintro i m σ H ⟨rfl,hi,p⟩
 have q:=hl i σ H hi p
 by_cases ax:i < xs.length
 ·refine .inr ⟨⟨xs,xs[i],q,Qc ax⟩,Pv (i+1),λar H' p'=>⟨xs.length - (i+1),by omega,rfl,ax,p'⟩,λx H' y=>?_⟩
  obtain ⟨p1,qa,rfl,y⟩:=y
  obtain ⟨v,hv,rfl⟩:=y xs q
  exact hs i v p1 σ H hv p qa
 ·have e:i=xs.length:=by omega
  subst e
  exact .inl ⟨⟨xs,q,rfl⟩,hd σ H p⟩
theorem Pk (h:n<=1000):n<=sizeLine:=by rw [Rf]; omega
section
variable {own:Nat} {σ:St}
theorem aE9 (h:vs[i]?=some v):vs.take (i+1)=vs.take i++[v]:=by rw [Xj,h]; rfl
theorem wZ (SH:St->Prop) (hn:n<=1000) (hl:vs.length=n) (gq:SH (d7 own fr σ)) (ku:∀ H',aD H H'->J.stop n H') (Ct:∀ i H',i < n->aD H H'->J.go i H') (hs:∀ i v x σ H1 H2,i < n->vs[i]?=some v->SH σ->aD H H1->J.oy i H1 x H2->∀ Q:V->St->Hp->Prop,(∀ a8 H4,SH a8->aD H1 H4->Q v a8 H4)->g x σ H2 λa8 H3=>te a8 H3 λy H4=>Q y a8 H4) (hd:∀ H',aD H H'->Qf H' vs) :
  ja J [] (d7 own fr σ) H (λys _ H=>Qf H ys) g pF (oa te):=by
 refine mJ n (Pk hn) SH (λi ys H'=>ys=vs.take i/\aD H H') gq ⟨rfl,aD.refl H⟩ (λi ys H' p=>by rw [p.1,Qy]; omega) (λys H' p=>ku H' p.2) (λi ys H' hi p=>Ct i H' hi p.2) ?_ (λys H' p=>?_)
 ·rintro i ys ar x H1 H2 hi sh ⟨rfl,s1⟩ hy hz
  have hv:vs[i]?=some vs[i]:=Qc (by omega)
  have h:=hs i vs[i] x ar H1 H2 hi hv sh s1 hy (λy a8 H4=>(vs.take i).length < sizeLine/\SH a8/\(vs.take i++[y]=vs.take (i+1)/\aD H H4)) λa8 H4 Sy s4=>⟨hz,Sy,(aE9 hv).symm,s1.trans s4⟩
  exact h
 ·obtain ⟨rfl,s1⟩:=p
  rw [Jn (by omega)]
  exact hd H' s1
theorem oC (SH:St->Prop) (hn:xs.length<=1000) (hl:vs.length=xs.length) (ha:ai K H a xs) (gq:SH (d7 own fr σ)) (hs:∀ (i:Nat) x v σ H1,xs[i]?=some x->vs[i]?=some v->SH σ->aD H H1->∀ Q:V->St->Hp->Prop,(∀ a8 H4,SH a8->aD H1 H4->Q v a8 H4)->g x σ H1 λa8 H2=>te a8 H2 λy H4=>Q y a8 H4) (hd:∀ H',aD H H'->Qf H' vs) :
  ja (yj K a) [] (d7 own fr σ) H (λys _ H=>Qf H ys) g pF (oa te):=by
 refine wZ SH hn hl gq (λH' s=>⟨xs,s.b_ ha,Qi _⟩) (λi H' hi s=>⟨xs,xs[i],s.b_ ha,Qc hi⟩) (λi v x σ H1 H2 hi hv sh s y Q k=>?_) hd
 obtain ⟨e,y⟩:=y
 subst e
 exact hs i x v σ _ (y xs (s.b_ ha)) hv sh s Q k
theorem kI (SH:St->Prop) (hn:xs.length<=1000) (hl:vs.length=xs.length) (ha:ah K H a xs) (gq:SH (d7 own fr σ)) (hs:∀ (i:Nat) x v σ H1,xs[i]?=some x->vs[i]?=some v->SH σ->aD H H1->∀ Q:V->St->Hp->Prop,(∀ a8 H4,SH a8->aD H1 H4->Q v a8 H4)->g x σ H1 λa8 H2=>te a8 H2 λy H4=>Q y a8 H4) (hd:∀ H',aD H H'->Qf H' vs) :
  ja (yh K a) [] (d7 own fr σ) H (λys _ H=>Qf H ys) g pF (oa te):=by
 refine wZ SH hn hl gq (λH' s=>⟨xs,s.ag ha,Qi _⟩) (λi H' hi s=>⟨xs,xs[i],s.ag ha,Qc hi⟩) (λi v x σ H1 H2 hi hv sh s y Q k=>?_) hd
 obtain ⟨e,y⟩:=y
 subst e
 exact hs i x v σ _ (y xs (s.ag ha)) hv sh s Q k
theorem aDL (SH:St->Prop) (hn:xs.length<=1000) (hle:xs.length<=zs.length) (hl:vs.length=xs.length) (ha:∀ H',aD H H'->dz k1 K H' a xs/\dz k2 K H' b zs) (gq:SH (d7 own fr σ)) (hs:∀ (i:Nat) x z v p σ H1,xs[i]?=some x->zs[i]?=some z->vs[i]?=some v->H1 p=none->SH σ->aD H H1->∀ Q:V->St->Hp->Prop,(∀ a8 H4,SH a8->aD H1 H4->Q v a8 H4)->g (.ref p) σ (upd H1 p (.tup [x,z])) λa8 H2=>te a8 H2 λy H4=>Q y a8 H4) (hd:∀ H',aD H H'->Qf H' vs) :
  ja (Fu K k1 k2 a b) [] (d7 own fr σ) H (λys _ H=>Qf H ys) g pF (oa te):=by
 refine wZ SH hn hl gq (λH' s=>⟨xs,zs,(ha H' s).1,(ha H' s).2,by omega⟩) (λi H' hi s=>⟨xs,zs,xs[i],zs[i]'(by omega),(ha H' s).1,(ha H' s).2,Qc hi,Qc (by omega)⟩) (λi v x σ H1 H2 hi hv sh s y Q k=>?_) hd
 obtain ⟨q,hq,rfl,hy⟩:=y
 obtain ⟨x,z,h1,h2,rfl⟩:=hy xs zs (ha H1 s).1 (ha H1 s).2
 exact hs i x z v q σ H1 h1 h2 hv hq sh s Q k
end
section
variable {iM:List Stmt} {t u:TS}
end
theorem oE (hK:X.K=K):BU X (HL K):=by subst hK; exact cQ
theorem jZ (hK:X.K=K):d6 X (compareOp .NotIn) (Ep K true):=by subst hK; exact wU
theorem uZ (xs:Array Value):slicePick xs none none (some (-1))=xs.toList.reverse.toArray:=by
 unfold slicePick
 have e1:sliceBounds none none (some (-1)) xs.size=((xs.size:Int) - 1,-1,-1):=by simp [sliceBounds]
 rw [e1,<- aDD xs]
 congr 1
 show List.filterMap (λx=>xs[x]?) (sliceRange ((xs.size:Int) - 1) (-1) (-1))=_
 have e2:sliceRange ((xs.size:Int) - 1) (-1) (-1)=(List.range xs.size).map λ(k:Nat)=>((xs.size:Int) - 1+(k:Int)*(-1)).toNat:=by
  unfold sliceRange
  rw [if_neg (by decide)]
  have e3:(if (xs.size:Int) - 1 > -1 then ((xs.size:Int) - 1 - -1 - -1 - 1) / (- -1) else 0).toNat=xs.size:=by
   by_cases h0:xs.size=0
   ·rw [h0]; decide
   ·rw [if_pos (by omega),show (- -1:Int)=1 from rfl,Int.ediv_one]; omega
  show (List.range (if (xs.size:Int) - 1 > -1 then ((xs.size:Int) - 1 - -1 - -1 - 1) / (- -1) else 0).toNat).map _=_
  rw [e3]
  refine Yp λk _=>?_
  congr 1
  omega
 rw [e2,Wz]
 rfl
noncomputable def μ (K:Rb) (te ts:TE):TE:=λσ H Q=>te σ H λx H1=>ts σ H1 λy H2=>y=.int (-1)/\∃ a xs,x=.ref a/\ai K H2 a xs/\∀ p,H2 p=none->Q (.ref p) (upd H2 p (.lst xs.reverse))
theorem PX {st:Expr} {pos:Pos} (he:PE X e te) (ic:PE X st ts):PE X (.Subscript e (.Slice none none (some st) p2) pos) (μ X.K te ts):=by
 intro aa s σ H Q I h
 refine Vx (a7 (he aa s σ H _ I h) λv s1 aq=>?_)
 obtain ⟨x,H1,I1,r1,q1⟩:=aq
 refine wpAny_Slice ?_
 rw [Vq]
 refine Rc ?_
 show wpAny _ _ (evalPart none X.env) _ _ s1
 rw [Vq]
 refine Rc ?_
 show wpAny _ _ (evalPart (some st) X.env) _ _ s1
 rw [evalPart_some]
 refine a7 (ic aa s1 σ H1 _ I1 q1) λvst s3 aq=>?_
 obtain ⟨y,H3,I3,r3,q3⟩:=aq
 obtain ⟨rfl,a,xs,rfl,hx,q⟩:=q3
 obtain ⟨tk,rfl⟩:=r3
 cases r1
 have I4:Inv X aa σ H3 { s3 with heap:=s3.heap.push { cls:=.type "slice",data:=.fields #[.none,.none,.int (-1) tk] } }:=I3.kept (t':=s3.toks) λb ob q=>Qb _ q
 obtain ⟨its,r,ht,hz⟩:=I4.list hx
 have hlen:=r.length
 have hg:wpAny (model X.prog X.w) X.A (getItem (.ref a) (.ref s3.heap.objs.size)) (EP X aa σ Q) X.xe { s3 with heap:=s3.heap.push { cls:=.type "slice",data:=.fields #[.none,.none,.int (-1) tk] } }:=by
  refine Ma ht.isList (Heap.IsSliceOf.new ..) .none .none (.int (-1) tk) (by decide) ?_ (by rw [Qj]; omega)
  rw [uZ]
  refine ⟨.ref _,_,I4.laid (t':=s3.toks) (o:=.lst xs.reverse) (λb ob q=>Qb _ q) (Qi _) ?_,rfl,q _ (I4.az.fresh (Qi _))⟩
  exact ⟨by rw [Yo]; exact hz,its.reverse,0,r.reverse,Qh _ rfl⟩
 show wpAny (model X.prog X.w) X.A (subscriptTail e (.Slice none none (some st) p2) (.ref a) (.ref s3.heap.objs.size)) (EP X aa σ Q) X.xe { s3 with heap:=s3.heap.push { cls:=.type "slice",data:=.fields #[.none,.none,.int (-1) tk] } }
 exact tail_any (ops:=[.ref a,.ref s3.heap.objs.size]) ht.isList.typeIs slot_list_getitem.lookup hg (by with_unfolding_all rfl)
section
variable {S:List Addr} {E E':Hp->V->Prop} {σ:St} {tb:TE} {t:TA} {tl th:TO}
instance {a:Addr} {xs:List V}:Mo (λH v=>v=.ref a/\ah K (Vw S H) a xs):=⟨λe h=>⟨h.1,(Vw.same e).ag h.2⟩⟩
end
noncomputable def Hx (e bc:Expr) (env:Env) (D:Addr):Sem Unit:=do
 let x<-eval bc env
 standAt bc.pos
 let x<-foldedSetIterable bc env x
 let i<-holding [x] (pyIter x)
 let _<-runOwn (.compStart e 1 i (.ref D) env) env
section
variable {pos:Pos} {it acc:Value} {env:Env}
end
noncomputable def Ef (mq:TI) (g2:TG) (tb:α->St->Hp->(α->St->Hp->Prop)->Prop) (a:α) (σ:St) (H:Hp) (R:α->St->Hp->Prop):Prop:=mq σ H λJ2 H3=>ja J2 a σ H3 R g2 pF tb
theorem Z_ {na:Sem Value} {a0:α} {Ok:Addr->α->Heap->Prop} {tb:α->St->Hp->(α->St->Hp->Prop)->Prop} {mq:TI} (LO:c7 Y.prog Y.w Y.A e 1 ka bc [] bd) (AO:d8 Y.prog Y.w Y.A na a0 Ok) (hx:∀ v s',¬ Y.xe v s') (hc:Y.calm=true) (hs:∀ x,foldedSetIterable bc Y.env x=pure x) (hi:PI Y ka bc mq) (hg:PG Y ka g2) (hb:kT Y bd Ok tb) :
  kT Y (Hx e bc) Ok (Ef mq g2 tb):=by
 intro ps s σ H D o a R dn I pl h
 refine Ra (a7 (hi _ s σ H _ I h) λv s1 h1=>Ra (Tc (Ra (Il (hs v) (Ra (Rn (a7 h1 λEw s2 h2=>?_)))))))
 obtain ⟨it,fp,tn,J,H2,e,I2,T,gf,f2,hw⟩:=h2
 subst e
 refine Ra (wpAny_runOwn (Uq (vS (R:=λr s'=>match r with
  | .ok _=>∃ ar H' a' o',Inv Y ((D,o')::ps) ar H' s'/\Ok D a' s'.heap/\R a' ar H'
  | .error _=>False) LO AO hx hc T hg bZ hb dn I2 (AO.dc I I2 pl) gf f2 hw λs' ar H' a' o' I' ok q=>⟨ar,H',a',o',I',ok,q⟩) λr s5 h5=>?_))
 cases r with
 | ok f=>exact Rc h5
 | error e=>exact False.elim h5
section
variable {pos:Pos} {wi mq:TI}
end
section
variable {own:Nat} {mq:TI} {σ:St}
end
theorem aCD (bs:List Bool) (tr:Nat->Bool) (h:∀ i b,bs[i]?=some b->tr i=b):(List.range bs.length).any tr=bs.any id:=by
 rw [Xf,Xb,Xb]
 constructor
 ·rintro ⟨i,hi,q⟩
  have va:=Jy.mp hi
  rw [h i _ (Qc va)] at q
  exact ⟨_,Xu va,q⟩
 ·rintro ⟨b,hb,q⟩
  obtain ⟨i,hi⟩:=Wn hb
  exact ⟨i,Jy.mpr (Qd.mp hi).1,by rw [h i b hi]; exact q⟩
theorem zM (hc:X.calm=true):dQ X (.builtin "any") (λxs H Q=>∃ (p:Addr) (bs:List Bool),xs = [.ref p]/\ai X.K H p (bs.map V.bl)/\Q (.bl (bs.any id)) H):=by
 intro aa s σ H xs us Q I r h
 obtain ⟨p,bs,rfl,hx,q⟩:=h
 obtain ⟨u,rfl,rx⟩:=fO r
 cases rx
 obtain ⟨its,rv,pl,hz⟩:=I.list hx
 have hl:=rv.length
 rw [Qa] at hl
 have ax:p < s.heap.objs.size:=by obtain ⟨o,n,e,_⟩:=pl; exact Qm e
 refine call_any_walk (Ti pl.isList ?_)
 refine ⟨s.heap.objs.size,_,_,_,_,_,λi=>(bs[i]?).getD false,rfl,Walks.list (A:=X.A.in1) (I.ok.hd hc) s.heap.objs.size p (Jc ax) its.toArray,⟨⟨_,Qh _ rfl,rfl,rfl⟩,pl.isList.push _⟩,?_,λh' tk hk=>?_⟩
 ·intro i v s' Q' E' hP qo
  have kj:its[i]?=some v:=by simpa using hP
  have hi:i < bs.length:=by rw [hl]; exact (Qd.mp kj).1
  obtain ⟨w,hw,c8⟩:=rv.get (i:=i) (x:=.bl bs[i]) (by rw [Qe,Qc hi]; rfl)
  rw [hw] at kj
  cases kj
  cases c8
  have e:(bs[i]?).getD false=bs[i]:=by rw [Qc hi]; rfl
  rw [<- e]
  exact Rv qo
 ·have e:(List.range its.toArray.size).any (λi=>(bs[i]?).getD false)=bs.any id:=by
   rw [Qj,<- hl]
   exact aCD bs _ λi b hb=>by rw [hb]; rfl
  rw [e]
  refine ⟨.bl _,H,I.kept (h':=h') λb o e=>hk b o ?_ (Qb _ e),rfl,q⟩
  intro z
  have z':b=s.heap.objs.size:=by simpa using z
  exact Js _ (z' ▸ Qm e)
section
variable [DecidableEq κ]
noncomputable def bV (kvs:List (κ×V)) (k:κ):Option V:=(kvs.find? λkv=>decide (kv.1=k)).map (·.2)
noncomputable def fU (kvs:List (κ×V)) (k:κ) (v:V):List (κ×V) :=
 if (kvs.any λkv=>decide (kv.1=k))=true then kvs.map (λkv=>if kv.1=k then (kv.1,v) else kv) else kvs++[(k,v)]
theorem aDM {k:κ}:bV ([]:List (κ×V)) k=none:=rfl
theorem eE {p:κ×V} {r:List (κ×V)} {k:κ} (e:p.1=k):bV (p::r) k=some p.2:=by simp [bV,Zk,e]
theorem eQ {p:κ×V} {r:List (κ×V)} {k:κ} (e:¬ p.1=k):bV (p::r) k=bV r k:=by simp [bV,Zk,e]
theorem eS (k:κ):∀ kvs:List (κ×V),(kvs.any λkv=>decide (kv.1=k))=(bV kvs k).isSome
 | []=>rfl
 | p::r=>by
  rw [Yj]
  by_cases e:p.1=k
  ·simp only [eE e,decide_eq_true e,Wh,Qaa]
  ·rw [eQ e,decide_eq_false e,Yk]; exact eS k r
theorem zN (k j:κ) (y:V):∀ kvs:List (κ×V),bV (kvs.map λkv=>if kv.1=k then (kv.1,y) else kv) j=(bV kvs j).map λx=>if j=k then y else x
 | []=>rfl
 | p::r=>by
  have ih:=zN k j y r
  rw [Jh]
  by_cases h:p.1=k
  ·rw [if_pos h]
   by_cases e:p.1=j
   ·rw [eE (p:=(p.1,y)) e,eE e,Xs,if_pos (e.symm.trans h)]
   ·rw [eQ (p:=(p.1,y)) e,eQ e,ih]
  ·rw [if_neg h]
   by_cases e:p.1=j
   ·rw [eE (p:=p) e,eE e,Xs,if_neg (λz=>h (e.trans z))]
   ·rw [eQ (p:=p) e,eQ e,ih]
theorem pI (k j:κ) (y:V):∀ kvs:List (κ×V),bV kvs k=none->bV (kvs++[(k,y)]) j=if j=k then some y else bV kvs j
 | [],_=>by
  by_cases e:k=j
  ·rw [if_pos e.symm]; exact eE (p:=(k,y)) e
  ·rw [if_neg (λz=>e z.symm)]; exact eQ (p:=(k,y)) e
 | p::r,hn=>by
  rw [Ye]
  have hk:¬ p.1=k:=λz=>by rw [eE z] at hn; cases hn
  rw [eQ hk] at hn
  have ih:=pI k j y r hn
  by_cases e:p.1=j
  ·rw [eE e,eE e,if_neg (λz=>hk (e.trans z))]
  ·rw [eQ e,eQ e,ih]
theorem jE (kvs:List (κ×V)) (k j:κ) (y:V):bV (fU kvs k y) j=if j=k then some y else bV kvs j:=by
 unfold fU
 by_cases a:(kvs.any λkv=>decide (kv.1=k))=true
 ·rw [if_pos a,zN]
  rw [eS] at a
  by_cases e:j=k
  ·obtain ⟨x,hx⟩:=Wa.mp a
   rw [if_pos e,e,hx,Xs,if_pos rfl]
  ·rw [if_neg e]
   cases bV kvs j with
   | none=>rfl
   | some x=>rw [Xs,if_neg e]
 ·rw [if_neg a]
  refine pI k j y kvs ?_
  rw [eS] at a
  cases q:bV kvs k with
  | none=>rfl
  | some x=>rw [q] at a; exact (a rfl).elim
theorem iO (kvs:List (κ×V)) (k:κ) (v:V):(fU kvs k v).length<=kvs.length+1:=by
 unfold fU
 split
 ·rw [Qa]; omega
 ·rw [Qr,Jr,Wi]; omega
theorem zO {kvs:List (κ×V)} {k:κ} (v:V) (h:bV kvs k=none):fU kvs k v=kvs++[(k,v)]:=by
 unfold fU
 rw [eS,h]
 exact if_neg (by decide)
theorem qI.f_ {o:Option V} {u:Option Value} (r:qI o u):o.isSome=u.isSome:=by
 cases o with
 | none => cases u with
   | none=>rfl
   | some _=>exact (show False from r).elim
 | some _ => cases u with
   | none=>exact (show False from r).elim
   | some _=>rfl
theorem qI.getD {o:Option V} {u:Option Value} {d:V} {d':Value} (r:qI o u) (rd:bE d d'):bE (o.getD d) (u.getD d'):=by
 cases o with
 | none => cases u with
   | none=>exact rd
   | some _=>exact (show False from r).elim
 | some _ => cases u with
   | none=>exact (show False from r).elim
   | some _=>exact r
theorem KV.val {kvs:List (κ×V)} {vs:List (κ×Value)} (r:KV kvs vs) (k:κ):qI (bV kvs k) (valueAt vs k):=by
 unfold KV at r
 induction r with
 | nil=>exact True.intro
 | @cons p q ps qs h t ih =>
  obtain ⟨h1,h2⟩:=h
  by_cases e:p.1=k
  ·have e':q.1=k:=h1.symm.trans e
   have b:valueAt (q::qs) k=some q.2:=by simp [valueAt,Zk,e']
   rw [eE e,b]; exact h2
  ·have e':¬ q.1=k:=λz=>e (h1.trans z)
   have b:valueAt (q::qs) k=valueAt qs k:=by simp [valueAt,Zk,e']
   rw [eQ e,b]; exact ih
theorem KV.any {kvs:List (κ×V)} {vs:List (κ×Value)} (r:KV kvs vs) (k:κ):(kvs.any λkv=>decide (kv.1=k))=vs.any λkv=>decide (kv.1=k):=by
 unfold KV at r
 induction r with
 | nil=>rfl
 | cons h t ih=>rw [Yj,Yj,ih,h.1]
theorem KV.Ay {kvs:List (κ×V)} {vs:List (κ×Value)} (r:KV kvs vs) (k:κ) (ry:bE y u) :
  KV (kvs.map λkv=>if kv.1=k then (kv.1,y) else kv) (vs.map λkv=>if kv.1=k then (kv.1,u) else kv):=by
 unfold KV at r ⊢
 induction r with
 | nil=>exact .nil
 | @cons p q ps qs h t ih =>
  rw [Jh,Jh]
  refine .cons ?_ ih
  obtain ⟨h1,h2⟩:=h
  by_cases e:p.1=k
  ·rw [if_pos e,if_pos (h1.symm.trans e)]; exact ⟨h1,ry⟩
  ·rw [if_neg e,if_neg (λz=>e (h1.trans z))]; exact ⟨h1,h2⟩
theorem KV.put {kvs:List (κ×V)} {vs:List (κ×Value)} (r:KV kvs vs) (k:κ) (ry:bE y u):KV (fU kvs k y) (stored vs k u):=by
 unfold fU stored
 rw [r.any k]
 by_cases e:(vs.any λkv=>decide (kv.1=k))=true
 ·rw [if_pos e,if_pos e]; exact r.Ay k ry
 ·rw [if_neg e,if_neg e]; exact Paired.snoc r ⟨rfl,ry⟩
theorem KV.keys {kvs:List (κ×V)} {vs:List (κ×Value)} (r:KV kvs vs):kvs.map (·.1)=vs.map (·.1):=by
 unfold KV at r
 induction r with
 | nil=>rfl
 | cons h t ih=>rw [Jh,Jh,ih,h.1]
theorem KV.length {kvs:List (κ×V)} {vs:List (κ×Value)} (r:KV kvs vs):kvs.length=vs.length:=Paired.length r
end
theorem rX {k:Key} (r:bE (kV k) u):(cG P w).is k u=true:=by
 cases k with
 | inl i=>obtain ⟨t,e⟩:=(show ∃ t,u=Value.int i t from r); subst e; exact yN P w i t
 | inr x=>obtain ⟨t,e⟩:=(show ∃ t,u=Value.str x t from r); subst e; exact yO P w x t
theorem vV:∀ {ks:List Key} {us:List Value},bF (ks.map kV) us->ItemsAre (cG P w) ks us
 | [],_,r=>by rw [Yb] at r; cases r; exact .nil
 | k::ks,_,r=>by
  rw [Jh] at r
  cases r with
  | cons h t=>exact .cons (rX h) (vV t)
noncomputable abbrev KT (H:Hp):List (List Key×V)->List (List Key×Addr×Value)->Prop:=Paired λp q=>p.1=q.1/\H q.2.1=some (.tup (p.1.map kV))/\bE p.2 q.2.2
theorem KT.val {kvs:List (List Key×V)} {xs:List (List Key×Addr×Value)} (r:KT H kvs xs) (k:List Key):qI (bV kvs k) ((atKey xs k).map (·.2)):=by
 induction r with
 | nil=>exact True.intro
 | @cons p q ps qs h t ih =>
  obtain ⟨h1,_,h2⟩:=h
  by_cases e:p.1=k
  ·have e':q.1=k:=h1.symm.trans e
   have b:atKey (q::qs) k=some q.2:=by simp [atKey,Zk,e']
   rw [eE e,b]; exact h2
  ·have e':¬ q.1=k:=λz=>e (h1.trans z)
   have b:atKey (q::qs) k=atKey qs k:=by simp [atKey,Zk,e']
   rw [eQ e,b]; exact ih
theorem KT.Ay {kvs:List (List Key×V)} {xs:List (List Key×Addr×Value)} (r:KT H kvs xs) (k:List Key) (ry:bE y u) :
  KT H (kvs.map λkv=>if kv.1=k then (kv.1,y) else kv) (xs.map (putAt k u)):=by
 induction r with
 | nil=>exact .nil
 | @cons p q ps qs h t ih =>
  rw [Jh,Jh]
  refine .cons ?_ ih
  obtain ⟨h1,h2,h3⟩:=h
  unfold putAt
  by_cases e:p.1=k
  ·rw [if_pos e,if_pos (h1.symm.trans e)]; exact ⟨h1,h2,ry⟩
  ·rw [if_neg e,if_neg (λz=>e (h1.trans z))]; exact ⟨h1,h2,h3⟩
theorem KT.put {kvs:List (List Key×V)} {xs:List (List Key×Addr×Value)} (r:KT H kvs xs) (k:List Key) (hb:H b=some (.tup (k.map kV))) (ry:bE y u) :
  KT H (fU kvs k y) (storedH xs k b u):=by
 have e:(kvs.any λkv=>decide (kv.1=k))=(atKey xs k).isSome:=by
  rw [eS,(r.val k).f_,Qab]
 unfold fU storedH
 rw [e]
 by_cases q:(atKey xs k).isSome=true
 ·rw [if_pos q,if_pos q]; exact r.Ay k ry
 ·rw [if_neg q,if_neg q]; exact Paired.snoc r ⟨rfl,hb,ry⟩
theorem KT.keeps {kvs:List (List Key×V)} {xs:List (List Key×Addr×Value)} (r:KT H kvs xs) (ht:∀ b ys,H b=some (.tup ys)->H' b=some (.tup ys)):KT H' kvs xs :=
 Paired.Dr r λ_ _ z=>⟨z.1,ht _ _ z.2.1,z.2.2⟩
theorem OT {u:HO} (ok:fh P w H h) (e:Rd H a u):bO P w H h a u:=e.ok ok
theorem zP (ok:fh P w H h) (e:Rd H a (.dK kvs)):kvs.length<=sizeLine/\(a==sysModules)=false/\∃ vs,KV kvs vs/\h.DictOf (cG P w) a vs :=
 show bO P w H h a (.dK kvs) from OT ok e
theorem Z9 (ok:fh P w H h) (e:H a=some (.dK kvs)):kvs.length<=sizeLine/\(a==sysModules)=false/\∃ vs,KV kvs vs/\h.DictOf (cG P w) a vs:=zP ok (.inl e)
theorem xA {ks:List Key} (ok:fh P w H h) (e:H a=some (.tup (ks.map kV))):(tupleKind (cG P w)).is h ks a:=by
 obtain ⟨_,its,n,r,e1⟩:=(show bO P w H h a (.tup (ks.map kV)) from ok a _ e)
 exact ⟨_,its.toArray,n,e1,rfl,rfl,by simpa using vV r⟩
theorem Fh {kvs:List (List Key×V)} (ok:fh P w H h) (e:Rd H a (.dT kvs)):kvs.length<=sizeLine/\(a==sysModules)=false /\
  ∃ xs,KT H kvs xs/\h.DictOfH (tupleKind (cG P w)) a xs:=by
 obtain ⟨z,y,xs,r,o,es,ep,h1,h2,h3,h4,h5⟩:=(show bO P w H h a (.dT kvs) from OT ok e)
 refine ⟨z,y,xs,r,o,es,ep,h1,h2,h3,h4,λx hx=>?_,h5⟩
 have all:∀ {l:List (List Key×V)} {m:List (List Key×Addr×Value)},KT H l m->∀ x∈m,(tupleKind (cG P w)).is h x.1 x.2.1:=by
  intro l m q
  induction q with
  | nil=>intro x hx; exact nomatch hx
  | @cons p q ps qs hq t ih =>
   intro x hx
   rcases Qk.mp hx with e | hx
   ·subst e
    exact xA ok (by rw [<- hq.1]; exact hq.2.1)
   ·exact ih x hx
 exact all r x hx
theorem Z8 {kvs:List (List Key×V)} (ok:fh P w H h) (e:H a=some (.dT kvs)):kvs.length<=sizeLine/\(a==sysModules)=false /\
  ∃ xs,KT H kvs xs/\h.DictOfH (tupleKind (cG P w)) a xs:=Fh ok (.inl e)
noncomputable def xB (H:Hp) (a:Addr) (y:V) (r:Option V):Prop :=
 (∃ kvs k,Rd H a (.dK kvs)/\y=kV k/\r=bV kvs k)∨∃ kvs k b,Rd H a (.dT kvs)/\y=.ref b/\H b=some (.tup (k.map kV))/\r=bV kvs k
noncomputable def vA (H:Hp) (a:Addr) (y v:V) (H':Hp):Prop :=
 (∃ kvs k,H a=some (.dK kvs)/\y=kV k/\kvs.length < sizeLine/\H'=upd H a (.dK (fU kvs k v))) ∨
 ∃ kvs k b,H a=some (.dT kvs)/\y=.ref b/\H b=some (.tup (k.map kV))/\kvs.length < sizeLine/\H'=upd H a (.dT (fU kvs k v))
theorem xB.k {k:Key} (e:H a=some (.dK kvs)):xB H a (kV k) (bV kvs k):=.inl ⟨kvs,k,.inl e,rfl,rfl⟩
theorem vA.k {k:Key} (e:H a=some (.dK kvs)) (hl:kvs.length < sizeLine):vA H a (kV k) v (upd H a (.dK (fU kvs k v))):=.inl ⟨kvs,k,e,rfl,hl,rfl⟩
section
variable {σ:St} {r:Value} {o:Option V}
theorem Inv.big (I:Inv X aa σ H s):sysModules < s.heap.objs.size:=by
 have h:mainGlobals < s.heap.objs.size:=(I.mod.glob.keeps I.bk).lt
 exact Qac (by decide) h
theorem vW (hu:A.units+1 < cLine) (I:Inv X aa σ H s) (g:xB H a y (some v)) (ry:bE y u) (h:∀ w' s',Inv X aa σ H s'->bE v w'->Q w' s') :
  wpAny (model X.prog X.w) A (getItem (.ref a) u) Q E s:=by
 rcases g with ⟨kvs,k,e,ey,l⟩ | ⟨kvs,k,b,e,ey,eb,l⟩
 ·subst ey
  obtain ⟨z,hd,vs,rel,dd⟩:=zP I.az e
  obtain ⟨w',hw,c8⟩:=qI.some_of (v:=v) (o:=valueAt vs k) (by rw [l]; exact rel.val k)
  exact wpAny_getItem_of (rX ry) dd.mapOf hw (h w' _ (I.tok _) c8)
 ·subst ey
  cases (show u=Value.ref b from ry)
  obtain ⟨z,hd,xs,rel,dd⟩:=Fh I.az e
  obtain ⟨w',hw,c8⟩:=qI.some_of (v:=v) (o:=(atKey xs k).map (·.2)) (by rw [l]; exact rel.val k)
  obtain ⟨p,hp,lu⟩:=Ja.mp hw
  refine wpAny_getItem_heap (Vy hu) (xA I.az eb) dd hp ?_
  rw [lu]
  exact h w' _ (I.tok _) c8
theorem M! (hu:A.units+1 < cLine) (I:Inv X aa σ H s) (g:xB H a y o) (ry:bE y u) (h:∀ s',Inv X aa σ H s'->Q (.bool (!o.isSome)) s') :
  wpAny (model X.prog X.w) A (compareOp .NotIn u (.ref a)) Q E s:=by
 rcases g with ⟨kvs,k,e,ey,l⟩ | ⟨kvs,k,b,e,ey,eb,l⟩
 ·subst ey
  obtain ⟨z,hd,vs,rel,dd⟩:=zP I.az e
  refine wpAny_notIn_of (rX ry) hd dd.mapOf ?_
  rw [<- (rel.val k).f_,<- l]
  exact h _ (I.tok _)
 ·subst ey
  cases (show u=Value.ref b from ry)
  obtain ⟨z,hd,xs,rel,dd⟩:=Fh I.az e
  refine wpAny_notIn_heap (Vy hu) (xA I.az eb) hd dd ?_
  have q:=(rel.val k).f_
  rw [Qab] at q
  rw [<- q,<- l]
  exact h _ (I.tok _)
theorem xC {ob:HO} (I:Inv X aa σ H s) (mu:Ar (H a)) (hs:Heap.SameBut a s.heap h') (he:∃ q,h'.get? a=some q) (new:bO X.prog X.w (upd H a ob) h' a ob) :
  Inv X aa σ (upd H a ob) { s with heap:=h',toks:=t' } :=
 I.write (x:=a) (e:=a) mu (.inl rfl) (λb q hb z=>(hs.2 b hb).trans z) he new
theorem Pj {vs:List (Key×Value)} (z:kvs.length<=sizeLine) (hd:(a==sysModules)=false) (rel:KV kvs vs) (dd:h'.DictOf (cG P w) a vs) :
  bO P w H' h' a (.dK kvs):=⟨z,hd,vs,rel,dd⟩
theorem vX {Q:Unit->Shared->Prop} (hu:A.units+1 < cLine) (I:Inv X aa σ H s) (g:vA H a y v H') (ry:bE y u) (rv:bE v r) (h:∀ s',Inv X aa σ H' s'->Q () s') :
  wpAny (model X.prog X.w) A (setItem (.ref a) u r) Q E s:=by
 rcases g with ⟨kvs,k,e,ey,l,eH⟩ | ⟨kvs,k,b,e,ey,eb,l,eH⟩
 ·subst ey eH
  obtain ⟨z,hd,vs,rel,dd⟩:=Z9 I.az e
  have hz:vs.length<=sizeLine:=by rw [<- rel.length]; exact z
  have hl:(fU kvs k v).length<=sizeLine:=by have:=iO kvs k v; omega
  refine wpAny_setItem_pairs (hsz:=hz) (rX ry) dd λh' ye hs=>h _ ?_
  have he:∃ q,h'.get? a=some q:=let ⟨q,_,_,hq,_⟩:=ye; ⟨q,hq⟩
  exact xC I (by rw [e]; exact True.intro) hs he (Pj hl hd (rel.put k rv) ye)
 ·subst ey eH
  cases (show u=Value.ref b from ry)
  obtain ⟨z,hd,xs,rel,dd⟩:=Z8 I.az e
  have hz:xs.length<=sizeLine:=by rw [<- Paired.length rel]; exact z
  have hl:(fU kvs k v).length<=sizeLine:=by have:=iO kvs k v; omega
  refine wpAny_setItem_heap (hsz:=hz) (Vy hu) (xA I.az eb) dd λh' ye hs=>h _ ?_
  obtain ⟨q,es,ep,hq,h2,h3,h4,_,h5⟩:=ye
  refine xC I (by rw [e]; exact True.intro) hs ⟨q,hq⟩ ⟨hl,hd,_,(rel.put k eb rv).keeps λc ys ec=>?_,q,es,ep,hq,h2,h3,h4,h5⟩
  rw [aI (ZV ec e (λz=>nomatch z))]
  exact ec
end
section
variable {σ:St} {k:Key}
end
noncomputable def Oo (i:Expr):Prop:=∀ ov iv,subscripted i false ov iv=operate [ov,iv] (getItem ov iv)
theorem L? {env:Env} {slice:Expr} {pos:Pos} {id:String} (hl:typeLookup (.type T) "__getitem__" = pure (some (.builtin id))) (hs:Oo slice) (h:wpAny (model prog w) A (eval value env) (λo bq=>wpAny (model prog w) A (eval slice env) (λi gn=>gn.TypeIs o T/\wpAny (model prog w) A (getItem o i) Q E gn) E bq) E s) :
  wpAny (model prog w) A (eval (.Subscript value slice pos) env) Q E s:=by
 refine Vx (Ru h (λo bq i8=>Ru i8 (λi gn Ag=>?_) λ_ _ x=>x) λ_ _ x=>x)
 obtain ⟨hT,Ag⟩:=Ag
 unfold subscriptTail
 refine Ra ?_
 rw [getitemInPython_of_ne hT.not_modules]
 refine Ra (Iu hT hl ?_)
 have fin:wpAny (model prog w) A (subscripted slice false o i) (λr xl=>wpAny (model prog w) A (letTemporaryGo value o r >>= λ_=>pure r) Q E xl) E gn:=by
  rw [hs o i]
  exact wpAny_operating (Ru Ag (λr xl EL=>Ra (wpAny_letTemporaryGo (Rc EL))) λ_ _ x=>x)
 first
  | exact Rc (Ra fin)
  | exact Ra (Rc (Ra fin))
  | exact Ra fin
theorem zQ {σ:St} {o:Option V} (I:Inv X aa σ H s) (g:xB H a y o):s.TypeIs (.ref a) "dict" := by
 rcases g with ⟨kvs,k,e,_,_⟩ | ⟨kvs,k,b,e,_,_,_⟩
 ·obtain ⟨_,_,vs,_,dd⟩:=zP I.az e
  exact dd.typeIs
 ·obtain ⟨_,_,xs,_,dd⟩:=Fh I.az e
  exact dd.typeIs
noncomputable def Z7 (td ty:TE):TE:=λσ H Q=>td σ H λx H1=>ty σ H1 λy H2=>∃ a v,x=.ref a/\xB H2 a y (some v)/\Q v H2
noncomputable def L! (ty td:TE):TE:=λσ H Q=>ty σ H λy H1=>td σ H1 λx H2=>∃ a o,x=.ref a/\xB H2 a y o/\Q (.bl (!o.isSome)) H2
noncomputable def Z6 (td ty tv:TE):TS:=λD σ H=>tv σ H λv H1=>td σ H1 λx H2=>ty σ H2 λy H3=>∃ a H4,x=.ref a/\vA H3 a y v H4/\D.nx σ H4
noncomputable def Z5 (td ty tv:TE) (rd:V->V->Hp->VK->Prop):TS:=λD σ H=>td σ H λx H1=>ty σ H1 λy H2=>∃ a v,x=.ref a/\xB H2 a y (some v) /\
 tv σ H2 λy2 H3=>rd v y2 H3 λz H4=>∃ H5,vA H4 a y z H5/\D.nx σ H5
section
variable {o i:Expr} {pos:Pos} {ty:TE}
theorem kU (hu:X.A.units+1 < cLine) (ho:PE X o td) (hi:PE X i ty) (hs:Oo i):PE X (.Subscript o i pos) (Z7 td ty):=by
 intro aa s σ H Q I h
 refine L? PySem.F.slot_dict_getitem.lookup hs (a7 (ho aa s σ H _ I h) λu s1 ⟨x,H1,I1,rx,q1⟩=>a7 (hi aa s1 σ H1 _ I1 q1) λiv s2 aq=>?_)
 obtain ⟨y,H2,I2,ry,a,v,ex,g,q2⟩:=aq
 subst ex
 obtain rfl:u=Value.ref a:=rx
 exact ⟨zQ I2 g,vW hu I2 g ry λw' s3 I3 c8=>⟨v,H2,I3,c8,q2⟩⟩
theorem aCE (hu:X.A.units+1 < cLine) (hi:PE X i ty) (ho:PE X o td):PC X .NotIn i o (L! ty td):=by
 intro aa s σ H Q I h
 refine a7 (hi aa s σ H _ I h) λiv s1 ⟨y,H1,I1,ry,q1⟩=>a7 (ho aa s1 σ H1 _ I1 q1) λu s2 aq=>?_
 obtain ⟨x,H2,I2,rx,a,ov,ex,g,q2⟩:=aq
 subst ex
 obtain rfl:u=Value.ref a:=rx
 exact M! hu I2 g ry λs3 I3=>⟨.bl (!ov.isSome),H2,I3,rfl,q2⟩
theorem qO (hu:X.A.units+1 < cLine) (ho:PE X o td) (hi:PE X i ty) (hv:PE X value tv) (hs:swapsWith value (some (.Subscript o i pos')) pos.line X.env=pure false) :
  PS X (.Assign [.Subscript o i pos'] value pos) (Z6 td ty tv):=by
 intro aa s σ H D I h
 refine wpAny_Assign_Subscript (a7 (hv aa s σ H _ I h) λr s1 ⟨v,H1,I1,rv,q1⟩=>a7 (ho aa s1 σ H1 _ I1 q1) λu s2 ⟨x,H2,I2,rx,q2⟩=>a7 (hi aa s2 σ H2 _ I2 q2) λiv s3 aq=>?_) hs
 obtain ⟨y,H3,I3,ry,a,H4,ex,g,q3⟩:=aq
 subst ex
 obtain rfl:u=Value.ref a:=rx
 exact vX hu I3 g ry rv λs4 I4=>⟨σ,H4,I4,q3⟩
theorem K? {op:Operator} {rd:V->V->Hp->VK->Prop} (hu:X.A.units+1 < cLine) (ho:PE X o td) (hi:PE X i ty) (hv:PE X value tv) (zt:Ou X op rd)
  (ha:∀ ov iv new,augStore i ov iv new=(do holding [new,ov,iv] (setItem ov iv new); release [new,ov,iv] []; pure .next)):PS X (.AugAssign (.Subscript o i qy) op value pos) (Z5 td ty tv rd):=by
 intro aa s σ H D I h
 refine Iq (a7 (ho aa s σ H _ I h) λu s1 ⟨x,H1,I1,rx,q1⟩=>a7 (hi aa s1 σ H1 _ I1 q1) λiv s2 aq=>?_) ha
 obtain ⟨y,H2,I2,ry,a,v,ex,g,q2⟩:=aq
 subst ex
 obtain rfl:u=Value.ref a:=rx
 refine vW hu I2 g ry λw' s3 I3 c8=>a7 (hv aa s3 σ H2 _ I3 q2) λw2 s4 ⟨y2,H3,I4,SE,q3⟩=>a7 (zt aa s4 σ H3 v y2 w' w2 _ I4 c8 SE q3) λw3 s5 aq=>?_
 obtain ⟨z,H4,I5,rz,H5,g5,q4⟩:=aq
 exact vX hu I5 g5 ry rz λs6 I6=>⟨σ,H5,I6,q4⟩
end
theorem zR (h:Heap) (hb:sysModules < h.objs.size):bO P w H (h.push { cls:=.type "dict",data:=.dict #[] }) h.objs.size (.dK []) :=
 ⟨Jl _,beq_eq_false_iff_ne.mpr (Ne.symm (Jc hb)),[],.nil,Heap.DictOf.new h⟩
noncomputable def q?:TE:=λ_ H Q=>∀ p,H p=none->Q (.ref p) (upd H p (.dK []))
section
variable {pos:Pos}
theorem zS:PE X (.Dict [] [] pos) q?:=λaa s σ H Q I h =>
 wpAny_Dict_empty ⟨.ref s.heap.objs.size,_,I.laid (a:=s.heap.objs.size) (o:=.dK []) (t':=s.toks) (λ_ _ q=>Qb _ q) (Qi _) (zR s.heap I.big),rfl,h _ (I.az.fresh (Qi _))⟩
end
noncomputable def NF (H0:Hp) (a:Addr):Prop:=∀ o u,H0 a≠some (.c_ o u)
section
variable {σ:St}
theorem Inv.freeze (I:Inv X aa σ H s) (e:H a=some (.dK kvs)) (ho:s.heap.get? a=some o):Inv X aa σ (upd H a (.c_ o (.dK kvs))) s:=by
 have m:Ar (H a):=by rw [e]; trivial
 have q:bO X.prog X.w H s.heap a (.dK kvs):=I.az a _ e
 exact I.write (x:=a) (e:=a) (t':=s.toks) m (.inl rfl) (λb u _ z=>z) ⟨o,ho⟩ ⟨ho,q⟩
theorem Inv.nf (I:Inv X aa σ H s) (e:H a=some (.dK kvs)):NF X.qw a:=λo u z=>by
 have:=I.base.iq a o u z
 rw [e] at this; cases this
theorem Inv.Dk (I:Inv X aa σ H s) (e:H a=some (.c_ o (.dK kvs))) (nf:NF X.qw a):Inv X aa σ (upd H a (.dK kvs)) s:=by
 have ne:∀ b,H b=none->b≠a:=λb n z=>by rw [z,e] at n; cases n
 have nt:∀ b xs,H b=some (.tup xs)->b≠a:=λb xs n z=>by rw [z,e] at n; cases n
 have no:∀ b x,H b=some (.own x)->b≠a:=λb xs n z=>by rw [z,e] at n; cases n
 obtain ⟨ho,q⟩:s.heap.get? a=some o/\bO X.prog X.w H s.heap a (.dK kvs):=I.az a _ e
 have un:Un X.fs X.ex X.qw (upd H a (.dK kvs)) X.fv.heap s.heap:=by
  refine ⟨I.base.keep,I.base.slot,λb ob q n hx=>?_,I.base.there,λb xs q=>?_,λb ob u q=>?_,λb ps q=>?_⟩
  ·have z:=I.base.free b ob q n hx
   rw [aI (ne b z)]; exact z
  ·have z:=I.base.j0 b xs q
   rw [aI (nt b xs z)]; exact z
  ·have z:=I.base.iq b ob u q
   have n:b≠a:=λy=>nf ob u (y ▸ q)
   rw [aI n]; exact z
  ·obtain ⟨m,z⟩:=I.base.j3 b ps q
   have n:b≠a:=λy=>by rw [y,e] at z; cases z
   exact ⟨m,by rw [aI n]; exact z⟩
 refine ⟨I.ok,I.os,I.bare,un,I.loc,I.cell,?_,λx c h=>?_,λp hp=>?_,λb u h=>?_,I.len⟩
 ·rw [aI (ne _ I.free)]; exact I.free
 ·have z:=I.cu x c h
  rw [aI (ne _ z)]; exact z
 ·obtain ⟨p1,p2,p3⟩:=I.pin p hp
  exact ⟨p1,by rw [aI (ne _ p2)]; exact p2,p3⟩
 ·by_cases hb:b=a
  ·subst hb
   rw [aB] at h
   cases h
   exact bO.dc q (λ_ _ _ z=>z) (λc z=>by rw [aI (no c _ z)]; exact z) (λc xs z=>by rw [aI (nt c xs z)]; exact z)
  ·rw [aI hb] at h
   exact bO.dc (I.az b u h) (λ_ _ _ z=>z) (λc z=>by rw [aI (no c _ z)]; exact z) (λc xs z=>by rw [aI (nt c xs z)]; exact z)
end
noncomputable def As (a:Addr) (o:Obj) (kvs:List (Key×V)):It :=
 ⟨λi H=>H a=some (.c_ o (.dK kvs))/\i < kvs.length,λi H x H'=>H'=H/\∃ p,kvs[i]?=some p/\x=kV p.1,λi H=>H a=some (.c_ o (.dK kvs))/\i=kvs.length⟩
theorem zT {k:Key} (h:(cG P w).is k u=true):bE (kV k) u:=by
 rcases cR h with ⟨i,t,rfl,rfl⟩ | ⟨x,t,rfl,rfl⟩
 ·exact ⟨t,rfl⟩
 ·exact ⟨t,rfl⟩
theorem pJ {es:Array DictEntry} {vs:List (Key×Value)} (ho:h.get? a=some o) (hd:o.data=.dict es ep) (d:h.DictOf (cG P w) a vs):h.DictAt (cG P w) a vs ep:=by
 obtain ⟨o',CS,CT,q1,q2,q3,r⟩:=d
 rw [ho] at q1; cases q1
 rw [hd] at q3; cases q3
 exact ⟨o,es,ho,q2,hd,r⟩
theorem aCF (a it:Addr) (o:Obj) (es:Array DictEntry) (ep:Nat) (hd:o.data=.dict es ep) (kvs:List (Key×V)) :
  Turn P w K tg (As a o kvs) [it] it (λi h=>h.IsKeyIter it a i kvs.length ep) where
 mem:=by simp
 obj:=λi h st b hb=>by
  have e:b=it:=by simpa using hb
  subst e
  obtain ⟨o,e,c,d⟩:=st
  exact ⟨o,e,λv z=>by rw [d] at z; cases z⟩
 keep:=λi h h' st k=>st.at λo e=>k it (by simp) o e
 item:=by
  intro X hP hw hK hc i aa s σ H E I hf st hg
  subst hP hw hK
  obtain ⟨hA,hi⟩:=hg
  obtain ⟨ho,hz,hs,vs,kv,dd⟩:s.heap.get? a=some o/\bO X.prog X.w H s.heap a (.dK kvs):=I.az a _ hA
  have da:=pJ ho hd dd
  have hl:kvs.length=vs.length:=kv.length
  obtain ⟨f0,f1,f2,f3,f4,f5⟩:=hf it (by simp)
  obtain ⟨⟨k,x⟩,hx⟩:∃ p,vs[i]?=some p:=⟨vs[i]'(by omega),by simp⟩
  rw [hl] at st
  refine wpAny_pyNext_dict_item st da hx λkey h' ik mr sb=>?_
  have I1:Inv X aa σ H { s with heap:=h' }:=I.turned (t':=s.toks) (λb o hb e=>(sb.2 b hb).trans e) f0 f1 f3 f4 f5
  obtain ⟨o',e',c',d'⟩:=id mr
  have hk:kvs[i]?=some (kvs[i]):=Qc hi
  have U':(kvs[i]).1=k:=by
   have e:=kv.keys
   have e1:(kvs.map (·.1))[i]?=some (kvs[i]).1:=by rw [Qe,hk]; rfl
   have e2:(vs.map (·.1))[i]?=some k:=by rw [Qe,hx]; rfl
   rw [e,e2] at e1
   exact (Option.some.inj e1).symm
  rw [<- hl] at mr
  exact ⟨key,rfl,E_ (s:={ s with heap:=h' }) e' c' d' (by decide) ⟨kV k,H,I1,zT ik,⟨rfl,_,hk,by rw [U']⟩,mr,λb hb=>(hf b hb).1⟩⟩
 done:=by
  intro X hP hw hK hc i aa s σ H E I hf st hg
  subst hP hw hK
  obtain ⟨hA,hi⟩:=hg
  obtain ⟨ho,hz,hs,vs,kv,dd⟩:s.heap.get? a=some o/\bO X.prog X.w H s.heap a (.dK kvs):=I.az a _ hA
  have da:=pJ ho hd dd
  have hl:kvs.length=vs.length:=kv.length
  obtain ⟨f0,f1,f2,f3,f4,f5⟩:=hf it (by simp)
  rw [hl] at st
  exact wpAny_pyNext_dict_end (I.ok.hd hc) st da (by simp; omega) λh' eb=>⟨rfl,I.turned (t':=s.toks) (λb o hb e=>eb b o hb e) f0 f1 f3 f4 f5⟩
 self:=λ_ _ _ _ _ st h=>wpAny_pyIter_keyiter st h
noncomputable def Z4 (H0:Hp) (td:TE):TI:=λσ H R=>td σ H λx H1=>∃ a kvs,x=.ref a/\H1 a=some (.dK kvs)/\∀ o,NF H0 a->R (As a o kvs) (upd H1 a (.c_ o (.dK kvs)))
theorem xD {d:Expr} (hl:PE X d td):PI X tg d (Z4 X.qw td):=by
 intro aa s σ H R I h
 refine a7 (hl aa s σ H _ I h) λv s1 aq=>?_
 obtain ⟨x,H1,I1,r1,q1⟩:=aq
 obtain ⟨a,kvs,e,hq,q⟩:=q1
 subst e
 cases r1
 obtain ⟨hz,hs,vs,kv,dd⟩:bO X.prog X.w H1 s1.heap a (.dK kvs):=I1.az a _ hq
 obtain ⟨o,es,ep,ho,oe,hd,r⟩:=id dd
 have da:=pJ ho hd dd
 refine Mw hs da ?_
 have I2:=(I1.freeze hq ho).kept (h':=s1.heap.push { cls:=.type "dict_keyiterator",data:=.fields #[.ref a,.int 0 0,.int vs.length 0,.int ep 0] }) (t':=s1.toks) λb o e=>Qb _ e
 have nA:a≠s1.heap.objs.size:=Jc (Qm ho)
 refine ⟨s1.heap.objs.size,[s1.heap.objs.size],_,_,_,rfl,I2,aCF a _ o es ep hd kvs,?_,λb hb=>?_,q o (I1.nf hq)⟩
 ·refine ⟨_,Qh _ rfl,rfl,?_⟩
  rw [kv.length]; rfl
 ·have e:b=s1.heap.objs.size:=by simpa using hb
  subst e
  exact I1.fk (Qi _) (by rw [aI (Ne.symm nA)]; exact I1.az.fresh (Qi _))
noncomputable def Z3 (H0:Hp) (t:TS):TS:=λD σ H=>t { D with nx:=λar H'=>∃ a o kvs,H' a=some (.c_ o (.dK kvs))/\NF H0 a/\D.nx ar (upd H' a (.dK kvs)) } σ H
theorem PV {t:TS} (h:PS X st t):PS X st (Z3 X.qw t):=by
 intro aa s σ H D I q
 refine a7 (h aa s σ H _ I q) λf s1 z=>?_
 cases f with
 | next =>
  obtain ⟨ar,H',I',a,o,kvs,e,nf,k⟩:=z
  exact ⟨ar,_,I'.Dk e nf,k⟩
 | brk=>exact z
 | cont=>exact z
 | ret u=>exact z
theorem zU {σ:St} (Pv:Nat->St->Hp->Prop) (h0:Pv 0 σ H) (hl:∀ i σ H,i<=kvs.length->Pv i σ H->H a=some (.c_ o (.dK kvs))) (hs:∀ i p σ H,kvs[i]?=some p->Pv i σ H->g (kV p.1) σ H λa8 H2=>tb { D with nx:=Pv (i+1),ct:=Pv (i+1),bk:=D.nx } a8 H2) (hd:∀ σ H,Pv kvs.length σ H->D.nx σ H) :
  ∃ W:Nat->Nat->St->Hp->Prop,(∃ m,W 0 m σ H)/\∀ i m σ H,W i m σ H ->
   ((As a o kvs).stop i H/\D.nx σ H)∨((As a o kvs).go i H/\∃ N:St->Hp->Prop,(∀ ar H',N ar H'->∃ m',m' < m/\W (i+1) m' ar H')/\∀ x H',(As a o kvs).oy i H x H'->g x σ H' λa8 H2=>tb { D with nx:=N,ct:=N,bk:=D.nx } a8 H2):=by
 refine ⟨λi m σ H=>m=kvs.length - i/\i<=kvs.length/\Pv i σ H,⟨kvs.length,by simp,Jl _,h0⟩,?_⟩
 rintro i m σ H ⟨rfl,hi,p⟩
 have q:=hl i σ H hi p
 by_cases ax:i < kvs.length
 ·refine .inr ⟨⟨q,ax⟩,Pv (i+1),λar H' p'=>⟨kvs.length - (i+1),by omega,rfl,ax,p'⟩,λx H' y=>?_⟩
  obtain ⟨rfl,v,hv,rfl⟩:=y
  exact hs i v σ H' hv p
 ·have e:i=kvs.length:=by omega
  subst e
  exact .inl ⟨⟨q,rfl⟩,hd σ H p⟩
noncomputable def q! (tk tv:TE):TE:=λσ H Q=>∀ p,H p=none->tk σ (upd H p (.dK [])) λx H1=>tv σ H1 λy H2=>∃ k,x=kV k/\H2 p=some (.dK [])/\Q (.ref p) (upd H2 p (.dK [(k,y)]))
section
variable {pos:Pos} {ek ev:Expr} {tk:TE}
theorem zV (hk:PE X ek tk) (hv:PE X ev tv) (he:evalEachOpt [some ek] X.env = [some (eval ek X.env)]:=by rfl) (Cy:evalEach [ev] X.env = [eval ev X.env]:=by rfl):PE X (.Dict [some ek] [ev] pos) (q! tk tv):=by
 intro aa s σ H Q I h
 have I0:Inv X aa σ (upd H s.heap.objs.size (.dK [])) { s with heap:=s.heap.push { cls:=.type "dict",data:=.dict #[] } }:=I.laid (a:=s.heap.objs.size) (o:=.dK []) (t':=s.toks) (λ_ _ q=>Qb _ q) (Qi _) (zR s.heap I.big)
 have h0:=h s.heap.objs.size (I.az.fresh (Qi _))
 refine wpAny_Dict_pairs (knd:=cG X.prog X.w) (pairs:=[(eval ek X.env,do let x<-eval ev X.env; standAt pos; pure x)]) (by rw [he,Cy]; rfl) (by simp) (by simp) ?_
 refine evalPairs_cons (a7 (hk aa _ σ _ _ I0 h0) λkv s1 aq=>?_)
 obtain ⟨x,H1,I1,r1,q1⟩:=aq
 refine Ra (a7 (hv aa _ σ _ _ I1 q1) λvv s2 aq=>?_)
 obtain ⟨y,H2,I2,r2,q2⟩:=aq
 refine Ra (Tc (Rc (evalPairs_nil ?_)))
 obtain ⟨k,rfl,hp,q⟩:=q2
 obtain ⟨hz,hs,vs,TL,dd⟩:bO X.prog X.w H2 s2.heap s.heap.objs.size (.dK []):=I2.az _ _ hp
 have XM:vs = []:=by
  have:=TL.length
  exact Zt.mp this.symm
 subst XM
 refine ⟨[(k,vv)],⟨rX r1,rfl,trivial⟩,dd,λh' ye sb=>?_⟩
 have em:merged ([]:List (Key×Value)) [(k,vv)] = [(k,vv)]:=by simp [merged,stored]
 rw [em] at ye
 obtain ⟨o',CS,CT,lx,_⟩:=id ye
 have mu:Ar (H2 s.heap.objs.size):=by rw [hp]; trivial
 refine ⟨.ref s.heap.objs.size,_,xC (t':=s2.toks+1) I2 mu sb ⟨_,lx⟩ (Pj (kvs:=[(k,y)]) (by simp [Rf]) hs (.cons ⟨rfl,r2⟩ .nil) ye),rfl,q⟩
end
noncomputable def kA (h:Heap) (u:Value) (i:Int) (v:Value):Prop:=∃ p,u=.ref p/\((∃ its:Array Value,h.IsTuple p its/\0<=i/\i < 1000/\its[i.toNat]?=some v)∨∃ its:Array Value,h.IsList p its/\0<=i/\i < 1000/\its[i.toNat]?=some v)
theorem kA.keeps {i:Int} {v:Value} (x:kA h u i v) (k:∀ b o,h.get? b=some o->h'.get? b=some o):kA h' u i v:=by
 obtain ⟨p,rfl,⟨its,⟨o,ho,r⟩,q⟩ | ⟨its,⟨o,ho,r⟩,q⟩⟩:=x
 ·exact ⟨p,rfl,.inl ⟨its,⟨o,k _ _ ho,r⟩,q⟩⟩
 ·exact ⟨p,rfl,.inr ⟨its,⟨o,k _ _ ho,r⟩,q⟩⟩
theorem oF {i:Int} (h0:0<=i) (h1:i.toNat < n):seqIndex? i n=some i.toNat:=by
 unfold seqIndex?
 have e:¬ (i < 0):=by omega
 simp only [e,if_false]
 have e2:(decide (0<=i) && decide (i < (n:Int)))=true:=by simp; omega
 rw [if_pos e2]
theorem K! {env:Env} {m:Str->Option Value} {v:Value} {i:Int} {t:Tok} (hk:env.scope.kind=.function) (hv:env.kindOf vn=some .free) (hx:env.kindOf xn=some .local) (hc:env.cells.lookup vn=some c) (hC:s.heap.IsCell c (some u)) (hn:s.heap.Ns env.locals m) (hm:m xn=some (.int i t)) (hI:kA s.heap u i v) (h:Q v s) (d1:(vn==("__debug__" : Str))=false) (d2:(vn==("__classdict__" : Str))=false) (d3:(xn==("__debug__" : Str))=false) :
  wpAny (model prog w) A (eval (.Subscript (.Name vn p1) (.Name xn p2) p3) env) Q E s:=by
 refine Vx (Vu (Mp hk hv hc hC ?_ d2) d1)
 refine Vu (Mj hk hx hn hm ?_) d3
 obtain ⟨p,rfl,⟨its,hp,i0,i1,e⟩ | ⟨its,hp,i0,i1,e⟩⟩:=hI
 ·have ax:i.toNat < its.size:=(Array.getElem?_eq_some_iff.mp e).1
  exact Ul (x:=v) hp.typeIs slot_tuple_getitem.lookup
   (getItem_tuple (j:=i.toNat) (Q:=λr s'=>r=v/\Q r s') hp (by omega) (by omega) (oF i0 ax) e ⟨rfl,h⟩)
 ·have ax:i.toNat < its.size:=(Array.getElem?_eq_some_iff.mp e).1
  exact Ul (x:=v) hp.typeIs slot_list_getitem.lookup
   (Ms (Q:=λr s'=>r=v/\Q r s') hp (by omega) (by omega) e ⟨rfl,h⟩)
theorem aDO {c':Addr} {q nm:Str} {nh v:Value} {i:Int} {t:Tok} (iu:A.depth < recursionLimit) (rk:s.heap.NoLimit) (hf:s.heap.get? f=some { cls:=.type "function",data:=.func (Ug nm q params (.Subscript (.Name vn p1) (.Name xn p2) p3) scope cl pm (.ref c') nh) }) (j7:s.heap.CodeRec (.ref c') q) (kz:bindArgs (Ug nm q params (.Subscript (.Name vn p1) (.Name xn p2) p3) scope cl pm (.ref c') nh) ⟨[.int i t],[]⟩=pure [(xn,.int i t)]) (hx:scope.names.lookup xn=some .local) (hv:scope.names.lookup vn=some .free) (G2:scope.isCoroutine=false) (AS:scope.isGenerator=false) (hk:scope.kind=.function) (dr:∀ x∈scope.names,x.2≠.cell) (hc:cl.lookup vn=some c) (hC:s.heap.IsCell c (some u)) (hI:kA s.heap u i v) (h:∀ h' tk,(∀ b o,s.heap.get? b=some o->h'.get? b=some o)->Q v { s with heap:=h',toks:=tk }) (d1:(vn==("__debug__" : Str))=false) (d2:(vn==("__classdict__" : Str))=false) (d3:(xn==("__debug__" : Str))=false) :
  wpAny (model prog w) A (call (.ref f) [.int i t]) Q E s:=by
 refine Iw (PySem.W.kla_callFunE iu hf rfl G2 AS rfl j7 ?_)
 rw [kz]
 refine Rc (Mm dr (λy hy=>by rw [Qs.mp hy]; exact hx) (λi8 fw Bq=>⟨rk.fresh _ Bq,?_⟩) hk)
 have AQ:∀ b o,s.heap.get? b=some o->i8.get? b=some o:=λb o e=>Bq.extBut b o (Jc (Qm e)) (Qb _ e)
 obtain ⟨oc,o8,CC⟩:=hC
 refine PySem.W.kla_codeExpr (K! (env:=newEnv scope s.heap.objs.size mainGlobals cl (q ++ ".<locals>.") (some f) (.ref c') none builtinsNs) (m:=λx=>[(xn,Value.int i t)].reverse.lookup x) (t:=t) hk hv hx hc ⟨oc,AQ _ _ o8,CC⟩ fw ?_ (hI.keeps AQ) (h i8 _ AQ) d1 d2 d3)
 simp [List.lookup]
section
variable {wr:List Addr} {Pv:Nat->Value->Prop} {St:Nat->Heap->Prop} {kf:Nat->Int} {L:List (Addr×Obj)}
noncomputable def HW (prog:Program) (w:World) (A:Around) (f:Addr) (L:List (Addr×Obj)) (n:Nat) (Pv:Nat->Value->Prop) (kf:Nat->Int):Prop :=
 ∀ i v (s:Shared) (Q:Value->Shared->Prop) (E:Value->Shared->Prop),i < n->Pv i v->(∀ p∈L,s.heap.get? p.1=some p.2) ->
  (∀ h' tk t,(∀ b o,s.heap.get? b=some o->h'.get? b=some o)->Q (.int (kf i) t) { s with heap:=h',toks:=tk })->wpAny (model prog w) A (call (.ref f) [v]) Q E s
noncomputable abbrev je (kf:Nat->Int):Nat->Nat->Bool:=λi j=>decide (kf i < kf j)
theorem xE (W:Walks prog w A.in1 I fp wr n Pv St) (ik:HW prog w A.in1 f L n Pv kf) (S:Addr) (yb:S∉fp) (hL:∀ p∈L,p.1∉wr/\p.1≠S) :
  ∀ (k j:Nat) (s:Shared) (vb:Value) (t:Tok) (c:Nat),n - (j+1)=k->j+1<=n->St (j+1) s.heap->Pv (argBest (je kf) j) vb ->
  s.heap.get? S=some { cls:=.type "list",dict:=none,data:=.seq #[vb,.int (kf (argBest (je kf) j)) t] c,slots:=#[] }->(∀ p∈L,s.heap.get? p.1=some p.2) ->
  (∀ v h' tk,Pv (argBest (je kf) (n - 1)) v->(∀ b o,b∉wr->b≠S->s.heap.get? b=some o->h'.get? b=some o)->R (.ok (.ret v)) { s with heap:=h',toks:=tk }) ->
  codeAny (model prog w) A (.builtin "min.loop" ⟨[.ref I,.ref f,.ref S],[]⟩) R s:=by
 have EI:S∉wr:=λh=>yb (W.sub _ h)
 have ju:(toString "min" ++ toString ".loop" : String) = "min.loop" := by decide
 intro k
 induction k with
 | zero =>
  intro j s vb t c hk hj ic G_ hS uj hR
  have ya:j+1=n:=by omega
  refine Tb F.entry_min_loop ?_
  rw [Around.under_plainId F.plain_min_loop _]
  show wpAny _ A.in1 (seqItems? (.ref S) >>= _) _ _ s
  refine Ra (Ry hS rfl ?_)
  show wpAny _ A.in1 (tryCatch (pyNext (.ref I)) _ >>= _) _ _ s
  refine Ra (Um (W.done s _ _ (ya ▸ ic) λh' tk kk=>?_))
  have qm:=kk S _ EI hS
  show wpAny _ A.in1 (updateSeq S (λ_=>#[]) >>= _) _ _ _
  refine Ra ?_
  refine Tu qm rfl (Ra (Tr (Rc ?_)))
  exact hR vb _ _ (by rw [<- ya]; exact G_) λb o hb vd e=>(Jq _ _ (Ne.symm vd)).trans (kk b o hb e)
 | succ k ih =>
  intro j s vb t c hk hj ic G_ hS uj hR
  have ax:j+1 < n:=by omega
  refine Tb F.entry_min_loop ?_
  rw [Around.under_plainId F.plain_min_loop _]
  show wpAny _ A.in1 (seqItems? (.ref S) >>= _) _ _ s
  refine Ra (Ry hS rfl ?_)
  show wpAny _ A.in1 (tryCatch (pyNext (.ref I)) _ >>= _) _ _ s
  refine Ra (Um (W.item (j+1) s _ _ ax ic λv h1 Si hP AK zf=>?_))
  have G9:=zf S _ EI hS
  show wpAny _ A.in1 (tryCatch (holding [v] (call (.ref f) [v])) _ >>= _) _ _ _
  refine Ra (Um (Rn (ik (j+1) v _ _ _ ax hP (λp hp=>zf _ _ (hL p hp).1 (uj p hp)) λh2 FG t2 ze=>?_)))
  have BF:=ze S _ G9
  have wb:St (j+1+1) h2:=W.frame _ _ _ AK λb _ o e=>ze b o e
  show wpAny _ A.in1 (tryCatch (holding [v,.int (kf (j+1)) t2] (richCompare .Lt (.int (kf (j+1)) t2) (.int (kf (argBest (je kf) j)) t) >>= _)) _ >>= _) _ _ _
  have Km:CmpOf prog w A.in1 .Lt (λi u=>∃ t,u=.int (kf i) t) (je kf):=CmpOf.ints_lt kf λi v h=>h
  refine Ra (Um (Rn (Ra (Km (j+1) (argBest (je kf) j) _ _ _ _ _ ⟨_,rfl⟩ ⟨_,rfl⟩ ?_))))
  refine Ra (Rn (Rv ?_))
  refine Ra (Tr (Rc ?_))
  have kk:∀ b o,b∉wr->s.heap.get? b=some o->h2.get? b=some o:=λb o hb e=>ze b o (zf b o hb e)
  cases hb:je kf (j+1) (argBest (je kf) j) with
  | true =>
   simp only [if_true]
   refine Ra ?_
   refine Tu BF rfl (Ra (Tr ?_))
   rw [ju]
   have eb:argBest (je kf) (j+1)=j+1:=by simp only [argBest,hb,if_true]
   refine Rc ⟨To F.plain_min_loop _,ih (j+1) _ v t2 _ (by omega) ax (W.frame _ _ _ wb λb Ac o e=>?_) (by rw [eb]; exact hP) (by rw [eb]; exact Xr _ BF rfl) (λp hp=>?_) λv' h' tk kj zg=>?_⟩
   ·exact (Jq _ _ (λh:S=b=>yb (by rw [h]; exact Ac))).trans e
   ·exact (Jq _ _ (Ne.symm (hL p hp).2)).trans (kk _ _ (hL p hp).1 (uj p hp))
   ·exact hR v' h' tk kj λb o hb vd e=>zg b o hb vd ((Jq _ _ (Ne.symm vd)).trans (kk b o hb e))
  | false =>
   simp only [Ju,if_false]
   refine Ra (Tr ?_)
   rw [ju]
   have eb:argBest (je kf) (j+1)=argBest (je kf) j:=by simp only [argBest,hb,Ju,if_false]
   refine Rc ⟨To F.plain_min_loop _,ih (j+1) _ vb t c (by omega) ax wb (by rw [eb]; exact G_) (by rw [eb]; exact BF) (λp hp=>kk _ _ (hL p hp).1 (uj p hp)) λv' h' tk kj zg=>?_⟩
   exact hR v' h' tk kj λb o hb vd e=>zg b o hb vd (kk b o hb e)
theorem vB (W:Walks prog w A.in1 I fp wr n Pv St) (ik:HW prog w A.in1 f L n Pv kf) (S:Addr) (yb:S∉fp) (hL:∀ p∈L,p.1∉wr/\p.1≠S) (hn:0 < n) {c:Nat} (ic:St 0 s.heap) (hS:s.heap.get? S=some { cls:=.type "list",dict:=none,data:=.seq #[] c,slots:=#[] }) (uj:∀ p∈L,s.heap.get? p.1=some p.2) (hR:∀ v h' tk,Pv (argBest (je kf) (n - 1)) v->(∀ b o,b∉wr->b≠S->s.heap.get? b=some o->h'.get? b=some o)->R (.ok (.ret v)) { s with heap:=h',toks:=tk }) :
  codeAny (model prog w) A (.builtin "min.loop" ⟨[.ref I,.ref f,.ref S],[]⟩) R s:=by
 have EI:S∉wr:=λh=>yb (W.sub _ h)
 have ju:(toString "min" ++ toString ".loop" : String) = "min.loop" := by decide
 refine Tb F.entry_min_loop ?_
 rw [Around.under_plainId F.plain_min_loop _]
 show wpAny _ A.in1 (seqItems? (.ref S) >>= _) _ _ s
 refine Ra (Ry hS rfl ?_)
 show wpAny _ A.in1 (tryCatch (pyNext (.ref I)) _ >>= _) _ _ s
 refine Ra (Um (W.item 0 s _ _ hn ic λv h1 Si hP AK zf=>?_))
 have G9:=zf S _ EI hS
 show wpAny _ A.in1 (tryCatch (holding [v] (call (.ref f) [v])) _ >>= _) _ _ _
 refine Ra (Um (Rn (ik 0 v _ _ _ hn hP (λp hp=>zf _ _ (hL p hp).1 (uj p hp)) λh2 FG t2 ze=>?_)))
 have BF:=ze S _ G9
 have wb:St (0+1) h2:=W.frame _ _ _ AK λb _ o e=>ze b o e
 show wpAny _ A.in1 (updateSeq S (λ_=>#[v,.int (kf 0) t2]) >>= _) _ _ _
 refine Ra ?_
 refine Tu BF rfl ?_
 rw [ju]
 have kk:∀ b o,b∉wr->s.heap.get? b=some o->h2.get? b=some o:=λb o hb e=>ze b o (zf b o hb e)
 refine Rc ⟨To F.plain_min_loop _,xE W ik S yb hL _ 0 _ v t2 _ rfl hn (W.frame _ _ _ wb λb Ac o e=>?_) hP (Xr _ BF rfl) (λp hp=>?_) λv' h' tk kj zg=>?_⟩
 ·exact (Jq _ _ (λh:S=b=>yb (by rw [h]; exact Ac))).trans e
 ·exact (Jq _ _ (Ne.symm (hL p hp).2)).trans (kk _ _ (hL p hp).1 (uj p hp))
 ·exact hR v' h' tk kj λb o hb vd e=>zg b o hb vd ((Jq _ _ (Ne.symm vd)).trans (kk b o hb e))
theorem xF (a k:Value):argsOk "min" ⟨[a],[(Str.ofString "key",k)]⟩:=by unfold argsOk; kernel_rfl
theorem xG {id:String} {b:Builtin} {args:List Value} {kw:List (Str×Value)} (hk:builtinKind id=none) (hp:plainId id=true) (hb:entryFor table id=some b) (ha:argsOk id ⟨args,kw⟩) (hc:wpAny (model prog w) A.in1 (b ⟨args,kw⟩) (λfin s'=>match fin with
   | .done f=>(match (Except.ok f:Result) with | .ok (.ret v)=>Q v s' | .ok _=>False | .error e=>E e s')
   | .again c'=>c'.quiet=true/\codeAny (model prog w) A c' (λr s'=>match r with | .ok (.ret v)=>Q v s' | .ok _=>False | .error e=>E e s') s') E s) :
  wpAny (model prog w) A (call (.builtin id) args kw) Q E s:=by
 refine Iw (Mn hp hb ?_)
 simp only [checkBuiltinCall,hk]
 cases JU:Manifest.signature? id with
 | none=>exact Rc hc
 | some sig =>
  simp only [argsOk,JU] at ha
  have h2:Bind.checkArgs id sig ⟨args,kw⟩=pure ():=ha
  show wpAny _ A.in1 (Bind.checkArgs id sig ⟨args,kw⟩) _ _ s
  rw [h2]; exact Rc hc
theorem xH {x:Value} (h:wpAny (model prog w) A.in1 (pyIter x) (λit gn=>∃ I fp wr n Pv St kf L,it=.ref I/\Walks prog w A.in1 I fp wr n Pv St/\St 0 gn.heap/\(∀ b∈fp,b < gn.heap.objs.size)/\0 < n/\HW prog w A.in1 f L n Pv kf /\
   (∀ p∈L,p.1∉wr)/\(∀ p∈L,gn.heap.get? p.1=some p.2) /\
   ∀ v h' tk,Pv (argBest (je kf) (n - 1)) v->(∀ b o,b∉wr->gn.heap.get? b=some o->h'.get? b=some o)->Q v { gn with heap:=h',toks:=tk }) E s) :
  wpAny (model prog w) A (call (.builtin "min") [x] [(Str.ofString "key",.ref f)]) Q E s:=by
 have ju:(toString "min" ++ toString ".loop" : String) = "min.loop" := by decide
 refine xG F.kind_min F.plain_min F.entry_min (xF _ _) ?_
 show wpAny _ A.in1 (Builtin.Builtins.bindParams "min" ["key", "default"] 0 ⟨[],[(Str.ofString "key",.ref f)]⟩ >>= _) _ _ s
 refine Ra (Il (show Builtin.Builtins.bindParams "min" ["key", "default"] 0 ⟨[],[(Str.ofString "key",.ref f)]⟩=pure [some (.ref f),none] from rfl) ?_)
 refine Ra (Rc ?_)
 refine Ra (Ru h (λit gn Ag=>?_) λ_ _ e=>e)
 obtain ⟨I,fp,wr,n,Pv,St,kf,L,rfl,W,ic,jd,hn,ik,V9,uj,hQ⟩:=Ag
 refine Ra (Rx ?_)
 have yb:gn.heap.objs.size∉fp:=λhm=>Js _ (jd _ hm)
 rw [ju]
 refine Rc ⟨To F.plain_min_loop _,vB W ik gn.heap.objs.size yb (λp hp=>⟨V9 p hp,Jc (Qm (uj p hp))⟩) hn (W.frame _ _ _ ic λb _ o e=>Qb _ e) (Qh _ rfl) (λp hp=>Qb _ (uj p hp)) λv h' tk hP hk=>?_⟩
 exact hQ v h' tk hP λb o VY e=>hk b o VY (Jc (Qm e)) (Qb _ e)
end
structure Lm (K:Rb) (mg:Str->Option Value) (base:Heap) (c P:Addr):Prop where
 hd:Vm K c P=true
 gP:mainGlobals≠P
 bu:base.BuiltinsAt mg P
theorem nC {pos p0:Pos} {c cv:Value}:∀ {l:List Value},TriplesOk l->codeAmong pos (l++[rawInt p0.line,rawInt p0.col,c])=some cv->codeAmong pos l=some cv∨cv=c
 | [],_,e=>by
  simp only [Zh,rawInt,codeAmong] at e
  split at e
  ·exact .inr (Option.some.inj e).symm
  ·cases e
 | .int a t::.int b u::x::r,h,e=>by
  simp only [Ye,codeAmong] at e ⊢
  split
  ·rename_i hc
   rw [if_pos hc] at e
   exact .inl e
  ·rename_i hc
   rw [if_neg hc] at e
   exact nC (show TriplesOk r from h) e
section
variable {σ:St} {P c':Addr} {q:Str} {ps:Array Value}
theorem Inv.grown {p0:Pos} (I:Inv X aa σ H s) (hT:H P=some (.tab q)) (hx:Heap.ExtBut P s.heap h') (m8:s.heap.objs.size<=c') (BC:h'.CodeRec (.ref c') q) (V8:s.heap.get? P=some (Rw ps)) (BH:h'.get? P=some (Rw (ps++#[rawInt p0.line,rawInt p0.col,.ref c']))) :
  Inv X aa σ (upd H c' (.own P)) { s with heap:=h',toks:=t' }:=by
 have hf:H c'=none:=I.az.fresh m8
 have hn:∀ b,H b=none->b≠P:=λb n z=>by rw [z,hT] at n; cases n
 have hc:∀ b u,H b=some u->b≠c':=λb u n z=>by rw [z,hf] at n; cases n
 have ax:∀ b o,s.heap.get? b=some o->b≠c':=λb o e=>Jc (Qq (Qm e) m8)
 obtain ⟨c2,oc,vs,tq,ec,o8,CC,hv⟩:=BC
 cases ec
 refine I.un ⟨λb o e n _ _=>hx b o (hn b n) e,λb o e n _ _=>⟨o.slots,hx b o (hn b n) e⟩,λb o e n _=>by rw [aI (ax b o e)]; exact n,λb o e _=>?_,λb xs e=>by rw [aI (hc b _ e)]; exact e,λb o u e=>by rw [aI (hc b _ e)]; exact e,λb ps e=>⟨#[],by rw [aI (hc b _ e),e]; simp⟩⟩ ?_
 ·by_cases hb:b=P
  ·subst hb; exact ⟨_,BH⟩
  ·exact ⟨o,hx b o hb e⟩
 ·intro b u e
  by_cases hb:b=c'
  ·subst hb
   rw [aB] at e; cases e
   exact ⟨oc,o8⟩
  ·rw [aI hb] at e
   by_cases EE:b=P
   ·subst EE
    rw [hT] at e; cases e
    obtain ⟨ps0,e0,tr,r⟩:∃ ps:Array Value,s.heap.get? b=some { cls:=.none,data:=.fields ps }/\TriplesOk ps.toList/\∀ (pos:Pos) (cv:Value),codeAmong pos ps.toList=some cv->∃ (c:Addr) (o:Obj) (vs:Array Value) (t:Tok),cv=.ref c/\H c=some (.own b)/\s.heap.get? c=some o/\o.data=.fields vs/\(vs[1]?:Option Value)=some (.str q t):=I.az b _ hT
    rw [V8] at e0
    cases e0
    have el:(ps++#[rawInt p0.line,rawInt p0.col,Value.ref c']).toList=ps.toList++[rawInt p0.line,rawInt p0.col,.ref c']:=by simp
    refine ⟨_,BH,by rw [el]; exact TriplesOk_snoc _ _ _ _ tr,λpos cv z=>?_⟩
    rw [el] at z
    rcases nC tr z with z | rfl
    ·obtain ⟨c3,o3,KR,t3,r1,r2,r3,r4⟩:=r pos cv z
     have n3:c3≠b:=λy=>by rw [y,hT] at r2; cases r2
     exact ⟨c3,o3,KR,t3,r1,by rw [aI (hc _ _ r2)]; exact r2,hx _ _ n3 r3,r4⟩
    ·exact ⟨c',oc,vs,tq,rfl,aB,o8,CC,hv⟩
   ·refine (I.az b u e).dc (λd v hd z=>hx d v ?_ z) (λd z=>by rw [aI (hc _ _ z)]; exact z) λd xs z=>by rw [aI (hc _ _ z)]; exact z
    rcases hd with rfl | hd
    ·exact EE
    ·intro z
     rw [z,hT] at hd; cases hd
theorem aDQ {body:Expr} {pos:Pos} (I:Inv X aa σ H s) (Z:Lm X.K X.mg X.base c P) (nk:X.env.code=.ref c) (hT:H P=some (.tab q)) (hq:X.env.qual ++ "<lambda>" = q) (AX:defaultsOf params X.env=([],[])) (uh:closureFor scope X.env=pure cl) (h:∀ f c' nh pm s' H',Inv X aa σ H' s'->aD H H'->(∀ b o,b≠P->s.heap.get? b=some o->s'.heap.get? b=some o) ->
   s'.heap.get? f=some { cls:=.type "function",data:=.func (Ug "<lambda>" q params body scope cl pm (.ref c') nh) }->s'.heap.CodeRec (.ref c') q->Q (.ref f) s') :
  wpAny (model X.prog X.w) X.A (eval (.Lambda params body scope pos) X.env) Q E s:=by
 obtain ⟨ps,hP,tr,r⟩:∃ ps:Array Value,s.heap.get? P=some { cls:=.none,data:=.fields ps }/\TriplesOk ps.toList/\∀ (pos:Pos) (cv:Value),codeAmong pos ps.toList=some cv->∃ (c:Addr) (o:Obj) (vs:Array Value) (t:Tok),cv=.ref c/\H c=some (.own P)/\s.heap.get? c=some o/\o.data=.fields vs/\(vs[1]?:Option Value)=some (.str q t):=I.az P _ hT
 have hg:s.heap.Ns mainGlobals X.mg:=I.mod.glob.keeps I.bk
 have C:Uz s.heap c P:=Iv I.Bm Z.hd
 have hb:s.heap.BuiltinsAt X.mg P:=by
  obtain ⟨bm,o,e1,e2,e3,e4,e5,e6⟩:=Z.bu
  exact ⟨bm,o,e1,e2,e3,e4,I.bk _ _ e5,e6⟩
 refine PySem.W.kla_eval AX ?_
 rw [hq]
 cases hf:codeAmong pos ps.toList with
 | none =>
  refine PySem.W.kla_makeFunction uh I.ok.glob hg nk C hP tr hf Z.gP hb λc' nh h' tk hx m8 ax BC BH=>?_
  have I1:Inv X aa σ (upd H c' (.own P)) { s with heap:=h',toks:=tk }:=I.grown hT hx m8 BC hP BH
  have I2:=I1.kept (h':=h'.push (PySem.W.kla_obj "<lambda>" q params body scope cl ((X.mg "__name__").getD .none) c' nh)) (t':=tk) λb o e=>Qb _ e
  refine h _ c' nh _ _ _ I2 (aD.new (I.az.fresh m8)) (λb o EE e=>Qb _ (hx b o EE e)) (Qh _ rfl) ?_
  obtain ⟨c2,oc,vs,tq,ec,o8,r⟩:=BC
  exact ⟨c2,oc,vs,tq,ec,Qb _ o8,r⟩
 | some cv =>
  obtain ⟨c',o,vs,t,rfl,r2,r3,r4,r5⟩:=r pos cv hf
  refine PySem.W.kla_makeFunctionHit uh I.ok.glob hg nk C hP tr hf hb λnh h' tk kk hsz=>?_
  have I2:=I.kept (h':=h'.push { cls:=.type "function",data:=.func (Ug "<lambda>" q params body scope cl ((X.mg "__name__").getD .none) (.ref c') nh) }) (t':=tk) λb o e=>Qb _ (kk b o e)
  exact h _ c' nh _ _ _ I2 (aD.refl H) (λb o _ e=>Qb _ (kk b o e)) (Qh _ rfl) ⟨c',o,vs,t,rfl,Qb _ (kk _ _ r3),r4,r5⟩
end
theorem nD (num:Nat->Int):∀ k,∀ l,l < argBest (je num) k->num (argBest (je num) k) < num l
 | 0=>λl hl=>by simp [argBest] at hl
 | k+1=>λl hl=>by
  have h2:=(Iy num k).2
  simp only [argBest] at hl ⊢
  by_cases hc:num (k+1) < num (argBest (je num) k)
  ·rw [if_pos (show je num (k+1) (argBest (je num) k)=true from decide_eq_true hc)] at hl ⊢
   have:=h2 l (by omega)
   show num (k+1) < num l
   have e:num (argBest (λi j=>decide (num i < num j)) k)=num (argBest (je num) k):=rfl
   omega
  ·rw [if_neg (show ¬ je num (k+1) (argBest (je num) k)=true from λz=>hc (of_decide_eq_true z))] at hl ⊢
   exact nD num k l hl
noncomputable def Fg (K:Rb) (H:Hp) (x:V) (ns:List Int):Prop:=∃ a,x=.ref a/\(ai K H a (ns.map V.int)∨ah K H a (ns.map V.int)∨∃ kvs:List (Key×V),H a=some (.dK kvs)/\kvs.map (·.1)=ns.map Sum.inl)
noncomputable def Ff (K:Rb) (H:Hp) (u:V) (n k:Int):Prop:=0<=n/\n < 1000/\∃ a xs,u=.ref a/\(ah K H a xs∨ai K H a xs)/\xs[n.toNat]?=some (.int k)
noncomputable def J? (K:Rb) (P:Addr) (q:Str) (iv:Nat) (te:TE):TE:=λσ H Q=>te σ H λx H1=>∃ (ns:List Int) (kf:Int->Int) (u:V),Fg K H1 x ns/\0 < ns.length/\H1 P=some (.tab q)/\σ[iv]?=some (some u)/\(∀ n∈ns,Ff K H1 u n (kf n)) /\
 ∀ (j:Nat) (m:Int) (H2:Hp),aD H1 H2->ns[j]?=some m->(∀ n∈ns,kf m<=kf n)->(∀ (l:Nat) (n:Int),l < j->ns[l]?=some n->kf m < kf n)->Q (.int m) H2
section
variable {σ:St}
theorem aAX {x:V} (hh:A.handled=none) (I:Inv X aa σ H s) (hx:Fg X.K H x ns) (r:bE x u) (h:∀ (It:Addr) fp (Pv:Nat->Value->Prop) St s2,Walks X.prog X.w A It fp [It] ns.length Pv St->(∀ i v,Pv i v->∃ n t,ns[i]?=some n/\v=.int n t)->St 0 s2.heap->(∀ b∈fp,b < s2.heap.objs.size)->s.heap.objs.size<=It ->
   (∀ b o,s.heap.get? b=some o->s2.heap.get? b=some o)->(∃ h2,s2={ s with heap:=h2 })->Q (.ref It) s2):wpAny (model X.prog X.w) A (pyIter u) Q E s:=by
 obtain ⟨a,rfl,hx⟩:=hx
 cases r
 rcases hx with hx | hx | ⟨kvs,hx,hk⟩
 ·obtain ⟨its,rv,p,hz⟩:=I.list hx
  have hl:=rv.length
  rw [Qa] at hl
  have ht:=p.isList
  have ax:a < s.heap.objs.size:=by obtain ⟨o,e,_⟩:=ht; exact Qm e
  have br:a≠s.heap.objs.size:=Jc ax
  have W0:=Walks.list (prog:=X.prog) (w:=X.w) (A:=A) hh s.heap.objs.size a br its.toArray
  rw [show its.toArray.size=ns.length by rw [Qj,hl]] at W0
  refine Ti ht (h s.heap.objs.size [s.heap.objs.size,a] _ _ { s with heap:=s.heap.push { cls:=.type "list_iterator",data:=.fields #[.ref a,.int 0 0] } } W0 (λi v e=>?_) ⟨⟨_,Qh _ rfl,rfl,rfl⟩,ht.push _⟩ (λb hb=>?_) (Qi _) (λb o e=>Qb _ e) ⟨_,rfl⟩)
  ·have e':its[i]?=some v:=by simpa using e
   obtain ⟨hi,_⟩:=Qd.mp e'
   obtain ⟨w',ew,c8⟩:=rv.get (i:=i) (x:=.int (ns[i]'(by omega))) (by rw [Qe,Qc (show i < ns.length by omega)]; rfl)
   rw [e'] at ew; cases ew
   obtain ⟨t,rfl⟩:=c8
   exact ⟨_,t,Qc (show i < ns.length by omega),rfl⟩
  ·show b < (s.heap.push _).objs.size
   rw [Jk]
   simp only [Qk,Qn,or_false] at hb
   rcases hb with hb | hb
   ·rw [hb]; exact Xw _
   ·rw [hb]; exact Xd ax
 ·obtain ⟨its,rv,p,hz⟩:=I.tuple hx
  have hl:=rv.length
  rw [Qa] at hl
  have ht:s.heap.IsTuple a its.toArray:=p
  have ax:a < s.heap.objs.size:=by obtain ⟨o,e,_⟩:=ht; exact Qm e
  have br:a≠s.heap.objs.size:=Jc ax
  have W0:=Walks.tuple (prog:=X.prog) (w:=X.w) (A:=A) hh s.heap.objs.size a br its.toArray
  rw [show its.toArray.size=ns.length by rw [Qj,hl]] at W0
  refine Uj ht (h s.heap.objs.size [s.heap.objs.size,a] _ _ { s with heap:=s.heap.push { cls:=.type "tuple_iterator",data:=.fields #[.ref a,.int 0 0] } } W0 (λi v e=>?_) ⟨⟨_,Qh _ rfl,rfl,rfl⟩,ht.push _⟩ (λb hb=>?_) (Qi _) (λb o e=>Qb _ e) ⟨_,rfl⟩)
  ·have e':its[i]?=some v:=by simpa using e
   obtain ⟨hi,_⟩:=Qd.mp e'
   obtain ⟨w',ew,c8⟩:=rv.get (i:=i) (x:=.int (ns[i]'(by omega))) (by rw [Qe,Qc (show i < ns.length by omega)]; rfl)
   rw [e'] at ew; cases ew
   obtain ⟨t,rfl⟩:=c8
   exact ⟨_,t,Qc (show i < ns.length by omega),rfl⟩
  ·show b < (s.heap.push _).objs.size
   rw [Jk]
   simp only [Qk,Qn,or_false] at hb
   rcases hb with hb | hb
   ·rw [hb]; exact Xw _
   ·rw [hb]; exact Xd ax
 ·obtain ⟨hz,hs,vs,kv,dd⟩:bO X.prog X.w H s.heap a (.dK kvs):=I.az a _ hx
  obtain ⟨ep,da⟩:=dd.dictAt
  have hl:kvs.length=vs.length:=kv.length
  have t_:vs.length=ns.length:=by
   have:=congrArg Ym hk
   rw [Qa,Qa] at this
   omega
  have ax:=da.lt_size
  have br:a≠s.heap.objs.size:=Jc ax
  have W0:=Walks.dictKeys (prog:=X.prog) (w:=X.w) (A:=A) (knd:=cG X.prog X.w) hh s.heap.objs.size a br vs ep
  rw [t_] at W0
  refine Mw hs da (h s.heap.objs.size [s.heap.objs.size,a] _ _ { s with heap:=s.heap.push { cls:=.type "dict_keyiterator",data:=.fields #[.ref a,.int 0 0,.int vs.length 0,.int ep 0] } } W0 (λi v e=>?_) ⟨⟨_,Qh _ rfl,rfl,by rw [t_]; rfl⟩,da.push _⟩ (λb hb=>?_) (Qi _) (λb o e=>Qb _ e) ⟨_,rfl⟩)
  ·obtain ⟨k,x,hi,GJ⟩:=e
   have e1:(vs.map (·.1))[i]?=some k:=by rw [Qe,hi]; rfl
   rw [<- kv.keys,hk,Qe] at e1
   cases q:ns[i]? with
   | none=>rw [q] at e1; cases e1
   | some n =>
    rw [q] at e1
    have:k=Sum.inl n:=(Option.some.inj e1).symm
    subst this
    obtain ⟨t,rfl⟩:bE (.int n) v:=zT GJ
    exact ⟨n,t,rfl,rfl⟩
  ·show b < (s.heap.push _).objs.size
   rw [Jk]
   simp only [Qk,Qn,or_false] at hb
   rcases hb with hb | hb
   ·rw [hb]; exact Xw _
   ·rw [hb]; exact Xd ax
theorem PU {u:V} {uv:Value} {n k:Int} (I:Inv X aa σ H s) (hk:Ff X.K H u n k) (r:bE u uv):∃ t,kA s.heap uv n (.int k t):=by
 obtain ⟨h0,h1,a,xs,rfl,hx | hx,he⟩:=hk
 ·cases r
  obtain ⟨its,rv,p,hz⟩:=I.tuple hx
  obtain ⟨w',ew,t,rfl⟩:=rv.get he
  exact ⟨t,a,rfl,.inl ⟨its.toArray,p,h0,h1,by simpa using ew⟩⟩
 ·cases r
  obtain ⟨its,rv,p,hz⟩:=I.list hx
  obtain ⟨w',ew,t,rfl⟩:=rv.get he
  exact ⟨t,a,rfl,.inr ⟨its.toArray,p.isList,h0,h1,by simpa using ew⟩⟩
theorem kA.obj {i:Int} {v:Value} (x:kA h u i v):∃ p o,u=.ref p/\h.get? p=some o/\∀ h':Heap,h'.get? p=some o->kA h' u i v:=by
 obtain ⟨p,rfl,⟨its,⟨o,ho,r⟩,q⟩ | ⟨its,⟨o,ho,r⟩,q⟩⟩:=x
 ·exact ⟨p,o,rfl,ho,λh' e=>⟨p,rfl,.inl ⟨its,⟨o,e,r⟩,q⟩⟩⟩
 ·exact ⟨p,o,rfl,ho,λh' e=>⟨p,rfl,.inr ⟨its,⟨o,e,r⟩,q⟩⟩⟩
theorem aCG {JN pos:Pos} {P:Addr} {q:Str} (iv:Nat) (hc:X.calm=true) (hr:au 1 X.A) (hg:Gl X "min") (hm:X.mg "min" = none) (Z:Lm X.K X.mg X.base c P) (nk:X.env.code=.ref c) (hq:X.env.qual ++ "<lambda>" = q) (he:PE X e te) (hN:X.N[iv]?=some vn) (LR:X.env.kindOf vn=some .cell) (AX:defaultsOf params X.env=([],[]):=by rfl) (uh:fM X.env scope.names []=(match X.env.cells.lookup vn with | some c=>[(vn,c)] | none=>[]):=by rfl) (ue:∀ y∈scope.names,y.2=.free->y.1=vn:=by decide +kernel) (kz:∀ (cl:List (Str×Addr)) (pm a_ nh:Value) (i:Int) (t:Tok),bindArgs (Ug "<lambda>" q params (.Subscript (.Name vn p1) (.Name xn p2) p3) scope cl pm a_ nh) ⟨[.int i t],[]⟩=pure [(xn,.int i t)]:=by intro _ _ _ _ _ _; rfl) (hx:scope.names.lookup xn=some .local:=by rfl) (hv:scope.names.lookup vn=some .free:=by rfl) (G2:scope.isCoroutine=false:=by rfl) (AS:scope.isGenerator=false:=by rfl) (hk:scope.kind=.function:=by rfl) (dr:∀ x∈scope.names,x.2≠.cell:=by decide +kernel) (d1:(vn==("__debug__" : Str))=false:=by decide) (d2:(vn==("__classdict__" : Str))=false:=by decide) (d3:(xn==("__debug__" : Str))=false:=by decide) (xt:starEach [e] X.env = [(false,eval e X.env)]:=by rfl) :
  PE X (.Call (.Name "min" p) [e] [⟨some "key",.Lambda params (.Subscript (.Name vn p1) (.Name xn p2) p3) scope JN,vt⟩] pos) (J? X.K P q iv te):=by
 intro aa s σ H Q I h
 refine Ts (iB (u:=.builtin "min") I hg hm (by decide +kernel) ?_)
 have Gw:PA X [e] (yT te BN):=aA he aC xt
 refine callWith_kw (a7 (Gw pos aa s σ H (λvs H1=>match vs with
   | [x] => ∃ (ns : List Int) (kf : Int -> Int) (u : V), Fg X.K H1 x ns /\ 0 < ns.length /\ H1 P = some (.tab q) /\ σ[iv]? = some (some u) /\ (∀ n ∈ ns, Ff X.K H1 u n (kf n)) /\
       ∀ (j:Nat) (m:Int) (H2:Hp),aD H1 H2->ns[j]?=some m->(∀ n∈ns,kf m<=kf n)->(∀ (l:Nat) (n:Int),l < j->ns[l]?=some n->kf m < kf n)->Q (.int m) H2
   | _=>False) I h) λus s1 ⟨vs,H1,I1,r1,q1⟩=>?_) (by rw [xt]; rfl) (by rw [xt]; rfl)
 match vs,r1,q1 with
 | [x],r1,q1 =>
  obtain ⟨ns,kf,u,hit,jg,hT,hu,D6,k⟩:=q1
  obtain ⟨xv,rfl,rx⟩:=fO r1
  -- the cell of the name
  obtain ⟨m1,aai,qf⟩:=id I1.loc
  obtain ⟨uv,ru,lk⟩:=qf iv vn u hN hu (.inr (.inl LR))
  obtain ⟨cc,z_,WA⟩:∃ cc,X.env.cells.lookup vn=some cc/\s1.heap.IsCell cc (some uv):=by
   rcases lk with ⟨z,_⟩ | ⟨_,z⟩
   ·rw [LR] at z; cases z
   ·exact z
  have Ko:closureFor scope X.env=pure [(vn,cc)]:=by
   rw [Pb λy hy z=>⟨cc,by rw [ue y hy z]; exact z_⟩,uh,z_]
  refine kws_cons (aDQ I1 Z nk hT hq AX Ko λf c' nh pm s2 H2 I2 sm kk hf BC=>kws_nil ?_)
  show wpAny (model X.prog X.w) X.A (call (.builtin "min") [xv] [(Str.ofString "key",.ref f)]) _ _ _
  have Kg:Fg X.K H2 x ns:=by
   obtain ⟨a,rfl,z | z | ⟨kvs,z,y⟩⟩:=hit
   ·exact ⟨a,rfl,.inl (sm.b_ z)⟩
   ·exact ⟨a,rfl,.inr (.inl (sm.ag z))⟩
   ·exact ⟨a,rfl,.inr (.inr ⟨kvs,sm _ _ z,y⟩)⟩
  have tf:∀ n∈ns,Ff X.K H2 u n (kf n):=λn hn=>by
   obtain ⟨h0,h1,a,xs,rfl,z | z,y⟩:=D6 n hn
   ·exact ⟨h0,h1,a,xs,rfl,.inl (sm.ag z),y⟩
   ·exact ⟨h0,h1,a,xs,rfl,.inr (sm.b_ z),y⟩
  -- what stays through the loop
  obtain ⟨fo,XT,hf⟩:∃ fo:Obj,fo={ cls:=.type "function",data:=.func (Ug "<lambda>" q params (.Subscript (.Name vn p1) (.Name xn p2) p3) scope [(vn,cc)] pm (.ref c') nh) }/\s2.heap.get? f=some fo:=⟨_,rfl,hf⟩
  obtain ⟨c2,oc,YQ,tq,ec,o8,CC,VX⟩:=BC
  cases ec
  obtain ⟨FU,Dx,Kj⟩:s2.heap.IsCell cc (some uv):=by
   obtain ⟨o,ho,hd⟩:=WA
   have nP:cc≠P:=λz=>by rw [z] at z_; have:=I1.cu _ _ z_; rw [hT] at this; cases this
   exact ⟨o,kk _ _ nP ho,hd⟩
  obtain ⟨mc,⟨oL,XN,XQ,kg,VT,rL⟩,rk⟩:=I2.nolimit
  have n0:ns[0]?=some (ns[0]):=Qc jg
  obtain ⟨t0,TX⟩:=PU I2 (tf _ (Qg n0)) ru
  obtain ⟨pu,ou,eu,Gz,_⟩:=TX.obj
  refine xH (f:=f) (aAX (A:=X.A.in1) (I2.ok.hd hc) I2 Kg rx λIt fp Pv St s3 W MM ic jd MY By aq=>?_)
  obtain ⟨h3,e3⟩:=aq
  subst e3
  refine ⟨It,fp,[It],ns.length,Pv,St,λi=>kf (ns.getD i 0),[(f,fo),(c',oc),(cc,FU),(cStatics,oL),(pu,ou)],rfl,W,ic,jd,jg,?_,?_,?_,λv h' tk hP zg=>?_⟩
  ·intro i v s4 Q4 E4 hi V6 hL V5
   obtain ⟨n,t,hn,rfl⟩:=MM i v V6
   have eg:ns.getD i 0=n:=by rw [Qx,hn]; rfl
   obtain ⟨tk,TU⟩:=PU I2 (tf _ (Qg hn)) ru
   have TV:kA s4.heap uv n (.int (kf n) tk):=by
    obtain ⟨p',o',e',lx,hh⟩:=TU.obj
    rw [eu] at e'; cases e'
    rw [Gz] at lx; cases lx
    exact hh _ (hL (pu,ou) (by simp))
   have rm:X.A.in1.depth < recursionLimit:=(au.in1 hr).depth
   refine aDO (cl:=[(vn,cc)]) (c:=cc) rm ⟨mc,⟨oL,XN,XQ,hL (cStatics,oL) (by simp),VT,rL⟩,rk⟩ (by rw [<- XT]; exact hL (f,fo) (by simp)) ⟨c',oc,YQ,tq,rfl,hL (c',oc) (by simp),CC,VX⟩ (kz _ _ _ _ _ _) hx hv G2 AS hk dr (by simp [List.lookup]) ⟨FU,hL (cc,FU) (by simp),Kj⟩ TV (λh5 Sh k5=>?_) d1 d2 d3
   have:=V5 h5 Sh tk k5
   dsimp only at this
   rw [eg] at this
   exact this
  ·intro pr ke hz
   have ax:∀ b o,s2.heap.get? b=some o->b≠It:=λb o e=>Jc (Qq (Qm e) MY)
   simp only [Qs] at hz
   simp only [Qk,Qn,or_false] at ke
   rcases ke with rfl | rfl | rfl | rfl | rfl
   ·exact ax _ _ hf hz
   ·exact ax _ _ o8 hz
   ·exact ax _ _ Dx hz
   ·exact ax _ _ kg hz
   ·exact ax _ _ Gz hz
  ·intro pr ke
   simp only [Qk,Qn,or_false] at ke
   rcases ke with rfl | rfl | rfl | rfl | rfl
   ·exact By _ _ hf
   ·exact By _ _ o8
   ·exact By _ _ Dx
   ·exact By _ _ kg
   ·exact By _ _ Gz
  ·obtain ⟨n,t,hn,rfl⟩:=MM _ v hP
   have I3:Inv X aa σ H2 { s2 with heap:=h',toks:=tk }:=I2.kept λb o e=>zg b o (by simp; exact Jc (Qq (Qm e) MY)) (By b o e)
   have b1:=Iy (λi=>kf (ns.getD i 0)) (ns.length - 1)
   have b2:=nD (λi=>kf (ns.getD i 0)) (ns.length - 1)
   have jz:∀ i y,ns[i]?=some y->ns.getD i 0=y:=λi y e=>by rw [Qx,e]; rfl
   refine ⟨.int n,H2,I3,⟨t,rfl⟩,k _ n H2 sm hn (λy hy=>?_) (λl y hl hy=>?_)⟩
   ·obtain ⟨i,hi⟩:=Qv.mp hy
    have:=b1.2 i (by have:=(Qd.mp hi).1; omega)
    have e1:=jz _ _ hn
    have e2:=jz _ _ hi
    show kf n<=kf y
    rw [<- e1,<- e2]; exact this
   ·have:=b2 l hl
    have e1:=jz _ _ hn
    have e2:=jz _ _ hy
    rw [<- e1,<- e2]; exact this
end
noncomputable def HU (ts:List (Addr×Str)) (H:Hp):Prop:=(∀ b,H b=none∨(∃ o xs,H b=some (.c_ o (.lst xs)))∨∃ q,H b=some (.tab q)/\(b,q)∈ts)/\∀ p∈ts,H p.1=some (.tab p.2)
theorem rY {P:Addr} (C:Uz h c P) (e:h.get? P=some (Rw #[])):isCodeTable h P:=(C.tab e).isCodeTable
theorem aCH {mb:Str->Option Value} {k:Nat} {fa:Addr} {bq:Shared} {vs:List Value} {ts:List (Addr×Str)} (KX:K.In bq.heap) (fw:bq.heap.Ns mainGlobals mg) (hb:bq.heap.Ns builtinsNs mb) (G3:∀ x:Str,x ≠ "__name__" -> mb x=bootBuiltins x) (rk:bq.heap.NoLimit) (J':∃ mm,bq.heap.Ns sysModules mm) (hg:bq.gens = #[]) (ED:∃ bm ob,mg "__builtins__" = some (.ref bm)/\bm≠builtinsNs/\bq.heap.get? bm=some ob/\ob.cls=.type "module" /\ ob.dict=some builtinsNs/\ob.data=.plain) (pw:∀ p∈ts,bq.heap.get? p.1=some (Rw #[])/\K.lookup p.1=none/\∃ c,Uz bq.heap c p.1) (uz:(ts.map (·.1)).Nodup) (ha:bq.heap.get? a=some { cls:=.type "list",data:=.seq vs.toArray }) (hi:IntsAre vs ns) (hl:ns.length<=sizeLine) (hr:au k callerA) (F:∀ base:Heap,K.In base->base.Ns mainGlobals mg->(∀ p∈ts,base.BuiltinsAt mg p.1)->ab P w K mg base CX k fa fd [x] sp) (kz:∀ (s:Shared) (u:Value),BindsTo s fd ⟨[u],[]⟩ [(x,u)]) (ie:∀ H:Hp,HU ts H->ai K H a (ns.map V.int)->sp [.ref a] H (λv H'=>v=.bl true/\∀ p∈ts,H' p.1=some (.tab p.2)) λ_ _ _=>False) (Hf:∀ H e s',CX [] H bq (λ_ _ _=>False) e s'->False) :
  codeAny (model P w) callerA (.call (.ref fa) ⟨[.ref a],[]⟩) (λr s'=>r=.ok (.ret (.bool true))/\OldK bq.heap s'.heap/\s'.os=bq.os/\AllBare s'.gens) bq:=by
 have rv:=pE hi
 have JO:=hi.length
 have na:∀ p∈ts,p.1≠a:=λp hp z=>by
  have:=(pw p hp).1
  rw [z,ha] at this; cases this
 -- from an abstract heap in which nothing but the script and the tables may be tracked
 have core:∀ H:Hp,HU ts H->ai K H a (ns.map V.int)->fh P w H bq.heap->(∀ b,H b≠none->b=a∨∃ q,(b,q)∈ts)->(H a≠none->K.lookup a=none) ->
   codeAny (model P w) callerA (.call (.ref fa) ⟨[.ref a],[]⟩) (λr s'=>r=.ok (.ret (.bool true))/\OldK bq.heap s'.heap/\s'.os=bq.os/\AllBare s'.gens) bq:=by
  intro H hO hS az hA hK
  have base_of:∀ {b:Addr} {o:Obj},bq.heap.get? b=some o->H b=none->(uQ bq.heap H).get? b=some o:=λe n=>aDf e n
  have B9:∀ {b:Addr} {o:Obj} {es:Array DictEntry} {ep:Nat},bq.heap.get? b=some o->o.data=.dict es ep->H b=none:=λ{b o es ep} e d=>by
   cases q:H b with
   | none=>rfl
   | some u =>
    rcases hA b (by rw [q]; simp) with e' | ⟨q',e'⟩
    ·subst e'
     rw [ha] at e; cases e
     have d':Data.seq vs.toArray _=Data.dict es ep:=d
     cases d'
    ·have:=(pw _ e').1
     have e2:bq.heap.get? b=some (Rw #[]):=this
     rw [e] at e2; cases e2
     have d':Data.fields _=Data.dict es ep:=d
     cases d'
  have B8:∀ {b:Addr} {m:Str->Option Value},bq.heap.Ns b m->(uQ bq.heap H).Ns b m:=λ{b m} ⟨o,es,ep,e,d,r⟩=>⟨o,es,ep,base_of e (B9 e d),d,r⟩
  have MX:K.In (uQ bq.heap H):=λb o e=>base_of (KX b o e) (by
   cases q:H b with
   | none=>rfl
   | some u =>
    rcases hA b (by rw [q]; simp) with e' | ⟨q',e'⟩
    ·subst e'
     rw [hK (by rw [q]; simp)] at e; cases e
    ·have:=(pw _ e').2.1
     have e2:K.lookup b=none:=this
     rw [e] at e2; cases e2)
  have Hg:∀ p∈ts,(uQ bq.heap H).BuiltinsAt mg p.1:=λp hp=>by
   obtain ⟨bm,ob,b1,b2,b3,b4,b5,b6⟩:=ED
   have hn:H bm=none:=by
    cases q:H bm with
    | none=>rfl
    | some u =>
     rcases hA bm (by rw [q]; simp) with e' | ⟨q',e'⟩
     ·subst e'
      rw [ha] at b3; cases b3
      have d':Data.seq vs.toArray _=Data.plain:=b6
      cases d'
     ·have e2:bq.heap.get? bm=some (Rw #[]):=(pw _ e').1
      rw [b3] at e2; cases e2
      have d':Data.fields _=Data.plain:=b6
      cases d'
   refine ⟨bm,ob,b1,b2,λz=>?_,λz=>?_,base_of b3 hn,b4,b5,b6⟩
   ·obtain ⟨o,es,ep,e,d,r⟩:=fw
    rw [<- z,b3] at e; cases e
    rw [b6] at d; cases d
   ·have e2:bq.heap.get? p.1=some (Rw #[]):=(pw _ hp).1
    rw [<- z,b3] at e2; cases e2
    have d':Data.fields _=Data.plain:=b6
    cases d'
  have hM:Mod K mg (uQ bq.heap H):=⟨MX,B8 fw,⟨mb,B8 hb,G3⟩,let ⟨mc,h1,h2⟩:=rk; ⟨mc,B8 h1,h2⟩,let ⟨mm,h1⟩:=J'; ⟨mm,B8 h1⟩⟩
  have e0:xf P w K mg (uQ bq.heap H) callerA [] bq H:=⟨rfl,hM,λb o e=>aEL e,Nat.le_of_eq (aCg _ _),trivial,λb hb=>absurd (show b∈([]:List Addr) from hb) (by simp),az,.of_eq hg⟩
  refine Uq ((F _ MX (B8 fw) Hg).run callerA [] bq H ⟨[.ref a],[]⟩ [.ref a] [.ref a] _ _ hr e0 (kz bq (.ref a)) (.cons rfl .nil) (ie H hO hS)) λr s' h=>?_
  cases r with
  | error e=>exact (Hf H e s' h).elim
  | ok fl =>
   cases fl with
   | next=>exact False.elim h
   | brk=>exact False.elim h
   | cont=>exact False.elim h
   | ret u =>
    obtain ⟨v,H',os,bare,un,Dw,r',q,qt⟩:=h
    have q':v=.bl true:=q
    subst q'
    obtain rfl:u=Value.bool true:=r'
    have keep:∀ b o,(∀ q,(b,q)∉ts)->bq.heap.get? b=some o->s'.heap.get? b=some o:=λb o hb e=>by
     cases q:H b with
     | none=>exact un.keep b o e q (by intro z; exact absurd (show b∈([]:List Addr) from z) (by simp)) (by simp)
     | some u =>
      rcases hO.1 b with z | ⟨ob,xs,z⟩ | ⟨q',z,zm⟩
      ·rw [q] at z; cases z
      ·have z2:=un.iq b ob _ z
       obtain ⟨e1,_⟩:=az b _ z
       obtain ⟨e2,_⟩:=Dw b _ z2
       rw [e] at e1; cases e1
       exact e2
      ·exact absurd zm (hb q')
    have grown:∀ b o q,(b,q)∈ts->bq.heap.get? b=some o->isCodeTable bq.heap b/\o=Rw #[]/\∃ ps,s'.heap.get? b=some (Rw ps):=λb o q hm e=>by
     obtain ⟨h1,h2,c,h3⟩:=pw _ hm
     have Nl:bq.heap.get? b=some (Rw #[]):=h1
     rw [e] at Nl
     obtain ⟨ps,Gu,_⟩:bO P w H' s'.heap b (.tab q):=Dw b _ (qt _ hm)
     exact ⟨rY h3 h1,Option.some.inj Nl,ps,Gu⟩
    refine ⟨rfl,⟨λb o e=>?_,λb o e=>?_⟩,os,bare⟩
    ·by_cases hb:∃ q,(b,q)∈ts
     ·obtain ⟨q,hm⟩:=hb
      obtain ⟨ht,rfl,ps,hP⟩:=grown b o q hm e
      exact .inr (.inl ⟨ht,rfl,#[],ps,rfl,by rw [Array.empty_append]; exact hP⟩)
     ·exact .inl (keep b o (λq z=>hb ⟨q,z⟩) e)
    ·by_cases hb:∃ q,(b,q)∈ts
     ·obtain ⟨q,hm⟩:=hb
      obtain ⟨_,_,ps,hP⟩:=grown b o q hm e
      exact ⟨_,hP⟩
     ·exact ⟨o,keep b o (λq z=>hb ⟨q,z⟩) e⟩
 -- the tables
 have look:∀ {b:Addr} {q:Str},ts.lookup b=some q->(b,q)∈ts:=λ{b q} e=>by
  clear pw uz ie core na F
  induction ts with
  | nil=>cases e
  | cons p r ih =>
   rw [Xa] at e
   cases hb:b==p.1 with
   | true=>rw [hb] at e; cases e; rw [eq_of_beq hb]; exact .head _
   | false=>rw [hb] at e; exact .tail _ (ih e)
 have yo:∀ {b:Addr} {q:Str},(b,q)∈ts->ts.lookup b=some q:=λ{b q} e=>by
  clear pw ie core na look F
  induction ts with
  | nil=>cases e
  | cons p r ih =>
   rw [Xa]
   rw [Jh,Xm] at uz
   rcases Qk.mp e with rfl | e
   ·simp
   ·have:(b==p.1)=false:=by
     rw [beq_eq_false_iff_ne]
     intro z
     exact uz.1 (Jg.mpr ⟨(b,q),e,z⟩)
    rw [this]
    exact ih uz.2 e
 have yl:∀ (H:Hp) (b:Addr) (q:Str),(b,q)∈ts->bO P w H bq.heap b (.tab q):=λH b q hm=>⟨#[],(pw _ hm).1,trivial,λpos cv z=>by simp [codeAmong] at z⟩
 cases hk:K.lookup a with
 | some o =>
  have e:=KX a o hk
  rw [ha] at e
  cases e
  refine core (λb=>(ts.lookup b).map HO.tab) ⟨λb=>?_,λp hp=>by show (ts.lookup p.1).map HO.tab=_; rw [yo (q:=p.2) hp]; rfl⟩ (.inr ⟨_,vs.toArray,_,hk,rfl,rfl,rfl,by rw [Qj,JO]; exact hl,by simpa using rv⟩) (λb u z=>?_) (λb z=>?_) λz=>?_
  ·cases q:ts.lookup b with
   | none=>exact .inl (by show (ts.lookup b).map HO.tab=none; rw [q]; rfl)
   | some y=>exact .inr (.inr ⟨y,by show (ts.lookup b).map HO.tab=_; rw [q]; rfl,look q⟩)
  ·have z':(ts.lookup b).map HO.tab=some u:=z
   cases q:ts.lookup b with
   | none=>rw [q] at z'; cases z'
   | some y=>rw [q] at z'; cases z'; exact yl _ _ _ (look q)
  ·have z':(ts.lookup b).map HO.tab≠none:=z
   cases q:ts.lookup b with
   | none=>rw [q] at z'; exact absurd rfl z'
   | some y=>exact .inr ⟨y,look q⟩
  ·exfalso
   have z':(ts.lookup a).map HO.tab≠none:=z
   cases q:ts.lookup a with
   | none=>rw [q] at z'; exact absurd rfl z'
   | some y=>exact na _ (look q) rfl
 | none =>
  have noa:ts.lookup a=none:=by
   cases q:ts.lookup a with
   | none=>rfl
   | some y=>exact absurd rfl (na _ (look q))
  refine core (λb=>if b=a then some (.c_ { cls:=.type "list",data:=.seq vs.toArray } (.lst (ns.map V.int))) else (ts.lookup b).map HO.tab) ⟨λb=>?_,λp hp=>?_⟩ (.inl (.inr ⟨{ cls:=.type "list",data:=.seq vs.toArray },if_pos rfl⟩)) (λb u z=>?_) (λb z=>?_) λ_=>hk
  ·by_cases hb:b=a
   ·exact .inr (.inl ⟨_,_,if_pos hb⟩)
   ·cases q:ts.lookup b with
    | none=>exact .inl ((if_neg hb).trans (by rw [q]; rfl))
    | some y=>exact .inr (.inr ⟨y,(if_neg hb).trans (by rw [q]; rfl),look q⟩)
  ·exact (if_neg (na p hp)).trans (by rw [yo (q:=p.2) hp]; rfl)
  ·by_cases hb:b=a
   ·have z':=(if_pos hb).symm.trans z
    cases z'
    subst hb
    exact ⟨ha,by rw [Qa]; exact hl,vs,_,rv,ha⟩
   ·have z':=(if_neg hb).symm.trans z
    cases q:ts.lookup b with
    | none=>rw [q] at z'; cases z'
    | some y=>rw [q] at z'; cases z'; exact yl _ _ _ (look q)
  ·by_cases hb:b=a
   ·exact .inl hb
   ·cases q:ts.lookup b with
    | none=>exact absurd ((if_neg hb).trans (by rw [q]; rfl)) z
    | some y=>exact .inr ⟨y,look q⟩
theorem aDS {l:Vo} {k:Nat} {q:Program} {d:DefRec} {K:Params->Rb} {CX:World->Au} {sp:World->Sp} {ts:List (Addr×Str)} (hn:l.most=some n) (U1:n<=sizeLine) (CB:d.params.defaults = []) (hr:au k callerA) (hq:importsNone q=true) (hY:∀ (w:World) (h:Heap),YP w h->(K w.params).In h) (pw:∀ (w:World) (h:Heap),YP w h->∀ p∈ts,h.get? p.1=some (Rw #[])/\(K w.params).lookup p.1=none/\∃ c,Uz h c p.1) (uz:(ts.map (·.1)).Nodup) (F:∀ (w:World) (mg:Str->Option Value) (fa:Addr) (h:Heap),(K w.params).In h->h.Ns mainGlobals mg->mg d.name=some (.ref fa) ->
   ∃ fd:FuncData,(∀ (s:Shared) (u:Value),BindsTo s fd ⟨[u],[]⟩ [(x,u)]) /\
    ∀ base:Heap,(K w.params).In base->base.Ns mainGlobals mg->(∀ p∈ts,base.BuiltinsAt mg p.1)->ab l.prog w (K w.params) mg base (CX w) k fa fd [x] (sp w)) (ie:∀ (w:World) (H:Hp) (a:Addr) (ns:List Int),ns.length<=n->HU ts H->ai (K w.params) H a (ns.map V.int)->sp w [.ref a] H (λv H'=>v=.bl true/\∀ p∈ts,H' p.1=some (.tab p.2)) λ_ _ _=>False) (Hf:∀ (w:World) (H:Hp) (s:Shared) (e:Value) (s':Shared),CX w [] H s (λ_ _ _=>False) e s'->False) :
  Mi q loose XP YP l.row.toRowW d [] (λf vs=>Mc f vs):=by
 refine RJ.k9 hn CB λw fv bq mg mb fa o pm cd doc a vs ns G Y ho hd j7 Cr AM hints hlen hg=>?_
 have KX:=hY w _ Y
 obtain ⟨fd,hb,hF⟩:=F w mg fa _ KX G.T.g Cr
 exact aCH KX G.T.g G.T.b G.T.builtins G.T.nolimit (let ⟨mm,h1,_⟩:=(G.T.seer hq).mods; ⟨mm,h1⟩) hg G.T.bmain (pw w _ Y) uz AM hints (Qw hlen U1) hr hF hb (λH hO hS=>ie w H a ns hlen hO hS) λH e s'=>Hf w H bq e s'
theorem uo.SU {k:Nat} (F:uo K x qual st f fd) (hc:fd.code=.ref c) (S:ae N ps (aF st)) (len:∀ vs H Q E,sp vs H Q E->vs.length=ps.length) (iy:∀ (A:Around) (outer:List Env) (s:Shared) (H:Hp) (vs:List V) (Q:VK) (E:XK),au k (A.deeper (envOfC qual (aF st) s.heap.objs.size f (.ref c)))->sp vs H Q E ->
   ∃ t,j9 (yU ao P w K mg base N qual (aF st) f (.ref c) A outer s H E).za (fF st) t/\t { nx:=λ_ H'=>Q .bj H',rt:=Q } (start N vs) H):ab P w K mg base ao (k+1) f fd ps sp:=by
 obtain ⟨oc,od,kV,doc,pm,an,a_,ct,pj,rfl,lk,j7⟩:=F.ex
 have e:a_=.ref c:=hc
 subst e
 refine OY lk j7 S len λA outer s H vs Q E hr ie=>?_
 obtain ⟨t,h,q⟩:=iy A outer s H vs Q E hr ie
 exact ⟨t,h.za,q⟩
section
variable {z TI TO:Addr} {n1:Nat}
structure nv (h:Heap) (z TI TO i1 i2:Addr):Prop where
 hz:∃ f0 f1,F0 f0/\gJ h z TI TO f0 f1
 ti:IsPair h TI (.ref i1) (.ref i2)
 to:∃ a b,IsPair h TO a b
theorem zW {e:Addr} (D:ZipApart z TI TO i1 i2 l1 l2) (S1:Sub prog w i1 l1 n1 P1 k_) (S2:Sub prog w i2 l2 n2 P2 gf) (he:IsEnum s.heap e z i old) (Z:nv s.heap z TI TO i1 i2) (h1:k_ i s.heap) (h2:gf i s.heap) (k1:i < n1) (k2:i < n2) (ne:e≠z/\e≠TI/\e≠TO/\e≠i1/\e≠i2/\e≠l1/\e≠l2) (hQ:∀ h' x y tk,P1 i x->P2 i y->IsEnumOut h' e z ((i:Int)+1) (.ref s.heap.objs.size) (s.heap.objs.size+1)->nv h' z TI TO i1 i2->k_ (i+1) h'->gf (i+1) h'->IsPair h' s.heap.objs.size x y ->
   h'.get? (s.heap.objs.size+1)=some { cls:=.type "tuple",data:=.seq #[.int i tk,.ref s.heap.objs.size] } ->
   (∀ c o,c≠e->c≠z->c≠TO->c≠i1->c≠i2->s.heap.get? c=some o->h'.get? c=some o)->Q (.ref (s.heap.objs.size+1)) { s with heap:=h',toks:=s.toks+1 }) :
  wpAny (model prog w) A (Builtin.«enumerate.__next__» ⟨[.ref e],[]⟩) (λfin s'=>∃ v,fin=.done (.ret v)/\Q v s') E s:=by
 obtain ⟨⟨f0,f1,hf,hz⟩,fc,⟨a,b,ff⟩⟩:=Z
 obtain ⟨ne1,ne2,ne3,ne4,ne5,TJ,F2⟩:=ne
 have CI:s.TypeIs (.ref z) "zip" := ⟨_,hz,rfl⟩
 refine Ra (m:=field (.ref e) 2) (Ri he rfl (x:=.ref z) rfl ?_)
 refine Ra (m:=Builtin.SmallTypes.nextOf (.ref z)) ?_
 unfold Builtin.SmallTypes.nextOf
 refine Ra (Rg (name:=Str.ofString "__next__") CI Rm (Rp Rm CI Ta
  (rQ D S1 S2 hz hf fc ff h1 h2 k1 k2 λg1 x y EN Hk _ px py L0 xp gx t1 t2 hp hsz kp=>?_) (Rz _)))
 refine Rc ?_
 have e1:IsEnum g1 e z i old:=kp _ _ ne1 ne3 ne4 ne5 he
 refine Ra (m:=field (.ref e) 3) (Ri e1 rfl (x:=rawInt i) rfl ?_)
 refine Ra (m:=field (.ref e) 4) (Ri e1 rfl (x:=.none) rfl ?_)
 refine Ra (m:=mkInt i) (wpAny_mkInt ?_)
 refine Ra (m:=setField (.ref e) 3 (rawInt ((i:Int)+1))) (Rj e1 (by simp) λg2 e2 b2=>?_)
 have js:IsEnum g2 e z ((i:Int)+1) old:=e2
 refine Ra (m:=setField (.ref e) 4 .none) (Rj js (by simp) λg3 e3 b3=>?_)
 have Hv:IsEnum g3 e z ((i:Int)+1) old:=e3
 refine Ra (m:=newTuple [.int i s.toks,.ref s.heap.objs.size]) (Vj ?_)
 have sz:g3.objs.size=s.heap.objs.size+1:=by rw [b3.1,b2.1,hsz]
 have e4:IsEnum (g3.push { cls:=.type "tuple",data:=.seq #[.int i s.toks,.ref s.heap.objs.size] }) e z ((i:Int)+1) old:=Qb _ Hv
 have T4:(g3.push { cls:=.type "tuple",data:=.seq #[.int i s.toks,.ref s.heap.objs.size] }).get? (s.heap.objs.size+1)=some { cls:=.type "tuple",data:=.seq #[.int i s.toks,.ref s.heap.objs.size] }:=by rw [<- sz]; exact Qh _ rfl
 have KS:∀ c o,c≠e->g1.get? c=some o->(g3.push { cls:=.type "tuple",data:=.seq #[.int i s.toks,.ref s.heap.objs.size] }).get? c=some o:=λc o c1 q=>Qb _ (b3.extBut _ _ c1 (b2.extBut _ _ c1 q))
 have elt:s.heap.objs.size+1≠e:=Ze (Xd (Qm he))
 have Kx:s.heap.objs.size≠e:=Ze (Qm he)
 rw [sz]
 generalize g3.push { cls:=.type "tuple",data:=.seq #[.int i s.toks,.ref s.heap.objs.size] }=g4 at e4 T4 KS ⊢
 refine Ra (m:=Builtin.SmallTypes.ownedTupleIsFree (.ref e)) ?_
 unfold Builtin.SmallTypes.ownedTupleIsFree
 refine Ra (Ri e4 rfl (x:=.none) rfl (Rc ?_))
 simp only [if_true]
 refine Ra (Ua ?_)
 refine Ra (Ri e4 rfl (x:=old) rfl ?_)
 refine Ra (Rj e4 (by simp) λg5 e5 b5=>?_)
 have Hu:IsEnum g5 e z ((i:Int)+1) (.ref s.heap.objs.size):=e5
 refine Ra (m:=Builtin.SmallTypes.ownedTupleHandOut (.ref e) (.ref (s.heap.objs.size+1))) ?_
 unfold Builtin.SmallTypes.ownedTupleHandOut
 refine Ra (Rj Hu (by simp) λg6 e6 b6=>?_)
 have Ht:IsEnumOut g6 e z ((i:Int)+1) (.ref s.heap.objs.size) (s.heap.objs.size+1):=e6
 refine Rj Ht (by simp) λg7 e7 b7=>?_
 have Hs:IsEnumOut g7 e z ((i:Int)+1) (.ref s.heap.objs.size) (s.heap.objs.size+1):=e7
 have up:∀ c o,c≠e->g4.get? c=some o->g7.get? c=some o:=λc o c1 q=>b7.extBut _ _ c1 (b6.extBut _ _ c1 (b5.extBut _ _ c1 q))
 have all:∀ c o,c≠e->g1.get? c=some o->g7.get? c=some o:=λc o c1 q=>up c o c1 (KS c o c1 q)
 obtain ⟨a',b',gx⟩:=gx
 refine Ra (Tr (Rc ⟨_,rfl,hQ g7 x y s.toks px py Hs ⟨⟨_,_,L0,all _ _ ne1.symm xp⟩,all _ _ ne2.symm (kp _ _ D.TIz D.TITO D.TIi1 D.TIi2 fc),⟨_,_,all _ _ ne3.symm gx⟩⟩ (S1.keep _ _ _ t1 λc hc o q=>all c o ?_ q) (S2.keep _ _ _ t2 λc hc o q=>all c o ?_ q) (all _ _ Kx hp) (up _ _ elt T4) λc o c0 c1 c2 c3 c4 q=>all c o c0 (kp c o c1 c2 c3 c4 q)⟩))
 ·rcases hc with r | r <;> rw [r]
  ·exact ne4.symm
  ·exact TJ.symm
 ·rcases hc with r | r <;> rw [r]
  ·exact ne5.symm
  ·exact F2.symm
theorem aAY {e:Addr} {Q:Fin->Shared->Prop} (hh:A.handled=none) (D:ZipApart z TI TO i1 i2 l1 l2) (S1:Sub prog w i1 l1 n1 P1 k_) (S2:Sub prog w i2 l2 n2 P2 gf) (he:IsEnum s.heap e z i old) (Z:nv s.heap z TI TO i1 i2) (h1:k_ i s.heap) (h2:gf i s.heap) (kr:i=n1/\i<=n2∨i=n2/\i < n1) (hE:∀ h' x,(∀ c o,c≠z->c≠TO->c≠i1->c≠i2->s.heap.get? c=some o->h'.get? c=some o)->(∃ o,h'.get? x=some o/\o.cls=.type "StopIteration")->E (.ref x) { s with heap:=h' }) :
  wpAny (model prog w) A (Builtin.«enumerate.__next__» ⟨[.ref e],[]⟩) Q E s:=by
 obtain ⟨⟨f0,f1,hf,hz⟩,fc,⟨a,b,ff⟩⟩:=Z
 have CI:s.TypeIs (.ref z) "zip" := ⟨_,hz,rfl⟩
 refine Ra (m:=field (.ref e) 2) (Ri he rfl (x:=.ref z) rfl ?_)
 refine Ra (m:=Builtin.SmallTypes.nextOf (.ref z)) ?_
 unfold Builtin.SmallTypes.nextOf
 exact Ra (Rg (name:=Str.ofString "__next__") CI Rm (Rp Rm CI Ta
  (wY hh D S1 S2 hz hf fc ff h1 h2 kr λh' x kp hx=>hE h' x kp hx) (Rz _)))
end
noncomputable def CZ (K:Rb) (k1 k2:Sk) (a b:Addr):It :=
 ⟨λi H => ∃ xs ys x y, dz k1 K H a xs /\ dz k2 K H b ys /\ xs[i]? = some x /\ ys[i]? = some y,
  λi H v H'=>∃ p q,H p=none/\H q=none/\q≠p/\v=.ref q/\∀ xs ys,dz k1 K H a xs->dz k2 K H b ys->∃ x y,xs[i]?=some x/\ys[i]?=some y/\H'=upd (upd H p (.tup [x,y])) q (.tup [.int (i:Nat),.ref p]),
  λi H=>∃ xs ys,dz k1 K H a xs/\dz k2 K H b ys/\min xs.length ys.length=i⟩
theorem xI {x1} {pos:Pos} (k1 k2:Sk) (a b e z TI TO i1 i2:Addr) (D:∀ l1 l2:Addr,(∀ c∈[e,z,TI,TO,i1,i2],l1≠c)->(∀ c∈[e,z,TI,TO,i1,i2],l2≠c)->ZipApart z TI TO i1 i2 l1 l2) (ne:e≠z/\e≠TI/\e≠TO/\e≠i1/\e≠i2) :
  Turn P w K (.Tuple es x1 pos) (CZ K k1 k2 a b) [e,z,TI,TO,i1,i2] e (λi h=>(∃ old,IsEnum h e z i old)/\nv h z TI TO i1 i2/\fj k1 h i1 a i/\fj k2 h i2 b i) where
 mem:=by simp
 obj:=λi h st c hc=>by
  obtain ⟨⟨old,he⟩,⟨⟨f0,f1,hf,hz⟩,fc,⟨x,y,ff⟩⟩,h1,h2⟩:=st
  simp only [Qk,Qn,or_false] at hc
  rcases hc with rfl | rfl | rfl | rfl | rfl | rfl
  ·exact ⟨_,he,λv q=>by cases q⟩
  ·exact ⟨_,hz,λv q=>by cases q⟩
  ·exact ⟨_,fc,λv q=>by cases q⟩
  ·exact ⟨_,ff,λv q=>by cases q⟩
  ·exact h1.obj
  ·exact h2.obj
 keep:=λi h h' st k=>by
  obtain ⟨⟨old,he⟩,⟨⟨f0,f1,hf,hz⟩,fc,⟨x,y,ff⟩⟩,h1,h2⟩:=st
  exact ⟨⟨old,k e (by simp) _ he⟩,⟨⟨f0,f1,hf,k z (by simp) _ hz⟩,k TI (by simp) _ fc,⟨x,y,k TO (by simp) _ ff⟩⟩,h1.at λo e=>k i1 (by simp) o e,h2.at λo e=>k i2 (by simp) o e⟩
 item:=by
  intro X hP hw hK hc i aa s σ H E I hf st hg
  subst hP hw hK
  obtain ⟨⟨old,he⟩,Z,h1,h2⟩:=st
  obtain ⟨xs,ys,x,y,ha,hb,hx,hy⟩:=hg
  obtain ⟨its,rv,pa⟩:=I.cz ha
  obtain ⟨ia,c8,pb⟩:=I.cz hb
  obtain ⟨u,hu,ru⟩:=rv.get hx
  obtain ⟨v,hv,B5⟩:=c8.get hy
  have na:∀ c∈[e,z,TI,TO,i1,i2],a≠c:=λc aj=>I.bx ha (hf c aj)
  have nb:∀ c∈[e,z,TI,TO,i1,i2],b≠c:=λc aj=>I.bx hb (hf c aj)
  have DD:=D a b na nb
  have hT:s.TypeIs (.ref e) "enumerate" := ⟨_,he,rfl⟩
  have l7:i < its.toArray.size:=by rw [Qj]; exact (Qd.mp hu).1
  have u_:i < ia.toArray.size:=by rw [Qj]; exact (Qd.mp hv).1
  unfold pyNext
  refine Ra (Tv (Rg (name:=Str.ofString "__next__") hT Rt (Rp Rt hT Tq
   (zW DD (oA k1 X.prog X.w i1 a its.toArray (na i1 (by simp))) (oA k2 X.prog X.w i2 b ia.toArray (nb i2 (by simp))) he Z ⟨h1,pa⟩ ⟨h2,pb⟩ l7 u_
    ⟨ne.1,ne.2.1,ne.2.2.1,ne.2.2.2.1,ne.2.2.2.2,(na e (by simp)).symm,(nb e (by simp)).symm⟩ λh' u' v' tk pu pv G1 Z' s1 s2 qa lu kp=>Rc ?_) (Tj _))))
  have eu:u'=u:=by
   have q:its[i]?=some u':=by simpa using pu
   rw [hu] at q
   exact (Option.some.inj q).symm
  have ev:v'=v:=by
   have q:ia[i]?=some v':=by simpa using pv
   rw [hv] at q
   exact (Option.some.inj q).symm
  subst eu ev
  refine ⟨_,rfl,Iz G1 λqq Cy jx=>?_⟩
  have T0:s.heap.objs.size≠e:=Ze (Qm he)
  have T1:s.heap.objs.size+1≠e:=Ze (Xd (Qm he))
  have J4:IsPair qq s.heap.objs.size u' v':=jx.extBut _ _ T0 qa
  have J3:qq.get? (s.heap.objs.size+1)=some { cls:=.type "tuple",data:=.seq #[.int i tk,.ref s.heap.objs.size] }:=jx.extBut _ _ T1 lu
  have kh:=I.az.fresh (Qi s.heap.objs.size)
  have Cw:=I.az.fresh (Wt s.heap.objs.size)
  have fz:=I.fk (Qi s.heap.objs.size) kh
  have Hj:=I.fk (Wt s.heap.objs.size) Cw
  have I2:Inv X aa σ H { s with heap:=qq,toks:=s.toks+1 }:=by
   refine I.cy (t':=s.toks+1) [e,z,TO,i1,i2] (λc o aj q=>?_) (λc aj=>hf c ?_)
   ·simp only [Qk,Qn,or_false,not_or] at aj
    exact jx.extBut _ _ aj.1 (kp c o aj.1 aj.2.1 aj.2.2.1 aj.2.2.2.1 aj.2.2.2.2 q)
   ·simp only [Qk,Qn,or_false] at aj ⊢
    rcases aj with r | r | r | r | r
    ·exact .inl r
    ·exact .inr (.inl r)
    ·exact .inr (.inr (.inr (.inl r)))
    ·exact .inr (.inr (.inr (.inr (.inl r))))
    ·exact .inr (.inr (.inr (.inr (.inr r))))
  have I3:Inv X aa σ (upd H s.heap.objs.size (.tup [x,y])) { s with heap:=qq,toks:=s.toks+1 }:=by
   refine I2.iz (show bO X.prog X.w _ _ _ (.tup [x,y]) from ⟨by show 2<=sizeLine; rw [Rf]; decide,[u',v'],0,.cons ru (.cons B5 .nil),J4⟩) kh fz.2.1 I.sz fz.2.2.2.2.1 fz.2.2.2.2.2
  have nn:s.heap.objs.size+1≠s.heap.objs.size:=Nat.succ_ne_self _
  have I4:Inv X aa σ (upd (upd H s.heap.objs.size (.tup [x,y])) (s.heap.objs.size+1) (.tup [.int (i:Nat),.ref s.heap.objs.size])) { s with heap:=qq,toks:=s.toks+1 }:=by
   refine I3.iz (show bO X.prog X.w _ _ _ (.tup [.int (i:Nat),.ref s.heap.objs.size]) from ⟨by show 2<=sizeLine; rw [Rf]; decide,[.int i tk,.ref s.heap.objs.size],0,.cons ⟨tk,rfl⟩ (.cons rfl .nil),J3⟩) (by rw [aI nn]; exact Cw) Hj.2.1 (Qw I.sz (Wt _)) Hj.2.2.2.2.1 Hj.2.2.2.2.2
  obtain ⟨⟨g0,g1,hg,xp⟩,Kr,⟨a',b',gx⟩⟩:=Z'
  refine ⟨.ref (s.heap.objs.size+1),_,I4,rfl,⟨s.heap.objs.size,s.heap.objs.size+1,kh,Cw,nn,rfl,λtm Bc ve l8=>?_⟩,⟨⟨_,by simpa using Cy⟩,⟨⟨g0,g1,hg,jx.extBut _ _ ne.1.symm xp⟩,jx.extBut _ _ ne.2.1.symm Kr,⟨_,_,jx.extBut _ _ ne.2.2.1.symm gx⟩⟩,s1.1.at λo q=>jx.extBut _ _ ne.2.2.2.1.symm q,s2.1.at λo q=>jx.extBut _ _ ne.2.2.2.2.symm q⟩,λc aj=>?_⟩
  ·rw [I.e_ ve ha,I.e_ l8 hb]
   exact ⟨x,y,hx,hy,rfl⟩
  ·have cl:c < s.heap.objs.size:=by
    obtain ⟨o,q⟩:∃ o,s.heap.get? c=some o:=by
     obtain ⟨⟨f0,f1,L0,hz⟩,fc,⟨x',y',ff⟩⟩:=Z
     simp only [Qk,Qn,or_false] at aj
     rcases aj with rfl | rfl | rfl | rfl | rfl | rfl
     ·exact ⟨_,he⟩
     ·exact ⟨_,hz⟩
     ·exact ⟨_,fc⟩
     ·exact ⟨_,ff⟩
     ·obtain ⟨o,q,_⟩:=h1.obj; exact ⟨o,q⟩
     ·obtain ⟨o,q,_⟩:=h2.obj; exact ⟨o,q⟩
    exact Qm q
   rw [aI (Jc (Xd cl)),aI (Jc cl)]
   exact (hf c aj).1
 done:=by
  intro X hP hw hK hc i aa s σ H E I hf st hg
  subst hP hw hK
  obtain ⟨⟨old,he⟩,Z,h1,h2⟩:=st
  obtain ⟨xs,ys,ha,hb,AN⟩:=hg
  obtain ⟨its,rv,pa⟩:=I.cz ha
  obtain ⟨ia,c8,pb⟩:=I.cz hb
  have la:=rv.length
  have lb:=c8.length
  have na:∀ c∈[e,z,TI,TO,i1,i2],a≠c:=λc aj=>I.bx ha (hf c aj)
  have nb:∀ c∈[e,z,TI,TO,i1,i2],b≠c:=λc aj=>I.bx hb (hf c aj)
  have DD:=D a b na nb
  have hT:s.TypeIs (.ref e) "enumerate" := ⟨_,he,rfl⟩
  unfold pyNext
  refine Ra (Tv (Rg (name:=Str.ofString "__next__") hT Rt (Rp Rt hT Tq
   (aAY (I.ok.hd hc) DD (oA k1 X.prog X.w i1 a its.toArray (na i1 (by simp))) (oA k2 X.prog X.w i2 b ia.toArray (nb i2 (by simp))) he Z ⟨h1,pa⟩ ⟨h2,pb⟩ (by rw [Qj,Qj]; omega) λh' x kp hx=>?_) (Tj _))))
  obtain ⟨oe,qb,ui⟩:=hx
  refine Ra (Vb (T := "StopIteration") (b:=true) ⟨oe,qb,ui⟩ Vk (Rc ⟨rfl,?_⟩))
  refine I.cy (t':=s.toks) [z,TO,i1,i2] (λc o aj q=>?_) (λc aj=>hf c ?_)
  ·simp only [Qk,Qn,or_false,not_or] at aj
   exact kp c o aj.1 aj.2.1 aj.2.2.1 aj.2.2.2 q
  ·simp only [Qk,Qn,or_false] at aj ⊢
   rcases aj with r | r | r | r
   ·exact .inr (.inl r)
   ·exact .inr (.inr (.inr (.inl r)))
   ·exact .inr (.inr (.inr (.inr (.inl r))))
   ·exact .inr (.inr (.inr (.inr (.inr r))))
 self:=λ_ _ _ _ _ st h=>by
  obtain ⟨⟨old,he⟩,_⟩:=st
  exact Uy he h
theorem vC (z TI TO:Addr) :
  Meets (Builtin.«enumerate.__new__» ⟨[.type "enumerate",.ref z],[]⟩) (λ_ R s=>IsZip s.heap z TI TO .none /\
   R (.ok (.ret (.ref s.heap.objs.size))) { s with heap:=s.heap.push { cls:=.type "enumerate",data:=.fields #[.none,.bool false,.ref z,rawInt 0,.none,.none] } }) :=
 .of_wp λprog w A R s h=>by
  obtain ⟨hp,g,d,tk,os⟩:=s
  obtain ⟨hl,h⟩:=h
  have v_:=sub_enumerate
  have hZ:IsZip (Shared.heap ⟨hp,g,d,tk,os⟩) z TI TO .none:=hl
  wp_walk using AutoSeq1.wpAny_loadPart' hZ
  refine Raj λst=>Rc ?_
  split
  ·rename_i c _ _ _ _ _
   cases (c==Value.type "enumerate")
   ·wp_walk using AutoSeq1.wpAny_loadPart' hZ,Uc hZ
    exact ⟨_,rfl,h⟩
   ·wp_walk using AutoSeq1.wpAny_loadPart' hZ,Uc hZ
    exact ⟨_,rfl,h⟩
  ·wp_walk using AutoSeq1.wpAny_loadPart' hZ,Uc hZ
   exact ⟨_,rfl,h⟩
noncomputable def aDU (K:Rb) (k1 k2:Sk) (ta:TA):TI:=λσ H R=>ta σ H λvs H1=>∃ a b xs ys,vs = [.ref a,.ref b]/\dz k1 K H1 a xs/\dz k2 K H1 b ys/\R (CZ K k1 k2 a b) H1
theorem aAZ (k1 k2:Sk) {a b:Expr} {ta:TA} {pos p':Pos} (hg:Gl X "enumerate") (hm:X.mg "enumerate" = none) (GX:Gl X "zip") (GA:X.mg "zip" = none) (ha:PA X [a,b] ta) (hs:starEach [a,b] X.env = [(false,eval a X.env),(false,eval b X.env)]:=by rfl) (j6:starEach [b] X.env = [(false,eval b X.env)]:=by rfl) (LF:starEach [Expr.Call (.Name "zip" p') [a,b] [] pos'] X.env = [(false,eval (.Call (.Name "zip" p') [a,b] [] pos') X.env)]:=by rfl) :
  PI X (.Tuple es x1 qy) (.Call (.Name "enumerate" p) [.Call (.Name "zip" p') [a,b] [] pos'] [] pos) (aDU X.K k1 k2 ta):=by
 intro aa s σ H R I h
 refine Mk (iB (u:=.type "enumerate") I hg hm (by decide +kernel) (PyProof.Rows.callWith_type1 ?_ LF rfl))
 rw [LF]
 show wpAny _ _ (spliced ((false,eval (.Call (.Name "zip" p') [a,b] [] pos') X.env)::[])) _ _ s
 refine Calls.spliced_cons ?_
 refine Mk (iB (u:=.type "zip") I GX GA (by decide +kernel) (PyProof.Rows.callWith_type1 (a7 (ha pos' aa s σ H _ I h) λus s1 aq=>?_) (by rw [hs,j6]) (by rw [j6]; rfl)))
 obtain ⟨vs,H1,I1,r1,q1⟩:=aq
 obtain ⟨l1,l2,xs,ys,rfl,hA,hB,q⟩:=q1
 obtain ⟨u1,u2,rfl,oz,ur⟩:=mX r1
 cases oz
 cases ur
 obtain ⟨its,rv,pa⟩:=I1.cz hA
 obtain ⟨ia,c8,pb⟩:=I1.cz hB
 refine Vc Ve (by decide) (Us _ _) (Uu _ _) (λobj=>Up obj _ _) Uv (rR k1 k2 l1 l2 its.toArray ia.toArray) ⟨pa,pb,?_⟩
 have n1:(mn k1 s1.heap l1).objs.size=s1.heap.objs.size+1:=Jk ..
 have n2:(pg k1 k2 s1.heap l1 l2).objs.size=s1.heap.objs.size+2:=by rw [Jk,n1]
 have n3:(pe k1 k2 s1.heap l1 l2).objs.size=s1.heap.objs.size+3:=by rw [Jk,n2]
 have n4:(xi k1 k2 s1.heap l1 l2).objs.size=s1.heap.objs.size+4:=by rw [Jk,n3]
 have n5:(gm k1 k2 s1.heap l1 l2).objs.size=s1.heap.objs.size+5:=by rw [Jk,n4]
 have g5:IsZip (gm k1 k2 s1.heap l1 l2) (xi k1 k2 s1.heap l1 l2).objs.size (pg k1 k2 s1.heap l1 l2).objs.size (pe k1 k2 s1.heap l1 l2).objs.size .none:=Qh _ rfl
 have g4:IsPair (gm k1 k2 s1.heap l1 l2) (pe k1 k2 s1.heap l1 l2).objs.size .none .none:=Qb _ (Qh _ rfl)
 have g3:IsPair (gm k1 k2 s1.heap l1 l2) (pg k1 k2 s1.heap l1 l2).objs.size (.ref s1.heap.objs.size) (.ref (mn k1 s1.heap l1).objs.size):=Qb _ (Qb _ (Qh _ rfl))
 have g2:fj k2 (gm k1 k2 s1.heap l1 l2) (mn k1 s1.heap l1).objs.size l2 0:=(fj.new k2 (mn k1 s1.heap l1) l2).at λo e=>Qb _ (Qb _ (Qb _ e))
 have g1:fj k1 (gm k1 k2 s1.heap l1 l2) s1.heap.objs.size l1 0:=(fj.new k1 s1.heap l1).at λo e=>Qb _ (Qb _ (Qb _ (Qb _ e)))
 have kp:∀ c o,s1.heap.get? c=some o->(gm k1 k2 s1.heap l1 l2).get? c=some o:=λc o e=>Qb _ (Qb _ (Qb _ (Qb _ (Qb _ e))))
 refine ⟨⟨_,g5,rfl⟩,Calls.spliced_nil ?_⟩
 rw [n1,n2,n3,n4] at *
 generalize gm k1 k2 s1.heap l1 l2=Ce at *
 refine Vc Ig (by decide) (Vn _) (Vs _) (λobj=>Vz obj _) Vt (vC (s1.heap.objs.size+4) (s1.heap.objs.size+2) (s1.heap.objs.size+3)) ⟨g5,?_⟩
 have ge:IsEnum (Ce.push { cls:=.type "enumerate",data:=.fields #[.none,.bool false,.ref (s1.heap.objs.size+4),rawInt 0,.none,.none] }) Ce.objs.size (s1.heap.objs.size+4) 0 .none:=Qh _ rfl
 have zd:∀ c o,Ce.get? c=some o->(Ce.push { cls:=.type "enumerate",data:=.fields #[.none,.bool false,.ref (s1.heap.objs.size+4),rawInt 0,.none,.none] }).get? c=some o:=λc o e=>Qb _ e
 rw [n5] at ge
 show (∃ _,_)/\_
 rw [n5]
 generalize Ce.push { cls:=.type "enumerate",data:=.fields #[.none,.bool false,.ref (s1.heap.objs.size+4),rawInt 0,.none,.none] }=h6 at ge zd ⊢
 refine ⟨⟨_,ge,rfl⟩,Uy ge ?_⟩
 have I2:Inv X aa σ H1 { s1 with heap:=h6 }:=I1.kept (t':=s1.toks) λc o e=>zd c o (kp c o e)
 have d:∀ i j:Nat,i≠j->s1.heap.objs.size+i≠s1.heap.objs.size+j:=λi j h=>by omega
 refine ⟨s1.heap.objs.size+5,[s1.heap.objs.size+5,s1.heap.objs.size+4,s1.heap.objs.size+2,s1.heap.objs.size+3,s1.heap.objs.size,s1.heap.objs.size+1],_,_,H1,rfl,I2,xI k1 k2 l1 l2 _ _ _ _ _ _ ?_ ⟨d 5 4 (by decide),d 5 2 (by decide),d 5 3 (by decide),d 5 0 (by decide),d 5 1 (by decide)⟩,⟨⟨_,ge⟩,⟨⟨_,_,.inl rfl,zd _ _ g5⟩,zd _ _ g3,⟨_,_,zd _ _ g4⟩⟩,g1.at λo e=>zd _ _ e,g2.at λo e=>zd _ _ e⟩,λc hc=>?_,q⟩
 ·intro m1 m2 h1 h2
  exact ⟨d 2 4 (by decide),d 3 4 (by decide),d 0 4 (by decide),d 1 4 (by decide),d 2 3 (by decide),d 2 0 (by decide),d 2 1 (by decide),d 3 0 (by decide),d 3 1 (by decide),d 0 1 (by decide),
   h1 _ (by simp),h1 _ (by simp),h1 _ (by simp),h1 _ (by simp),h2 _ (by simp),h2 _ (by simp),h2 _ (by simp),h2 _ (by simp)⟩
 ·have aj:s1.heap.objs.size<=c:=by
   simp only [Qk,Qn,or_false] at hc
   rcases hc with r | r | r | r | r | r <;> rw [r]
   all_goals first | exact Qi _ | exact Xx _ _
  exact I1.fk aj (I1.az.fresh aj)
theorem zX {σ:St} (Pv:Nat->St->Hp->Prop) (heq:xs.length=ys.length) (h0:Pv 0 σ H) (hl:∀ i σ H,i<=xs.length->Pv i σ H->dz k1 K H a xs/\dz k2 K H b ys) (hs:∀ i x y p q σ H,xs[i]?=some x->ys[i]?=some y->Pv i σ H->H p=none->H q=none->q≠p->g (.ref q) σ (upd (upd H p (.tup [x,y])) q (.tup [.int (i:Nat),.ref p])) λa8 H2=>tb { D with nx:=Pv (i+1),ct:=Pv (i+1),bk:=D.nx } a8 H2) (hd:∀ σ H,Pv xs.length σ H->D.nx σ H) :
  ∃ W:Nat->Nat->St->Hp->Prop,(∃ m,W 0 m σ H)/\∀ i m σ H,W i m σ H ->
   ((CZ K k1 k2 a b).stop i H/\D.nx σ H)∨((CZ K k1 k2 a b).go i H/\∃ N:St->Hp->Prop,(∀ ar H',N ar H'->∃ m',m' < m/\W (i+1) m' ar H')/\∀ x H',(CZ K k1 k2 a b).oy i H x H'->g x σ H' λa8 H2=>tb { D with nx:=N,ct:=N,bk:=D.nx } a8 H2):=by
 refine ⟨λi m σ H=>m=xs.length - i/\i<=xs.length/\Pv i σ H,⟨xs.length,by simp,Jl _,h0⟩,?_⟩
 rintro i m σ H ⟨rfl,hi,p⟩
 obtain ⟨q1,q2⟩:=hl i σ H hi p
 by_cases ax:i < xs.length
 ·refine .inr ⟨⟨xs,ys,xs[i],ys[i]'(by omega),q1,q2,Qc ax,Qc (by omega)⟩,Pv (i+1),λar H' p'=>⟨xs.length - (i+1),by omega,rfl,ax,p'⟩,λx H' y=>?_⟩
  obtain ⟨p1,SQ,qa,Gq,br,rfl,hy⟩:=y
  obtain ⟨x,y,h1,h2,rfl⟩:=hy xs ys q1 q2
  exact hs i x y p1 SQ σ H h1 h2 p qa Gq br
 ·have e:i=xs.length:=by omega
  subst e
  exact .inl ⟨⟨xs,ys,q1,q2,by rw [<- heq,Nat.min_self]⟩,hd σ H p⟩
end L2
namespace L2
open PySem
theorem rZ {c:Bool} {A:Prop} (e:c=false) (b:B):if c=true then A else B:=by rw [e]; exact b
section
variable {pos:Pos}
noncomputable def p? (K:Rb):List V->Hp->VK->Prop:=λxs H Q=>∃ d a,xs = [.ref a]/\Den K H d (.ref a)/\eM d=true/\d.hasDict=false/\d.showable=true/\d.depth<=60/\d.shown.length<=sizeLine/\Q (.str d.shown) H
theorem OQ (hK:X.K=K) (hg:X.A.guards=some []) (hu:X.A.units+64 < cLine):dQ X (.builtin "repr") (p? K):=by subst hK; exact aCs hg hu
end
section
variable {γ δ ε ζ η θ ι:Type}
end
end L2
namespace L2
open PySem PySem.Spec PyProof.Rows
section
variable {own:Nat} {σ:St}
end
section
variable {es:Array (Int×Value)} {t:SetTable}
end
open PySem.AutoSeq1 (wpAny_loadPart')
theorem vD (l:Addr) (items:Array Value) (n:Nat) (dd:Option Addr) (sl:Array (Option Value)) (u:Tok) :
  Meets (Builtin.«tuple.__mul__» ⟨[.ref l,.int 1 u],[]⟩) (λ_ R s=>s.heap.get? l=some { cls:=.type "tuple",dict:=dd,data:=.seq items n,slots:=sl }/\R (.ok (.ret (Value.ref l))) s) :=
 .of_wp λprog w A R s h=>by
  obtain ⟨hp,g,d,tk,os⟩:=s
  obtain ⟨hl,h⟩:=h
  have f1:=AutoSeq1.idx_int
  have f2:=AutoSeq1.sub_tuple_tuple
  wp_walk using Rl hl
  exact ⟨_,rfl,h⟩
theorem sF (l:Addr) (items:Array Value) (n:Nat) (dd:Option Addr) (sl:Array (Option Value)) (u:Tok) (br:items.isEmpty=false) :
  Meets (Builtin.«tuple.__mul__» ⟨[.ref l,.int 0 u],[]⟩) (λ_ R s=>s.heap.get? l=some { cls:=.type "tuple",dict:=dd,data:=.seq items n,slots:=sl }/\R (.ok (.ret (Value.ref s.heap.objs.size))) { s with heap:=s.heap.push { cls:=Value.type "tuple",data:=Data.seq #[] } }) :=
 .of_wp λprog w A R s h=>by
  obtain ⟨hp,g,d,tk,os⟩:=s
  obtain ⟨hl,h⟩:=h
  have f1:=AutoSeq1.idx_int
  have f2:=AutoSeq1.sub_tuple_tuple
  wp_walk using Rl hl
  exact ⟨_,rfl,h⟩
theorem qK (l:Addr) (items:Array Value) (n:Nat) (dd:Option Addr) (sl:Array (Option Value)) (u:Tok) (br:items.isEmpty=true) :
  Meets (Builtin.«tuple.__mul__» ⟨[.ref l,.int 0 u],[]⟩) (λ_ R s=>s.heap.get? l=some { cls:=.type "tuple",dict:=dd,data:=.seq items n,slots:=sl }/\R (.ok (.ret (Value.ref l))) s) :=
 .of_wp λprog w A R s h=>by
  obtain ⟨hp,g,d,tk,os⟩:=s
  obtain ⟨hl,h⟩:=h
  have f1:=AutoSeq1.idx_int
  have f2:=AutoSeq1.sub_tuple_tuple
  wp_walk using Rl hl
  exact ⟨_,rfl,h⟩
noncomputable def Z2 (K:Rb):R2:=λx y H Q=>∃ a,∃ k:Nat,∃ xs,x=.ref a/\y=.int k/\ah K H a xs/\k<=1000/\xs.length<=1000/\∀ p H',aD H H'->ah K H' p (List.replicate k xs).flatten->Q (.ref p) H'
theorem xJ (hK:X.K=K):d6 X (binaryOp .Mult) (Z2 K):=by
 intro aa s σ H x y v u Q I rx ry h
 obtain ⟨a,k,xs,rfl,rfl,ha,h2,hz,q⟩:=h
 by_cases h1:1 < k
 ·exact aE5 hK aa s σ H _ _ v u Q I rx ry ⟨a,k,xs,rfl,rfl,ha,by omega,by omega,hz,q⟩
 subst hK
 cases rx
 obtain ⟨t,rfl⟩:=ry
 obtain ⟨its,r,⟨⟨cls,dd,data,sl⟩,ho,hc,n,hd⟩,uu⟩:=I.tuple ha
 simp only at hc hd
 subst hc hd
 refine Ut (T := "tuple") (U := "int") (by decide) ⟨_,ho,rfl⟩ (λs'=>Ur s' k t) kH Io Ui oB PySem.F.slot_int_index.lookup
  (Tn Ui (Ur s k t) Ik (Ih _ _) (lV k t a its.toArray n dd sl) ⟨ho,rfl,⟨_,ho,rfl⟩,?_⟩)
 rcases (show k=0∨k=1 by omega) with rfl | rfl
 ·by_cases hx:its = []
  ·subst hx
   cases r
   refine Tn PySem.F.slot_tuple_mul ⟨_,ho,rfl⟩ Th (Tg _ _) (qK a _ n dd sl t rfl) ⟨ho,?_⟩
   exact ⟨.ref a,H,I,rfl,q a H (aD.refl H) ha⟩
  ·have br:its.toArray.isEmpty=false:=by
    cases its with
    | nil=>exact absurd rfl hx
    | cons _ _=>rfl
   refine Tn PySem.F.slot_tuple_mul ⟨_,ho,rfl⟩ Th (Tg _ _) (sF a its.toArray n dd sl t br) ⟨ho,?_⟩
   refine ⟨.ref _,_,I.laid (t':=s.toks) (o:=.tup []) (λb ob q=>Qb _ q) (Qi _) ?_,rfl,q _ _ (aD.new (I.az.fresh (Qi _))) (ah.of aB)⟩
   exact ⟨Jl _,[],0,.nil,Qh _ rfl⟩
 ·refine Tn PySem.F.slot_tuple_mul ⟨_,ho,rfl⟩ Th (Tg _ _) (vD a its.toArray n dd sl t) ⟨ho,?_⟩
  exact ⟨.ref a,H,I,rfl,q a H (aD.refl H) (by simpa using ha)⟩
section
variable {z TI TO i3 l3:Addr} {n3:Nat} {P3:Nat->Value->Prop} {B1:Nat->Heap->Prop}
end
section
variable (k1 k2 k3:Sk) (h:Heap) (a b d:Addr)
end
section
variable {own:Nat} {σ:St}
end
noncomputable def B0 (P:α->V->V->Hp->(α->Hp->Prop)->Prop) (tk tv:TE) (ys:α) (σ:St) (H:Hp) (R:α->St->Hp->Prop):Prop:=tk σ H λx H4=>tv σ H4 λy H5=>P ys x y H5 λa H=>R a σ H
noncomputable def N9 (kx vx:Expr) (env:Env) (D:Addr):Sem Unit:=do
 let kv<-eval kx env
 let vv<-holding [kv] (eval vx env)
 standAt { kx.pos with endLine:=vx.pos.endLine,endCol:=vx.pos.endCol }
 holding [kv,vv] (dictSet D kv vv)
section
variable {pos:Pos} {a0:α} {Ok:Addr->α->Heap->Prop}
theorem Z1 {tk:TE} {p:α->V->V->Hp->(α->Hp->Prop)->Prop} (AO:d8 Y.prog Y.w Y.A newDict a0 Ok) (hk:PE Y kx tk) (he:PE Y vx tv) (st:∀ {D:Addr} {a:α} {s:Shared} {H:Hp} {x y:V} {kv vv:Value} {R:α->Hp->Prop},fh Y.prog Y.w H s.heap->Ok D a s.heap->bE x kv->bE y vv->p a x y H R->wpAny (model Y.prog Y.w) Y.A (dictSet D kv vv) (λ_ s'=>∃ h' tk a',s'={ s with heap:=h',toks:=tk }/\Heap.SameBut D s.heap h'/\Ok D a' h'/\R a' H) Y.xe s) :
  kT Y (N9 kx vx) Ok (B0 p tk tv):=by
 intro ps s σ H D o ys R dn I pl h
 refine Ra (a7 (hk _ s σ H _ I h) λkv s1 hx=>?_)
 obtain ⟨xv,H1,I1,r1,q1⟩:=hx
 refine Ra (Rn (a7 (he _ s1 σ H1 _ I1 q1) λvv s2 hx=>?_))
 obtain ⟨yv,H2,I2,r2,q2⟩:=hx
 refine Ra (Tc (Rn (a7 (st I2.az (AO.dc I I2 pl) r1 r2 q2) λ_ s3 hx=>?_)))
 obtain ⟨h',tk,a',rfl,sb,ok,r⟩:=hx
 obtain ⟨o',I'⟩:=dn.put (t:=tk) AO I2 sb ok
 exact ⟨σ,H2,a',o',I',ok,r⟩
end
noncomputable def Fq (ys:List (Key×V)) (x y:V) (H:Hp) (R:List (Key×V)->Hp->Prop):Prop:=∃ k,x=kV k/\ys.length < sizeLine/\R (fU ys k y) H
noncomputable def OkK (P:Program) (w:World) (D:Addr) (ys:List (Key×V)) (h:Heap):Prop:=ys.length<=sizeLine/\∃ its,KV ys its/\h.DictOf (cG P w) D its
noncomputable def Z0:Obj:={ cls:=.type "dict",dict:=none,data:=.dict #[] }
theorem HI:d8 P w A newDict [] (OkK P w) where
 new:=⟨Z0,λv z=>(by cases z),rfl,λh D e=>⟨Jl _,[],.nil,⟨_,#[],0,e,⟨rfl,rfl,rfl⟩,rfl,λ_ he=>(by simp at he),Pairs.nil,Zy⟩⟩,λh=>Rx h⟩
 keep:=λ⟨hl,its,v,d⟩ k=>⟨hl,its,v,d.at k⟩
 obj:=λ⟨_,_,_,o,es,ep,h1,h2,h3,_⟩=>⟨o,h1,λv z=>by rw [h3] at z; cases z⟩
section
variable {pos:Pos} {wi:TI} {tk:TE}
end
noncomputable def Sj (t:TE):TE:=λσ H Q=>∃ P:V->Hp->Prop,t σ H P/\∀ x H1,P x H1->Q x H1
noncomputable def p! (H0:Hp) (t:TE):TE:=λσ H Q=>t σ H λx H'=>∃ a o kvs,H' a=some (.c_ o (.dK kvs))/\NF H0 a/\Q x (upd H' a (.dK kvs))
noncomputable def o? (own:Nat) (fr:List Nat) (td:TE) (g:TG) (tt:TT) (te:TE):TE:=λσ H Q=>td σ H λx H1=>∃ a kvs,x=.ref a/\H1 a=some (.dK kvs)/\∀ o:Obj,ja (As a o kvs) [] (d7 own fr σ) (upd H1 a (.c_ o (.dK kvs))) (λys _ H=>∀ p,H p=none->Q (.ref p) (upd (upd H p (.lst ys)) a (.dK kvs))) g tt (oa te)
section
variable {d:Expr} {pos:Pos} {t:TE}
theorem a! (h:PE X e t):PE X e (Sj t):=by
 intro aa s σ H Q I q
 obtain ⟨P,h1,h2⟩:=q
 refine a7 (h aa s σ H P I h1) λv s1 hx=>?_
 obtain ⟨x,H1,I1,r1,q1⟩:=hx
 exact ⟨x,H1,I1,r1,h2 _ _ q1⟩
theorem J! (h:PE X e t):PE X e (p! X.qw t):=by
 intro aa s σ H Q I q
 refine a7 (h aa s σ H _ I q) λv s1 hx=>?_
 obtain ⟨x,H1,I1,r1,a,o,kvs,ea,nf,k⟩:=hx
 exact ⟨x,_,I1.Dk ea nf,r1,k⟩
theorem aDV (S:bg X scope z own fr a9) (hc:X.calm=true) (hi:PE X d td) (hg:∀ C s0 H0 fp,PG (bY X scope z (own++a9) C s0 H0 fp) tg g) (ht:∀ C s0 H0 fp,PF (bY X scope z (own++a9) C s0 H0 fp) ifs tt)
  (he:∀ C s0 H0 fp,PE (bY X scope z (own++a9) C s0 H0 fp) elt te) (hs:∀ x,foldedSetIterable d X.env x=pure x:=by intro _; rfl) :
  PE X (.ListComp elt [⟨tg,d,ifs,0⟩] scope pos) (o? own.length fr td g tt te):=by
 intro aa s σ H Q I h
 refine J! (bK S hc (xD (a! hi)) hg ht he hs) aa s σ H Q I ⟨_,h,λx H1 q=>?_⟩
 obtain ⟨a,kvs,ex,hx,k⟩:=q
 refine ⟨a,kvs,ex,hx,λo nf=>?_⟩
 obtain ⟨W,w0,wk⟩:=k o
 refine ⟨W,w0,λi m ys ar H' w=>?_⟩
 rcases wk i m ys ar H' w with ⟨st,q⟩ | z
 ·refine .inl ⟨st,λp hp=>⟨a,o,kvs,?_,nf,q p hp⟩⟩
  rw [aI (λz=>by rw [<- z,st.1] at hp; cases hp)]
  exact st.1
 ·exact .inr z
end
theorem aCI {own:Nat} {σ:St} {Q:Hp->List V->Prop} (SH:St->Prop) (Pv:Nat->List V->Hp->Prop) (hn:kvs.length<=sizeLine) (gq:SH (d7 own fr σ)) (h0:Pv 0 [] H) (hlen:∀ i ys H,Pv i ys H->ys.length<=i) (hl:∀ i ys H,Pv i ys H->H a=some (.c_ o (.dK kvs))) (hs:∀ i ys σ p H,kvs[i]?=some p->SH σ->Pv i ys H->ys.length < sizeLine->g (kV p.1) σ H λa8 H2=>tt a8 H2 λb H3=>if b=true then te a8 H3 λy H4=>ys.length < sizeLine/\SH a8/\Pv (i+1) (ys++[y]) H4 else SH a8/\Pv (i+1) ys H3) (hd:∀ ys H,Pv kvs.length ys H->Q H ys) :
  ja (As a o kvs) [] (d7 own fr σ) H (λys _ H=>Q H ys) g tt (oa te):=by
 refine mJ kvs.length hn SH Pv gq h0 hlen (λys H p=>⟨hl _ _ _ p,rfl⟩) (λi ys H hi p=>⟨hl _ _ _ p,hi⟩) (λi ys σ x H H' hi sh p y hz=>?_) hd
 obtain ⟨rfl,v,hv,rfl⟩:=y
 exact hs i ys σ v _ hv sh p hz
theorem aDW:Og X (λx y H Q=>∃ p xs i v,x=.ref p/\y=.int i/\ai X.K H p xs/\0<=i/\xs[i.toNat]?=some v/\Q v H):=by
 intro aa s σ H o i ov iv Q I ro ri h
 obtain ⟨p,xs,k,z,rfl,rfl,hq,h0,he,q⟩:=h
 cases ro
 obtain ⟨t,rfl⟩:=ri
 obtain ⟨its,r,pl,hz⟩:=I.list hq
 obtain ⟨w,ew,c8⟩:=r.get he
 have ax:k.toNat < xs.length:=(Qd.mp he).1
 have hsz:sizeLine < 2^62:=by rw [Rf]; decide
 exact Ms (Q:=EP X aa σ Q) pl.isList h0 (by omega) (by simpa using ew) ⟨z,H,I,c8,q⟩
section
variable {d:Addr} {es:Array DictEntry}
end
section
variable {σ:St}
end
section
variable {pos:Pos} {ek ev:Expr} {tk:TE}
end
section
variable {pos:Pos} {wi:TI} {tk:TE}
end
section
variable {d:Expr} {pos:Pos} {t:TE} {tk:TE}
end
section
variable {d v:Addr} {es:Array DictEntry}
end
section
variable {o:Expr} {pos:Pos}
end
section
variable {pos:Pos} {wi:TI} {U:List Int}
end
section
variable {d:Expr} {pos:Pos}
end
noncomputable def OP (K:Rb):R2:=λx y H Q=>∃ a b xs ys,x=.ref a/\y=.ref b/\ah K H a xs/\ah K H b ys/\xs.length+ys.length<=sizeLine/\(xs = []->Q (.ref b) H)/\(xs≠[]->ys = []->Q (.ref a) H)/\(xs≠[]->ys≠[]->∀ p,H p=none->Q (.ref p) (upd H p (.tup (xs++ys))))
theorem I? (hK:X.K=K):d6 X (binaryOp .Add) (OP K):=by
 subst hK
 intro aa s σ H x y v u Q I rx ry h
 obtain ⟨a,b,xs,ys,rfl,rfl,ha,hb,hz,q1,q2,q3⟩:=h
 by_cases hx:xs = []
 ·have q:=q1 hx
  subst hx
  cases rx
  cases ry
  obtain ⟨its,r1,⟨⟨cls,dd,data,sl⟩,ho,hc,n,hd⟩,_⟩:=I.tuple ha
  obtain ⟨rf,r2,⟨⟨DS,yd,data2,xk⟩,t9,me,n2,hd2⟩,_⟩:=I.tuple hb
  simp only at hc hd me hd2
  subst hc hd me hd2
  cases r1
  exact Ia ⟨_,ho,rfl⟩ ⟨_,t9,rfl⟩ Va Vp Ue Ub (Tx _ _) (mZ a b _ _ n n2 dd yd sl xk rfl) ⟨ho,t9,⟨.ref b,H,I,rfl,q⟩⟩
 ·exact P8 aa s σ H _ _ v u Q I rx ry ⟨a,b,xs,ys,rfl,rfl,ha,hb,hx,hz,λe=>q2 hx e,λe p hp=>q3 hx e p hp⟩
theorem I! {Q:VK} (ha:ah K H a xs) (hb:H b=some (.tup [y])) (hz:xs.length<=1000) (k:∀ p H',aD H H'->H' p=some (.tup (xs++[y]))->Q (.ref p) H'):OP K (.ref a) (.ref b) H Q :=
 ⟨a,b,xs,[y],rfl,rfl,ha,ah.of hb,by rw [Rf]; show _+1<=_; omega,λe=>k b H (aD.refl H) (by rw [e]; exact hb),λ_ e=>absurd e (by simp),λ_ _ p hp=>k p _ (aD.new hp) aB⟩
theorem aA0:typeLookup (.type "zip") "__len__" = pure none:=by rw [Rak,Mh]; kernel_rfl
theorem zY:typeLookup (.type "zip") "__length_hint__" = pure none:=by rw [Rak,Mh]; kernel_rfl
structure uk (k1 k2:Sk) (z TI TO i1 i2 l1 l2:Addr) (i:Nat) (h:Heap):Prop where
 zp:∃ f0 f1,F0 f0/\gJ h z TI TO f0 f1
 ti:IsPair h TI (.ref i1) (.ref i2)
 to:∃ x y,IsPair h TO x y
 a1:fj k1 h i1 l1 i
 a2:fj k2 h i2 l2 i
theorem uk.keep {z TI TO:Addr} (st:uk k1 k2 z TI TO i1 i2 l1 l2 i h) (k:∀ c∈[z,TI,TO,i1,i2],∀ o,h.get? c=some o->h'.get? c=some o):uk k1 k2 z TI TO i1 i2 l1 l2 i h':=by
 obtain ⟨⟨f0,f1,hf,hz⟩,fc,⟨x,y,ff⟩,h1,h2⟩:=st
 exact ⟨⟨f0,f1,hf,k z (by simp) _ hz⟩,k TI (by simp) _ fc,⟨x,y,k TO (by simp) _ ff⟩,h1.at λo e=>k i1 (by simp) o e,h2.at λo e=>k i2 (by simp) o e⟩
theorem uk.lt {z TI TO:Addr} (st:uk k1 k2 z TI TO i1 i2 l1 l2 i h):∀ c∈[z,TI,TO,i1,i2],c < h.objs.size:=by
 intro c hc
 obtain ⟨⟨f0,f1,hf,hz⟩,fc,⟨x,y,ff⟩,h1,h2⟩:=st
 simp only [Qk,Qn,or_false] at hc
 rcases hc with rfl | rfl | rfl | rfl | rfl
 ·exact Qm hz
 ·exact Qm fc
 ·exact Qm ff
 ·obtain ⟨o,e,_⟩:=h1.obj; exact Qm e
 ·obtain ⟨o,e,_⟩:=h2.obj; exact Qm e
noncomputable def Fo (H:Hp) (xs ys zs:List V):Prop:=∀ (j:Nat) (z:V),zs[j]?=some z->∃ q x y,z=.ref q/\xs[j]?=some x/\ys[j]?=some y/\H q=some (.tup [x,y])
noncomputable def Ao (S:Addr) (H H':Hp):Prop:=∀ b o,b≠S->H b=some o->H' b=some o
theorem Ao.sq {k:Sk} {l:Addr} (e:Ao S H H') (n:l≠S) (h:dz k K H l xs):dz k K H' l xs:=by
 cases k
 ·rcases h with (h | ⟨o,h⟩) | h
  ·exact .inl (.inl (e _ _ n h))
  ·exact .inl (.inr ⟨o,e _ _ n h⟩)
  ·exact .inr h
 ·rcases h with (h | ⟨o,h⟩) | h
  ·exact .inl (.inl (e _ _ n h))
  ·exact .inl (.inr ⟨o,e _ _ n h⟩)
  ·exact .inr h
section
variable {σ:St}
theorem vE (hc:X.calm=true) (A:Around) (hA:A.handled=none) {z TI TO:Addr} {res:Value} (DD:ZipApart z TI TO i1 i2 l1 l2) (nS:S∉[z,TI,TO,i1,i2]) (n1:l1≠S) (n2:l2≠S) (n:Nat) (hn:n=min xs.length ys.length) (hz:n<=sizeLine) :
  ∀ (k i:Nat) (s:Shared) (H:Hp) (zs:List V),n - i=k->i<=n->Inv X aa σ H s->(∀ c∈[z,TI,TO,i1,i2],lM X aa H c)->uk k1 k2 z TI TO i1 i2 l1 l2 i s.heap->dz k1 X.K H l1 xs->dz k2 X.K H l2 ys->H S=some (.lst zs)->zs.length=i->Fo H xs ys zs ->
  (∀ s' H' y3,Inv X aa σ H' s'->Ao S H H'->H' S=some (.lst y3)->y3.length=n->Fo H' xs ys y3->R (.ok (.ret res)) s') ->
  codeAny (model X.prog X.w) A (.builtin "list.extend.loop" ⟨[.ref S,.ref z,res],[]⟩) R s:=by
 intro k
 induction k with
 | zero =>
  intro i s H zs hk hi I hf st ha hb hS hl hp hR
  have ya:i=n:=by omega
  subst ya
  obtain ⟨⟨f0,f1,kh,xo⟩,fc,⟨x0,y0,ff⟩,h1,h2⟩:=st
  obtain ⟨its,rv,pa⟩:=I.cz ha
  obtain ⟨ia,c8,pb⟩:=I.cz hb
  have la:=rv.length
  have lb:=c8.length
  have hT:s.TypeIs (.ref z) "zip" := ⟨_,xo,rfl⟩
  refine Tb F.entry_extend_loop ?_
  rw [Around.under_plainId F.plain_extend_loop _]
  show wpAny _ A.in1 (pyNext (.ref z) >>= _) _ _ s
  refine Ra ?_
  unfold pyNext
  refine Ra (Tv (Rg (name:=Str.ofString "__next__") hT Rm (Rp Rm hT Ta
   (wY (A:=_) hA DD (oA k1 X.prog X.w i1 l1 its.toArray (Ne.symm DD.l1i1).symm) (oA k2 X.prog X.w i2 l2 ia.toArray DD.l2i2) xo kh fc ff ⟨h1,pa⟩ ⟨h2,pb⟩ (by rw [Qj,Qj]; omega) λh' e kp he=>?_) (Rz _))))
  obtain ⟨oe,qb,ui⟩:=he
  refine Ra (Vb (T := "StopIteration") (b:=true) ⟨oe,qb,ui⟩ Vk (Rc ?_))
  refine Rc (hR _ H zs ?_ (λ_ _ _ e=>e) hS hl hp)
  refine I.cy (t':=s.toks) [z,TO,i1,i2] (λc o aj e=>?_) (λc aj=>hf c ?_)
  ·simp only [Qk,Qn,or_false,not_or] at aj
   exact kp c o aj.1 aj.2.1 aj.2.2.1 aj.2.2.2 e
  ·simp only [Qk,Qn,or_false] at aj ⊢
   rcases aj with r | r | r | r
   ·exact .inl r
   ·exact .inr (.inr (.inl r))
   ·exact .inr (.inr (.inr (.inl r)))
   ·exact .inr (.inr (.inr (.inr r)))
 | succ k ih =>
  intro i s H zs hk hi I hf st ha hb hS hl hp hR
  have ax:i < n:=by omega
  have J_:=st.lt
  obtain ⟨⟨f0,f1,kh,xo⟩,fc,⟨x0,y0,ff⟩,h1,h2⟩:=st
  have l7:i < xs.length:=by omega
  have u_:i < ys.length:=by omega
  have hx:xs[i]?=some xs[i]:=Qc l7
  have hy:ys[i]?=some ys[i]:=Qc u_
  generalize xs[i]=x at hx
  generalize ys[i]=y at hy
  obtain ⟨its,rv,pa⟩:=I.cz ha
  obtain ⟨ia,c8,pb⟩:=I.cz hb
  obtain ⟨u,hu,ru⟩:=rv.get hx
  obtain ⟨v,hv,B5⟩:=c8.get hy
  have hT:s.TypeIs (.ref z) "zip" := ⟨_,xo,rfl⟩
  have xt:i < its.toArray.size:=by rw [Qj]; exact (Qd.mp hu).1
  have j6:i < ia.toArray.size:=by rw [Qj]; exact (Qd.mp hv).1
  refine Tb F.entry_extend_loop ?_
  rw [Around.under_plainId F.plain_extend_loop _]
  show wpAny _ A.in1 (pyNext (.ref z) >>= _) _ _ s
  refine Ra ?_
  unfold pyNext
  refine Ra (Tv (Rg (name:=Str.ofString "__next__") hT Rm (Rp Rm hT Ta
   (rQ DD (oA k1 X.prog X.w i1 l1 its.toArray DD.l1i1) (oA k2 X.prog X.w i2 l2 ia.toArray DD.l2i2) xo kh fc ff ⟨h1,pa⟩ ⟨h2,pb⟩ xt j6 λh' u' v' g0 g1 _ pu pv GY xp gx s1 s2 CJ hsz kp=>Rc ?_) (Rz _))))
  have eu:u'=u:=by
   have q:its[i]?=some u':=by simpa using pu
   rw [hu] at q
   exact (Option.some.inj q).symm
  have ev:v'=v:=by
   have q:ia[i]?=some v':=by simpa using pv
   rw [hv] at q
   exact (Option.some.inj q).symm
  subst eu ev
  have wo:=I.az.fresh (Qi s.heap.objs.size)
  have fz:=I.fk (Qi s.heap.objs.size) wo
  have I2:Inv X aa σ H { s with heap:=h' }:=by
   refine I.cy (t':=s.toks) [z,TO,i1,i2] (λc o aj e=>?_) (λc aj=>hf c ?_)
   ·simp only [Qk,Qn,or_false,not_or] at aj
    exact kp c o aj.1 aj.2.1 aj.2.2.1 aj.2.2.2 e
   ·simp only [Qk,Qn,or_false] at aj ⊢
    rcases aj with r | r | r | r
    ·exact .inl r
    ·exact .inr (.inr (.inl r))
    ·exact .inr (.inr (.inr (.inl r)))
    ·exact .inr (.inr (.inr (.inr r)))
  have I3:Inv X aa σ (upd H s.heap.objs.size (.tup [x,y])) { s with heap:=h' }:=by
   refine I2.iz (show bO X.prog X.w _ _ _ (.tup [x,y]) from ⟨by show 2<=sizeLine; rw [Rf]; decide,[u',v'],0,.cons ru (.cons B5 .nil),CJ⟩) wo fz.2.1 I.sz fz.2.2.2.2.1 fz.2.2.2.2.2
  have e3:∀ b o,H b=some o->upd H s.heap.objs.size (.tup [x,y]) b=some o:=aD.new wo
  have qS:S≠s.heap.objs.size:=λc=>by rw [c,wo] at hS; cases hS
  have t3:upd H s.heap.objs.size (.tup [x,y]) s.heap.objs.size=some (.tup [x,y]):=aB
  have ql:=e3 _ _ hS
  have f3:∀ c∈[z,TI,TO,i1,i2],lM X aa (upd H s.heap.objs.size (.tup [x,y])) c:=λc aj=>⟨by rw [aI (Jc (J_ c aj))]; exact (hf c aj).1,(hf c aj).2⟩
  generalize upd H s.heap.objs.size (.tup [x,y])=H3 at I3 e3 t3 ql f3
  obtain ⟨zz,Ls,nn,r,LU,e⟩:=I3.oq ql
  show wpAny _ A.in1 (updateSeq S (·.push (.ref s.heap.objs.size)) >>= _) _ _ _
  refine Ra ?_
  have I4:=I3.ot (t':=s.toks) (its':=Ls++[.ref s.heap.objs.size]) (f:=(·.push (.ref s.heap.objs.size))) (ys:=zs++[.ref s.heap.objs.size]) ql e (by simp) (r.append (.cons (show bE (.ref s.heap.objs.size) (.ref s.heap.objs.size) from rfl) .nil)) (by rw [Qr,Xe]; omega)
  have b4:Ao S H (upd H3 S (.lst (zs++[.ref s.heap.objs.size]))):=λb o nb q=>by rw [aI nb]; exact e3 _ _ q
  refine Tu e rfl (Rc ⟨To F.plain_extend_loop _,ih (i+1) _ (upd H3 S (.lst (zs++[.ref s.heap.objs.size]))) (zs++[.ref s.heap.objs.size]) (by omega) ax I4 (λc aj=>⟨by rw [aI (λq:c=S=>nS (q ▸ aj))]; exact (f3 c aj).1,(f3 c aj).2⟩) ?_ (b4.sq n1 ha) (b4.sq n2 hb) aB (by rw [Qr,Xe,hl]) ?_ λs' H' y3 I' b' qm dm x8=>hR s' H' y3 I' (λb o nb q=>b' b o nb (b4 b o nb q)) qm dm x8⟩)
   (by rw [Qj,<- LU]; omega) (by show (Ls.toArray.push _).size<=sizeLine+1; rw [Array.size_push,Qj,<- LU]; omega)
  ·refine uk.keep (h:=h') ⟨⟨_,_,GY,xp⟩,kp _ _ DD.TIz DD.TITO DD.TIi1 DD.TIi2 fc,gx,s1.1,s2.1⟩ λc aj o q=>?_
   exact (Jq _ _ (λq:S=c=>nS (q.symm ▸ aj))).trans q
  ·intro j w hw
   by_cases hj:j < zs.length
   ·rw [Jb hj] at hw
    obtain ⟨q,x',y',g1,g2,g3,g4⟩:=hp j w hw
    exact ⟨q,x',y',g1,g2,g3,b4 _ _ (λc=>by rw [c,hS] at g4; cases g4) g4⟩
   ·rw [Jp (by omega)] at hw
    have qi:j - zs.length=0:=by
     have:=(Qd.mp hw).1
     rw [Xe] at this
     omega
    rw [qi] at hw
    have ej:j=i:=by omega
    subst ej
    exact ⟨s.heap.objs.size,x,y,(Option.some.inj hw).symm,hx,hy,by rw [aI (Ne.symm qS)]; exact t3⟩
noncomputable def aDX (K:Rb) (k1 k2:Sk) (ta:TA):TE:=λσ H Q=>ta σ H λvs H1=>∃ a b xs ys,vs = [.ref a,.ref b]/\dz k1 K H1 a xs/\dz k2 K H1 b ys/\min xs.length ys.length<=sizeLine/\∀ p zs H2,aD H1 H2->H1 p=none->H2 p=some (.lst zs)->zs.length=min xs.length ys.length->Fo H2 xs ys zs->Q (.ref p) H2
theorem aA2 (k1 k2:Sk) {a b:Expr} {ta:TA} {pos JH:Pos} (hc:X.calm=true) (vc:Gl X "list") (U6:X.mg "list" = none) (hg:Gl X "zip") (hm:X.mg "zip" = none) (ha:PA X [a,b] ta) (hs:starEach [a,b] X.env = [(false,eval a X.env),(false,eval b X.env)]:=by rfl) (j6:starEach [b] X.env = [(false,eval b X.env)]:=by rfl) :
  PE X (.Call (.Name "list" p2) [.Call (.Name "zip" p) [a,b] [] pos] [] JH) (aDX X.K k1 k2 ta):=by
 intro aa s σ H Q I h
 refine Ts (iB (u:=.type "list") I vc U6 (by decide +kernel) ?_ (by decide) (by decide))
 refine PyProof.Rows.callWith_type1 ?_ rfl rfl
 show wpAny _ _ (spliced ((false,eval (.Call (.Name "zip" p) [a,b] [] pos) X.env)::[])) _ _ s
 refine Calls.spliced_cons ?_
 refine Mk (iB (u:=.type "zip") I hg hm (by decide +kernel) (PyProof.Rows.callWith_type1 (a7 (ha pos aa s σ H _ I h) λus s1 aq=>?_) (by rw [hs,j6]) (by rw [j6]; rfl)))
 obtain ⟨vs,H1,I1,r1,q1⟩:=aq
 obtain ⟨l1,l2,xs,ys,rfl,hA,hB,U5,q⟩:=q1
 obtain ⟨u1,u2,rfl,oz,ur⟩:=mX r1
 cases oz
 cases ur
 obtain ⟨its,rv,pa⟩:=I1.cz hA
 obtain ⟨ia,c8,pb⟩:=I1.cz hB
 refine Vc Ve (by decide) (Us _ _) (Uu _ _) (λobj=>Up obj _ _) Uv (rR k1 k2 l1 l2 its.toArray ia.toArray) ⟨pa,pb,?_⟩
 have n1:(mn k1 s1.heap l1).objs.size=s1.heap.objs.size+1:=Jk ..
 have n2:(pg k1 k2 s1.heap l1 l2).objs.size=s1.heap.objs.size+2:=by rw [Jk,n1]
 have n3:(pe k1 k2 s1.heap l1 l2).objs.size=s1.heap.objs.size+3:=by rw [Jk,n2]
 have n4:(xi k1 k2 s1.heap l1 l2).objs.size=s1.heap.objs.size+4:=by rw [Jk,n3]
 have n5:(gm k1 k2 s1.heap l1 l2).objs.size=s1.heap.objs.size+5:=by rw [Jk,n4]
 have g5:IsZip (gm k1 k2 s1.heap l1 l2) (xi k1 k2 s1.heap l1 l2).objs.size (pg k1 k2 s1.heap l1 l2).objs.size (pe k1 k2 s1.heap l1 l2).objs.size .none:=Qh _ rfl
 have g4:IsPair (gm k1 k2 s1.heap l1 l2) (pe k1 k2 s1.heap l1 l2).objs.size .none .none:=Qb _ (Qh _ rfl)
 have g3:IsPair (gm k1 k2 s1.heap l1 l2) (pg k1 k2 s1.heap l1 l2).objs.size (.ref s1.heap.objs.size) (.ref (mn k1 s1.heap l1).objs.size):=Qb _ (Qb _ (Qh _ rfl))
 have g2:fj k2 (gm k1 k2 s1.heap l1 l2) (mn k1 s1.heap l1).objs.size l2 0:=(fj.new k2 (mn k1 s1.heap l1) l2).at λo e=>Qb _ (Qb _ (Qb _ e))
 have g1:fj k1 (gm k1 k2 s1.heap l1 l2) s1.heap.objs.size l1 0:=(fj.new k1 s1.heap l1).at λo e=>Qb _ (Qb _ (Qb _ (Qb _ e)))
 have kp:∀ c o,s1.heap.get? c=some o->(gm k1 k2 s1.heap l1 l2).get? c=some o:=λc o e=>Qb _ (Qb _ (Qb _ (Qb _ (Qb _ e))))
 refine ⟨⟨_,g5,rfl⟩,?_⟩
 refine Calls.spliced_nil ?_
 rw [n1,n2,n3,n4] at *
 have I2:Inv X aa σ H1 { s1 with heap:=gm k1 k2 s1.heap l1 l2 }:=I1.kept (t':=s1.toks) kp
 generalize gm k1 k2 s1.heap l1 l2=h5 at *
 have st:uk k1 k2 (s1.heap.objs.size+4) (s1.heap.objs.size+2) (s1.heap.objs.size+3) s1.heap.objs.size (s1.heap.objs.size+1) l1 l2 0 h5:=⟨⟨.none,false,.inl rfl,g5⟩,g3,⟨_,_,g4⟩,g1,g2⟩
 have m8:∀ c∈[s1.heap.objs.size+4,s1.heap.objs.size+2,s1.heap.objs.size+3,s1.heap.objs.size,s1.heap.objs.size+1],s1.heap.objs.size<=c/\c < s1.heap.objs.size+5:=λc hc=>by
  simp only [Qk,Qn,or_false] at hc
  rcases hc with r | r | r | r | r <;> omega
 have jd:∀ c∈[s1.heap.objs.size+4,s1.heap.objs.size+2,s1.heap.objs.size+3,s1.heap.objs.size,s1.heap.objs.size+1],lM X aa H1 c:=λc hc=>I1.fk (m8 c hc).1 (I1.az.fresh (m8 c hc).1)
 have DD:ZipApart (s1.heap.objs.size+4) (s1.heap.objs.size+2) (s1.heap.objs.size+3) s1.heap.objs.size (s1.heap.objs.size+1) l1 l2:=by
  have d:∀ i j:Nat,i≠j->s1.heap.objs.size+i≠s1.heap.objs.size+j:=λi j h=>by omega
  have a1:∀ c∈[s1.heap.objs.size+4,s1.heap.objs.size+2,s1.heap.objs.size+3,s1.heap.objs.size,s1.heap.objs.size+1],l1≠c:=λc aj=>I1.bx hA (jd c aj)
  have a2:∀ c∈[s1.heap.objs.size+4,s1.heap.objs.size+2,s1.heap.objs.size+3,s1.heap.objs.size,s1.heap.objs.size+1],l2≠c:=λc aj=>I1.bx hB (jd c aj)
  exact ⟨d 2 4 (by decide),d 3 4 (by decide),d 0 4 (by decide),d 1 4 (by decide),d 2 3 (by decide),d 2 0 (by decide),d 2 1 (by decide),d 3 0 (by decide),d 3 1 (by decide),d 0 1 (by decide),
   a1 _ (by simp),a1 _ (by simp),a1 _ (by simp),a1 _ (by simp),a2 _ (by simp),a2 _ (by simp),a2 _ (by simp),a2 _ (by simp)⟩
 generalize uu:s1.heap.objs.size+4=z at *
 generalize hTT:s1.heap.objs.size+2=TI at *
 generalize gx:s1.heap.objs.size+3=TO at *
 generalize aao:s1.heap.objs.size+1=i2 at *
 have hsz:∀ c∈[z,TI,TO,s1.heap.objs.size,i2],c < h5.objs.size:=st.lt
 generalize UL:({ s1 with heap:=h5 }:Shared)=s5 at I2
 have e5:s5.heap=h5:=by rw [<- UL]
 rw [<- e5] at st hsz g5
 have hT:s5.TypeIs (.ref z) "zip" := ⟨_,g5,rfl⟩
 refine callType_codes (Q₁:=λobj bq=>obj=.ref s5.heap.objs.size/\bq={ s5 with heap:=s5.heap.push { cls:=.type "list",data:=.seq #[] } }) F.called_list (F.typeCall_list_1 _) F.entry_list_init
  (code_list_new _ ⟨rfl,rfl⟩) λobj bq i8=>?_
 obtain ⟨rfl,rfl⟩:=i8
 have I6:=I2.AG (t':=s5.toks) (ys:=[]) (its:=[]) .nil (Jl _)
 have ue:=I2.fresh
 have hS6:upd H1 s5.heap.objs.size (.lst []) s5.heap.objs.size=some (.lst []):=aB
 have s6:aD H1 (upd H1 s5.heap.objs.size (.lst [])):=aD.new ue
 have LY:=I2.fk (H':=H1) (Qi s5.heap.objs.size) ue
 have Lf:l1≠s5.heap.objs.size:=I2.bx hA LY
 have Es:l2≠s5.heap.objs.size:=I2.bx hB LY
 have nS:s5.heap.objs.size∉[z,TI,TO,s1.heap.objs.size,i2]:=λc=>Js _ (hsz _ c)
 have LZ:∀ c∈[z,TI,TO,s1.heap.objs.size,i2],lM X aa (upd H1 s5.heap.objs.size (.lst [])) c:=λc aj=>⟨by rw [aI (Jc (hsz c aj))]; exact (jd c aj).1,(jd c aj).2⟩
 have Sv:uk k1 k2 z TI TO s1.heap.objs.size i2 l1 l2 0 (s5.heap.push { cls:=.type "list",data:=.seq #[] }):=st.keep λc _ o e=>Qb _ e
 have hS:(s5.heap.push { cls:=.type "list",data:=.seq #[] }).get? s5.heap.objs.size=some { cls:=.type "list",data:=.seq #[] }:=Qh _ rfl
 have YY:Ao s5.heap.objs.size H1 (upd H1 s5.heap.objs.size (.lst [])):=λb o _ e=>s6 b o e
 refine ⟨⟨_,hS,rfl⟩,F.args_list_init_2 _ _,?_⟩
 show wpAny _ X.A.in1.in1 (do let old<-Builtin.List.listItems (.ref s5.heap.objs.size); Builtin.List.listUpdate (.ref s5.heap.objs.size) (λ_=>#[]); letGo old.toList.reverse; Builtin.List.listExtendWith (.ref s5.heap.objs.size) (.ref z) .none) _ _ _
 refine Ra ?_
 unfold Builtin.List.listItems
 refine Ra (Ry hS rfl (Rc ?_))
 show wpAny _ X.A.in1.in1 (updateSeq s5.heap.objs.size (λ_=>#[]) >>= λ_=>letGo (#[]:Array Value).toList.reverse >>= λ_=>Builtin.List.listExtendWith (.ref s5.heap.objs.size) (.ref z) .none) _ _ _
 refine Ra (Tu hS rfl ?_)
 have I7:=I6.ot (t':=s5.toks) (f:=λ_=>#[]) (its':=[]) (ys:=[]) aB hS rfl .nil (Jl _)
 have EK:=Xr (Obj.mapSeq (λ_=>(#[]:Array Value))) hS rfl
 have xj:=Sv.keep (h':=(s5.heap.push { cls:=.type "list",data:=.seq #[] }).update s5.heap.objs.size (Obj.mapSeq (λ_=>(#[]:Array Value)))) λc aj o q=>(Jq _ _ (λq:s5.heap.objs.size=c=>nS (q.symm ▸ aj))).trans q
 have N5:Ao s5.heap.objs.size H1 (upd (upd H1 s5.heap.objs.size (.lst [])) s5.heap.objs.size (.lst [])):=λb o nb e=>by rw [aI nb]; exact YY b o nb e
 have G0:∀ c∈[z,TI,TO,s1.heap.objs.size,i2],lM X aa (upd (upd H1 s5.heap.objs.size (.lst [])) s5.heap.objs.size (.lst [])) c:=λc aj=>⟨by rw [aI (Jc (hsz c aj))]; exact (LZ c aj).1,(LZ c aj).2⟩
 have g7:IsZip ((s5.heap.push { cls:=.type "list",data:=.seq #[] }).update s5.heap.objs.size (Obj.mapSeq (λ_=>(#[]:Array Value)))) z TI TO .none:=(Jq _ _ (λq:s5.heap.objs.size=z=>nS (by rw [q]; simp))).trans (Qb _ g5)
 refine Ra (Tr ?_)
 generalize (s5.heap.push { cls:=.type "list",data:=.seq #[] }).update s5.heap.objs.size (Obj.mapSeq (λ_=>(#[]:Array Value)))=h7 at I7 EK xj g7
 have G7:({ s5 with heap:=h7 }:Shared).TypeIs (.ref z) "zip" := by obtain ⟨f0,f1,_,hz⟩:=xj.zp; exact ⟨_,hz,rfl⟩
 have TH:s5.heap.objs.size≠z:=λe=>nS (by rw [e]; simp)
 unfold Builtin.List.listExtendWith
 refine Ra (Ib G7 ?_)
 have h1:Builtin.List.listSameRef (.ref s5.heap.objs.size) (.ref z)=false:=by simp [Builtin.List.listSameRef,TH]
 have h2:(Value.type "zip" == Value.type "list")=false:=by decide
 have h3:(Value.type "zip" == Value.type "tuple")=false:=by decide
 simp only [h1,h2,h3,Bool.or_false,Ju,if_false]
 have key:∀ (H':Hp) (h':Heap),Inv X aa σ H' { s5 with heap:=h' }->Ao s5.heap.objs.size H1 H'->(∀ c∈[z,TI,TO,s1.heap.objs.size,i2],lM X aa H' c)->uk k1 k2 z TI TO s1.heap.objs.size i2 l1 l2 0 h'->H' s5.heap.objs.size=some (.lst []) ->
   codeAny (model X.prog X.w) X.A.in1 (.builtin "list.extend.loop" ⟨[.ref s5.heap.objs.size,.ref z,.none],[]⟩) (wants (λr gn=>r=Value.none/\EP X aa σ Q (Value.ref s5.heap.objs.size) gn) X.xe) { s5 with heap:=h' }:=by
  intro H' h' I' b' f' mr qm
  refine vE hc X.A.in1 (I1.ok.hd hc) DD nS Lf Es _ rfl U5 (min xs.length ys.length - 0) 0 _ H' [] rfl (Jl _) I' f' mr (b'.sq Lf hA) (b'.sq Es hB) qm rfl (λj w hw=>by simp at hw) λs' H2 zs I8 b8 EJ zu UU=>?_
  refine ⟨rfl,.ref s5.heap.objs.size,H2,I8,rfl,q _ zs H2 (λb o e=>?_) ue EJ zu UU⟩
  have nb:b≠s5.heap.objs.size:=λc=>by rw [c,ue] at e; cases e
  exact b8 b o nb (b' b o nb e)
 refine Ra (Uc g7 ?_)
 refine Ra (Rn ?_)
 unfold Builtin.List.listLengthHint
 refine Ra (Iu G7 aA0 ?_)
 show wpAny _ X.A.in1.in1 (specialOf (Value.ref z) (Str.ofString "__length_hint__") >>= _) _ _ _
 refine Ra (Iu G7 zY ?_)
 refine Rc ?_
 refine Rai (λ_=>?_) (λ_=>Rc ⟨To F.plain_extend_loop _,key _ h7 I7 N5 G0 xj aB⟩)
 refine Ra (Ua ?_)
 refine Ra ?_
 show wpAny _ X.A.in1.in1 (updateSeq s5.heap.objs.size (·.push .none) >>= λ_=>updateSeq s5.heap.objs.size (·.pop)) _ _ _
 refine Ra (Tu EK rfl ?_)
 have I8:=I7.ot (t':=s5.toks) (f:=(·.push .none)) (its':=[.none]) (ys:=[.bj]) aB EK rfl (.cons rfl .nil) (by rw [Rf]; decide)
 have EJ:=Xr (Obj.mapSeq (·.push Value.none)) EK rfl
 refine Tu (hz:=by seq_fits) EJ rfl ?_
 have I9:=I8.ot (t':=s5.toks) (f:=(·.pop)) (its':=[]) (ys:=[]) aB EJ rfl .nil (Jl _)
 refine Rc ⟨To F.plain_extend_loop _,key _ _ I9 (λb o nb e=>?_) (λc aj=>?_) ?_ aB⟩
 ·rw [aI nb,aI nb]; exact N5 b o nb e
 ·have nc:=Jc (hsz c aj)
  exact ⟨by rw [aI nc,aI nc]; exact (G0 c aj).1,(G0 c aj).2⟩
 ·exact xj.keep λc aj o q=>(Jq _ _ (λq:s5.heap.objs.size=c=>nS (q.symm ▸ aj))).trans ((Jq _ _ (λq:s5.heap.objs.size=c=>nS (q.symm ▸ aj))).trans q)
end
theorem aA3 (hK:X.K=K) (hc:X.calm=true):dQ X (.builtin "max") (λxs H Q=>∃ (p:Addr) (ns:List Int),xs = [.ref p]/\ah K H p (ns.map V.int)/\0 < ns.length/\∀ M,M∈ns->(∀ a∈ns,a<=M)->Q (.int M) H):=by
 subst hK
 intro aa s σ H xs us Q I r h
 obtain ⟨p,ns,rfl,hx,br,q⟩:=h
 obtain ⟨u,rfl,rx⟩:=fO r
 cases rx
 obtain ⟨its,rv,pl,hz⟩:=I.tuple hx
 have hi:IntsAre its ns:=fQ rv
 obtain ⟨xs,e⟩:=hi.allInts.items
 have fw:ns=xs.toList.map (·.1):=by
  rw [<- hi.numsOf,<- Mb,<- e]
 have hsz:0 < xs.size:=by
  have h3:=br; rw [fw,Qa,Array.length_toList] at h3; exact h3
 rw [e] at pl
 have ax:p < s.heap.objs.size:=by obtain ⟨o,e,_⟩:=pl; exact Qm e
 refine call_max_walk (Uj pl ?_)
 refine ⟨s.heap.objs.size,_,_,_,_,_,_,rfl,Walks.tuple (A:=X.A.in1) (I.ok.hd hc) s.heap.objs.size p (Jc ax) (intItems xs),⟨⟨_,Qh _ rfl,rfl,rfl⟩,pl.push _⟩,?_,by simpa [intItems] using hsz,CmpOf.ints_gt (numAt xs) (λ_ _=>Vl),λv h' tk hv hk=>?_⟩
 ·intro b l8
  rw [Jk]
  rcases Qk.mp l8 with e | e
  ·rw [e]; exact Xw _
  ·have e':b=p:=by simpa using e
   rw [e']; exact Xd ax
 have hv:(intItems xs)[argBest (λi j=>decide (numAt xs i > numAt xs j)) (xs.size - 1)]?=some v:=by simpa [intItems] using hv
 obtain ⟨t,rfl⟩:=Vl hv
 obtain ⟨h1,h2⟩:=argBest_gt (numAt xs) (xs.size - 1)
 have zv:∀ b o,s.heap.get? b=some o->h'.get? b=some o:=λb o e=>by
  refine hk b o (λhm=>?_) (Qb _ e)
  rcases Qk.mp hm with e1 | hm
  ·exact absurd (e1 ▸ Qm e) (Js _)
  ·cases hm
 refine ⟨.int _,H,I.kept zv,⟨_,rfl⟩,q _ ?_ λa ha=>?_⟩
 ·rw [fw,Ic]; exact getD_mem (by rw [Qa,Array.length_toList]; omega)
 ·rw [fw] at ha
  obtain ⟨j,hj,rfl⟩:=mem_getD ha
  rw [Qa,Array.length_toList] at hj
  rw [<- Ic]; exact h2 j (by omega)
theorem OO:bootBuiltins "max" = some (.builtin "max"):=by decide +kernel
section
variable {pos:Pos} {it:Value} {D:Addr} {env:Env}
theorem sG:compTurn (.DictComp kx vx [⟨tg,iter,[],0⟩,⟨ka,bc,[],0⟩] scope pos) 0 it (.ref D) env=(standAt iter.pos >>= λ_=>pyNext it >>= λr=>match r with
   | none=>pure (.done .next)
   | some v=>letOwnedTupleGo tg it v >>= λ_=>assign tg env v >>= λ_ =>
    (eval bc env >>= λx=>standAt bc.pos >>= λ_=>foldedSetIterable bc env x >>= λx=>holding [x] (pyIter x) >>= λi =>
     runOwn (.compStart (.DictComp kx vx [⟨tg,iter,[],0⟩,⟨ka,bc,[],0⟩] scope pos) 1 i (.ref D) env) env >>= λ_ =>
     again (.compLoop (.DictComp kx vx [⟨tg,iter,[],0⟩,⟨ka,bc,[],0⟩] scope pos) 0 it (.ref D) env))):=by rfl
theorem kW {acc:Value}
  (h0:codeAny (model prog w) A (.compLoop (.DictComp kx vx [⟨tg,iter,[],0⟩,⟨ka,bc,[],0⟩] scope pos) 1 it acc env) R s)
  (h:wpAny (model prog w) A (pyIter it) (λCc s'=>codeAny (model prog w) A (.compLoop (.DictComp kx vx [⟨tg,iter,[],0⟩,⟨ka,bc,[],0⟩] scope pos) 1 Cc acc env) R s')
   (notedBy (model prog w) A env λx s'=>R (.error x) s') s) :
  codeAny (model prog w) A (.compStart (.DictComp kx vx [⟨tg,iter,[],0⟩,⟨ka,bc,[],0⟩] scope pos) 1 it acc env) R s:=by
 refine Ir ?_
 show wpAny _ _ ((compStart (.DictComp kx vx [⟨tg,iter,[],0⟩,⟨ka,bc,[],0⟩] scope pos) 1 it acc env).onRaise (λx=>do noteFrame x env; standAt theWindowsPlace)) _ _ s
 refine wpAny_notedAt ?_
 unfold compStart
 show wpAny _ _ (ask >>= _) _ _ s
 refine Ra (My (wpAny_ite ?_))
 split
 ·first
   | exact Ra (Rc (Rc (And.intro rfl h0)))
   | exact Rc (And.intro rfl h0)
 ·first
   | exact Ra (Ua (Ra (Tc (Ra (Ru h (λCc s' h'=>Rc (And.intro rfl h')) λ_ _ x=>x)))))
   | (refine Ra (Ua ?_); show wpAny _ _ (standAt bc.pos >>= _) _ _ s; exact Ra (Tc (Ra (Ru h (λCc s' h'=>Rc (And.intro rfl h')) λ_ _ x=>x))))
theorem H?:c7 prog w A (.DictComp kx vx [⟨tg,iter,[],0⟩,⟨ka,bc,[],0⟩] scope pos) 0 tg iter [] (Hx (.DictComp kx vx [⟨tg,iter,[],0⟩,⟨ka,bc,[],0⟩] scope pos) bc) where
 BY:=λ_ _ _=>⟨rfl,rfl⟩
 turn:=λit D env=>by
  rw [sG]
  refine congrArg (standAt iter.pos >>= ·) (funext λ_=>congrArg (pyNext it >>= ·) (funext λr=>?_))
  cases r with
  | none=>rfl
  | some v =>
   refine congrArg (letOwnedTupleGo tg it v >>= ·) (funext λ_=>congrArg (assign tg env v >>= ·) (funext λ_=>?_))
   simp only [Zn,pure_bind,if_true,Hx,bind_assoc]
 start:=codeAny_compStart_dict
theorem H!:c7 prog w A (.DictComp kx vx [⟨tg,iter,[],0⟩,⟨ka,bc,[],0⟩] scope pos) 1 ka bc [] (N9 kx vx) where
 BY:=λ_ _ _=>⟨rfl,rfl⟩
 turn:=λ_ _ _=>rfl
 start:=kW
end
noncomputable def G? (own:Nat) (fr:List Nat) (wi:TI) (g:TG) (mq:TI) (g2:TG) (tk tv:TE):TE:=λσ H Q=>wi σ H λJ H1=>ja J [] (d7 own fr σ) H1 (λys _ H=>∀ p,H p=none->Q (.ref p) (upd H p (.dK ys))) g pF (Ef mq g2 (B0 Fq tk tv))
section
variable {pos:Pos} {wi mq:TI} {tk:TE}
theorem aCJ (S:bg X scope z own fr a9) (hc:X.calm=true) (hi:PI X tg iter wi) (hg:∀ C s0 H0 fp,PG (bY X scope z (own++a9) C s0 H0 fp) tg g) (u_:∀ C s0 H0 fp,PI (bY X scope z (own++a9) C s0 H0 fp) ka bc mq) (GX:∀ C s0 H0 fp,PG (bY X scope z (own++a9) C s0 H0 fp) ka g2)
  (hk:∀ C s0 H0 fp,PE (bY X scope z (own++a9) C s0 H0 fp) kx tk) (he:∀ C s0 H0 fp,PE (bY X scope z (own++a9) C s0 H0 fp) vx tv) (hs:∀ x,foldedSetIterable iter X.env x=pure x:=by intro _; rfl) (j6:∀ C s0 H0 fp x,foldedSetIterable bc (bY X scope z (own++a9) C s0 H0 fp).env x=pure x:=by intro _ _ _ _ _; rfl) :
  PE X (.DictComp kx vx [⟨tg,iter,[],0⟩,⟨ka,bc,[],0⟩] scope pos) (G? own.length fr wi g mq g2 tk tv) :=
 zC S rfl H? HI hc (arm_eval_DictComp ..) hi hg (λ_ _ _ _=>bZ) (λC s0 H0 fp=>Z_ H! HI (λ_ _ z=>z) hc (j6 C s0 H0 fp) (u_ C s0 H0 fp) (GX C s0 H0 fp) (Z1 HI (hk C s0 H0 fp) (he C s0 H0 fp) λ{D a s H x y kv vv R} _ ⟨hl,its,v,d⟩ r1 r2 ⟨k,ek,lt,q⟩=>by
  subst ek
  have dm:=v.length
  exact wpAny_dictSet_pairs (knd:=cG X.prog X.w) (rX r1) d (λHh Az Av=>⟨Hh,_,_,rfl,Av,⟨Qw (iO _ _ _) lt,_,v.put k r2,Az⟩,q⟩) (by rw [<- dm]; exact Ya lt))) hs
  λ⟨hl,its,v,d⟩ hn hm q=>⟨.dK _,⟨hl,hm,its,v,d⟩,q _ hn⟩
end
section
variable {own:Nat} {mq:TI} {tk:TE} {σ:St} {Q:Hp->List (Key×V)->Prop}
theorem zZ (Pv:Nat->List (Key×V)->St->Hp->Prop) (h0:Pv 0 [] (d7 own fr σ) H) (hl:∀ i ys σ H,Pv i ys σ H->ai K H a xs) (hs:∀ i x ys σ H,xs[i]?=some x->Pv i ys σ H->g x σ H λa8 H2=>Ef mq g2 (B0 Fq tk tv) ys a8 H2 (Pv (i+1))) (hd:∀ ys σ H,Pv xs.length ys σ H->Q H ys):ja (yj K a) [] (d7 own fr σ) H (λys _ H=>Q H ys) g pF (Ef mq g2 (B0 Fq tk tv)):=by
 refine ⟨λi m ys ar H=>m=xs.length - i/\i<=xs.length/\Pv i ys ar H,⟨xs.length,by simp,Jl _,h0⟩,?_⟩
 rintro i m ys ar H ⟨rfl,hi,p⟩
 have q:=hl _ _ _ _ p
 by_cases ax:i < xs.length
 ·refine .inr ⟨⟨xs,xs[i],q,Qc ax⟩,Pv (i+1),λBc a8 H2 p'=>⟨xs.length - (i+1),by omega,rfl,ax,p'⟩,λx H' y=>?_⟩
  obtain ⟨e,y⟩:=y
  subst e
  exact hs i x ys ar _ (y xs q) p
 ·have e:i=xs.length:=by omega
  subst e
  exact .inl ⟨⟨xs,q,Qi _⟩,hd _ _ _ p⟩
theorem xK {ys:List (Key×V)} {a8:St} {H3:Hp} {N:List (Key×V)->St->Hp->Prop} (Pw:Nat->List (Key×V)->St->Hp->Prop) (h0:Pw 0 ys a8 H3) (hl:∀ j ys σ H,Pw j ys σ H->ah K H b zs) (hs:∀ j z ys σ H,zs[j]?=some z->Pw j ys σ H->g2 z σ H λFD H5=>tk FD H5 λkx H6=>tv FD H6 λy H7=>∃ k,kx=kV k/\ys.length < sizeLine/\Pw (j+1) (fU ys k y) FD H7) (hd:∀ ys σ H,Pw zs.length ys σ H->N ys σ H) :
  ja (yh K b) ys a8 H3 N g2 pF (B0 Fq tk tv):=by
 refine ⟨λj m ys σ H=>m=zs.length - j/\j<=zs.length/\Pw j ys σ H,⟨zs.length,by simp,Jl _,h0⟩,?_⟩
 rintro j m ys σ H ⟨rfl,hj,p⟩
 have q:=hl _ _ _ _ p
 by_cases ax:j < zs.length
 ·refine .inr ⟨⟨zs,zs[j],q,Qc ax⟩,Pw (j+1),λBc a8 H2 p'=>⟨zs.length - (j+1),by omega,rfl,ax,p'⟩,λx H' y=>?_⟩
  obtain ⟨e,y⟩:=y
  subst e
  exact hs j x ys σ _ (y zs q) p
 ·have e:j=zs.length:=by omega
  subst e
  exact .inl ⟨⟨zs,q,Qi _⟩,hd _ _ _ p⟩
end
noncomputable def Ω:V->List V->Hp->VK->Prop:=λx vs H Q=>∃ (a:Addr) (kvs:List (Key×V)) (k:Key) (df:V),x=.ref a/\vs = [kV k,df]/\Rd H a (.dK kvs)/\Q ((bV kvs k).getD df) H
theorem PR:Dg X "dict.get" Ω:=by
 intro aa s σ H x vs v us Q I rx rv h
 obtain ⟨a,kvs,k,df,rfl,rfl,e,q⟩:=h
 cases rx
 obtain ⟨u,ud,rfl,ru,rd⟩:=mX rv
 obtain ⟨z,hd,xs,rel,dd⟩:=zP I.az e
 exact call_meetsIn Uw dd.typeIs PySem.F.entry_dict_get (PySem.F.args_dict_get_3 _ _ _) (meets_dict_get_default (cG X.prog X.w) a (rX ru) hd ud) ⟨_,dd.mapOf,_,H,I.tok _,(rel.val k).getD rd,q⟩
end L2
namespace Ab
noncomputable def mU (ws:List (List Int)) (hs:List Int) (g:Int) (w:Nat) (t:Int):Prop:=hs[w]?=some g/\∃ l,ws[w]?=some l/\t∈l/\t≠g
noncomputable def RL (ws:List (List Int)) (hs:List Int):Nat->Int->Int->Prop
 | 0,h,x=>h=x
 | k+1,h,x=>h=x∨∃ w o,mU ws hs h w o/\RL ws hs k o x
noncomputable def jF (ws:List (List Int)) (hs:List Int):Int->List (Nat×Int×Int)->Int->Prop
 | h,[],x=>h=x
 | h,s::r,x=>s.2.1=h/\mU ws hs h s.1 s.2.2/\jF ws hs s.2.2 r x
theorem RL.refl:∀ (k:Nat) (h:Int),RL ws hs k h h
 | 0,_=>rfl
 | _+1,_=>.inl rfl
theorem RL.succ:∀ {k:Nat} {h x:Int},RL ws hs k h x->RL ws hs (k+1) h x
 | 0,_,_,e=>.inl e
 | k+1,_,_,.inl e=>.inl e
 | k+1,_,_,.inr ⟨w,o,e,r⟩=>.inr ⟨w,o,e,RL.succ r⟩
theorem RL.mono {k m:Nat} {h x:Int} (r:RL ws hs k h x) (le:k<=m):RL ws hs m h x:=by
 induction le with
 | refl=>exact r
 | step _ ih=>exact ih.succ
theorem RL.snoc:∀ {k:Nat} {h g t:Int} {w:Nat},RL ws hs k h g->mU ws hs g w t->RL ws hs (k+1) h t
 | 0,_,_,_,w,e,d=>by subst e; exact .inr ⟨w,_,d,rfl⟩
 | k+1,_,_,_,w,.inl e,d=>by subst e; exact .inr ⟨w,_,d,RL.refl _ _⟩
 | k+1,_,_,_,_,.inr ⟨w',o,e,r⟩,d=>.inr ⟨w',o,e,RL.snoc r d⟩
theorem RL.closed {S:Int->Prop} (hc:∀ g w t,S g->mU ws hs g w t->S t):∀ {k:Nat} {h x:Int},S h->RL ws hs k h x->S x
 | 0,_,_,s,e=>e ▸ s
 | _+1,_,_,s,.inl e=>e ▸ s
 | _+1,_,_,s,.inr ⟨w,o,e,r⟩=>RL.closed hc (hc _ w o s e) r
noncomputable def oG (ws:List (List Int)) (hs:List Int) (n:Nat) (h v:Int):Prop:=(∃ x,RL ws hs n h x/\v=((hs.count x:Nat):Int))/\∀ k x,RL ws hs k h x->v<=((hs.count x:Nat):Int)
theorem oG.le {h v:Int} (m:oG ws hs n h v):v<=((hs.count h:Nat):Int):=m.2 0 h rfl
theorem oG.w9 {h o v u:Int} {w:Nat} (m:oG ws hs n h v) (m2:oG ws hs n o u) (e:mU ws hs h w o):v<=u:=by
 obtain ⟨x,r,rfl⟩:=m2.1
 exact m.2 (n+1) x (show RL ws hs (n+1) h x from .inr ⟨w,o,e,r⟩)
noncomputable def kJ (n:Int) (ws:List (List Int)) (hs lv:List Int):Prop:=lv.length=n.toNat/\∀ (h:Nat) (v:Int),lv[h]?=some v->oG ws hs n.toNat h v/\((hs.count (h:Int):Nat):Int) - v < 2
noncomputable def qD (n:Int) (ws:List (List Int)) (hs:List Int) (ss:List (Nat×Int×Int)):Prop :=
 ∃ h x,ss≠[]/\jF ws hs h ss x/\(h::ss.map (·.2.2)).Nodup/\0<=h/\h < n/\RL ws hs n.toNat h x/\2<=((hs.count h:Nat):Int) - ((hs.count x:Nat):Int)
theorem iY:∀ (n:Nat) (l:List Int),l.Nodup->(∀ x∈l,0<=x/\x < (n:Int))->l.length<=n
 | 0,[],_,_=>Qi _
 | 0,x::_,_,h=>by have:=h x (.head _); omega
 | n+1,l,hn,h=>by
  by_cases hm:(n:Int)∈l
  ·have h1:=iY n (l.erase (n:Int)) (hn.erase _) λx hx=>by
    have h2:=(hn.mem_erase_iff).mp hx
    have h3:=h x h2.2
    have:=h2.1
    omega
   rw [List.length_erase_of_mem hm] at h1
   omega
  ·have h1:=iY n l hn λx hx=>by
    have h3:=h x hx
    have:x≠(n:Int):=λz=>hm (z ▸ hx)
    omega
   omega
end Ab
namespace L2
open PySem PySem.Spec PyProof.Rows
structure Fn (K:Rb) (mg:Str->Option Value) (x:Str) (st:Stmt) (ps:List Str) (f:Addr) (fd:FuncData):Prop where
 fn:uo K x x st f fd
 Lq:mg x=some (.ref f)
 kp:Ud K (.ref f)=true
 bd:vL K fd ps []
theorem bA {k:Nat} {pos:Pos} {t:TA} (G:Fn X.K X.mg x st ps f fd) (ok:ab X.prog X.w X.K X.mg X.base ao k f fd ps sp) (hr:au k X.A) (hg:Gl X x) (ha:PA X (e::es) t) (zw:(x==("__debug__" : Str))=false:=by decide) (he:starEach (e::es) X.env=(false,eval e X.env)::starEach es X.env:=by rfl) (jo:(backTo pos (starEach es X.env)).any (·.1)=false:=by rfl) :
  PE X (.Call (.Name x p) (e::es) [] pos) (OZ sp [] E0 t):=aET ok hr hg G.Lq G.kp G.bd .nil υ ha zw he jo
structure Bl (mg:Str->Option Value):Prop where
 isinstance:mg "isinstance" = none
 int:mg "int" = none
 bool:mg "bool" = none
 tuple:mg "tuple" = none
 list:mg "list" = none
 len:mg "len" = none
 all:mg "all" = none
 zip:mg "zip" = none
 range:mg "range" = none
 sorted:mg "sorted" = none
 set:mg "set" = none
 sum:mg "sum" = none
 repr:mg "repr" = none
 enumerate:mg "enumerate" = none
 min:mg "min" = none
 any:mg "any" = none
 max:mg "max" = none
 mw:∃ t,mg "MOST_WEIGHT" = some (.int 99 t)
 un:∃ t,mg "UNITS" = some (.int 60 t)
 jv:∃ t,mg "MOST_HANDS" = some (.int 6 t)
 DW:∃ t,mg "MOST_WORKS" = some (.int 12 t)
theorem nE:bootBuiltins "isinstance" = some (.builtin "isinstance"):=by decide +kernel
theorem OM:bootBuiltins "int" = some (.type "int"):=by decide +kernel
theorem o!:bootBuiltins "bool" = some (.type "bool"):=by decide +kernel
theorem dU:bootBuiltins "tuple" = some (.type "tuple"):=by decide +kernel
theorem sH:bootBuiltins "list" = some (.type "list"):=by decide +kernel
theorem eF:bootBuiltins "len" = some (.builtin "len"):=by decide +kernel
theorem sI:bootBuiltins "all" = some (.builtin "all"):=by decide +kernel
theorem G!:bootBuiltins "range" = some (.type "range"):=by decide +kernel
theorem aDY:bootBuiltins "sorted" = some (.builtin "sorted"):=by decide +kernel
theorem Ψ:bootBuiltins "set" = some (.type "set"):=by decide +kernel
theorem Φ:bootBuiltins "sum" = some (.builtin "sum"):=by decide +kernel
theorem Ph:bootBuiltins "repr" = some (.builtin "repr"):=by decide +kernel
end L2
namespace Ab
open PySem L2
noncomputable def top (i:Nat):Stmt:=PySem.Challenge.pw_ablehands_k25_beside_the_parts.main.body.getD i (.Pass ⟨0,0,0,0⟩)
noncomputable abbrev nM:Stmt:=top 9
noncomputable abbrev sJ:Stmt:=top 10
noncomputable abbrev sK:Stmt:=top 11
noncomputable abbrev sL:Stmt:=top 12
noncomputable abbrev xL:Stmt:=top 13
noncomputable abbrev IH:Stmt:=top 14
noncomputable abbrev IG:Stmt:=top 15
noncomputable abbrev lW:Stmt:=top 43
noncomputable abbrev IF:Stmt:=top 44
noncomputable abbrev oH:Stmt:=top 45
noncomputable abbrev lX:Stmt:=top 30
noncomputable abbrev lY:Stmt:=top 31
noncomputable abbrev sM:Stmt:=top 32
noncomputable abbrev vY:Stmt:=top 47
noncomputable abbrev An:Stmt:=top 48
noncomputable abbrev xM:Stmt:=top 49
noncomputable abbrev Fe:Stmt:=top 50
noncomputable abbrev C0:Stmt:=top 52
noncomputable abbrev kK:Stmt:=top 53
noncomputable abbrev lZ:Stmt:=top 54
noncomputable abbrev Fd:Stmt:=top 56
noncomputable abbrev Fc:Stmt:=top 57
noncomputable abbrev qP:Stmt:=top 58
noncomputable abbrev sN:Stmt:=top 59
noncomputable abbrev qQ:Stmt:=top 60
noncomputable abbrev qR:Stmt:=top 63
noncomputable abbrev qT:Stmt:=top 17
noncomputable abbrev oI:Stmt:=top 18
noncomputable abbrev Fb:Stmt:=top 19
noncomputable abbrev sO:Stmt:=top 22
noncomputable abbrev qU:Stmt:=top 23
noncomputable abbrev mK:Stmt:=top 25
noncomputable abbrev C4:Stmt:=top 26
noncomputable abbrev kL:Stmt:=top 27
noncomputable abbrev iK:Stmt:=top 28
noncomputable abbrev sP:Stmt:=top 35
noncomputable abbrev jR:Stmt:=top 36
noncomputable abbrev kX:Stmt:=top 37
noncomputable abbrev nN:Stmt:=top 38
noncomputable abbrev gF:Stmt:=top 39
noncomputable abbrev oJ:Stmt:=top 41
noncomputable abbrev sQ:Stmt:=top 61
noncomputable abbrev sR:Stmt:=top 62
noncomputable abbrev xN:Stmt:=top 64
noncomputable abbrev EX:Stmt:=top 65
noncomputable def iL:PyData->Bool
 | .int _=>true
 | _=>false
noncomputable def jG:PyData->Bool
 | .int i=>decide (1<=i) && decide (i<=6)
 | _=>false
noncomputable def eZ (jv:Int):Int->List PyData->Bool
 | _,[]=>true
 | last,.int i::r=>decide (last < i) && decide (i < jv) && eZ jv i r
 | _,_::_=>false
noncomputable def dM (jv:Int):PyData->Bool
 | .tuple ds=>!ds.isEmpty && eZ jv (-1) ds
 | _=>false
noncomputable def n?:PyData->PyData->Bool
 | .int h,.tuple ws=>decide (1<=h) && decide (h<=6) && decide (ws.length<=12) && ws.all (dM h)
 | _,_=>false
noncomputable def bN:PyData->Bool
 | .tuple [dh,dw]=>n? dh dw
 | _=>false
noncomputable def mL (K:Rb):Sp:=λvs H Q _=>∃ x d,vs = [x]/\Den K H d x/\Q (.bl (iL d)) H
theorem F?:ae ["thing"] ["thing"] (aF nM):=.of
theorem mB (G:Fn K mg "is_whole" nM ["thing"] f fd) (B:Bl mg):ab P w K mg base ao 1 f fd ["thing"] (mL K):=by
 refine G.fn.oK F? λa_ A outer s H vs Q E hr h=>?_
 ·obtain ⟨x,d,rfl,hd,k⟩:=h
  refine ⟨_,aK (aW (nG (aO wX rfl B.isinstance nE (aA (pv 0) (aA (iI (v:=.ty "int") rfl B.int OM rfl) aC)))
   (pB (e? (aO uS rfl B.isinstance nE (aA (pv 0) (aA (iI (v:=.ty "bool") rfl B.bool o! rfl) aC))))))),?_⟩
  refine ⟨_,rfl,x,lN d,rfl,hd.kd,_,rfl,?_⟩
  refine gC (λc=>?_) (λc=>?_)
  ·refine ⟨_,rfl,x,lN d,rfl,hd.kd,_,rfl,?_⟩
   have e:(!decide (lN d=Kd.bl))=iL d:=by
    cases d <;> first | rfl | (exfalso; simp [lN] at c)
   rw [e]
   exact k
  ·have e:false=iL d:=by
    cases d <;> first | rfl | (exfalso; simp [lN] at c)
   rw [e]
   exact k
noncomputable def PQ (K:Rb):Sp:=λvs H Q _=>∃ x d,vs = [x]/\Den K H d x/\Q (.bl (jG d)) H
theorem F!:ae ["thing"] ["thing"] (aF sJ):=.of
theorem aD1 (G:Fn K mg "are_hands" sJ ["thing"] f fd) (B:Bl mg) (W:Fn K mg "is_whole" nM ["thing"] fW CN):ab P w K mg base ao 2 f fd ["thing"] (PQ K):=by
 have GW:ab P w K mg base ao 1 fW CN ["thing"] (mL K):=mB W B
 obtain ⟨t6,h6⟩:=B.jv
 refine G.fn.oK F! λa_ A outer s H vs Q E hr h=>?_
 ·obtain ⟨x,d,rfl,hd,k⟩:=h
  refine ⟨_,aK (aW (nG (bA W GW hr rfl (aA (pv 0) aC))
   (pB (yR vK vK aM (pv 0) (mG (v:=.int 6) rfl h6 ⟨t6,rfl⟩))))),?_⟩
  refine ⟨_,rfl,x,d,rfl,hd,_,rfl,?_⟩
  refine gC (λc=>?_) (λc=>?_)
  ·obtain ⟨i,rfl⟩:∃ i,d=.int i:=by cases d <;> first | exact ⟨_,rfl⟩ | (exfalso; simp [iL] at c)
   obtain rfl:=dE.mp hd
   refine ⟨_,rfl,_,_,rfl,rfl,_,rfl,?_⟩
   refine gC (λc1=>?_) (λc1=>?_)
   ·refine ⟨_,_,rfl,rfl,?_⟩
    have e:decide (i<=6)=jG (.int i):=by
     show _=(decide (1<=i) && decide (i<=6))
     rw [c1,Xq]
    show Q (.bl (decide (i<=6))) H
    rw [e]; exact k
   ·have e:false=jG (.int i):=by
     show _=(decide (1<=i) && decide (i<=6))
     have c2:decide (1<=i)=false:=by simpa using c1
     rw [c2,Zx]
    rw [e]; exact k
  ·have e:false=jG d:=by cases d <;> first | rfl | (exfalso; simp [iL] at c)
   rw [e]; exact k
theorem iT (h l i:Int) (r:List PyData):eZ h l (.int i::r)=(decide (l < i) && decide (i < h) && eZ h i r):=by rw [eZ]
theorem sS (h l:Int) (d:PyData) (r:List PyData) (n:iL d=false):eZ h l (d::r)=false:=by
 cases d <;> first | rfl | (simp [iL] at n)
noncomputable def PN (K:Rb):Sp:=λvs H Q _=>∃ n x d,vs = [.int n,x]/\Den K H d x/\Q (.bl (dM n d)) H
theorem qV:ae ["hands", "thing", "last", "hand"] ["hands", "thing"] (aF sK):=.of
theorem aD2 (G:Fn K mg "is_work" sK ["hands", "thing"] f fd) (B:Bl mg) (W:Fn K mg "is_whole" nM ["thing"] fW CN):ab P w K mg base ao 2 f fd ["hands", "thing"] (PN K):=by
 have GW:ab P w K mg base ao 1 fW CN ["thing"] (mL K):=mB W B
 refine G.fn.oK qV λa_ A outer s H vs Q E hr h=>?_
 ·obtain ⟨n,x,d,rfl,hd,k⟩:=h
  refine ⟨_,aE (eJ (PW.pt (lJ (dJ (cT (aO eD rfl B.isinstance nE (aA (pv 1) (aA (iI (v:=.ty "tuple") rfl B.tuple dU rfl) aC)))))
    (jB (bG pZ (aO aX rfl B.len eF (aA (pv 1) aC)) aM (bJ _))))) (aK (aW iN)) bR)
   (aE (aU (i:=2) qV.nd rfl (Or.inl rfl) (E9 wS aM))
   (aE (eC PassesOwn.never rfl (eY (pv 1)) (aJ (i:=3) qV.nd rfl (Or.inl rfl))
    (aE (eJ (PW.pt (lJ (dJ (cT (bA W GW hr rfl (aA (pv 3) aC)))) (lJ (bG vK (pv 3) (pv 2) (bJ _)) (jB (bG O1 (pv 3) (pv 0) (bJ _)))))) (aK (aW iN)) bR)
    (aK (aU (i:=2) qV.nd rfl (Or.inl rfl) (pv 3)))))
   (aK (aW iN)))),?_⟩
  refine ⟨_,rfl,x,lN d,rfl,hd.kd,_,rfl,?_⟩
  refine gC (λc=>?_) (λc=>?_)
  ·-- not a tuple
   refine iE ?_
   have e:false=dM n d:=by
    cases d <;> first | rfl | (exfalso; simp [lN] at c)
   rw [e]; exact k
  ·obtain ⟨ds,rfl⟩:∃ ds,d=.tuple ds:=by cases d <;> first | exact ⟨_,rfl⟩ | (exfalso; simp [lN] at c)
   obtain ⟨a,xs,rfl,ha,cg⟩:=bL.mp hd
   have hl:=aH cg
   refine ⟨_,rfl,a,xs,rfl,.inr ha,rfl,_,rfl,?_⟩
   refine gC (λc2=>?_) (λc2=>?_)
   ·have e:false=dM n (.tuple ds):=by
     have e1:ds = []:=by
      have:(xs.length:Int)=0:=by simpa using c2
      exact Zt.mp (by omega)
     rw [e1]; rfl
    rw [e]; exact k
   ·have br:ds≠[]:=by
     intro z
     apply c2
     rw [z] at hl
     simp [hl]
    have e0:dM n (.tuple ds)=eZ n (-1) ds:=by
     show (!ds.isEmpty && eZ n (-1) ds)=_
     cases ds with
     | nil=>exact absurd rfl br
     | cons _ _=>rfl
    rw [e0] at k
    refine ⟨_,rfl,?_⟩
    refine ⟨_,rfl,a,rfl,⟨xs,ha⟩,qL (K:=K) (a:=a) (xs:=xs) (λi σ H2=>∃ (last:Int) (v:Option V),σ = [some (.int n),some (.ref a),some (.int last),v]/\H2=H/\eZ n (-1) ds=eZ n last (ds.drop i))
     ⟨-1,none,rfl,rfl,rfl⟩ (λi σ H2 _ ⟨_,_,_,e,_⟩=>by rw [e]; exact ha) ?_ ?_⟩
    ·rintro i y σ H2 hi ⟨last,v,rfl,rfl,dk⟩
     obtain ⟨dy,VO,ox⟩:=eV cg hi
     have ky:ds.drop i=dy::ds.drop (i+1):=by
      obtain ⟨ax,e⟩:=Qd.mp VO
      rw [Yx ax,e]
     rw [ky] at dk
     refine ⟨_,rfl,y,dy,rfl,ox,_,rfl,?_⟩
     refine gC (λc3=>?_) (λc3=>?_)
     ·refine iE ?_
      have e:false=eZ n (-1) ds:=by rw [dk,sS]; simpa using c3
      rw [e]; exact k
     ·obtain ⟨j,rfl⟩:∃ j,dy=.int j:=by cases dy <;> first | exact ⟨_,rfl⟩ | (exfalso; simp [iL] at c3)
      obtain rfl:=dE.mp ox
      rw [iT] at dk
      refine ⟨_,rfl,_,rfl,_,_,rfl,rfl,_,rfl,?_⟩
      refine gC (λc4=>?_) (λc4=>?_)
      ·refine iE ?_
       have YV:j<=last:=of_decide_eq_true c4
       have e:false=eZ n (-1) ds:=by rw [dk,decide_eq_false (by omega:¬ last < j)]; rfl
       rw [e]; exact k
      ·have YV:¬ j<=last:=λz=>c4 (decide_eq_true z)
       refine ⟨_,rfl,_,rfl,_,_,rfl,rfl,_,rfl,?_⟩
       refine gC (λc5=>?_) (λc5=>?_)
       ·have YU:n<=j:=of_decide_eq_true c5
        have e:false=eZ n (-1) ds:=by rw [dk,decide_eq_false (by omega:¬ j < n),Bool.and_false]; rfl
        rw [e]; exact k
       ·have YU:¬ n<=j:=λz=>c5 (decide_eq_true z)
        refine ⟨_,rfl,j,some (.int j),rfl,rfl,?_⟩
        rw [dk,decide_eq_true (by omega:last < j),decide_eq_true (by omega:j < n)]
        rfl
    ·rintro σ H2 ⟨last,v,rfl,rfl,dk⟩
     have e:true=eZ n (-1) ds:=by
      rw [dk,hl,List.drop_length]
      rfl
     show Q (.bl true) _
     rw [e]; exact k
theorem E? {σ:St} {A B:Hp->Prop} (h:A H):pF σ H λb H3=>if b=true then A H3 else B H3:=by
 show if true=true then A H else B H
 exact iE h
theorem eO {x:V} {σ:St} {A B:St->Hp->Prop} (h:A (σ.set i (some x)) H):cU i x σ H λa8 H2=>pF a8 H2 λb H3=>if b=true then A a8 H3 else B a8 H3:=by
 show if true=true then A (σ.set i (some x)) H else B (σ.set i (some x)) H
 exact iE h
noncomputable def PM (K:Rb):Sp:=λvs H Q _=>∃ x d,vs = [x]/\Den K H d x/\∀ H',aD H H'->Q (.bl (bN d)) H'
theorem xO:ae ["thing", "hands", "works"] ["thing"] (aF sL):=.of
theorem aD3 {Nq Np:FuncData} (G:Fn K mg "is_book" sL ["thing"] f fd) (B:Bl mg) (W:Fn K mg "is_whole" nM ["thing"] fW CN) (GH:Fn K mg "are_hands" sJ ["thing"] fH Nq) (GK:Fn K mg "is_work" sK ["hands", "thing"] fK Np):ab P w K mg base ao 3 f fd ["thing"] (PM K):=by
 have OH:ab P w K mg base ao 2 fH Nq ["thing"] (PQ K):=aD1 GH B W
 have OK:ab P w K mg base ao 2 fK Np ["hands", "thing"] (PN K):=aD2 GK B W
 obtain ⟨FH,qr⟩:=B.DW
 refine G.fn.oK xO λa_ A outer s H vs Q E hr h=>?_
 ·obtain ⟨x,d,rfl,hd,k⟩:=h
  refine ⟨_,aE (eJ (PW.pt (lJ (dJ (cT (aO eD rfl B.isinstance nE (aA (pv 0) (aA (iI (v:=.ty "tuple") rfl B.tuple dU rfl) aC)))))
    (jB (bG mW (aO aX rfl B.len eF (aA (pv 0) aC)) aM (bJ _))))) (aK (aW iN)) bR)
   (aE (kR (pv 0) (iC rfl (aR (aJ (i:=1) xO.nd rfl (Or.inr rfl)) (aR (aJ (i:=2) xO.nd rfl (Or.inl rfl)) cJ))))
   (aE (eJ (dJ (cT (bA GH OH hr rfl (aA (pv 1) aC)))) (aK (aW iN)) bR)
   (aE (eJ (PW.pt (lJ (dJ (cT (aO eD rfl B.isinstance nE (aA (pv 2) (aA (iI (v:=.ty "tuple") rfl B.tuple dU rfl) aC)))))
    (jB (bG qA (aO aX rfl B.len eF (aA (pv 2) aC)) (mG (v:=.int 12) rfl qr ⟨FH,rfl⟩) (bJ _))))) (aK (aW iN)) bR)
   (aK (aW (aO (jD rfl) rfl B.all sI (aA
    (bK (own:=["work"]) (fr:=[1]) (a9:=["hands"]) (aT (aF sL) ["thing", "hands", "works"] rfl rfl (by decide +kernel)) rfl (eY (pv 2))
     (λ_ _ _ _=>aJ (i:=0) (show (["work", "hands"]:List Str).Nodup by decide +kernel) rfl (Or.inl rfl)) (λ_ _ _ _=>bZ) (λ_ _ _ _=>bA GK OK hr rfl (aA (pv 1) (aA (pv 0) aC)))) aC))))))),?_⟩
  refine ⟨_,rfl,x,lN d,rfl,hd.kd,_,rfl,?_⟩
  refine gC (λc=>?_) (λc=>?_)
  ·refine iE ?_
   have e:false=bN d:=by
    cases d <;> first | rfl | (exfalso; simp [lN] at c)
   rw [e]; exact k H (aD.refl H)
  ·obtain ⟨ds,rfl⟩:∃ ds,d=.tuple ds:=by cases d <;> first | exact ⟨_,rfl⟩ | (exfalso; simp [lN] at c)
   obtain ⟨a,xs,rfl,ha,cg⟩:=bL.mp hd
   have hl:=aH cg
   refine ⟨_,rfl,a,xs,rfl,.inr ha,rfl,_,rfl,?_⟩
   refine gC (λc2=>?_) (λc2=>?_)
   ·have e:false=bN (.tuple ds):=by
     match ds,hl,c2 with
     | [],_,_=>rfl
     | [_],_,_=>rfl
     | [_,_],hl,c2=>exfalso; rw [hl] at c2; simp at c2
     | _::_::_::_,_,_=>rfl
    rw [e]; exact k H (aD.refl H)
   ·obtain ⟨dh,dw,rfl⟩:∃ dh dw,ds = [dh,dw]:=by
     match ds,hl,c2 with
     | [],hl,c2=>exfalso; rw [hl] at c2; simp at c2
     | [_],hl,c2=>exfalso; rw [hl] at c2; simp at c2
     | [p,q],_,_=>exact ⟨p,q,rfl⟩
     | p::q::r::t,hl,c2=>exfalso; apply c2; rw [hl]; simp; omega
    obtain ⟨xh,r1,rfl,hh,h2⟩:=aL.mp cg
    obtain ⟨xw,r2,rfl,hw,h3⟩:=aL.mp h2
    obtain rfl:=aN.mp h3
    -- hands,works=thing
    refine ⟨_,rfl,a,_,rfl,ha,rfl,_,_,rfl,_,_,rfl,rfl,?_⟩
    -- are_hands(hands)
    refine ⟨_,rfl,xh,dh,rfl,hh,_,rfl,?_⟩
    refine gC (λc3=>?_) (λc3=>?_)
    ·have e:false=bN (.tuple [dh,dw]):=by
      have YW:jG dh=false:=by simpa using c3
      cases dh with
      | int n =>
       cases dw with
       | tuple ws =>
        have c4:(decide (1<=n) && decide (n<=6))=false:=YW
        show _=(decide (1<=n) && decide (n<=6) && decide (ws.length<=12) && ws.all (dM n))
        rw [c4]; rfl
       | _=>rfl
      | _=>rfl
     rw [e]; exact k H (aD.refl H)
    ·obtain ⟨n,rfl,hn⟩:∃ n,dh=.int n/\(decide (1<=n) && decide (n<=6))=true:=by
      cases dh <;> first | exact ⟨_,rfl,by simpa [jG] using c3⟩ | (exfalso; simp [jG] at c3)
     obtain rfl:=dE.mp hh
     refine ⟨_,rfl,xw,lN dw,rfl,hw.kd,_,rfl,?_⟩
     refine gC (λc5=>?_) (λc5=>?_)
     ·refine iE ?_
      have e:false=bN (.tuple [.int n,dw]):=by
       cases dw <;> first | rfl | (exfalso; simp [lN] at c5)
      rw [e]; exact k H (aD.refl H)
     ·obtain ⟨ws,rfl⟩:∃ ws,dw=.tuple ws:=by cases dw <;> first | exact ⟨_,rfl⟩ | (exfalso; simp [lN] at c5)
      obtain ⟨b,ys,rfl,hb,lh⟩:=bL.mp hw
      have x9:=aH lh
      have eB:bN (.tuple [.int n,.tuple ws])=(decide (ws.length<=12) && ws.all (dM n)):=by
       show (decide (1<=n) && decide (n<=6) && decide (ws.length<=12) && ws.all (dM n))=_
       rw [hn,Xq]
      rw [eB] at k
      refine ⟨_,rfl,b,ys,rfl,.inr hb,_,_,rfl,rfl,_,rfl,?_⟩
      refine gC (λc6=>?_) (λc6=>?_)
      ·have YT:(12:Int) < ys.length:=of_decide_eq_true c6
       have e:false=(decide (ws.length<=12) && ws.all (dM n)):=by rw [decide_eq_false (by omega:¬ ws.length<=12)]; rfl
       rw [e]; exact k H (aD.refl H)
      ·have YT:¬ (12:Int) < ys.length:=λz=>c6 (decide_eq_true z)
       have e1:decide (ws.length<=12)=true:=decide_eq_true (by omega)
       rw [e1,Xq] at k
       refine ⟨_,rfl,b,rfl,⟨ys,hb⟩,gS (K:=K) (a:=b) (xs:=ys) (λσ=>∃ v,σ = [v,some (.int n)]) (λi zs H2=>H2=H/\zs=((ws.take i).map (dM n)).map V.bl) ?_ ⟨none,rfl⟩ ⟨rfl,rfl⟩ ?_ ?_ ?_ ?_⟩
       ·rw [Rf]; omega
       ·rintro i zs H2 ⟨_,rfl⟩
        rw [Qa,Qa,Qy]; omega
       ·rintro i zs H2 ⟨rfl,_⟩
        exact hb
       ·rintro i zs σ x H2 hx ⟨v,rfl⟩ ⟨rfl,rfl⟩ hz
        obtain ⟨dx,VP,ox⟩:=eV lh hx
        refine eO ?_
        refine ⟨_,rfl,_,rfl,n,x,dx,rfl,ox,hz,⟨some x,rfl⟩,rfl,?_⟩
        rw [Xj,VP]
        simp
       ·rintro zs H2 ⟨rfl,rfl⟩ p hp
        refine ⟨p,_,rfl,ai.of aB,?_⟩
        have e2:((ws.take ys.length).map (dM n)).all id=ws.all (dM n):=by
         rw [x9,Jt,Yc]
         rfl
        rw [e2]
        exact k _ (aD.new hp)
noncomputable def cO (l:List Int):PyData:=.tuple (l.map .int)
noncomputable def bI (n:Int) (ws:List (List Int)):PyData:=.tuple [.int n,.tuple (ws.map cO)]
noncomputable def eG (hs:List Int):PyData:=.tuple (hs.map .int)
noncomputable def gU:PyData->List Int->Bool
 | .int i,l=>l.any (·==i)
 | _,_=>false
noncomputable def eI (ws:List (List Int)):PyData->Bool
 | .tuple hs=>decide (hs.length=ws.length) && (hs.zip ws).all λp=>gU p.1 p.2
 | _=>false
theorem kM (l:List Int):(l.map V.int).all nX=true:=by
 rw [Yc]
 exact Qt.mpr λ_ _=>rfl
theorem qW (i:Int) (l:List Int):ma (.int i) (l.map V.int)=l.any (·==i):=by
 unfold ma
 rw [Wj]
 rfl
theorem cW {n:Int} {x:V} (h:Den K H (bI n ws) x):∃ a b ys,x=.ref a/\ah K H a [.int n,.ref b]/\ah K H b ys/\aP K H (ws.map cO) ys:=by
 obtain ⟨a,xs,rfl,ha,cg⟩:=bL.mp h
 obtain ⟨xh,r1,rfl,hh,h2⟩:=aL.mp cg
 obtain ⟨xw,r2,rfl,hw,h3⟩:=aL.mp h2
 obtain rfl:=aN.mp h3
 obtain rfl:=dE.mp hh
 obtain ⟨b,ys,rfl,hb,fi⟩:=bL.mp hw
 exact ⟨a,b,ys,rfl,ha,hb,fi⟩
theorem bB {n:Int} (h:bN (bI n ws)=true):1<=n/\n<=6/\ws.length<=12/\∀ l∈ws,dM n (cO l)=true:=by
 have h':(decide (1<=n) && decide (n<=6) && decide ((ws.map cO).length<=12) && (ws.map cO).all (dM n))=true:=h
 simp only [Jm,decide_eq_true_eq,Qa,Qt] at h'
 exact ⟨h'.1.1.1,h'.1.1.2,h'.1.2,λl hl=>h'.2 _ (Jg.mpr ⟨l,hl,rfl⟩)⟩
theorem iU {pos:Pos} {k:Nat} {t:yg} (hK:X.K=K) (hc:X.calm=true) (h:Dd X es t) (hn:(assignEach es X.env).length=n:=by rfl) (ic:(assignEach es X.env).findIdx? (·.1)=none:=by rfl):PG X (.Tuple es k pos) (Oh K n t):=by
 subst hK
 exact iC hc h hn ic
theorem sT (hK:X.K=K):d6 X (compareOp .In) (Ep K false):=by subst hK; exact vQ
theorem cH (hK:X.K=K):BU X (HK K):=by subst hK; exact cD
theorem eW (hK:X.K=K):dQ X (.builtin "len") (λxs H Q=>∃ p ys,xs = [.ref p]/\(ai K H p ys∨ah K H p ys)/\Q (.int ys.length) H):=by subst hK; exact aX
theorem jH (hK:X.K=K):dQ X (.type "tuple") (λxs H Q=>∃ p ys,xs = [.ref p]/\((ai K H p ys/\∀ l,H l=none->Q (.ref l) (upd H l (.tup ys)))∨(ah K H p ys/\Q (.ref p) H))):=by subst hK; exact cN
theorem aA8 (hK:X.K=K):Dg X "tuple.count" (λx vs H Q=>∃ (a:Addr) (ns:List Int) (n:Int),x=.ref a/\vs = [.int n]/\ah K H a (ns.map V.int)/\Q (.int (ns.count n:Nat)) H):=by subst hK; exact aCt
structure Pr (K:Rb) (mg:Str->Option Value) (fW fH fK fB i9 fD jr fL:Addr) (dW dH dK dB i_ dD jt dL:FuncData):Prop where
 W:Fn K mg "is_whole" nM ["thing"] fW dW
 H:Fn K mg "are_hands" sJ ["thing"] fH dH
 Kw:Fn K mg "is_work" sK ["hands", "thing"] fK dK
 B:Fn K mg "is_book" sL ["thing"] fB dB
 NB:Fn K mg "need_book" IH ["book"] i9 i_
 D:Fn K mg "is_deal" xL ["book", "thing"] fD dD
 ND:Fn K mg "need_deal" IG ["book", "deal"] jr jt
 C:∃ f d,Fn K mg "counted" lW ["hands", "deal"] f d
 L:Fn K mg "loads" IF ["book", "deal"] fL dL
noncomputable def oM (K:Rb):Sp:=λvs H Q _=>∃ x d,vs = [x]/\Den K H d x/\bN d=true/\∀ H',aD H H'->Q .bj H'
theorem E!:ae ["book"] ["book"] (aF IH):=.of
theorem oN (B:Bl mg) (R:Pr K mg fW fH fK fB i9 fD jr fL dW dH dK dB i_ dD jt dL):ab P w K mg base ao 4 i9 i_ ["book"] (oM K):=by
 have OB:ab P w K mg base ao 3 fB dB ["thing"] (PM K):=aD3 R.B B R.W R.H R.Kw
 refine R.NB.fn.oK E! λa_ A outer s H vs Q E hr h=>?_
 ·obtain ⟨x,d,rfl,hd,hb,k⟩:=h
  refine ⟨_,aK (eJ (dJ (cT (bA R.B OB hr rfl (aA (pv 0) aC)))) mH bR),?_⟩
  refine ⟨_,rfl,x,d,rfl,hd,λH' hs=>⟨_,rfl,?_⟩⟩
  rw [hb]
  refine iS ?_
  exact k H' hs
noncomputable def PL (K:Rb):Sp:=λvs H Q _=>∃ x y n ws d,vs = [x,y]/\Den K H (bI n ws) x/\bN (bI n ws)=true/\Den K H d y/\∀ H',aD H H'->Q (.bl (eI ws d)) H'
theorem PJ:ae ["book", "thing", "works"] ["book", "thing"] (aF xL):=.of
theorem aD4 (B:Bl mg) (R:Pr K mg fW fH fK fB i9 fD jr fL dW dH dK dB i_ dD jt dL):ab P w K mg base ao 5 fD dD ["book", "thing"] (PL K):=by
 have ON:ab P w K mg base ao 4 i9 i_ ["book"] (oM K):=oN B R
 have OW:ab P w K mg base ao 1 fW dW ["thing"] (mL K):=mB R.W B
 refine R.D.fn.oK PJ λa_ A outer s H vs Q E hr h=>?_
 ·obtain ⟨x,y,n,ws,d,rfl,hx,hb,hd,k⟩:=h
  have xu:au 1 _:=hr.mono (by decide)
  refine ⟨_,aE (dO (bA R.NB ON hr rfl (aA (pv 0) aC)))
   (aE (aU (i:=2) PJ.nd rfl (Or.inl rfl) (aY cD (pv 0) aM (λ_ _=>rfl)))
   (aE (eJ (PW.pt (lJ (dJ (cT (aO eD rfl B.isinstance nE (aA (pv 1) (aA (iI (v:=.ty "tuple") rfl B.tuple dU rfl) aC)))))
    (jB (bG mW (aO aX rfl B.len eF (aA (pv 1) aC)) (aO aX rfl B.len eF (aA (pv 2) aC)) (bJ _))))) (aK (aW iN)) bR)
   (aK (aW (aO (jD rfl) rfl B.all sI (aA
    (bK (own:=["hand", "able"]) (fr:=[]) (a9:=[]) (aT (aF xL) ["book", "thing", "works"] rfl rfl (by decide +kernel)) rfl (Pl .t .t rfl B.zip (aA (pv 1) (aA (pv 2) aC)))
     (λ_ _ _ _=>iU (K:=K) (n:=2) rfl rfl (aR (aJ (i:=0) (show (["hand", "able"]:List Str).Nodup by decide +kernel) rfl (Or.inl rfl)) (aR (aJ (i:=1) (show (["hand", "able"]:List Str).Nodup by decide +kernel) rfl (Or.inl rfl)) cJ)))
     (λ_ _ _ _=>bZ) (λ_ _ _ _=>nG (bA R.W OW xu rfl (aA (pv 0) aC)) (pB (gQ (sT (K:=K) rfl) (pv 0) (pv 1) (by with_unfolding_all rfl))))) aC)))))),?_⟩
  refine ⟨_,rfl,x,bI n ws,rfl,hx,hb,λH1 s1=>?_⟩
  have Ci:=s1.den _ _ hx
  have qk:=s1.den _ _ hd
  obtain ⟨a,b,ys,rfl,ha,jy,fi⟩:=cW Ci
  have x9:=aH fi
  rw [Qa] at x9
  refine ⟨_,rfl,a,_,1,.ref b,rfl,rfl,ha,rfl,?_⟩
  refine ⟨_,rfl,y,lN d,rfl,qk.kd,_,rfl,?_⟩
  refine gC (λc=>?_) (λc=>?_)
  ·refine iE ?_
   have e:false=eI ws d:=by
    cases d <;> first | rfl | (exfalso; simp [lN] at c)
   rw [e]; exact k H1 s1
  ·obtain ⟨hs,rfl⟩:∃ hs,d=.tuple hs:=by cases d <;> first | exact ⟨_,rfl⟩ | (exfalso; simp [lN] at c)
   obtain ⟨a2,xs,rfl,G5,zj⟩:=bL.mp qk
   have U8:=aH zj
   refine ⟨_,rfl,a2,xs,rfl,.inr G5,_,rfl,b,ys,rfl,.inr jy,rfl,_,rfl,?_⟩
   refine gC (λc2=>?_) (λc2=>?_)
   ·have e:false=eI ws (.tuple hs):=by
     show _=(decide (hs.length=ws.length) && (hs.zip ws).all λp=>gU p.1 p.2)
     rw [decide_eq_false]
     ·rfl
     ·intro z
      have:(V.int (xs.length:Int)=V.int (ys.length:Int)):=by rw [U8,x9,z]
      simp [this] at c2
    rw [e]; exact k H1 s1
   ·have heq:xs.length=ys.length:=by
     have:V.int (xs.length:Int)=V.int (ys.length:Int):=by simpa using c2
     injection this with this
     omega
    have e0:eI ws (.tuple hs)=(hs.zip ws).all λp=>gU p.1 p.2:=by
     show (decide (hs.length=ws.length) && _)=_
     rw [decide_eq_true (by omega:hs.length=ws.length),Xq]
    rw [e0] at k
    obtain ⟨_,_,qr,_⟩:=bB hb
    refine ⟨_,rfl,_,rfl,a2,b,xs,ys,rfl,G5,jy,aDB (K:=K) (k1:=.t) (k2:=.t) (a:=a2) (b:=b) (xs:=xs) (ys:=ys) (λσ=>∃ u v,σ = [u,v]) (λi zs H2=>aD H1 H2/\zs=(((hs.zip ws).take i).map λp=>gU p.1 p.2).map V.bl) ?_ heq ⟨none,none,rfl⟩ ⟨aD.refl H1,rfl⟩ ?_ ?_ ?_ ?_⟩
    ·rw [Rf]; omega
    ·rintro i zs H2 ⟨_,rfl⟩
     rw [Qa,Qa,Qy]; omega
    ·rintro i zs H2 ⟨s2,_⟩
     exact ⟨s2.ag G5,s2.ag jy⟩
    ·rintro i zs σ u v p H2 hu hv ⟨u0,v0,rfl⟩ ⟨s2,rfl⟩ hp hz
     obtain ⟨du,VQ,DO⟩:=eV zj hu
     obtain ⟨dv,ki,rq⟩:=eV fi hv
     rw [Qe] at ki
     obtain ⟨l,hl,rfl⟩:∃ l,ws[i]?=some l/\cO l=dv:=by
      cases q:ws[i]? with
      | none=>rw [q] at ki; cases ki
      | some l=>rw [q] at ki; exact ⟨l,rfl,Option.some.inj ki⟩
     have s3:aD H1 (upd H2 p (.tup [u,v])):=s2.trans (aD.new hp)
     have JP:(hs.zip ws)[i]?=some (du,l):=by rw [Jz]; exact ⟨VQ,hl⟩
     have yz:(((hs.zip ws).take (i+1)).map λp=>gU p.1 p.2).map V.bl=(((hs.zip ws).take i).map λp=>gU p.1 p.2).map V.bl++[V.bl (gU du l)]:=by
      rw [Xj,JP]; simp
     refine ⟨p,_,rfl,ah.of aB,rfl,_,_,rfl,_,_,rfl,rfl,?_⟩
     refine E? ?_
     refine ⟨_,rfl,u,du,rfl,s3.den _ _ DO,_,rfl,?_⟩
     refine gC (λc3=>?_) (λc3=>?_)
     ·obtain ⟨j,rfl⟩:∃ j,du=.int j:=by cases du <;> first | exact ⟨_,rfl⟩ | (exfalso; simp [iL] at c3)
      obtain rfl:=dE.mp DO
      obtain ⟨av,rfl,V0⟩:=aS.mp rq
      refine ⟨_,rfl,_,rfl,av,_,rfl,.inr (s3.ag V0),rfl,kM l,hz,⟨_,_,rfl⟩,s3,?_⟩
      rw [yz]
      show _++[V.bl (ma (.int j) (l.map V.int))]=_
      rw [qW]
      rfl
     ·have e:gU du l=false:=by cases du <;> first | rfl | (exfalso; simp [iL] at c3)
      refine ⟨hz,⟨_,_,rfl⟩,s3,?_⟩
      rw [yz,e]
    ·rintro zs H2 ⟨s2,rfl⟩ p hp
     refine ⟨p,_,rfl,ai.of aB,?_⟩
     have e2:(((hs.zip ws).take xs.length).map λp=>gU p.1 p.2).all id=(hs.zip ws).all λp=>gU p.1 p.2:=by
      rw [Jn (by rw [Wk]; omega),Yc]
      rfl
     rw [e2]
     exact k _ (s1.trans (s2.trans (aD.new hp)))
noncomputable def aV (n:Int) (hs:List Int):List Int:=(aQ n.toNat).map λh=>((hs.count h:Nat):Int)
theorem iP (h:i < n):(aQ n)[i]?=some (i:Int):=by
 unfold aQ
 rw [Qe,Zq h]
 rfl
theorem bW (n:Nat):(aQ n).length=n:=by unfold aQ; rw [Qa,Zv]
theorem Po {o:Expr} {t:TA} {id:String} {r:V->List V->Hp->VK->Prop} (hK:X.K=K) (pa:PlainAttrs T) (slot:Slot T name id) (Gf:typeOf (.builtin id)=pure (.type "method_descriptor")) (hm:Dg X id r) (ho:PE X o to) (ha:PA X (e::es) t) (sk:attributeBase o name X.env (eval o X.env)=eval o X.env:=by rfl) (AV:((backTo fg (starEach (e::es) X.env)).all (λx=>!x.1) && (backToKw fg (keywordEach [] X.env)).all (λx=>x.1.isSome)
   && decide ((e::es).length+([]:List Keyword).length+(if ([]:List Keyword).isEmpty then 0 else 1) < 30))=true:=by rfl) (si:(apos.endLine==fg.line)=true:=by rfl) (hs:starEach (e::es) X.env=(false,eval e X.env)::starEach es X.env:=by rfl) (ml:(backTo fg (starEach es X.env)).any (·.1)=false:=by rfl) :
  PE X (.Call (.Attribute o name apos) (e::es) [] fg) (KY K T r to t):=by
 subst hK
 exact lK pa slot Gf hm ho ha sk AV si hs ml
noncomputable def gD (K:Rb) (H:Hp) (x y:V) (n:Int) (ws:List (List Int)) (hs:List Int):Prop:=Den K H (bI n ws) x/\bN (bI n ws)=true/\Den K H (eG hs) y/\eI ws (eG hs)=true
theorem gD.same {x:V} {n:Int} (g:gD K H x y n ws hs) (e:aD H H'):gD K H' x y n ws hs:=⟨e.den _ _ g.1,g.2.1,e.den _ _ g.2.2.1,g.2.2.2⟩
theorem gD.len {x:V} {n:Int} (g:gD K H x y n ws hs):hs.length<=12/\1<=n/\n<=6:=by
 obtain ⟨h1,h2,h3,_⟩:=bB g.2.1
 have h:(decide ((hs.map PyData.int).length=ws.length) && ((hs.map PyData.int).zip ws).all λp=>gU p.1 p.2)=true:=g.2.2.2
 simp only [Jm,decide_eq_true_eq,Qa] at h
 omega
noncomputable def xP (K:Rb):Sp:=λvs H Q _=>∃ x y n ws hs,vs = [x,y]/\gD K H x y n ws hs/\∀ H',aD H H'->Q .bj H'
theorem D?:ae ["book", "deal"] ["book", "deal"] (aF IG):=.of
theorem QU (B:Bl mg) (R:Pr K mg fW fH fK fB i9 fD jr fL dW dH dK dB i_ dD jt dL):ab P w K mg base ao 6 jr jt ["book", "deal"] (xP K):=by
 have OD:ab P w K mg base ao 5 fD dD ["book", "thing"] (PL K):=aD4 B R
 refine R.ND.fn.oK D? λa_ A outer s H vs Q E hr h=>?_
 ·obtain ⟨x,y,n,ws,hs,rfl,⟨g1,g2,g3,g4⟩,k⟩:=h
  refine ⟨_,aK (eJ (dJ (cT (bA R.D OD hr rfl (aA (pv 0) (aA (pv 1) aC))))) mH bR),?_⟩
  refine ⟨_,rfl,_,rfl,x,y,n,ws,eG hs,rfl,g1,g2,g3,λH' hs=>⟨_,rfl,?_⟩⟩
  rw [g4]
  refine iS ?_
  exact k H' hs
noncomputable def vZ (K:Rb):Sp:=λvs H Q _=>∃ (n:Int) (b:Addr) (hs:List Int),vs = [.int n,.ref b]/\ah K H b (hs.map V.int)/\0<=n/\n<=6/\∀ p H',aD H H'->H' p=some (.tup ((aV n hs).map V.int))->Q (.ref p) H'
theorem aCK:ae ["hands", "deal"] ["hands", "deal"] (aF lW):=.of
theorem aA9 (G:Fn K mg "counted" lW ["hands", "deal"] f fd) (B:Bl mg):ab P w K mg base ao 1 f fd ["hands", "deal"] (vZ K):=by
 refine G.fn.oK aCK λa_ A outer s H vs Q E hr h=>?_
 ·obtain ⟨n,c,hs,rfl,hc,md,gu,k⟩:=h
  refine ⟨_,aK (aW (bU cN rfl B.tuple dU (aA
    (bK (own:=["hand"]) (fr:=[1]) (a9:=["deal"]) (aT (aF lW) ["hands", "deal"] rfl rfl (by decide +kernel)) rfl (eA rfl B.range (aA (pv 0) aC))
     (λ_ _ _ _=>aJ (i:=0) (show (["hand", "deal"]:List Str).Nodup by decide +kernel) rfl (Or.inl rfl)) (λ_ _ _ _=>bZ)
     (λ_ _ _ _=>Po (K:=K) rfl PySem.F.plainAttrs_tuple Ie PySem.F.type_tuple_count (aA8 (K:=K) rfl) (pv 1) (aA (pv 0) aC))) aC))),?_⟩
  refine ⟨_,rfl,n,rfl,by omega,by omega,gK (lo:=0) (n:=n.toNat) (λσ=>∃ v,σ = [v,some (.ref c)]) (λi zs H2=>H2=H/\zs=(((aQ n.toNat).take i).map λh=>((hs.count h:Nat):Int)).map V.int) ?_ ⟨none,rfl⟩ ⟨rfl,rfl⟩ ?_ ?_ ?_⟩
  ·rw [Rf]; omega
  ·rintro i zs H2 ⟨_,rfl⟩
   rw [Qa,Qa,Qy]; omega
  ·rintro i zs σ H2 hi ⟨v,rfl⟩ ⟨rfl,rfl⟩ hz
   refine eO ?_
   refine ⟨_,rfl,.inr (.inl ⟨rfl,_,hc⟩),_,rfl,c,hs,_,rfl,rfl,hc,hz,⟨_,rfl⟩,rfl,?_⟩
   rw [Xj,iP hi]
   simp
  ·rintro zs H2 ⟨rfl,rfl⟩ p hp
   refine ⟨p,_,rfl,.inl ⟨ai.of aB,λl hl=>?_⟩⟩
   refine k l _ ((aD.new hp).trans (aD.new hl)) ?_
   rw [aB,Jn (by rw [bW]; exact Qi _)]
   rfl
noncomputable def qX (K:Rb):Sp:=λvs H Q _=>∃ x y n ws hs,vs = [x,y]/\gD K H x y n ws hs/\∀ p H',aD H H'->H' p=some (.tup ((aV n hs).map V.int))->Q (.ref p) H'
theorem D!:ae ["book", "deal"] ["book", "deal"] (aF IF):=.of
theorem sU (B:Bl mg) (R:Pr K mg fW fH fK fB i9 fD jr fL dW dH dK dB i_ dD jt dL):ab P w K mg base ao 7 fL dL ["book", "deal"] (qX K):=by
 have ON:ab P w K mg base ao 6 jr jt ["book", "deal"] (xP K):=QU B R
 obtain ⟨fC,dC,GC⟩:=R.C
 have OC:ab P w K mg base ao 1 fC dC ["hands", "deal"] (vZ K):=aA9 GC B
 refine R.L.fn.oK D! λa_ A outer s H vs Q E hr h=>?_
 ·obtain ⟨x,y,n,ws,hs,rfl,g,k⟩:=h
  have r1:au 1 _:=hr.mono (by decide)
  refine ⟨_,aE (dO (bA R.ND ON hr rfl (aA (pv 0) (aA (pv 1) aC))))
   (aK (aW (bA GC OC r1 rfl (aA (aY cD (pv 0) aM (λ_ _=>rfl)) (aA (pv 1) aC))))),?_⟩
  refine ⟨_,rfl,_,rfl,x,y,n,ws,hs,rfl,g,λH1 s1=>?_⟩
  have g1:=g.same s1
  obtain ⟨hl,md,gu⟩:=g.len
  obtain ⟨a,b,ys,rfl,ha,jy,fi⟩:=cW g1.1
  obtain ⟨c,rfl,hc⟩:=aS.mp g1.2.2.1
  refine ⟨_,rfl,a,_,0,.int n,rfl,rfl,ha,rfl,_,rfl,n,c,hs,rfl,hc,by omega,gu,λp H2 s2 hp=>?_⟩
  exact k p H2 (s1.trans s2) hp
theorem cC (n:Int) (hs:List Int):(aV n hs).length=n.toNat:=by unfold aV; rw [Qa,bW]
noncomputable def bo (t:Addr) (H H':Hp):Prop:=∀ b o,b≠t->H b=some o->H' b=some o
theorem bo.refl (t:Addr) (H:Hp):bo t H H:=λ_ _ _ h=>h
theorem bo.trans (a:bo t H H1) (b:bo t H1 H2):bo t H H2:=λc o n h=>b c o n (a c o n h)
theorem bo.of (a:aD H H'):bo t H H':=λc o _ h=>a c o h
theorem bo.at {u:HO}:bo t H (upd H t u):=λc o n h=>by rw [aI n]; exact h
theorem bo.free (e:bo t H H') {l:Addr} (h:H' l=none) (n:l≠t):H l=none:=by
 cases q:H l with
 | none=>rfl
 | some o=>rw [e l o n q] at h; cases h
theorem bo.ag (e:bo t H H') (ht:H t=some (.lst ys)) (h:ah K H a xs):ah K H' a xs:=by
 rcases h with (h | ⟨o,h⟩) | h
 ·exact .inl (.inl (e a _ (λz=>by rw [z,ht] at h; cases h) h))
 ·exact .inl (.inr ⟨o,e a _ (λz=>by rw [z,ht] at h; cases h) h⟩)
 ·exact .inr h
mutual
noncomputable def cX:PyData->Bool
 | .dict _=>false
 | .list _=>false
 | .tuple ds=>cP ds
 | _=>true
noncomputable def cP:List PyData->Bool
 | []=>true
 | d::ds=>cX d && cP ds
end
mutual
theorem bo.den (e:bo t H H') (ht:H t=some (.lst ys)):∀ (d:PyData) (v:V),cX d=true->Den K H d v->Den K H' d v
 | .none,v,_,h=>by unfold Den at h ⊢; exact h
 | .bool b,v,_,h=>by unfold Den at h ⊢; exact h
 | .int i,v,_,h=>by unfold Den at h ⊢; exact h
 | .str x,v,_,h=>by unfold Den at h ⊢; exact h
 | .list ds,v,n,h=>by unfold cX at n; cases n
 | .tuple ds,v,n,h=>by unfold cX at n; unfold Den at h ⊢; obtain ⟨a,xs,h1,h2,h3⟩:=h; exact ⟨a,xs,h1,e.ag ht h2,bo.af e ht ds xs n h3⟩
 | .dict kvs,v,n,h=>by unfold cX at n; cases n
theorem bo.af (e:bo t H H') (ht:H t=some (.lst ys)):∀ (ds:List PyData) (xs:List V),cP ds=true->aP K H ds xs->aP K H' ds xs
 | [],xs,_,h=>by unfold aP at h ⊢; exact h
 | d::ds,xs,n,h=>by
  unfold cP at n; rw [Jm] at n
  unfold aP at h ⊢; obtain ⟨x,r,h1,h2,h3⟩:=h; exact ⟨x,r,h1,bo.den e ht d x n.1 h2,bo.af e ht ds r n.2 h3⟩
end
theorem fX (f:α->PyData) (h:∀ x,cX (f x)=true):∀ l:List α,cP (l.map f)=true
 | []=>by unfold List.map cP; rfl
 | x::r=>by rw [Jh]; unfold cP; rw [h x,fX f h r]; rfl
theorem sV (i:Int):cX (.int i)=true:=by unfold cX; rfl
theorem gN (l:List Int):cX (cO l)=true:=by unfold cO cX; exact fX _ sV l
theorem aAc (l:List Int):cX (eG l)=true:=gN l
theorem aAd (n:Int) (ws:List (List Int)):cX (bI n ws)=true:=by
 unfold bI cX cP
 rw [sV]
 unfold cP cX
 rw [fX _ gN ws]
 unfold cP
 rfl
theorem l_ (x:V) : [x].length<=sizeLine:=by rw [Rf]; simp
theorem uq (x y:V) : [x,y].length<=sizeLine:=by rw [Rf]; simp
theorem bP (h:n<=1000):n<=sizeLine:=by rw [Rf]; omega
noncomputable def kY (K:Rb) (H:Hp) (t a:Addr) (ns:List Int):Prop:=∃ q:Int,H t=some (.lst [.int q])
theorem kY.same (h:kY K H t a ns) (e:aD H H'):kY K H' t a ns:=by
 obtain ⟨q,h2⟩:=h
 exact ⟨q,e t _ h2⟩
theorem kY.af (h:kY K H t a ns) (e:bo t H H') (n:cP ds=true) (hd:aP K H ds vs):aP K H' ds vs:=by
 obtain ⟨q,h2⟩:=h
 exact e.af h2 ds vs n hd
theorem kY.ne (h:kY K H t a ns) (hb:H b=none):b≠t:=by
 obtain ⟨q,h2⟩:=h
 intro z
 rw [z,h2] at hb
 cases hb
theorem kY.wr (T:kY K H t a ns) (b:bo f H H') (n:t≠f):kY K H' t a ns:=by
 obtain ⟨q,h2⟩:=T
 exact ⟨q,b t _ n h2⟩
theorem jS (ns:List Int):eM (.list (ns.map .int))=true:=by
 unfold eM
 induction ns with
 | nil=>unfold List.map iJ; rfl
 | cons n r ih=>rw [Jh]; unfold iJ; rw [ih]; unfold eM; rfl
theorem nO (f:α->PyData) (h:∀ x,(f x).canLay0=true):∀ l:List α,PyData.canLayAll0 (l.map f)=true
 | []=>by unfold List.map PyData.canLayAll0; rfl
 | x::r=>by rw [Jh]; unfold PyData.canLayAll0; rw [h x,nO f h r]; rfl
theorem pK {k:Nat} (f:α->PyData) (h:∀ x,(f x).depth<=k):∀ l:List α,PyData.depthAll (l.map f)<=k
 | []=>by unfold List.map PyData.depthAll; exact Jl _
 | x::r=>by rw [Jh]; unfold PyData.depthAll; exact Nat.max_le.mpr ⟨h x,pK f h r⟩
theorem sW (i:Int):(PyData.int i).canLay0=true:=by unfold PyData.canLay0; rfl
theorem wA (i:Int):(PyData.int i).depth<=0:=by unfold PyData.depth; exact Qi _
theorem xQ (ns:List Int):(PyData.list (ns.map .int)).canLay0=true:=by unfold PyData.canLay0; exact nO _ sW ns
theorem xR (ns:List Int):(PyData.tuple (ns.map .int)).canLay0=true:=by unfold PyData.canLay0; exact nO _ sW ns
theorem aAe (ns:List Int):(PyData.list (ns.map .int)).depth<=1:=by unfold PyData.depth; exact Zp (pK _ wA ns)
theorem aAf (ns:List Int):(PyData.tuple (ns.map .int)).depth<=1:=by unfold PyData.depth; exact Zp (pK _ wA ns)
theorem aCL (h1:d.canLay0=true) (h2:d.depth<=64):SeqAt.shaped d=true:=by
 unfold SeqAt.shaped
 rw [h1,decide_eq_true h2]
 rfl
theorem jT (ns:List Int):SeqAt.shaped (.list (ns.map .int))=true:=aCL (xQ ns) (Qw (aAe ns) (by decide))
theorem _root_.L2.au.BZ {k:Nat} (r:au k A):A.units+64 < cLine:=by have:=r.un; omega
noncomputable def Pn (K:Rb):Sp:=λvs H Q _=>∃ (a:Addr) (ns:List Int) (k:Nat),vs = [.ref a,.int k]/\ai K H a (ns.map V.int)/\∀ r,Q (.int r) H
theorem n!:ae ["script", "k"] ["script", "k"] (aF Fd):=.of
theorem C? (G:Fn K mg "_law_acell" Fd ["script", "k"] f fd) (B:Bl mg):ab P w K mg base ao 1 f fd ["script", "k"] (Pn K):=by
 refine G.fn.oK n! λa_ A outer s H vs Q E hr h=>?_
 ·obtain ⟨a,ns,n,rfl,ha,k⟩:=h
  refine ⟨_,(aE (eJ (bG E5 (pv 1) (aO aX rfl B.len eF (aA (pv 0) aC)) (bJ _))
   (aK (aW (aY cQ (pv 0) (pv 1) (λ_ _=>rfl))))
   bR)
  (aK (aW aM))),?_⟩
  refine ⟨_,rfl,_,rfl,a,_,rfl,.inl ha,_,_,rfl,rfl,_,rfl,?_⟩
  rw [Qa]
  refine gC (λc=>?_) (λc=>?_)
  ·have ax:n < ns.length:=by have:=of_decide_eq_true c; omega
   exact ⟨_,rfl,_,rfl,a,_,n,.int ns[n],rfl,rfl,ha,cM (by rw [Qe,Qc ax]; rfl),k _⟩
  ·exact k _
noncomputable def Pm (K:Rb):Sp:=λvs H Q _=>∃ (a:Addr) (ns:List Int) (k:Nat),vs = [.ref a,.int k]/\ai K H a (ns.map V.int)/\∀ t q,H t=none->Q (.ref t) (upd H t (.lst [.int q]))
theorem mC:ae ["script", "k", "cell", "p", "number", "last", "turn"] ["script", "k"] (aF Fc):=.of
theorem C! {fC:Addr} {dC:FuncData} (G:Fn K mg "_law_atape" Fc ["script", "k"] f fd) (B:Bl mg) (GC:Fn K mg "_law_acell" Fd ["script", "k"] fC dC):ab P w K mg base ao 2 f fd ["script", "k"] (Pm K):=by
 have OC:ab P w K mg base ao 1 fC dC ["script", "k"] (Pn K):=C? GC B
 refine G.fn.oK mC λa_ A outer s H vs Q E hr h=>?_
 ·obtain ⟨a,ns,n,rfl,ha,k⟩:=h
  have r1:au 1 _:=hr
  refine ⟨_,(aE (aU (i:=2) mC.nd rfl (Or.inl rfl) (bA GC OC r1 rfl (aA (pv 0) (aA (pv 1) aC))))
  (aE (eJ (bG pZ (bC nI (pv 2) aM) aM (bJ _))
   (aK (aW (dY (aA (bC aES (pv 2) aM) aC))))
   bR)
  (aE (aU (i:=3) mC.nd rfl (Or.inl rfl) aM)
  (aE (aU (i:=4) mC.nd rfl (Or.inl rfl) aM)
  (aE (aU (i:=5) mC.nd rfl (Or.inl rfl) (bC nI (bC iD (bC iD (bC rH (bC nI (pv 2) (pv 3)) aM) (bC rH aM (pv 1))) aM) (pv 3)))
  (aE (eC PassesOwn.never rfl (eA rfl B.range (aA aM aC)) (aJ (i:=6) mC.nd rfl (Or.inl rfl))
   (aE (aU (i:=4) mC.nd rfl (Or.inl rfl) (bC iD (bC rH (pv 4) (pv 3)) (pv 5)))
  (aK (aU (i:=5) mC.nd rfl (Or.inl rfl) (bC nI (bC iD (bC iD (bC rH (pv 5) (pv 5)) (bC rH aM (pv 1))) (pv 6)) (pv 3))))))
  (aK (aW (dY (aA (pv 4) aC)))))))))),?_⟩
  refine ⟨_,rfl,_,rfl,a,ns,n,rfl,ha,λc=>?_⟩
  refine ⟨_,rfl,_,_,rfl,rfl,(show (0:Int) < _ by decide),rfl,_,rfl,?_⟩
  refine gC (λc1=>?_) (λc1=>?_)
  ·exact ⟨_,rfl,_,_,rfl,rfl,⟨by decide,by decide⟩,l_ _,λt ht=>k t _ ht⟩
  ·refine ⟨_,rfl,_,rfl,_,_,rfl,rfl,(show (0:Int) < _ by decide),_,_,rfl,rfl,.inr ⟨by decide,by decide⟩,_,rfl,_,_,rfl,rfl,.inl ⟨by decide,by decide⟩,_,_,rfl,rfl,_,_,rfl,rfl,_,rfl,_,_,rfl,rfl,(show (0:Int) < _ by decide),?_⟩
   have b0:0<=((c % 2305843009213693951*48271+69621*(n:Int)+11) % 2305843009213693951:Int)/\((c % 2305843009213693951*48271+69621*(n:Int)+11) % 2305843009213693951:Int) < 2305843009213693951:=⟨Yq _ (by decide),Zu _ (by decide)⟩
   refine ⟨18,rfl,by decide,by decide,kE (lo:=0) (n:=18) (λi σ H2=>(∃ nu la v6,σ = [some (.ref a),some (.int n),some (.int c),some (.int 2305843009213693951),some (.int nu),some (.int la),v6]/\0<=la/\la < 2305843009213693951)/\H2=H) ⟨⟨0,_,none,rfl,b0.1,b0.2⟩,rfl⟩ ?_ ?_⟩
   ·rintro i σ H2 hi ⟨⟨nu,la,v6,rfl,h0,h1⟩,rfl⟩
    refine ⟨_,rfl,_,rfl,_,_,rfl,rfl,.inr ⟨by decide,by decide⟩,_,rfl,_,_,rfl,rfl,?_⟩
    refine ⟨_,rfl,_,rfl,_,_,rfl,rfl,.inl ⟨by omega,by omega⟩,_,rfl,_,_,rfl,rfl,.inl ⟨by decide,by decide⟩,_,_,rfl,rfl,_,rfl,_,_,rfl,rfl,_,rfl,_,_,rfl,rfl,(show (0:Int) < _ by decide),?_⟩
    exact ⟨⟨_,_,_,rfl,Yq _ (by decide),Zu _ (by decide)⟩,rfl⟩
   ·rintro σ H2 ⟨⟨nu,la,v6,rfl,h0,h1⟩,rfl⟩
    exact ⟨_,rfl,l_ _,λt ht=>k t _ ht⟩
noncomputable def xS (K:Rb):Sp:=λvs H Q _=>∃ (t a:Addr) (ns:List Int) (m:Int),vs = [.ref t,.int m]/\kY K H t a ns/\0 < m/\m < 1267650600228229401496703205376/\∀ r H',0<=r->r < m->bo t H H'->kY K H' t a ns->Q (.int r) H'
theorem QT:ae ["tape", "many", "found"] ["tape", "many"] (aF qP):=.of
theorem aD8 (G:Fn K mg "_law_adigit" qP ["tape", "many"] f fd) (B:Bl mg):ab P w K mg base ao 1 f fd ["tape", "many"] (xS K):=by
 refine G.fn.oK QT λa_ A outer s H vs Q E hr h=>?_
 ·obtain ⟨t,a,ns,m,rfl,⟨q,ht⟩,Bu,GA,k⟩:=h
  refine ⟨_,(aE (aU (i:=2) QT.nd rfl (Or.inl rfl) (bC nI (aY cQ (pv 0) aM (λ_ _=>rfl)) (pv 1)))
  (aE (kR (bC aDC (aY cQ (pv 0) aM (λ_ _=>rfl)) (pv 1)) (ID (pv 0) aM nW))
  (aK (aW (pv 2))))),?_⟩
  refine ⟨_,rfl,t,_,0,.int q,rfl,rfl,ai.of ht,rfl,_,rfl,_,_,rfl,rfl,Bu,?_⟩
  refine ⟨_,rfl,t,_,0,.int q,rfl,rfl,ai.of ht,rfl,_,rfl,_,_,rfl,rfl,⟨Bu,GA⟩,_,rfl,t,_,0,0,rfl,rfl,ht,rfl,?_⟩
  exact ⟨_,rfl,k _ _ (Yq _ (by omega)) (Zu _ Bu) bo.at ⟨_,aB⟩⟩
theorem QS (n:Int):∀ (l:List Int) (last:Int),(∀ x∈l,last < x)->l.Pairwise (· < ·)->(∀ x∈l,x < n)->eZ n last (l.map .int)=true
 | [],_,_,_,_=>rfl
 | x::r,last,h1,h2,h3=>by
  rw [Jh,iT]
  have qq:=Yw.mp h2
  rw [decide_eq_true (h1 x (Ql ..)),decide_eq_true (h3 x (Ql ..)),QS n r x qq.1 qq.2 (λy hy=>h3 y (Qo _ hy))]
  rfl
theorem xT {n:Int} (h0:l≠[]) (h1:∀ x∈l,0<=x/\x < n) (h2:l.Pairwise (· < ·)):dM n (cO l)=true:=by
 have e:dM n (cO l)=(!(l.map PyData.int).isEmpty && eZ n (-1) (l.map .int)):=rfl
 rw [e,QS n l (-1) (λx hx=>by have:=(h1 x hx).1; omega) h2 (λx hx=>(h1 x hx).2)]
 cases l with
 | nil=>exact absurd rfl h0
 | cons _ _=>rfl
theorem qE (n:Int):∀ (l:List Int) (last:Int),eZ n last (l.map .int)=true->l.Pairwise (· < ·)/\∀ x∈l,last < x/\x < n
 | [],_,_=>⟨.nil,λ_ h=>by cases h⟩
 | x::r,last,h=>by
  rw [Jh,iT,Jm,Jm] at h
  obtain ⟨⟨h1,h2⟩,h3⟩:=h
  have h1:=of_decide_eq_true h1
  have h2:=of_decide_eq_true h2
  obtain ⟨i1,i2⟩:=qE n r x h3
  refine ⟨Yw.mpr ⟨λy hy=>(i2 y hy).1,i1⟩,λy hy=>?_⟩
  rcases Qk.mp hy with rfl | hy
  ·exact ⟨h1,h2⟩
  ·exact ⟨by have:=(i2 y hy).1; omega,(i2 y hy).2⟩
theorem cE {n:Int} (h:dM n (cO l)=true):l≠[]/\(∀ x∈l,0<=x/\x < n)/\l.Pairwise (· < ·):=by
 have e:(!(l.map PyData.int).isEmpty && eZ n (-1) (l.map .int))=true:=h
 rw [Jm] at e
 obtain ⟨h1,h2⟩:=qE n l (-1) e.2
 refine ⟨λz=>by rw [z] at e; simp at e,λx hx=>⟨by have:=(h2 x hx).1; omega,(h2 x hx).2⟩,h1⟩
theorem sX {n:Int}:∀ (l:List Int) (lo:Int),lo<=n->(∀ x∈l,lo<=x/\x < n)->l.Pairwise (· < ·)->(l.length:Int)<=n - lo
 | [],lo,h,_,_=>by simp; omega
 | x::r,lo,h,h1,h2=>by
  have qq:=Yw.mp h2
  have hx:=h1 x (Ql ..)
  have:=sX r (x+1) (by omega) (λy hy=>⟨by have:=qq.1 y hy; omega,(h1 y (Qo _ hy)).2⟩) qq.2
  rw [Jr]
  omega
theorem jI {n:Int} (hn:0<=n) (h1:∀ x∈l,0<=x/\x < n) (h2:l.Pairwise (· < ·)):(l.length:Int)<=n:=by
 have:=sX l 0 hn h1 h2
 omega
theorem gG {x:Int}:x∈aQ n↔0<=x/\x < n:=by
 unfold aQ
 rw [Jg]
 constructor
 ·rintro ⟨i,hi,rfl⟩
  have:=Jy.mp hi
  show 0<=(i:Int)/\(i:Int) < n
  omega
 ·rintro ⟨h1,h2⟩
  exact ⟨x.toNat,Jy.mpr (by omega),by show ((x.toNat:Nat):Int)=x; omega⟩
theorem qF:∀ (a b:List Int),PyData.eqvAll (a.map .int) (b.map .int)=decide (a=b)
 | [],[]=>by simp [PyData.eqvAll]
 | [],_::_=>by simp [PyData.eqvAll]
 | _::_,[]=>by simp [PyData.eqvAll]
 | x::r,y::s=>by
  rw [Jh,Jh,PyData.eqvAll,qF r s,PyData.eqv]
  by_cases h:x=y
  ·by_cases h2:r=s
   ·simp [h,h2]
   ·simp [h,h2]
  ·simp [h]
theorem wB (a b:List Int):PyData.eqv (.list (a.map .int)) (.list (b.map .int))=decide (a=b):=by rw [PyData.eqv,qF]
theorem sY {h:Int}:gU (.int h) l=true↔h∈l:=by
 show (l.any (·==h))=true↔_
 rw [Xb]
 constructor
 ·rintro ⟨x,hx,e⟩
  have:x=h:=by simpa using e
  exact this ▸ hx
 ·exact λhx=>⟨h,hx,by simp⟩
theorem qY (h1:hs.length=ws.length) (h2:∀ (j:Nat) (h:Int) (l:List Int),hs[j]?=some h->ws[j]?=some l->h∈l):eI ws (eG hs)=true:=by
 show (decide ((hs.map PyData.int).length=ws.length) && ((hs.map PyData.int).zip ws).all λp=>gU p.1 p.2)=true
 rw [Qa,decide_eq_true h1,Xq,Qt]
 rintro ⟨d,l⟩ hm
 obtain ⟨j,hj⟩:=Qv.mp hm
 rw [Jz] at hj
 obtain ⟨u7,qi⟩:=hj
 have u7:(hs.map PyData.int)[j]?=some d:=u7
 have qi:ws[j]?=some l:=qi
 rw [Qe] at u7
 cases q:hs[j]? with
 | none=>rw [q] at u7; cases u7
 | some h =>
  rw [q] at u7
  obtain rfl:PyData.int h=d:=Option.some.inj u7
  exact sY.mpr (h2 j h l q qi)
theorem bQ (h:eI ws (eG hs)=true):hs.length=ws.length/\∀ (j:Nat) (h:Int) (l:List Int),hs[j]?=some h->ws[j]?=some l->h∈l:=by
 have h':(decide ((hs.map PyData.int).length=ws.length) && ((hs.map PyData.int).zip ws).all λp=>gU p.1 p.2)=true:=h
 rw [Qa,Jm,Qt] at h'
 refine ⟨of_decide_eq_true h'.1,λj h l hj hl=>?_⟩
 refine sY.mp (h'.2 (.int h,l) (Qg (i:=j) ?_))
 rw [Jz]
 exact ⟨by rw [Qe,hj]; rfl,hl⟩
theorem PH {n:Int} (h1:1<=n) (h2:n<=6) (h3:ws.length<=12) (h4:∀ l∈ws,dM n (cO l)=true):bN (bI n ws)=true:=by
 show (decide (1<=n) && decide (n<=6) && decide ((ws.map cO).length<=12) && (ws.map cO).all (dM n))=true
 rw [decide_eq_true h1,decide_eq_true h2,Qa,decide_eq_true h3,Xq,Xq,Xq,Qt]
 intro d hd
 obtain ⟨l,hl,rfl⟩:=Jg.mp hd
 exact h4 l hl
theorem wC {n:Int} (h1:ah K H a [.int n,.ref b]) (h2:ah K H b ys) (h3:aP K H (ws.map cO) ys):Den K H (bI n ws) (.ref a) :=
 bL.mpr ⟨a,_,rfl,h1,aL.mpr ⟨_,_,rfl,dE.mpr rfl,aL.mpr ⟨_,_,rfl,bL.mpr ⟨b,ys,rfl,h2,h3⟩,aN.mpr rfl⟩⟩⟩
noncomputable def QH (K:Rb):Sp:=λvs H Q _=>∃ (t a:Addr) (ns:List Int) (hm wm:Int),vs = [.ref t,.int hm,.int wm]/\kY K H t a ns/\1<=hm/\hm<=6/\0<=wm/\wm<=12/\∀ n ws p H',bN (bI n ws)=true->(ws.length:Int)<=wm->bo t H H'->kY K H' t a ns->Den K H' (bI n ws) (.ref p)->Q (.ref p) H'
theorem kZ:ae ["tape", "hands", "works", "n", "often", "found", "k", "able"] ["tape", "hands", "works"] (aF sN):=.of
theorem aD9 {Nr:FuncData} (G:Fn K mg "_law_abook" sN ["tape", "hands", "works"] f fd) (B:Bl mg) (GD:Fn K mg "_law_adigit" qP ["tape", "many"] fD Nr) (OD:ab P w K mg base ao 1 fD Nr ["tape", "many"] (xS K)):ab P w K mg base ao 2 f fd ["tape", "hands", "works"] (QH K):=by
 refine G.fn.oK kZ λa_ A outer s H vs Q E hr h=>?_
 ·obtain ⟨t,a,ns,hm,wm,rfl,hT,GU,hh6,Ly,vz,k⟩:=h
  have r1:au 1 _:=hr
  refine ⟨_,(aE (aU (i:=3) kZ.nd rfl (Or.inl rfl) (bC iD aM (bA GD OD r1 rfl (aA (pv 0) (aA (pv 1) aC)))))
  (aE (aU (i:=4) kZ.nd rfl (Or.inr rfl) (bC iD aM (bA GD OD r1 rfl (aA (pv 0) (aA aM aC)))))
  (aE (aU (i:=5) kZ.nd rfl (Or.inl rfl) (dY aC))
  (aE (eC PassesOwn.never rfl (eA rfl B.range (aA (bA GD OD r1 rfl (aA (pv 0) (aA (bC iD (pv 2) aM) aC))) aC)) (aJ (i:=6) kZ.nd rfl (Or.inl rfl))
   (aE (eL (i:=7) (own:=["hand"]) (fr:=[4,0]) (a9:=["often", "tape"]) (aT (aF sN) ["tape", "hands", "works", "n", "often", "found", "k", "able"] rfl rfl (by decide +kernel)) rfl kZ.nd rfl rfl rfl (eA rfl B.range (aA (pv 3) aC))
    (λ_ _ _ _=>(aJ (i:=0) (show (["hand", "often", "tape"]:List Str).Nodup by decide +kernel) rfl (Or.inl rfl))) (λ_ _ _ _=>lT (bG E5 (bA GD OD r1 rfl (aA (pv 2) (aA aM aC))) (pv 1) (bJ _)))
    (λ_ _ _ _=>(pv 0)))
  (aE (eJ (bG (IB hr.BZ) (pv 7) (dY aC) (bJ _))
   (aK (aU (i:=7) kZ.nd rfl (Or.inl rfl) (dY (aA (bA GD OD r1 rfl (aA (pv 0) (aA (pv 3) aC))) aC))))
   bR)
  (aK (dO (lK Ro Rq Rr gB (pv 5) (aA (bU cN rfl B.tuple dU (aA (pv 7) aC)) aC)))))))
  (aK (aW (cV (aA (pv 3) (aA (bU cN rfl B.tuple dU (aA (pv 5) aC)) aC))))))))),?_⟩
  refine ⟨_,rfl,_,rfl,t,a,ns,hm,rfl,hT,by omega,by omega,λr H1 hr0 xu b1 T1=>⟨_,_,rfl,rfl,?_⟩⟩
  refine ⟨_,rfl,t,a,ns,4,rfl,T1,by decide,by decide,λkd H2 hk0 LV b2 T2=>⟨_,_,rfl,rfl,?_⟩⟩
  refine ⟨bP (Jl _),λfl uf=>?_⟩
  have Bj:t≠fl:=λz=>T2.ne uf z.symm
  have s3:=aD.new (o:=.lst []) uf
  have AU:H fl=none:=(b1.trans b2).free uf (Ne.symm Bj)
  have T3:=T2.same s3
  have N':=b1.trans (b2.trans (bo.of s3))
  have DC:upd H2 fl (.lst []) fl=some (.lst []):=aB
  generalize hH3:upd H2 fl (.lst [])=H3 at T3 N' DC ⊢
  refine ⟨_,rfl,_,rfl,_,_,rfl,rfl,t,a,ns,wm+1,rfl,T3,by omega,by omega,λm H4 LI Bu b4 T4=>?_⟩
  refine ⟨m,rfl,by omega,by omega,kE (lo:=0) (n:=m.toNat) (λi σ H5=>∃ (ws:List (List Int)) (xs:List V) (v v2:Option V),σ = [some (.ref t),some (.int hm),some (.int wm),some (.int (1+r)),some (.int (1+kd)),some (.ref fl),v,v2]/\ws.length=i /\
   (∀ l∈ws,dM (1+r) (cO l)=true)/\H5 fl=some (.lst xs)/\aP K H5 (ws.map cO) xs/\bo t H H5/\kY K H5 t a ns)
   ⟨[],[],none,none,rfl,rfl,λ_ h=>(Qn h).elim,b4 fl _ (Ne.symm Bj) DC,aN.mpr rfl,N'.trans b4,T4⟩ ?_ ?_⟩
  ·rintro i σ H5 hi ⟨ws,xs,v,v2,rfl,hl,hw,hx,hd,b5,T5⟩
   have lg:xs.length=i:=by rw [aH hd,Qa,hl]
   have next:∀ (l:List Int) (p:Addr) (H7:Hp),dM (1+r) (cO l)=true->bo t H5 H7->kY K H7 t a ns->ah K H7 p (l.map V.int) ->
     ∃ tm,H7 fl=some (.lst xs)/\tm=xs++[.ref p]/\(∀ l2∈ws++[l],dM (1+r) (cO l2)=true)/\aP K (upd H7 fl (.lst tm)) ((ws++[l]).map cO) tm/\bo t H (upd H7 fl (.lst tm))/\kY K (upd H7 fl (.lst tm)) t a ns:=by
    intro l p H7 Bo b7 T7 UW
    have Gb:H7 fl=some (.lst xs):=b7 fl _ (Ne.symm Bj) hx
    have VV:=T5.af b7 (fX _ gN ws) hd
    have b8:bo fl H7 (upd H7 fl (.lst (xs++[.ref p]))):=bo.at
    refine ⟨_,Gb,rfl,λl2 ly=>?_,?_,λb o nb hb=>?_,T7.wr b8 Bj⟩
    ·rcases Jo.mp ly with h | h
     ·exact hw l2 h
     ·rw [Qs.mp h]; exact Bo
    ·rw [Qp]
     exact bH (b8.af Gb _ _ (fX _ gN ws) VV) (aL.mpr ⟨_,_,rfl,aS.mpr ⟨p,rfl,b8.ag Gb UW⟩,aN.mpr rfl⟩)
    ·rw [aI (λz=>by rw [z,AU] at hb; cases hb)]
     exact (b5.trans b7) b o nb hb
   refine ⟨_,rfl,1+r,rfl,by omega,by omega,gK (lo:=0) (n:=(1+r).toNat) (λσ=>∃ v,σ = [v,some (.int (1+kd)),some (.ref t)]) (λj ys H6=>∃ l:List Int,ys=l.map V.int/\l.Pairwise (· < ·)/\(∀ x∈l,0<=x/\x < j)/\bo t H5 H6/\kY K H6 t a ns) (bP (by omega)) ⟨none,rfl⟩
    ⟨[],rfl,.nil,λ_ h=>(Qn h).elim,bo.refl t H5,T5⟩ ?_ ?_ ?_⟩
   ·rintro j ys H6 ⟨l,rfl,h1,h2,_⟩
    rw [Qa]
    have:=jI (n:=(j:Int)) (by omega) h2 h1
    omega
   ·rintro j ys σ H6 hj ⟨v,rfl⟩ ⟨l,rfl,h1,h2,b6,T6⟩ hz
    refine ⟨_,rfl,t,a,ns,5,rfl,T6,by decide,by decide,λr7 H7 _ _ b7 T7=>⟨_,rfl,_,_,rfl,rfl,_,rfl,?_⟩⟩
    refine gC (λc=>?_) (λc=>?_)
    ·refine ⟨_,rfl,hz,⟨_,rfl⟩,l++[(j:Int)],by simp,List.pairwise_append.mpr ⟨h1,by simp,λx hx y hy=>?_⟩,λx hx=>?_,b6.trans b7,T7⟩
     ·rw [Qs.mp hy]; exact (h2 x hx).2
     ·rcases Jo.mp hx with hx | hx
      ·have:=h2 x hx; omega
      ·rw [Qs.mp hx]; omega
    ·refine ⟨⟨_,rfl⟩,l,rfl,h1,λx hx=>?_,b6.trans b7,T7⟩
     have:=h2 x hx; omega
   ·rintro ys H6 ⟨l,rfl,h1,h2,b6,T6⟩ ap o9
    have aap:ap≠t:=T6.ne o9
    have s7:=aD.new (o:=.lst (l.map V.int)) o9
    have e7:upd H6 ap (.lst (l.map V.int)) ap=some (.lst (l.map V.int)):=aB
    have b7:=b6.trans (bo.of (t:=t) s7)
    have T7:=T6.same s7
    generalize upd H6 ap (.lst (l.map V.int))=H7 at s7 e7 b7 T7 ⊢
    refine ⟨_,rfl,bP (Jl _),λz hz=>?_⟩
    have s8:=aD.new (o:=.lst []) hz
    refine ⟨.list (l.map .int),.list (([]:List Int).map .int),vT.mpr ⟨ap,rfl,s8.b_ (ai.of e7)⟩,vT.mpr ⟨z,rfl,ai.of aB⟩,jS _,jS _,jT _,jT _,_,rfl,?_⟩
    rw [wB]
    have e8:=s8 _ _ e7
    have b8:=b7.trans (bo.of (t:=t) s8)
    have T8:=T7.same s8
    generalize upd H7 z (.lst [])=H8 at e8 b8 T8 ⊢
    by_cases t_:l = []
    ·rw [decide_eq_true t_]
     refine iE ?_
     refine ⟨_,rfl,_,rfl,t,a,ns,1+r,rfl,T8,by omega,by omega,λr9 H9 h90 h91 b9 T9=>⟨l_ _,λl9 U9=>?_⟩⟩
     have jb:=aD.new (o:=.lst [.int r9]) U9
     have Hz:=b8.trans (b9.trans (bo.of jb))
     have Q2:=T9.same jb
     have BJ:upd H9 l9 (.lst [.int r9]) l9=some (.lst [.int r9]):=aB
     generalize upd H9 l9 (.lst [.int r9])=um at Hz Q2 BJ ⊢
     have JR:=Hz fl _ (Ne.symm Bj) hx
     refine ⟨_,rfl,.inl ⟨rfl,_,ai.of JR⟩,_,rfl,l9,_,rfl,.inl ⟨ai.of BJ,λq hq=>?_⟩⟩
     have h8:=aD.new (o:=.tup [.int r9]) hq
     obtain ⟨tm,n1,n2,n3,n4,n5,n6⟩:=next [r9] q _ (xT (by simp) (λy hy=>by rw [Qs.mp hy]; omega) (by simp)) (Hz.trans (bo.of h8)) (Q2.same h8) (ah.of aB)
     subst n2
     exact ⟨fl,xs,.ref q,rfl,rfl,n1,by rw [Rf]; omega,ws++[[r9]],_,_,_,rfl,by rw [Qr,hl]; rfl,n3,aB,n4,n5,n6⟩
    ·rw [decide_eq_false t_]
     refine iS ?_
     have T':=b8 fl _ (Ne.symm Bj) hx
     refine ⟨_,rfl,.inl ⟨rfl,_,ai.of T'⟩,_,rfl,ap,_,rfl,.inl ⟨ai.of e8,λq hq=>?_⟩⟩
     have h8:=aD.new (o:=.tup (l.map V.int)) hq
     obtain ⟨tm,n1,n2,n3,n4,n5,n6⟩:=next l q _ (xT t_ (λy hy=>by have:=h2 y hy; omega) h1) (b8.trans (bo.of h8)) (T8.same h8) (ah.of aB)
     subst n2
     exact ⟨fl,xs,.ref q,rfl,rfl,n1,by rw [Rf]; omega,ws++[l],_,_,_,rfl,by rw [Qr,hl]; rfl,n3,aB,n4,n5,n6⟩
  ·rintro σ H5 ⟨ws,xs,v,v2,rfl,hl,hw,hx,hd,b5,T5⟩
   refine ⟨_,rfl,_,rfl,fl,_,rfl,.inl ⟨ai.of hx,λq hq=>⟨uq _ _,λp hp=>?_⟩⟩⟩
   have sm:=(aD.new (o:=.tup xs) hq).trans (aD.new (o:=.tup [.int (1+r),.ref q]) hp)
   refine k (1+r) ws p _ (PH (by omega) (by omega) (by omega) hw) (by omega) (b5.trans (bo.of sm)) (T5.same sm) ?_
   refine wC (ah.of aB) ((aD.new hp).ag (ah.of aB)) (sm.af _ _ hd)
theorem gD.hand {x:V} {n:Int} (g:gD K H x y n ws hs) {h:Int} (e:hs[i]?=some h):0<=h/\h < n:=by
 obtain ⟨_,_,_,hw⟩:=bB g.2.1
 obtain ⟨hl,hd⟩:=bQ g.2.2.2
 have hi:i < ws.length:=by rw [<- hl]; exact (Qd.mp e).1
 have hm:=hd i h ws[i] e (Qc hi)
 exact (cE (hw _ (Xu hi))).2.1 h hm
theorem gL {n:Int} (h:j < n.toNat):(aV n hs)[j]?=some ((hs.count (j:Int):Nat):Int):=by
 unfold aV
 rw [Qe,iP h]
 rfl
theorem sZ {n:Int} (h:n.toNat<=j):(aV n hs)[j]?=none:=by
 rw [Yy,cC]; exact h
theorem aBa (n:Int):(List.replicate n.toNat [V.int 0]).flatten=(aV n []).map V.int:=by
 rw [List.flatten_replicate_singleton]
 refine List.ext_getElem? λj=>?_
 rw [Qe]
 by_cases h:j < n.toNat
 ·rw [gL h,Xc,if_pos h]
  rfl
 ·rw [sZ (by omega),Xc,if_neg h]
  rfl
theorem aAi {n:Int} {h:Int} (h0:0<=h) (h1:h < n):((aV n hs).map V.int).set h.toNat (.int (((hs.count h:Nat):Int)+1))=(aV n (hs++[h])).map V.int:=by
 refine List.ext_getElem? λj=>?_
 by_cases hj:j < n.toNat
 ·rw [Qe,gL hj,List.count_append,Xk]
  have hl:((aV n hs).map V.int).length=n.toNat:=by rw [Qa,cC]
  by_cases e:h.toNat=j
  ·have e':(j:Int)=h:=by omega
   rw [if_pos e,if_pos (by rw [hl]; omega),e',Wo]
   simp
  ·have e':¬ h=(j:Int):=by omega
   rw [if_neg e,Qe,gL hj,Wo]
   simp [e']
 ·rw [Qe,sZ (by omega),Yy.mpr]
  ·rfl
  ·rw [Xn,Qa,cC]; omega
noncomputable def gW (ws:List (List Int)) (hs:List Int):List Int->Bool
 | [k,g,t]=>decide (0<=k) && (decide (k < hs.length) && (hs[k.toNat]?==some g && (!decide (t=g) && decide (t∈ws.getD k.toNat []))))
 | _=>false
noncomputable def lA (st:List Int):Int:=st.getD 1 0
noncomputable def tD (st:List Int):Int:=st.getD 2 0
noncomputable def bS:List (List Int)->List Int
 | []=>[]
 | s::r=>lA s::(s::r).map tD
noncomputable def qZ (L:List (List Int)):Bool:=(L.zip (bS L)).all λp=>lA p.1==p.2
noncomputable def tE (ws:List (List Int)) (hs:List Int) (L:List (List Int)):Bool:=!L.isEmpty && (L.all (gW ws hs) && (qZ L && decide ((bS L).Nodup)))
theorem wD {st:List Int} (h:gW ws hs st=true):∃ k g t,st = [k,g,t]:=by
 match st,h with
 | [k,g,t],_=>exact ⟨k,g,t,rfl⟩
theorem aCM {st:List Int} (h:st.length≠3):gW ws hs st=false:=by
 match st,h with
 | [],_=>rfl
 | [_],_=>rfl
 | [_,_],_=>rfl
 | [_,_,_],h=>exact absurd rfl h
 | _::_::_::_::_,_=>rfl
theorem Y2 {st:List Int} (h:st.length=3):∃ k g t,st = [k,g,t]:=by
 match st,h with
 | [k,g,t],_=>exact ⟨k,g,t,rfl⟩
theorem lB (h:aP K H (ws.map cO) ys) (e:ws[i]?=some l):∃ c,ys[i]?=some (.ref c)/\ah K H c (l.map V.int):=by
 have hl:=aH h
 rw [Qa] at hl
 have hi:i < ys.length:=by rw [hl]; exact (Qd.mp e).1
 obtain ⟨d,e1,e2⟩:=eV h (Qc hi)
 rw [Qe,e] at e1
 obtain rfl:=(Option.some.inj e1).symm
 obtain ⟨c,e3,e4⟩:=aS.mp e2
 exact ⟨c,by rw [Qc hi,e3],e4⟩
theorem aEa {k:Int} {x:Int} (h0:0<=k) (h:l[k.toNat]?=some x):g9 (l.map V.int) k=some (.int x):=by
 have h1:(l.map V.int)[k.toNat]?=some (.int x):=by rw [Qe,h]; rfl
 have h2:=cM h1
 rwa [Yr h0] at h2
theorem m? {l:List V} {k:Int} {x:V} (h0:0<=k) (h:l[k.toNat]?=some x):g9 l k=some x:=by
 have h2:=cM h
 rwa [Yr h0] at h2
noncomputable def O9 (K:Rb):Sp:=λvs H Q _=>∃ x y b n ws hs l,vs = [x,y,.ref b]/\gD K H x y n ws hs/\ah K H b (l.map V.int)/\l.length<=1000/\∀ H',aD H H'->Q (.bl (gW ws hs l)) H'
theorem xU:ae ["book", "deal", "step", "work", "giver", "taker"] ["book", "deal", "step"] (aF vY):=.of
theorem aEc {k g t:Int} {h:Int} (k0:0<=k) (k1:k < hs.length) (eh:hs[k.toNat]?=some h) (el:ws[k.toNat]?=some l):gW ws hs [k,g,t]=(decide (V.int h=V.int g) && (!decide (V.int t=V.int g) && l.any (·==t))):=by
 show (decide (0<=k) && (decide (k < hs.length) && (hs[k.toNat]?==some g && (!decide (t=g) && decide (t∈ws.getD k.toNat [])))))=_
 rw [decide_eq_true k0,decide_eq_true k1,eh]
 have e1:ws.getD k.toNat []=l:=by rw [Qx,el]; rfl
 rw [e1]
 have e2:(some h==some g)=decide (V.int h=V.int g):=by
  by_cases z:h=g
  ·subst z; simp
  ·rw [decide_eq_false (λq=>z (V.int.inj q))]; simpa using z
 have e3:decide (t=g)=decide (V.int t=V.int g):=by
  by_cases z:t=g
  ·subst z; simp
  ·rw [decide_eq_false z,decide_eq_false (λq=>z (V.int.inj q))]
 have e4:decide (t∈l)=l.any (·==t):=by
  rw [Xf,decide_eq_true_iff,Xb]
  constructor
  ·intro h; exact ⟨t,h,by simp⟩
  ·rintro ⟨y,hy,e⟩; have:y=t:=by simpa using e
   rw [<- this]; exact hy
 rw [e2,e3,e4]
 rfl
theorem B? (G:Fn K mg "is_step" vY ["book", "deal", "step"] f fd) (B:Bl mg) (R:Pr K mg fW fH fK fB i9 fD jr fL dW dH dK dB i_ dD jt dL):ab P w K mg base ao 2 f fd ["book", "deal", "step"] (O9 K):=by
 have OW:ab P w K mg base ao 1 fW dW ["thing"] (mL K):=mB R.W B
 refine G.fn.oK xU λa_ A outer s H vs Q E hr h=>?_
 ·obtain ⟨x,y,b,n,ws,hs,l,rfl,g,hb,hl,k⟩:=h
  have r1:au 1 _:=hr
  refine ⟨_,(aE (eJ (PW.pt (lJ (dJ (cT (aO eD rfl B.isinstance nE (aA (pv 2) (aA (iI (v:=.ty "tuple") rfl B.tuple dU rfl) aC))))) (jB (bG mW (aO aX rfl B.len eF (aA (pv 2) aC)) aM (bJ _)))))
   (aK (aW iN))
   bR)
  (aE (eJ (dJ (cT (aO (jD rfl) rfl B.all sI (aA (bK (own:=["part"]) (fr:=[]) (a9:=[]) (aT (aF vY) ["book", "deal", "step", "work", "giver", "taker"] rfl rfl (by decide +kernel)) rfl (eY (pv 2))
    (λ_ _ _ _=>(aJ (i:=0) (show (["part"]:List Str).Nodup by decide +kernel) rfl (Or.inl rfl))) (λ_ _ _ _=>bZ)
    (λ_ _ _ _=>(bA R.W OW r1 rfl (aA (pv 0) aC)))) aC))))
   (aK (aW iN))
   bR)
  (aE (kR (pv 2) (iC rfl (aR (aJ (i:=3) xU.nd rfl (Or.inl rfl)) (aR (aJ (i:=4) xU.nd rfl (Or.inl rfl)) (aR (aJ (i:=5) xU.nd rfl (Or.inl rfl)) cJ)))))
  (aE (eJ (dJ (aDl vK E5 aM (pv 3) (aO aX rfl B.len eF (aA (pv 1) aC))))
   (aK (aW iN))
   bR)
  (aK (aW (nG (gQ pZ (aY cD (pv 1) (pv 3) (λ_ _=>rfl)) (pv 4) (bJ _)) (nG (gQ mW (pv 5) (pv 4) (bJ _)) (pB (gQ vQ (pv 5) (aY cD (aY cD (pv 0) aM (λ_ _=>rfl)) (pv 3) (λ_ _=>rfl)) (by with_unfolding_all rfl))))))))))),?_⟩
  refine ⟨_,rfl,.ref b,.tup,rfl,.inr (.inl ⟨rfl,_,hb⟩),true,rfl,?_⟩
  refine iS ?_
  refine ⟨_,rfl,b,_,rfl,.inr hb,rfl,_,rfl,?_⟩
  refine gC (λc=>?_) (λc=>?_)
  ·have br:l.length≠3:=λz=>by rw [Qa,z] at c; simp at c
   rw [aCM br] at k
   exact k H (aD.refl H)
  have h3:l.length=3:=by
   have:V.int ((l.map V.int).length:Nat)=V.int 3:=by simpa using c
   have:=V.int.inj this
   rw [Qa] at this
   omega
  obtain ⟨wk,gv,tk,rfl⟩:=Y2 h3
  refine ⟨_,rfl,b,rfl,⟨_,hb⟩,gS (K:=K) (a:=b) (xs:=[V.int wk,V.int gv,V.int tk]) (λσ=>σ.length=1) (λi ys H'=>ys=(List.replicate i true).map V.bl/\aD H H') (bP (show 3<=1000 by decide)) rfl ⟨rfl,aD.refl H⟩ (λi ys H' p=>by rw [p.1]; simp) (λi ys H' p=>p.2.ag hb) (λi ys σ x H' hx gq p hz=>?_) (λys H' p=>?_)⟩
  ·obtain ⟨v,rfl⟩:∃ v,σ = [v]:=by match σ,gq with | [v],_=>exact ⟨v,rfl⟩
   obtain ⟨q1,q2⟩:=p
   obtain ⟨m,rfl⟩:∃ m,x=.int m:=by
    have hm:=Qg hx
    simp only [Qk,Qn,or_false] at hm
    rcases hm with rfl | rfl | rfl
    ·exact ⟨_,rfl⟩
    ·exact ⟨_,rfl⟩
    ·exact ⟨_,rfl⟩
   refine eO ?_
   refine ⟨_,rfl,.int m,.int m,rfl,dE.mpr rfl,hz,rfl,?_,q2⟩
   rw [q1,List.replicate_succ',Qp]
   rfl
  ·obtain ⟨rfl,s1⟩:=p
   intro p hp
   have s2:=aD.new (o:=.lst ((List.replicate [V.int wk,V.int gv,V.int tk].length true).map V.bl)) hp
   refine ⟨p,List.replicate 3 true,rfl,ai.of aB,_,rfl,?_⟩
   refine iS ?_
   have s3:=s1.trans s2
   generalize upd H' p (.lst ((List.replicate [V.int wk,V.int gv,V.int tk].length true).map V.bl))=H2 at s2 s3 ⊢
   refine ⟨_,rfl,b,_,rfl,s3.ag hb,rfl,_,_,rfl,_,_,rfl,_,_,rfl,rfl,?_⟩
   have g3:=g.same s3
   obtain ⟨fe,CA⟩:=bQ g.2.2.2
   obtain ⟨ba,bb,ys2,rfl,ha,jy,fi⟩:=cW g3.1
   obtain ⟨c,rfl,hc⟩:=aS.mp g3.2.2.1
   refine ⟨_,rfl,_,_,rfl,rfl,_,rfl,?_⟩
   by_cases k0:0<=wk
   ·rw [decide_eq_true k0]
    refine iE ?_
    refine ⟨_,rfl,c,_,rfl,.inr hc,_,_,rfl,rfl,_,rfl,?_⟩
    rw [Qa]
    by_cases k1:wk < hs.length
    ·rw [decide_eq_true k1]
     refine iS ?_
     have ax:wk.toNat < hs.length:=by omega
     have eh:=Qc ax
     have el:=Qc (l:=ws) (i:=wk.toNat) (by omega)
     obtain ⟨cw,e1,e2⟩:=lB fi el
     have sv:=aEc (g:=gv) (t:=tk) k0 k1 eh el
     have kk:=k H2 s3
     rw [sv] at kk
     refine ⟨_,rfl,_,rfl,c,_,_,_,rfl,rfl,hc,aEa k0 eh,_,rfl,rfl,_,rfl,?_⟩
     refine gC (λc1=>?_) (λc1=>?_)
     ·rw [c1] at kk
      refine ⟨_,rfl,_,rfl,rfl,_,rfl,?_⟩
      refine gC (λc2=>?_) (λc2=>?_)
      ·rw [c2] at kk
       refine ⟨_,rfl,_,rfl,ba,_,1,.ref bb,rfl,rfl,ha,rfl,_,rfl,bb,_,_,_,rfl,rfl,jy,m? k0 e1,cw,_,rfl,.inr e2,rfl,kM _,?_⟩
       rw [show ma (V.int tk) (ws[wk.toNat].map V.int)=_ from qW tk _]
       exact kk
      ·rw [Yf] at c2
       rw [c2] at kk
       exact kk
     ·rw [Yf] at c1
      rw [c1] at kk
      exact kk
    ·rw [decide_eq_false k1]
     refine iE ?_
     have e:gW ws hs [wk,gv,tk]=false:=by
      show (decide (0<=wk) && (decide (wk < hs.length) && _))=false
      rw [decide_eq_false k1]; simp
     rw [e] at k
     exact k H2 s3
   ·rw [decide_eq_false k0]
    refine iS ?_
    refine ⟨_,rfl,?_⟩
    refine iE ?_
    have e:gW ws hs [wk,gv,tk]=false:=by
     show (decide (0<=wk) && _)=false
     rw [decide_eq_false k0]; rfl
    rw [e] at k
    exact k H2 s3
theorem aBb {L:List (List Int)} (h:L≠[]):(bS L).length=L.length+1:=by
 cases L with
 | nil=>exact absurd rfl h
 | cons s r=>simp [bS]
noncomputable def OJ (K:Rb):Sp:=λvs H Q _=>∃ x y p xs n ws hs L,vs = [x,y,.ref p]/\gD K H x y n ws hs/\ai K H p xs/\aP K H (L.map cO) xs/\L.length<=30/\(∀ l∈L,l.length<=1000)/\∀ H',aD H H'->Q (.bl (tE ws hs L)) H'
theorem HQ:ae ["book", "deal", "some", "passed", "follow"] ["book", "deal", "some"] (aF An):=.of
theorem l? (G:Fn K mg "is_way" An ["book", "deal", "some"] f fd) (B:Bl mg) (R:Pr K mg fW fH fK fB i9 fD jr fL dW dH dK dB i_ dD jt dL) (GS:Fn K mg "is_step" vY ["book", "deal", "step"] fS dS):ab P w K mg base ao 7 f fd ["book", "deal", "some"] (OJ K):=by
 have OS:ab P w K mg base ao 2 fS dS ["book", "deal", "step"] (O9 K):=B? GS B R
 have OND:ab P w K mg base ao 6 jr jt ["book", "deal"] (xP K):=QU B R
 refine G.fn.oK HQ λa_ A outer s H vs Q E hr h=>?_
 ·obtain ⟨x,y,p,xs,n,ws,hs,L,rfl,g,hp,hd,hL,Ba,k⟩:=h
  have r2:au 2 _:=hr.mono (by decide)
  have r6:au 6 _:=hr
  refine ⟨_,(aE (dO (bA R.ND OND r6 rfl (aA (pv 0) (aA (pv 1) aC))))
  (aE (eJ (PW.pt (lJ (dJ (cT (aO mY rfl B.isinstance nE (aA (pv 2) (aA (iI (v:=.ty "list") rfl B.list sH rfl) aC))))) (jB (bG pZ (aO aX rfl B.len eF (aA (pv 2) aC)) aM (bJ _)))))
   (aK (aW iN))
   bR)
  (aE (eJ (dJ (cT (aO (jD rfl) rfl B.all sI (aA (bK (own:=["step"]) (fr:=[0,1]) (a9:=["book", "deal"]) (aT (aF An) ["book", "deal", "some", "passed", "follow"] rfl rfl (by decide +kernel)) rfl (cK (pv 2))
    (λ_ _ _ _=>(aJ (i:=0) (show (["step", "book", "deal"]:List Str).Nodup by decide +kernel) rfl (Or.inl rfl))) (λ_ _ _ _=>bZ)
    (λ_ _ _ _=>(bA GS OS r2 rfl (aA (pv 1) (aA (pv 2) (aA (pv 0) aC)))))) aC))))
   (aK (aW iN))
   bR)
  (aE (aU (i:=3) HQ.nd rfl (Or.inl rfl) (bC rN (dY (aA (aY cD (aY cQ (pv 2) aM (λ_ _=>rfl)) aM (λ_ _=>rfl)) aC)) (bK (own:=["step"]) (fr:=[]) (a9:=[]) (aT (aF An) ["book", "deal", "some", "passed", "follow"] rfl rfl (by decide +kernel)) rfl (cK (pv 2))
    (λ_ _ _ _=>(aJ (i:=0) (show (["step"]:List Str).Nodup by decide +kernel) rfl (Or.inl rfl))) (λ_ _ _ _=>bZ)
    (λ_ _ _ _=>(aY (cH (K:=K) rfl) (pv 0) aM (λ_ _=>rfl))))))
  (aE (aU (i:=4) HQ.nd rfl (Or.inl rfl) (aO (jD rfl) rfl B.all sI (aA (bK (own:=["step", "hand"]) (fr:=[]) (a9:=[]) (aT (aF An) ["book", "deal", "some", "passed", "follow"] rfl rfl (by decide +kernel)) rfl (Pl .l .l rfl B.zip (aA (pv 2) (aA (pv 3) aC)))
    (λ_ _ _ _=>(iU (K:=K) (n:=2) rfl rfl (aR (aJ (i:=0) (show (["step", "hand"]:List Str).Nodup by decide +kernel) rfl (Or.inl rfl)) (aR (aJ (i:=1) (show (["step", "hand"]:List Str).Nodup by decide +kernel) rfl (Or.inl rfl)) cJ)))) (λ_ _ _ _=>bZ)
    (λ_ _ _ _=>(gQ pZ (aY (cH (K:=K) rfl) (pv 0) aM (λ_ _=>rfl)) (pv 1) (bJ _)))) aC)))
  (aK (aW (nG (pv 4) (pB (gQ pZ (aO uY rfl B.len eF (aA (bU (aCA (K:=K) rfl rfl) rfl B.set Ψ (aA (pv 3) aC)) aC)) (aO aX rfl B.len eF (aA (pv 3) aC)) (bJ _))))))))))),?_⟩
  refine ⟨_,rfl,_,rfl,x,y,n,ws,hs,rfl,g,λH1 s1=>?_⟩
  have lg:=aH hd
  rw [Qa] at lg
  have qa:=s1.b_ hp
  have qk:=s1.af _ _ hd
  refine ⟨_,rfl,.ref p,.lst,rfl,.inl ⟨rfl,_,qa⟩,true,rfl,?_⟩
  refine iS ?_
  refine ⟨_,rfl,p,_,rfl,.inl qa,rfl,_,rfl,?_⟩
  refine gC (λc=>?_) (λc=>?_)
  ·have e0:L = []:=by
    have:V.int (xs.length:Nat)=V.int 0:=by simpa using c
    have:=V.int.inj this
    exact Zt.mp (by omega)
   subst e0
   exact k H1 s1
  have br:L≠[]:=λz=>by
   subst z
   have:xs.length=0:=by simpa using lg
   rw [this] at c
   simp at c
  have g1:=g.same s1
  refine ⟨_,rfl,p,rfl,⟨_,qa⟩,oC (K:=K) (a:=p) (xs:=xs) (vs:=(L.map (gW ws hs)).map V.bl) (λσ=>∃ v,σ = [v,some x,some y]) (by omega) (by simp [lg]) qa ⟨none,rfl⟩ ?_ ?_⟩
  ·rintro i u v σ H2 hu hv ⟨v0,rfl⟩ s2 Q' k'
   have ax:i < L.length:=by have:=(Qd.mp hu).1; omega
   have el:L[i]?=some L[i]:=Qc ax
   obtain ⟨c1,e1,e2⟩:=lB (s2.af _ _ qk) el
   rw [hu] at e1
   obtain rfl:=Option.some.inj e1
   have ev:v=.bl (gW ws hs L[i]):=by
    rw [Qe,Qe,el] at hv
    exact (Option.some.inj hv).symm
   subst ev
   refine ⟨_,rfl,_,rfl,_,rfl,x,y,c1,n,ws,hs,L[i],rfl,g1.same s2,e2,Ba _ (Xu ax),λH3 s3=>?_⟩
   exact k' _ H3 ⟨_,rfl⟩ s3
  ·intro H2 s2 q hq
   refine ⟨q,L.map (gW ws hs),rfl,ai.of aB,_,rfl,?_⟩
   have s3:=s2.trans (aD.new (o:=.lst ((L.map (gW ws hs)).map V.bl)) hq)
   generalize upd H2 q (.lst ((L.map (gW ws hs)).map V.bl))=H3 at s3 ⊢
   have Kz:(L.map (gW ws hs)).all id=L.all (gW ws hs):=by rw [Yc]; rfl
   rw [Kz]
   by_cases ha:L.all (gW ws hs)=true
   ·rw [ha]
    refine iS ?_
    have az:∀ st∈L,gW ws hs st=true:=λst h=>Qt.mp ha st h
    have xy:∀ {H':Hp},aD H3 H'->ai K H' p xs:=λz=>z.b_ (s3.b_ qa)
    have B7:∀ {H':Hp} {i:Nat} {u:V},aD H3 H'->xs[i]?=some u->∃ (c:Addr) (st:List Int) (kk gg tt:Int),u=.ref c/\L[i]?=some st/\st = [kk,gg,tt]/\ah K H' c [.int kk,.int gg,.int tt]:=λ{H' i u} z hu=>by
     have ax:i < L.length:=by have:=(Qd.mp hu).1; omega
     have el:L[i]?=some L[i]:=Qc ax
     obtain ⟨c1,e1,e2⟩:=lB (z.af _ _ (s3.af _ _ qk)) el
     rw [hu] at e1
     obtain ⟨kk,gg,tt,e3⟩:=wD (az _ (Xu ax))
     rw [e3] at e2
     exact ⟨c1,L[i],kk,gg,tt,Option.some.inj e1,el,e3,e2⟩
    have h0:0 < xs.length:=by
     have:=Jj.mpr br
     omega
    obtain ⟨c0,Ej,k0,g0,t0,e0,XR,XO,q0⟩:=B7 (aD.refl H3) (Qc h0)
    refine ⟨_,rfl,p,_,0,.ref c0,rfl,rfl,xy (aD.refl H3),cM (by rw [Qc h0,e0]),c0,_,1,.int g0,rfl,rfl,q0,rfl,l_ _,λl1 qf=>?_⟩
    have s4:=aD.new (o:=.lst [.int g0]) qf
    have a4:upd H3 l1 (.lst [.int g0]) l1=some (.lst [.int g0]):=aB
    generalize upd H3 l1 (.lst [.int g0])=H4 at s4 a4 ⊢
    refine ⟨_,rfl,p,rfl,⟨_,xy s4⟩,oC (K:=K) (a:=p) (xs:=xs) (vs:=(L.map tD).map V.int) (λσ=>∃ v,σ = [v]) (by omega) (by simp [lg]) (xy s4) ⟨none,rfl⟩ ?_ ?_⟩
    ·rintro i u v σ H5 hu hv ⟨v0,rfl⟩ s5 Q' k'
     obtain ⟨c1,st,kk,gg,tt,rfl,el,rfl,q1⟩:=B7 (s4.trans s5) hu
     have ev:v=.int tt:=by
      rw [Qe,Qe,el] at hv
      exact (Option.some.inj hv).symm
     subst ev
     exact ⟨_,rfl,c1,_,2,.int tt,rfl,rfl,q1,rfl,k' _ H5 ⟨_,rfl⟩ (aD.refl H5)⟩
    ·intro H5 s5 l2 ly
     have s6:=aD.new (o:=.lst ((L.map tD).map V.int)) ly
     have a6:=s6 _ _ (s5 _ _ a4)
     have b6:upd H5 l2 (.lst ((L.map tD).map V.int)) l2=some (.lst ((L.map tD).map V.int)):=aB
     generalize upd H5 l2 (.lst ((L.map tD).map V.int))=H6 at s6 a6 b6 ⊢
     refine ⟨l1,l2,_,_,rfl,rfl,a6,b6,Pk (by simp; omega),λl3 u6=>?_⟩
     have D9 : [V.int g0]++(L.map tD).map V.int=(bS L).map V.int:=by
      cases L with
      | nil=>exact absurd rfl br
      | cons s r =>
       have:s=Ej:=Option.some.inj XR
       subst this
       rw [XO]
       rfl
     rw [D9]
     have s7:=aD.new (o:=.lst ((bS L).map V.int)) u6
     have b7:upd H6 l3 (.lst ((bS L).map V.int)) l3=some (.lst ((bS L).map V.int)):=aB
     generalize upd H6 l3 (.lst ((bS L).map V.int))=H7 at s7 b7 ⊢
     have En:=((s4.trans s5).trans s6).trans s7
     have pl:=aBb br
     refine ⟨_,rfl,_,rfl,p,l3,xs,_,rfl,xy En,ai.of b7,aDL (K:=K) (k1:=.l) (k2:=.l) (a:=p) (b:=l3) (xs:=xs) (zs:=(bS L).map V.int) (vs:=((L.zip (bS L)).map λq=>lA q.1==q.2).map V.bl) (λσ=>∃ u v,σ = [u,v]) (by omega) (by simp; omega) (by simp [pl]; omega)
      (λH' z=>⟨xy (En.trans z),ai.of (z _ _ b7)⟩) ⟨none,none,rfl⟩ ?_ ?_⟩
     ·rintro i u z v q σ H8 hu hz hv hq ⟨u0,v0,rfl⟩ s8 Q' k'
      have s9:=aD.new (o:=.tup [u,z]) hq
      obtain ⟨c1,st,kk,gg,tt,rfl,el,rfl,q1⟩:=B7 ((En.trans s8).trans s9) hu
      obtain ⟨zz,uu,rfl⟩:∃ zz,(bS L)[i]?=some zz/\V.int zz=z:=by
       rw [Qe] at hz
       cases e:(bS L)[i]? with
       | none=>rw [e] at hz; cases hz
       | some zz=>rw [e] at hz; exact ⟨zz,rfl,Option.some.inj hz⟩
      have ev:v=.bl (gg==zz):=by
       have e1:(L.zip (bS L))[i]?=some ([kk,gg,tt],zz):=by rw [Jz]; exact ⟨el,uu⟩
       rw [Qe,Qe,e1] at hv
       exact (Option.some.inj hv).symm
      subst ev
      refine ⟨q,_,rfl,ah.of aB,rfl,_,_,rfl,_,_,rfl,rfl,?_⟩
      refine ⟨_,rfl,c1,_,1,.int gg,rfl,rfl,q1,rfl,_,rfl,rfl,?_⟩
      have eb:decide (V.int gg=V.int zz)=(gg==zz):=by
       by_cases e:gg=zz
       ·subst e; simp
       ·rw [decide_eq_false (λq=>e (V.int.inj q))]; exact (beq_eq_false_iff_ne.mpr e).symm
      rw [eb]
      exact k' _ _ ⟨_,_,rfl⟩ s9
     ·intro H8 s8 l4 qe
      refine ⟨l4,(L.zip (bS L)).map (λq=>lA q.1==q.2),rfl,ai.of aB,?_⟩
      have s9:=s8.trans (aD.new (o:=.lst (((L.zip (bS L)).map λq=>lA q.1==q.2).map V.bl)) qe)
      generalize upd H8 l4 (.lst (((L.zip (bS L)).map λq=>lA q.1==q.2).map V.bl))=H9 at s9 ⊢
      have ef:((L.zip (bS L)).map λq=>lA q.1==q.2).all id=qZ L:=by rw [Yc]; rfl
      rw [ef]
      have kk:=λH' (z:aD H9 H')=>k H' ((s1.trans (s3.trans En)).trans (s9.trans z))
      have ew:tE ws hs L=(qZ L && decide ((bS L).Nodup)):=by
       unfold tE
       rw [ha]
       cases L with
       | nil=>exact absurd rfl br
       | cons _ _=>rfl
      rw [ew] at kk
      refine ⟨_,rfl,_,rfl,?_⟩
      refine gC (λc1=>?_) (λc1=>?_)
      ·rw [c1] at kk
       refine ⟨_,rfl,l3,bS L,rfl,ai.of (s9 _ _ b7),by omega,λl5 GI=>?_⟩
       have jb:=aD.new (o:=.set (λk=>decide (k∈bS L)) (nK (bS L))) GI
       refine ⟨l5,_,_,rfl,aB,_,rfl,l3,_,rfl,.inl (ai.of (jb _ _ (s9 _ _ b7))),rfl,?_⟩
       have e2:decide (V.int (nK (bS L):Nat)=V.int ((bS L).map V.int).length)=decide ((bS L).Nodup):=by
        rw [Xf,decide_eq_true_iff,decide_eq_true_iff,<- aAV,Qa]
        constructor
        ·intro z; have:=V.int.inj z; omega
        ·intro z; rw [z]
       rw [e2]
       exact kk _ jb
      ·rw [Yf] at c1
       rw [c1] at kk
       exact kk H9 (aD.refl _)
   ·rw [Yf] at ha
    rw [ha]
    refine iE ?_
    have e:tE ws hs L=false:=by unfold tE; rw [ha]; simp
    rw [e] at k
    exact k H3 (s1.trans s3)
end Ab
namespace L2
open PySem
theorem aD.wr {u:HO} (e:aD H H') (h:H a=none):aD H (upd H' a u):=λb o q=>by
 rw [aI (λz=>by rw [z,h] at q; cases q)]
 exact e b o q
end L2
namespace Ab
open PySem L2
theorem jU {xs:List Int} (h:(xs.map V.int)[i]?=some v):∃ a,xs[i]?=some a/\v=.int a:=by
 rw [Qe] at h
 cases q:xs[i]? with
 | none=>rw [q] at h; cases h
 | some a=>rw [q] at h; exact ⟨a,rfl,(Option.some.inj h).symm⟩
theorem O8 {k:Int} (h0:0<=k) (h1:k < n):oh n k=some k.toNat:=by
 unfold oh
 rw [if_pos h0,if_pos (by omega)]
noncomputable def oO (E:Nat->Int->Prop) (r:List (Key×V)):Prop:=(∀ k v,bV r k=some v->∃ (w:Nat) (t:Int),k=.inl t/\v=.int (w:Nat)/\E w t)/\∀ w t,E w t->(bV r (.inl t)).isSome=true
theorem oO.nil {E:Nat->Int->Prop} (h:∀ w t,¬ E w t):oO E []:=⟨λk v e=>(by rw [aDM] at e; cases e),λw t e=>(h w t e).elim⟩
theorem oO.put {E:Nat->Int->Prop} (h:oO E r) (w:Nat) (t:Int):oO (λw' t'=>E w' t'∨(w'=w/\t'=t)) (fU r (.inl t) (.int (w:Nat))):=by
 refine ⟨λk v e=>?_,λw' t' e=>?_⟩
 ·rw [jE] at e
  by_cases hk:k=Sum.inl t
  ·rw [if_pos hk] at e
   exact ⟨w,t,hk,(Option.some.inj e).symm,.inr ⟨rfl,rfl⟩⟩
  ·rw [if_neg hk] at e
   obtain ⟨w',t',h1,h2,h3⟩:=h.1 k v e
   exact ⟨w',t',h1,h2,.inl h3⟩
 ·rw [jE]
  by_cases hk:(Sum.inl t':Key)=Sum.inl t
  ·rw [if_pos hk]; rfl
  ·rw [if_neg hk]
   rcases e with e | ⟨_,e⟩
   ·exact h.2 w' t' e
   ·exact absurd (by rw [e]) hk
theorem oO.congr {E E':Nat->Int->Prop} (h:oO E r) (e:∀ w t,E w t↔E' w t):oO E' r:=⟨λk v q=>let ⟨w,t,a,b,c⟩:=h.1 k v q; ⟨w,t,a,b,(e w t).mp c⟩,λw t q=>h.2 w t ((e w t).mpr q)⟩
structure Rows (H:Hp) (rp:Addr) (qs:List Addr) (rs:List (List (Key×V))):Prop where
 lst:H rp=some (.lst (qs.map V.ref))
 len:qs.length=rs.length
 nd:qs.Nodup
 row:∀ (g:Nat) q r,qs[g]?=some q->rs[g]?=some r->H q=some (.dK r)
theorem Rows.same {rp:Addr} {rs:List (List (Key×V))} (h:Rows H rp qs rs) (s:aD H H'):Rows H' rp qs rs:=⟨s _ _ h.lst,h.len,h.nd,λg q r a b=>s _ _ (h.row g q r a b)⟩
theorem Rows.put {rp:Addr} {rs:List (List (Key×V))} (h:Rows H rp qs rs) {g:Nat} {r':List (Key×V)} (hq:qs[g]?=some q) (hr:rs[g]?=some r):Rows (upd H q (.dK r')) rp qs (rs.set g r'):=by
 have hg:=h.row g q r hq hr
 have nq:rp≠q:=λz=>by have:=h.lst; rw [z,hg] at this; cases this
 refine ⟨by rw [aI nq]; exact h.lst,by rw [Xn]; exact h.len,h.nd,λg2 q2 r2 h1 h2=>?_⟩
 rw [Xk] at h2
 by_cases e:g=g2
 ·subst e
  rw [if_pos rfl] at h2
  rw [hq] at h1
  cases h1
  by_cases hl:g < rs.length
  ·rw [if_pos hl] at h2; cases h2; exact aB
  ·rw [if_neg hl] at h2; cases h2
 ·rw [if_neg e] at h2
  have n2:q2≠q:=λz=>by
   subst z
   have ax:g < qs.length:=(Qd.mp hq).1
   exact e ((Zw ax h.nd).mp (hq.trans h1.symm))
  rw [aI n2]
  exact h.row g2 q2 r2 h1 h2
noncomputable def C3 (E:Int->Nat->Int->Prop) (rs:List (List (Key×V))) (m:Nat):Prop:=∀ (g:Nat) r,rs[g]?=some r->oO (E g) r/\r.length<=m
noncomputable def wE (K:Rb):Sp:=λvs H Q _=>∃ x y n ws hs,vs = [x,y]/\gD K H x y n ws hs/\∀ rp H' qs rs,aD H H'->H rp=none->(∀ q∈qs,H q=none)->Rows H' rp qs rs->rs.length=n.toNat->C3 (mU ws hs) rs 100->Q (.ref rp) H'
theorem iZ:ae ["book", "deal", "rows", "work", "giver", "able", "taker"] ["book", "deal"] (aF lX):=.of
theorem aBc (G:Fn K mg "handing" lX ["book", "deal"] f fd) (B:Bl mg):ab P w K mg base ao 1 f fd ["book", "deal"] (wE K):=by
 refine G.fn.oK iZ λa_ A outer s H vs Q E hr h=>?_
 ·obtain ⟨x,y,n,ws,hs,rfl,g,k⟩:=h
  refine ⟨_,(aE (eL (i:=2) (own:=["hand"]) (fr:=[]) (a9:=[]) (aT (aF lX) ["book", "deal", "rows", "work", "giver", "able", "taker"] rfl rfl (by decide +kernel)) rfl iZ.nd rfl rfl rfl (eA rfl B.range (aA (aY cD (pv 0) aM (λ_ _=>rfl)) aC))
    (λ_ _ _ _=>(aJ (i:=0) (show (["hand"]:List Str).Nodup by decide +kernel) rfl (Or.inl rfl))) (λ_ _ _ _=>bZ)
    (λ_ _ _ _=>zS))
   (aE (eC PassesOwn.never rfl (aAZ .t .t rfl B.enumerate rfl B.zip (aA (pv 1) (aA (aY cD (pv 0) aM (λ_ _=>rfl)) aC))) (iC rfl (aR (aJ (i:=3) iZ.nd rfl (Or.inl rfl)) (aR (iC rfl (aR (aJ (i:=4) iZ.nd rfl (Or.inl rfl)) (aR (aJ (i:=5) iZ.nd rfl (Or.inl rfl)) cJ))) cJ)))
    (aK (eC PassesOwn.never rfl (eY (pv 5)) (aJ (i:=6) iZ.nd rfl (Or.inl rfl))
     (aK (eJ (bG mW (pv 6) (pv 4) (bJ _))
      (aK (qO (kF hr) (aY cQ (pv 2) (pv 4) (λ_ _=>rfl)) (pv 6) (pv 3) rfl))
      bR)))))
   (aK (aW (pv 2))))),?_⟩
  obtain ⟨wg,md,gu⟩:=g.len
  obtain ⟨a,b,ys,rfl,ha,jy,fi⟩:=cW g.1
  obtain ⟨c0,rfl,CF⟩:=aS.mp g.2.2.1
  obtain ⟨fe,CA⟩:=bQ g.2.2.2
  obtain ⟨_,_,vz,lh⟩:=bB g.2.1
  have x9:=aH fi
  rw [Qa] at x9
  refine ⟨_,rfl,a,_,0,.int n,rfl,rfl,ha,rfl,n,rfl,by omega,by omega,gK (lo:=0) (n:=n.toNat) (λσ=>∃ v,σ = [v]) (λi zs H2=>∃ qs:List Addr,zs=qs.map V.ref/\qs.length=i/\aD H H2/\qs.Nodup/\∀ q∈qs,H q=none/\H2 q=some (.dK [])) ?_ ⟨none,rfl⟩ ⟨[],rfl,rfl,aD.refl H,Zy,λ_ h=>(Qn h).elim⟩ ?_ ?_ ?_⟩
  ·rw [Rf]; omega
  ·rintro i zs H2 ⟨qs,rfl,hq,_⟩
   rw [Qa]; omega
  ·rintro i zs σ H2 hi ⟨v,rfl⟩ ⟨qs,rfl,hq,s2,nd,ig⟩ hz
   refine eO ?_
   intro p hp
   refine ⟨hz,⟨_,rfl⟩,qs++[p],by rw [Qp]; rfl,by rw [Qr,hq]; rfl,s2.trans (aD.new hp),?_,λq Cp=>?_⟩
   ·rw [Zl]
    refine ⟨nd,by simp,λx hx y hy e=>?_⟩
    rw [Qs.mp hy] at e
    have:=(ig x hx).2
    rw [e,hp] at this; cases this
   ·rcases Jo.mp Cp with h | h
    ·exact ⟨(ig q h).1,(aD.new hp) _ _ (ig q h).2⟩
    ·rw [Qs.mp h]
     exact ⟨s2.free hp,aB⟩
  ·rintro zs H2 ⟨qs,rfl,hq,s2,nd,ig⟩ rp jn
   have s3:=s2.trans (aD.new (o:=.lst (qs.map V.ref)) jn)
   have rh:H rp=none:=s2.free jn
   have R3:Rows (upd H2 rp (.lst (qs.map V.ref))) rp qs (List.replicate n.toNat []):=⟨aB,by rw [Xh]; exact hq,nd,λg q r h1 h2=>by
    have er:r = []:=by
     rw [Xc] at h2
     split at h2
     ·exact (Option.some.inj h2).symm
     ·cases h2
    rw [er]
    exact (aD.new jn) _ _ (ig q (Qg h1)).2⟩
   generalize upd H2 rp (.lst (qs.map V.ref))=H3 at s3 R3 ⊢
   have h6:∀ l∈ws,l.length<=6:=λl hl=>by
    obtain ⟨_,w2,w3⟩:=cE (lh l hl)
    have:=jI (by omega) w2 w3
    omega
   refine ⟨_,rfl,_,rfl,a,_,1,.ref b,rfl,rfl,s3.ag ha,rfl,c0,b,_,_,rfl,s3.ag CF,s3.ag jy,zX (K:=K) (k1:=.t) (k2:=.t) (a:=c0) (b:=b) (xs:=hs.map V.int) (ys:=ys)
    (λi σ H4=>(∃ v3 v4 v5 v6,σ = [some (.ref a),some (.ref c0),some (.ref rp),v3,v4,v5,v6])/\aD H H4/\∃ rs,Rows H4 rp qs rs/\rs.length=n.toNat/\C3 (λg w t=>w < i/\mU ws hs g w t) rs (6*i))
    (by rw [Qa]; omega) ⟨⟨_,_,_,_,rfl⟩,s3,_,R3,Xh,λg r hr=>?_⟩ (λ_ σ H4 _ ⟨_,s4,_⟩=>⟨s4.ag CF,s4.ag jy⟩) ?_ ?_⟩
   ·have er:r = []:=by
     rw [Xc] at hr
     split at hr
     ·exact (Option.some.inj hr).symm
     ·cases hr
    rw [er]
    exact ⟨oO.nil λw t h=>by omega,Jl _⟩
   ·rintro i u v p q σ H4 hu hv ⟨⟨v3,v4,v5,v6,rfl⟩,s4,rs,R4,qe,E4⟩ hp hq br
    obtain ⟨h,hh,rfl⟩:=jU hu
    obtain ⟨dv,ki,rq⟩:=eV fi hv
    rw [Qe] at ki
    obtain ⟨l,hl,rfl⟩:∃ l,ws[i]?=some l/\cO l=dv:=by
     cases q:ws[i]? with
     | none=>rw [q] at ki; cases ki
     | some l=>rw [q] at ki; exact ⟨l,rfl,Option.some.inj ki⟩
    obtain ⟨aw,rfl,EH⟩:=aS.mp rq
    obtain ⟨EC,GU⟩:=g.hand hh
    have Bx:=h6 l (Qg hl)
    have aan:i < 12:=by
     have:=(Qd.mp hh).1
     omega
    have sp:=aD.new (o:=.tup [.int h,.ref aw]) hp
    have Gq:upd H4 p (.tup [.int h,.ref aw]) q=none:=by rw [aI br]; exact hq
    have sq:=aD.new (o:=.tup [.int (i:Nat),.ref p]) Gq
    have ep:upd (upd H4 p (.tup [.int h,.ref aw])) q (.tup [.int (i:Nat),.ref p]) p=some (.tup [.int h,.ref aw]):=sq _ _ aB
    have eq:upd (upd H4 p (.tup [.int h,.ref aw])) q (.tup [.int (i:Nat),.ref p]) q=some (.tup [.int (i:Nat),.ref p]):=aB
    have s5:=s4.trans (sp.trans sq)
    have R5:=R4.same (sp.trans sq)
    generalize upd (upd H4 p (.tup [.int h,.ref aw])) q (.tup [.int (i:Nat),.ref p])=H5 at ep eq s5 R5 ⊢
    refine ⟨q,_,rfl,ah.of eq,rfl,_,_,rfl,_,_,rfl,p,_,rfl,ah.of ep,rfl,_,_,rfl,_,_,rfl,rfl,rfl,?_⟩
    have vc:h.toNat < qs.length:=by rw [R5.len,qe]; omega
    obtain ⟨qh,EA⟩:∃ qh,qs[h.toNat]?=some qh:=⟨_,Qc vc⟩
    have cq:((h.toNat:Nat):Int)=h:=by omega
    refine ⟨_,rfl,aw,rfl,⟨_,s5.ag EH⟩,qL (K:=K) (a:=aw) (xs:=l.map V.int) (λj σ H6=>(∃ v6,σ = [some (.ref a),some (.ref c0),some (.ref rp),some (.int (i:Nat)),some (.int h),some (.ref aw),v6])/\aD H H6/\∃ rs,Rows H6 rp qs rs/\rs.length=n.toNat/\C3 (λg w t=>(w < i/\mU ws hs g w t)∨(w=i/\g=h/\t∈l.take j/\t≠h)) rs (6*i+j))
     ⟨⟨_,rfl⟩,s5,rs,R5,qe,λg r hr=>⟨(E4 g r hr).1.congr λw t=>⟨.inl,λz=>z.elim id λz=>by rw [Zz] at z; exact (Qn z.2.2.1).elim⟩,(E4 g r hr).2⟩⟩ (λ_ σ H6 _ ⟨_,s6,_⟩=>s6.ag EH) ?_ ?_⟩
    ·rintro j tv σ H6 Gg ⟨⟨v6,rfl⟩,s6,rs,R6,ow,E6⟩
     obtain ⟨t,ht,rfl⟩:=jU Gg
     have hj:j < l.length:=(Qd.mp ht).1
     have yy:l.take (j+1)=l.take j++[t]:=by rw [Xj,ht]; rfl
     refine ⟨_,rfl,_,rfl,rfl,_,rfl,?_⟩
     refine gC (λc=>?_) (λc=>?_)
     ·have Gh:t≠h:=λz=>by rw [z] at c; simp at c
      obtain ⟨r,hr⟩:∃ r,rs[h.toNat]?=some r:=⟨_,Qc (by rw [ow]; omega)⟩
      have jz:g9 (qs.map V.ref) h=some (.ref qh):=by
       have:=cM (xs:=qs.map V.ref) (j:=h.toNat) (v:=.ref qh) (by rw [Qe,EA]; rfl)
       rwa [cq] at this
      have cb:=R6.row _ _ _ EA hr
      have Br:=(E6 _ _ hr).2
      have Gn:H qh=none:=(ig qh (Qg EA)).1
      refine ⟨_,rfl,_,rfl,_,rfl,rp,_,h,_,rfl,rfl,ai.of R6.lst,jz,_,rfl,qh,_,rfl,vA.k (k:=.inl t) cb (by rw [Rf]; omega),?_⟩
      refine ⟨⟨_,rfl⟩,s6.wr Gn,rs.set h.toNat (fU r (.inl t) (.int (i:Nat))),R6.put EA hr,by rw [Xn]; exact ow,λg2 r2 dk=>?_⟩
      rw [Xk] at dk
      by_cases eg:h.toNat=g2
      ·rw [if_pos eg,if_pos (by rw [ow]; omega)] at dk
       cases dk
       have Hq:((g2:Nat):Int)=h:=by omega
       refine ⟨((E6 _ _ hr).1.put i t).congr λw t'=>?_,Qw (iO _ _ _) (by omega)⟩
       rw [cq,Hq,yy]
       constructor
       ·rintro ((z | ⟨z1,z2,z3,z4⟩) | ⟨z1,z2⟩)
        ·exact .inl z
        ·exact .inr ⟨z1,z2,Jv _ z3,z4⟩
        ·exact .inr ⟨z1,rfl,by rw [z2]; simp,by rw [z2]; exact Gh⟩
       ·rintro (z | ⟨z1,z2,z3,z4⟩)
        ·exact .inl (.inl z)
        ·rcases Jo.mp z3 with z3 | z3
         ·exact .inl (.inr ⟨z1,z2,z3,z4⟩)
         ·exact .inr ⟨z1,Qs.mp z3⟩
      ·rw [if_neg eg] at dk
       refine ⟨(E6 _ _ dk).1.congr λw t'=>?_,Qw (E6 _ _ dk).2 (by omega)⟩
       have ng:¬ ((g2:Nat):Int)=h:=by omega
       constructor
       ·rintro (z | ⟨_,z2,_⟩)
        ·exact .inl z
        ·exact absurd z2 ng
       ·rintro (z | ⟨_,z2,_⟩)
        ·exact .inl z
        ·exact absurd z2 ng
     ·have Gh:t=h:=by simpa using c
      refine ⟨⟨_,rfl⟩,s6,rs,R6,ow,λg2 r2 dk=>⟨(E6 _ _ dk).1.congr λw t'=>?_,Qw (E6 _ _ dk).2 (by omega)⟩⟩
      rw [yy]
      constructor
      ·rintro (z | ⟨z1,z2,z3,z4⟩)
       ·exact .inl z
       ·exact .inr ⟨z1,z2,Jv _ z3,z4⟩
      ·rintro (z | ⟨z1,z2,z3,z4⟩)
       ·exact .inl z
       ·rcases Jo.mp z3 with z3 | z3
        ·exact .inr ⟨z1,z2,z3,z4⟩
        ·exact absurd ((Qs.mp z3).trans Gh) z4
    ·rintro σ H6 ⟨⟨v6,rfl⟩,s6,rs,R6,ow,E6⟩
     refine ⟨⟨_,_,_,_,rfl⟩,s6,rs,R6,ow,λg2 r2 dk=>⟨(E6 _ _ dk).1.congr λw t'=>?_,Qw (E6 _ _ dk).2 (by rw [Qa]; omega)⟩⟩
     rw [Qa,Jt]
     constructor
     ·rintro (⟨z1,z2⟩ | ⟨z1,z2,z3,z4⟩)
      ·exact ⟨by omega,z2⟩
      ·subst z1
       exact ⟨by omega,by rw [hh,z2],l,hl,z3,by rw [z2]; exact z4⟩
     ·rintro ⟨z1,z2⟩
      by_cases hw:w < i
      ·exact .inl ⟨hw,z2⟩
      ·have ew:w=i:=by omega
       subst ew
       obtain ⟨z3,l',z4,z5,z6⟩:=z2
       rw [hh] at z3
       rw [hl] at z4
       cases z4
       have ez:h=g2:=Option.some.inj z3
       exact .inr ⟨rfl,ez.symm,z5,by rw [ez]; exact z6⟩
   ·rintro σ H4 ⟨⟨v3,v4,v5,v6,rfl⟩,s4,rs,R4,qe,E4⟩
    refine ⟨_,rfl,k rp H4 qs rs s4 rh (λq hq=>(ig q hq).1) R4 qe λg r hr=>⟨(E4 g r hr).1.congr λw t=>⟨λz=>z.2,λz=>⟨?_,z⟩⟩,Qw (E4 g r hr).2 (by rw [Qa]; omega)⟩⟩
    rw [Qa]
    exact (Qd.mp z.1).1
noncomputable def lC (s l:List Int):Bool:=l.all λh=>decide (h∈s)
noncomputable def eT (hs:List Int):List (List Int):=hs.foldl (λacc h=>acc++acc.map (·++[h])) [[]]
noncomputable def iQ (hs:List Int):List (List Int):=(eT hs).tail
theorem kB (hs:List Int) (x:Int):eT (hs++[x])=eT hs++(eT hs).map (·++[x]):=by
 unfold eT
 rw [List.foldl_append]
 rfl
theorem jJ {p:List Int->Prop} (h0:p []) (h1:∀ l x,p l->p (l++[x])):∀ l,p l:=by
 intro l
 have:∀ r:List Int,p r.reverse:=by
  intro r
  induction r with
  | nil=>exact h0
  | cons x r ih=>rw [Wb]; exact h1 _ _ ih
 have h:=this l.reverse
 rwa [List.reverse_reverse] at h
theorem gH:∀ hs:List Int,eT hs = []::iQ hs:=by
 refine jJ rfl λl x ih=>?_
 unfold iQ
 rw [kB,ih]
 rfl
theorem iG (hs:List Int) (x:Int):iQ (hs++[x])=iQ hs++[x]::(iQ hs).map (·++[x]):=by
 have h:=kB hs x
 rw [gH (hs++[x]),gH hs] at h
 rw [Jh,Ye] at h
 injection h
theorem aCN:∀ hs:List Int,∀ h∈hs,[h]∈iQ hs:=by
 refine jJ (λh hh=>by cases hh) λl x ih h hh=>?_
 rw [iG]
 rcases Jo.mp hh with hh | hh
 ·exact Jv _ (ih h hh)
 ·rw [Qs.mp hh]
  exact Jf _ (Ql ..)
theorem aCO:∀ hs:List Int,(iQ hs).length+1=2^hs.length:=by
 refine jJ rfl λl x ih=>?_
 rw [iG,Qr,Jr,Qa,Qr,Xe,Nat.pow_succ,<- ih]
 omega
theorem qG:∀ hs:List Int,∀ s∈iQ hs,s.length<=hs.length:=by
 refine jJ (λs hs=>by cases hs) λl x ih s hs=>?_
 rw [iG] at hs
 rw [Qr,Xe]
 rcases Jo.mp hs with hs | hs
 ·have:=ih s hs; omega
 ·rcases Qk.mp hs with rfl | hs
  ·simp
  ·obtain ⟨s',h1,rfl⟩:=Jg.mp hs
   have:=ih s' h1
   rw [Qr,Xe]
   omega
theorem pM {n h:Int} (hn:0<=n):h∈aQ n.toNat↔0<=h/\h < n:=by
 rw [gG]
 omega
noncomputable def iV (a b:Int):Int:=a / (Int.gcd a b:Int)
noncomputable def gX (a b:Int):Int:=b / (Int.gcd a b:Int)
theorem mM {a b:Int} (hb:0 < b):0 < (Int.gcd a b:Int):=by
 have:=Int.gcd_pos_of_ne_zero_right a (show b≠0 by omega)
 omega
theorem gY:∀ (a b:List Int),aG (a++b)=aG a+aG b
 | [],b=>by show aG b=0+aG b; omega
 | x::a,b=>by
  show x+aG (a++b)=x+aG a+aG b
  rw [gY a b]; omega
theorem gI {f g:α->Int}:∀ {l:List α},(∀ x∈l,f x<=g x)->aG (l.map f)<=aG (l.map g)
 | [],_=>Je _
 | x::l,h=>by
  show f x+aG (l.map f)<=g x+aG (l.map g)
  have h1:=h x (Ql ..)
  have h2:=gI (l:=l) λy hy=>h y (Qo _ hy)
  omega
theorem aZ {f g:α->Int} {l:List α} (h:∀ x∈l,f x=g x):aG (l.map f)=aG (l.map g):=by
 rw [Yp h]
theorem cF (f g:α->Int):∀ (l:List α),aG (l.map λx=>f x+g x)=aG (l.map f)+aG (l.map g)
 | []=>rfl
 | x::l=>by
  show f x+g x+aG (l.map λx=>f x+g x)=f x+aG (l.map f)+(g x+aG (l.map g))
  rw [cF f g l]; omega
theorem fY (c:Int) (f:α->Int):∀ (l:List α),aG (l.map λx=>c*f x)=c*aG (l.map f)
 | []=>by show (0:Int)=c*0; omega
 | x::l=>by
  show c*f x+aG (l.map λx=>c*f x)=c*(f x+aG (l.map f))
  rw [fY c f l,Ys]
theorem cY {f:α->Int}:∀ {l:List α},(∀ x∈l,f x=0)->aG (l.map f)=0
 | [],_=>rfl
 | x::l,h=>by
  show f x+aG (l.map f)=0
  rw [h x (Ql ..),cY λy hy=>h y (Qo _ hy)]; rfl
theorem oP {f:α->Int}:∀ {l:List α},(∀ x∈l,0<=f x)->0<=aG (l.map f)
 | [],_=>Je _
 | x::l,h=>by
  show 0<=f x+aG (l.map f)
  have h1:=h x (Ql ..)
  have h2:=oP (l:=l) λy hy=>h y (Qo _ hy)
  omega
theorem iH {f:α->Int} {y:α}:∀ {l:List α},(∀ x∈l,0<=f x)->y∈l->f y<=aG (l.map f)
 | [],_,h=>by cases h
 | x::l,h,hy=>by
  show f y<=f x+aG (l.map f)
  have h1:=h x (Ql ..)
  have h2:=oP (l:=l) λy hy=>h y (Qo _ hy)
  rcases Qk.mp hy with rfl | hy
  ·omega
  ·have:=iH (l:=l) (λy hy=>h y (Qo _ hy)) hy
   omega
theorem tF (f:α->β->Int):∀ (l:List α) (m:List β),aG (l.map λx=>aG (m.map λy=>f x y))=aG (m.map λy=>aG (l.map λx=>f x y))
 | [],m=>(cY λ_ _=>rfl).symm
 | x::l,m=>by
  show aG (m.map λy=>f x y)+aG (l.map λx=>aG (m.map λy=>f x y))=aG (m.map λy=>f x y+aG (l.map λx=>f x y))
  rw [tF f l m,cF]
theorem oQ (f:α->Int) (p:α->Bool):∀ l:List α,aG (l.map f)=aG ((l.filter p).map f)+aG ((l.filter λx=>!p x).map f)
 | []=>rfl
 | x::l=>by
  rw [Qz,Qz]
  show f x+aG (l.map f)=_
  rw [oQ f p l]
  cases p x
  ·show _=aG ((l.filter p).map f)+(f x+aG ((l.filter λx=>!p x).map f)); omega
  ·show _=f x+aG ((l.filter p).map f)+aG ((l.filter λx=>!p x).map f); omega
theorem xV (f:α->Int) (p:α->Bool):∀ l:List α,aG (l.map λx=>if p x=true then f x else 0)=aG ((l.filter p).map f)
 | []=>rfl
 | x::l=>by
  rw [Qz]
  show (if p x=true then f x else 0)+aG (l.map λx=>if p x=true then f x else 0)=_
  rw [xV f p l]
  cases p x
  ·show 0+_=_; simp
  ·show _=f x+aG ((l.filter p).map f); simp
theorem mN {f:α->Int} {c:Int}:∀ {l:List α},(∀ x∈l,f x=c)->aG (l.map f)=(l.length:Int)*c
 | [],_=>by show (0:Int)=0*c; omega
 | x::l,h=>by
  show f x+aG (l.map f)=((l.length+1:Nat):Int)*c
  rw [h x (Ql ..),mN λy hy=>h y (Qo _ hy),Yn,Zr]
  show c+_=_+1*c
  omega
theorem mD [DecidableEq α] (c:Int) (y:α):∀ {l:List α},l.Nodup->y∈l->aG (l.map λx=>if x=y then c else 0)=c
 | [],_,h=>by cases h
 | x::l,nd,h=>by
  show (if x=y then c else 0)+aG (l.map λx=>if x=y then c else 0)=c
  have o6:=Xm.mp nd
  rcases Qk.mp h with e | h
  ·rw [if_pos e.symm,cY λz hz=>if_neg (λq=>o6.1 (by rw [<- e,<- q]; exact hz))]; omega
  ·rw [if_neg (λq=>o6.1 (by rw [q]; exact h)),mD c y o6.2 h]; omega
noncomputable def ak (s:List Int) (h:Int):Bool:=decide (h∈s)
theorem fJ {s:List Int} {h:Int}:ak s h=true↔h∈s:=decide_eq_true_iff
noncomputable abbrev bT:=List (List Int×Int)
end Ab
variable {rows:bT}
namespace Ab
open PySem L2
noncomputable def c9 (rows:bT) (p:Int->Bool):Int:=aG (rows.map λr=>if r.1.all p=true then r.2 else 0)
noncomputable def gE (left:List Int) (p:Int->Bool):Int:=((left.filter p).length:Int)
noncomputable def dZ (left:List Int) (rows:bT):Prop:=∀ r∈rows,r.1≠[]/\(∀ h∈r.1,h∈left)/\0<=r.2
noncomputable def xW (left:List Int) (rows:bT) (s:List Int) (m:Int):Prop :=
 s≠[]/\s=left.filter (ak s)/\m=c9 rows (ak s)/\∀ p,c9 rows p*s.length<=m*gE left p/\(c9 rows p*s.length=m*gE left p->gE left p<=s.length)
noncomputable def bw (rows:bT) (s:List Int):bT:=(rows.filter λr=>!(r.1.all (ak s))).map λr=>(r.1.filter λh=>!ak s h,r.2)
noncomputable def dX:List Int->bT->bT->Prop
 | left,_,[]=>left = []
 | left,rows,b::bs=>xW left rows b.1 b.2/\dX (left.filter λh=>!ak b.1 h) (bw rows b.1) bs
theorem dZ.bw {s:List Int} (h:dZ left rows):dZ (left.filter λh=>!ak s h) (bw rows s):=λr hr=>by
 obtain ⟨r0,h0,rfl⟩:=Jg.mp hr
 obtain ⟨h1,h2⟩:=Jd.mp h0
 obtain ⟨a,b,c⟩:=h r0 h1
 refine ⟨λz=>?_,λx hx=>?_,c⟩
 ·have:r0.1.all (ak s)=true:=Qt.mpr λx hx=>by
   cases q:ak s x with
   | true=>rfl
   | false=>exact absurd (show x∈r0.1.filter λh=>!ak s h from Jd.mpr ⟨hx,by rw [q]; rfl⟩) (by rw [show (r0.1.filter λh=>!ak s h) = [] from z]; exact Qn)
  rw [this] at h2; cases h2
 ·obtain ⟨x1,x2⟩:=Jd.mp hx
  exact Jd.mpr ⟨b x x1,x2⟩
theorem tG (r:List Int×Int) (rows:bT) (p:Int->Bool):c9 (r::rows) p=(if r.1.all p=true then r.2 else 0)+c9 rows p:=rfl
theorem B! {r:List Int×Int} {s:List Int} (h:r.1.all (ak s)=true):bw (r::rows) s=bw rows s:=by
 unfold bw; rw [Qz,h]; rfl
theorem aEf {r:List Int×Int} {s:List Int} (h:r.1.all (ak s)=false):bw (r::rows) s=(r.1.filter λh=>!ak s h,r.2)::bw rows s:=by
 unfold bw; rw [Qz,h]; rfl
theorem wF (s:List Int) (p:Int->Bool):∀ rows:bT,c9 rows (λh=>ak s h || p h)=c9 rows (ak s)+c9 (bw rows s) p
 | []=>rfl
 | r::rows=>by
  rw [tG,tG,wF s p rows]
  cases q:r.1.all (ak s) with
  | true =>
   rw [B! q,if_pos rfl,if_pos (Qt.mpr λx hx=>by rw [Qt.mp q x hx]; rfl)]
   omega
  | false =>
   rw [aEf q,tG,if_neg (show ¬ (false=true) by decide)]
   have:r.1.all (λh=>ak s h || p h)=(r.1.filter λh=>!ak s h).all p:=by
    rw [List.all_filter]
    congr 1
    funext x
    cases ak s x <;> rfl
   rw [this]
   show _+_=_+((if (r.1.filter λh=>!ak s h).all p=true then r.2 else 0)+_)
   omega
theorem pN {s:List Int} (h:s=left.filter (ak s)) (p:Int->Bool):gE left (λh=>ak s h || p h)=s.length+gE (left.filter λh=>!ak s h) p:=by
 have:∀ l:List Int,((l.filter λh=>ak s h || p h).length:Int)=((l.filter (ak s)).length:Int)+(((l.filter λh=>!ak s h).filter p).length:Int):=λl=>by
  induction l with
  | nil=>rfl
  | cons x l ih =>
   rw [Qz,Qz,Qz]
   cases q:ak s x
   ·cases q2:p x
    ·simp only [Yk,Bool.not_false,if_true,Qz,q2,if_false,Ju]; exact ih
    ·simp only [Yk,Bool.not_false,if_true,Qz,q2,if_false,Ju,Jr]; omega
   ·simp only [Wh,Bool.not_true,if_true,if_false,Ju,Jr]; omega
 unfold gE
 rw [this left,<- h]
theorem aEg {s s2:List Int} {m2:Int} (h1:xW left rows s m) (h2:xW (left.filter λh=>!ak s h) (bw rows s) s2 m2):m2*s.length < m*s2.length:=by
 obtain ⟨_,a2,a3,a4⟩:=h1
 obtain ⟨b1,b2,b3,_⟩:=h2
 obtain ⟨c1,c2⟩:=a4 λh=>ak s h || ak s2 h
 have e2:gE (left.filter λh=>!ak s h) (ak s2)=s2.length:=by unfold gE; rw [<- b2]
 rw [wF,pN a2,<- a3,<- b3,e2] at c1 c2
 have hp:0 < s2.length:=Jj.mpr b1
 rw [Zr,Ys] at c1 c2
 have:¬ (m2*s.length=m*s2.length):=λz=>by
  have:=c2 (by rw [z])
  omega
 omega
theorem oR:∀ {bs:bT} {left:List Int} {rows:bT} {s:List Int} {m:Int},xW left rows s m->dX (left.filter λh=>!ak s h) (bw rows s) bs->∀ b∈bs,b.1≠[]/\b.2*s.length < m*b.1.length
 | [],_,_,_,_,_,_,b,hb=>by cases hb
 | c::bs,left,rows,s,m,h1,h2,b,hb=>by
  have hl:=aEg h1 h2.1
  rcases Qk.mp hb with rfl | hb
  ·exact ⟨h2.1.1,hl⟩
  ·obtain ⟨Lv,ih⟩:=oR h2.1 h2.2 b hb
   have p1:(0:Int) < c.1.length:=by have:=Jj.mpr h2.1.1; omega
   have p2:(0:Int) < b.1.length:=by have:=Jj.mpr Lv; omega
   have p3:(0:Int) < s.length:=by have:=Jj.mpr h1.1; omega
   refine ⟨Lv,Int.lt_of_mul_lt_mul_right (a:=(c.1.length:Int)) ?_ (Yd p1)⟩
   have t1:b.2*c.1.length*s.length < c.2*b.1.length*s.length:=Yt ih p3
   have t2:c.2*s.length*b.1.length < m*c.1.length*b.1.length:=Yt hl p2
   have e1:b.2*(s.length:Int)*c.1.length=b.2*c.1.length*s.length:=Xy ..
   have e2:c.2*(b.1.length:Int)*s.length=c.2*s.length*b.1.length:=Xy ..
   have e3:m*(b.1.length:Int)*c.1.length=m*c.1.length*b.1.length:=Xy ..
   omega
noncomputable def dF:bT->Int->Int×Int
 | [],_=>(0,1)
 | b::bs,h=>if ak b.1 h=true then (b.2,(b.1.length:Int)) else dF bs h
noncomputable def bD (bs:bT) (h:Int):Int:=(dF bs h).1*60 / (dF bs h).2
theorem lD {b:List Int×Int} {bs:bT} {h:Int} (q:ak b.1 h=true):dF (b::bs) h=(b.2,(b.1.length:Int)):=by show (if _ then _ else _)=_; rw [if_pos q]
theorem mE {b:List Int×Int} {bs:bT} {h:Int} (q:ak b.1 h=false):dF (b::bs) h=dF bs h:=by show (if _ then _ else _)=_; rw [if_neg (by rw [q]; decide)]
theorem l! (ok:dZ left rows) (p:Int->Bool):0<=c9 rows p:=oP λr hr=>by
 have:=(ok r hr).2.2
 split
 ·exact this
 ·exact Je _
theorem jV:∀ {bs:bT} {left:List Int} {rows:bT},dX left rows bs->∀ h∈left,∃ b∈bs,h∈b.1/\dF bs h=(b.2,(b.1.length:Int))
 | [],left,rows,hb,h,hh=>by rw [show left = [] from hb] at hh; cases hh
 | b::bs,left,rows,hb,h,hh=>by
  cases q:ak b.1 h with
  | true=>exact ⟨b,Ql ..,fJ.mp q,lD q⟩
  | false =>
   obtain ⟨c,c1,c2,c3⟩:=jV hb.2 h (Jd.mpr ⟨hh,by rw [q]; rfl⟩)
   exact ⟨c,Qo _ c1,c2,(mE q).trans c3⟩
theorem tH {k:Nat} (h0:0 < k) (h6:k<=6):m*60 / (k:Int)*k=m*60:=by
 have:k=1∨k=2∨k=3∨k=4∨k=5∨k=6:=by omega
 rcases this with rfl | rfl | rfl | rfl | rfl | rfl <;> omega
theorem lE:∀ {bs:bT} {left:List Int} {rows:bT},dZ left rows->dX left rows bs->∀ b∈bs,b.1≠[]/\b.1.length<=left.length/\0<=b.2/\∀ h∈b.1,h∈left
 | [],_,_,_,_,b,hb=>by cases hb
 | c::bs,left,rows,ok,h,b,hb=>by
  rcases Qk.mp hb with rfl | hb
  ·obtain ⟨a1,a2,a3,_⟩:=h.1
   refine ⟨a1,?_,by rw [a3]; exact l! ok _,λx hx=>?_⟩
   ·rw [a2]; exact Ji _ _
   ·rw [a2] at hx; exact (Jd.mp hx).1
  ·obtain ⟨i1,i2,i3,i4⟩:=lE ok.bw h.2 b hb
   exact ⟨i1,Qw i2 (Ji _ _),i3,λx hx=>(Jd.mp (i4 x hx)).1⟩
noncomputable def gc:bT->List Int->List Int
 | [],l=>l
 | b::bs,l=>if l.all (ak b.1)=true then l else gc bs (l.filter λh=>!ak b.1 h)
theorem QR (f:List Int×Int->Int) (s:List Int):∀ rows:bT,aG (rows.map f)=aG (rows.map λr=>if r.1.all (ak s)=true then f r else 0)+aG ((rows.filter λr=>!(r.1.all (ak s))).map f):=λrows=>by
 rw [xV,<- oQ]
theorem oS:∀ {bs:bT} {left:List Int} {rows:bT},dX left rows bs->dZ left rows->left.length<=6->∀ R:Int->Bool,60*aG (rows.map λr=>if (gc bs r.1).all R=true then r.2 else 0)<=aG (left.map λh=>if R h=true then bD bs h else 0)
 | [],left,rows,hb,ok,_,R=>by
  rw [show left = [] from hb] at ok ⊢
  have:rows = []:=by
   cases rows with
   | nil=>rfl
   | cons r _ =>
    obtain ⟨a,b,_⟩:=ok r (Ql ..)
    cases q:r.1 with
    | nil=>exact absurd q a
    | cons x _=>exact absurd (b x (by rw [q]; exact Ql ..)) Qn
  rw [this]
  exact Je _
 | b::bs,left,rows,hb,ok,h6,R=>by
  have ih:=oS hb.2 ok.bw (Qw (Ji _ _) h6) R
  obtain ⟨a1,a2,a3,a4⟩:=hb.1
  have l6:b.1.length<=6:=by rw [a2]; exact Qw (Ji _ _) h6
  have l0:0 < b.1.length:=Jj.mpr a1
  have dv:=tH (m:=b.2) l0 l6
  -- the works
  have e1:aG (rows.map λr=>if (gc (b::bs) r.1).all R=true then r.2 else 0)=c9 rows (λh=>ak b.1 h && R h)+aG ((bw rows b.1).map λr=>if (gc bs r.1).all R=true then r.2 else 0):=by
   rw [QR _ b.1]
   congr 1
   ·unfold c9
    refine aZ λr _=>?_
    have:r.1.all (λh=>ak b.1 h && R h)=(r.1.all (ak b.1) && r.1.all R):=by
     induction r.1 with
     | nil=>rfl
     | cons x l Lu=>rw [Yi,Yi,Yi,Lu]; cases ak b.1 x <;> cases R x <;> cases l.all (ak b.1) <;> rfl
    rw [this]
    cases q:r.1.all (ak b.1) with
    | true=>rw [if_pos rfl,show gc (b::bs) r.1=r.1 by show (if _ then _ else _)=_; rw [if_pos q],Xq]
    | false=>rw [if_neg (by decide),Zx,if_neg (by decide)]
   ·unfold bw
    rw [Xz]
    refine aZ λr hr=>?_
    have q:r.1.all (ak b.1)=false:=by
     have:=(Jd.mp hr).2
     cases z:r.1.all (ak b.1) with
     | true=>rw [z] at this; cases this
     | false=>rfl
    show _=if (gc bs (r.1.filter λh=>!ak b.1 h)).all R=true then r.2 else 0
    rw [show gc (b::bs) r.1=gc bs (r.1.filter λh=>!ak b.1 h) by show (if _ then _ else _)=_; rw [if_neg (by rw [q]; decide)]]
  -- the rooms
  have e2:aG (left.map λh=>if R h=true then bD (b::bs) h else 0)=gE left (λh=>ak b.1 h && R h)*(b.2*60 / b.1.length)+aG ((left.filter λh=>!ak b.1 h).map λh=>if R h=true then bD bs h else 0):=by
   rw [oQ _ (ak b.1)]
   congr 1
   ·rw [xV,List.filter_filter]
    have:(λa=>R a && ak b.1 a)=λh=>ak b.1 h && R h:=by funext x; exact Bool.and_comm ..
    rw [this]
    unfold gE
    refine mN λh hh=>?_
    have q:=(Jd.mp hh).2
    rw [Jm] at q
    unfold bD
    rw [lD q.1]
   ·refine aZ λh hh=>?_
    have q:=(Jd.mp hh).2
    have q':ak b.1 h=false:=by cases z:ak b.1 h with
     | true=>rw [z] at q; cases q
     | false=>rfl
    unfold bD
    rw [mE q']
  rw [e1,e2,Ys]
  have h1:=(a4 λh=>ak b.1 h && R h).1
  have:60*c9 rows (λh=>ak b.1 h && R h)<=gE left (λh=>ak b.1 h && R h)*(b.2*60 / b.1.length):=by
   refine Yu (a:=(b.1.length:Int)) ?_ (by omega)
   rw [Jx,Jx,dv]
   have e3:gE left (λh=>ak b.1 h && R h)*(b.2*60)=60*(b.2*gE left (λh=>ak b.1 h && R h)):=by
    rw [Xp b.2 60,<- Jx,Xp _ 60,Jx,Xp _ b.2]
   rw [e3]
   omega
  omega
theorem xX:∀ {bs:bT} {left:List Int} {rows:bT},dX left rows bs->dZ left rows->left.length<=6->60*aG (rows.map (·.2))=aG (left.map (bD bs))
 | [],left,rows,hb,ok,_=>by
  rw [show left = [] from hb] at ok ⊢
  have:rows = []:=by
   cases rows with
   | nil=>rfl
   | cons r _ =>
    obtain ⟨a,b,_⟩:=ok r (Ql ..)
    cases q:r.1 with
    | nil=>exact absurd q a
    | cons x _=>exact absurd (b x (by rw [q]; exact Ql ..)) Qn
  rw [this]
  rfl
 | b::bs,left,rows,hb,ok,h6=>by
  have ih:=xX hb.2 ok.bw (Qw (Ji _ _) h6)
  obtain ⟨a1,a2,a3,_⟩:=hb.1
  have l6:b.1.length<=6:=by rw [a2]; exact Qw (Ji _ _) h6
  have l0:0 < b.1.length:=Jj.mpr a1
  have dv:=tH (m:=b.2) l0 l6
  rw [QR _ b.1 rows,oQ _ (ak b.1) left,Ys]
  have e1:aG (rows.map λr=>if r.1.all (ak b.1)=true then r.2 else 0)=b.2:=a3.symm
  have e5:aG (b.1.map (bD (b::bs)))=(b.1.length:Int)*(b.2*60 / b.1.length):=mN λh hh=>by unfold bD; rw [lD (fJ.mpr hh)]
  rw [e1,<- a2,e5]
  have e2:aG ((left.filter λh=>!ak b.1 h).map (bD (b::bs)))=aG ((left.filter λh=>!ak b.1 h).map (bD bs)):=aZ λh hh=>by
   have q:=(Jd.mp hh).2
   have q':ak b.1 h=false:=by cases z:ak b.1 h with
    | true=>rw [z] at q; cases q
    | false=>rfl
   unfold bD
   rw [mE q']
  have e3:aG ((bw rows b.1).map (·.2))=aG ((rows.filter λr=>!(r.1.all (ak b.1))).map (·.2)):=by
   unfold bw
   rw [Xz]
   rfl
  rw [e2,<- ih,e3]
  have e4:(b.1.length:Int)*(b.2*60 / b.1.length)=b.2*60:=by rw [Xp]; exact dv
  omega
noncomputable def jK (x y:Int×Int):Bool:=decide (x.1*y.2 < y.1*x.2)
theorem pO:∀ {bs:bT} {left:List Int} {rows:bT},dX left rows bs->∀ l:List Int,(∀ h∈l,h∈left)->∀ h∈gc bs l,h∈l/\∀ o∈l,jK (dF bs o) (dF bs h)=false
 | [],left,rows,hb,l,hl,h,hh=>by
  have hm:=hl h hh
  rw [show left = [] from hb] at hm
  cases hm
 | b::bs,left,rows,hb,l,hl,h,hh=>by
  cases q:l.all (ak b.1) with
  | true =>
   have gh:h∈l:=by
    have:gc (b::bs) l=l:=by show (if _ then _ else _)=_; rw [if_pos q]
    rw [this] at hh; exact hh
   refine ⟨gh,λo ho=>?_⟩
   rw [lD (Qt.mp q o ho),lD (Qt.mp q h gh)]
   exact decide_eq_false (by show ¬ b.2*_ < b.2*_; omega)
  | false =>
   have gh:h∈gc bs (l.filter λh=>!ak b.1 h):=by
    have:gc (b::bs) l=gc bs (l.filter λh=>!ak b.1 h):=by show (if _ then _ else _)=_; rw [if_neg (by rw [q]; decide)]
    rw [this] at hh; exact hh
   obtain ⟨i1,i2⟩:=pO hb.2 (l.filter λh=>!ak b.1 h) (λx hx=>by
    obtain ⟨x1,x2⟩:=Jd.mp hx
    exact Jd.mpr ⟨hl x x1,x2⟩) h gh
   obtain ⟨j1,j2⟩:=Jd.mp i1
   have no:∀ x,(!ak b.1 x)=true->ak b.1 x=false:=λx hx=>by cases z:ak b.1 x with
    | true=>rw [z] at hx; cases hx
    | false=>rfl
   refine ⟨j1,λo ho=>?_⟩
   rw [mE (no h j2)]
   cases z:ak b.1 o with
   | false=>rw [mE z]; exact i2 o (Jd.mpr ⟨ho,by rw [z]; rfl⟩)
   | true =>
    rw [lD z]
    obtain ⟨c,c1,_,c3⟩:=jV hb.2 h (Jd.mpr ⟨hl h j1,j2⟩)
    rw [c3]
    have:=(oR hb.1 hb.2 c c1).2
    exact decide_eq_false (by show ¬ b.2*(c.1.length:Int) < c.2*(b.1.length:Int); omega)
noncomputable def cZ (f:Int->Int×Int) (ir:List Int):List Int:=ir.filter λh=>!(ir.any λo=>jK (f o) (f h))
theorem tI {f:Int->Int×Int} {ir:List Int} {h:Int}:h∈cZ f ir↔h∈ir/\∀ o∈ir,jK (f o) (f h)=false:=by
 unfold cZ
 rw [Jd,Bool.not_eq_true',List.any_eq_false]
 exact ⟨λ⟨a,b⟩=>⟨a,λo ho=>by have:=b o ho; cases z:jK (f o) (f h) with
  | true=>exact absurd z this
  | false=>rfl⟩,λ⟨a,b⟩=>⟨a,λo ho=>by rw [b o ho]; decide⟩⟩
theorem aBd {bs:bT} (hb:dX left rows bs) (ok:dZ left rows) (h6:left.length<=6) (R:Int->Bool):60*aG (rows.map λr=>if (cZ (dF bs) r.1).all R=true then r.2 else 0)<=aG (left.map λh=>if R h=true then bD bs h else 0):=by
 have h1:=oS hb ok h6 R
 have h2:aG (rows.map λr=>if (cZ (dF bs) r.1).all R=true then r.2 else 0)<=aG (rows.map λr=>if (gc bs r.1).all R=true then r.2 else 0):=gI λr hr=>by
  obtain ⟨o1,o2,o3⟩:=ok r hr
  by_cases c:(cZ (dF bs) r.1).all R=true
  ·rw [if_pos c,if_pos (Qt.mpr λh hh=>Qt.mp c h (tI.mpr (pO hb r.1 o2 h hh)))]
   exact Je _
  ·rw [if_neg c]
   split
   ·exact o3
   ·exact Je _
 omega
theorem tJ:∀ hs:List Int,∀ s∈iQ hs,s≠[]:=by
 refine jJ (λs hs=>by cases hs) λl x ih s hs=>?_
 rw [iG] at hs
 rcases Jo.mp hs with hs | hs
 ·exact ih s hs
 ·rcases Qk.mp hs with rfl | hs
  ·simp
  ·obtain ⟨s',_,rfl⟩:=Jg.mp hs
   simp
theorem aCP:∀ hs:List Int,∀ s∈iQ hs,List.Sublist s hs:=by
 refine jJ (λs hs=>by cases hs) λl x ih s hs=>?_
 rw [iG] at hs
 rcases Jo.mp hs with hs | hs
 ·exact (ih s hs).trans (List.sublist_append_left _ _)
 ·rcases Qk.mp hs with rfl | hs
  ·exact List.sublist_append_right _ _
  ·obtain ⟨s',h1,rfl⟩:=Jg.mp hs
   exact (ih s' h1).append (List.Sublist.refl _)
theorem aBe (p:Int->Bool):∀ hs:List Int,hs.filter p≠[]->hs.filter p∈iQ hs:=by
 refine jJ (λh=>absurd rfl h) λl x ih h=>?_
 rw [Xt] at h ⊢
 rw [iG]
 cases q:p x with
 | false =>
  have e : [x].filter p = []:=by rw [Qz,q]; rfl
  rw [e,Xl] at h ⊢
  exact Jv _ (ih h)
 | true =>
  have e : [x].filter p = [x]:=by rw [Qz,q]; rfl
  rw [e]
  refine Jf _ ?_
  by_cases c:l.filter p = []
  ·rw [c]; exact Ql ..
  ·exact Qo _ (Jg.mpr ⟨_,ih c,rfl⟩)
theorem aEh {s:List Int}:∀ {l:List Int},List.Sublist s l->l.Nodup->s=l.filter (ak s):=by
 intro l h nd
 have key:∀ (l s:List Int),List.Sublist s l->l.Nodup->∀ t:List Int,(∀ x,x∈l->(x∈t↔x∈s))->l.filter (ak t)=s:=by
  intro l s h
  induction h with
  | slnil=>intro _ _ _; rfl
  | cons a h ih =>
   intro nd t ht
   have o6:=Xm.mp nd
   have:ak t a=false:=decide_eq_false λz=>o6.1 (h.subset ((ht a (Ql ..)).mp z))
   rw [Qz,this]
   exact ih o6.2 t λx hx=>ht x (Qo _ hx)
  | cons_cons a h ih =>
   intro nd t ht
   have o6:=Xm.mp nd
   have:ak t a=true:=fJ.mpr ((ht a (Ql ..)).mpr (Ql ..))
   rw [Qz,this,if_pos rfl]
   congr 1
   refine ih o6.2 t λx hx=>?_
   rw [ht x (Qo _ hx),Qk]
   exact ⟨λz=>z.resolve_left λe=>o6.1 (by rw [<- e]; exact hx),.inr⟩
 exact (key l s h nd s λ_ _=>Iff.rfl).symm
noncomputable def nQ (rows:bT) (done:List (List Int)) (b:List Int) (m:Int):Prop :=
 (done = []/\b = []/\m=0)∨(b∈done/\m=c9 rows (ak b)/\∀ s∈done,c9 rows (ak s)*b.length<=m*s.length/\(c9 rows (ak s)*b.length=m*s.length->s.length<=b.length))
theorem aCQ {done:List (List Int)} {b s:List Int} (br:∀ t∈done,t≠[]) (hs:s≠[]) (h:nQ rows done b m) :
  (0 < c9 rows (ak s)*b.length - m*s.length∨c9 rows (ak s)*b.length - m*s.length=0/\(b.length:Int) < s.length->nQ rows (done++[s]) s (c9 rows (ak s))) /\
  (¬ (0 < c9 rows (ak s)*b.length - m*s.length∨c9 rows (ak s)*b.length - m*s.length=0/\(b.length:Int) < s.length)->nQ rows (done++[s]) b m):=by
 have ps:(0:Int) < s.length:=by have:=Jj.mpr hs; omega
 generalize hW:c9 rows (ak s)=W
 rcases h with ⟨rfl,rfl,rfl⟩ | ⟨hb,hm,ha⟩
 ·constructor
  ·intro _
   refine .inr ⟨by simp,hW.symm,λt ht=>?_⟩
   rw [Zh] at ht
   rw [Qs.mp ht,hW]
   exact ⟨Je _,λ_=>Qi _⟩
  ·intro c
   refine absurd (.inr ⟨?_,by show ((0:Nat):Int) < _; omega⟩) c
   show W*((0:Nat):Int) - 0*_=0
   omega
 ·have pb:(0:Int) < b.length:=by have:=Jj.mpr (br b hb); omega
  constructor
  ·intro c
   refine .inr ⟨by simp,hW.symm,λt ht=>?_⟩
   rcases Jo.mp ht with ht | ht
   ·obtain ⟨h1,h2⟩:=ha t ht
    generalize hT:c9 rows (ak t)=T at h1 h2
    have pt:(0:Int) < t.length:=by have:=Jj.mpr (br t ht); omega
    -- T/t<=m/b<=W/s
    have k1:T*b.length*s.length<=m*t.length*s.length:=Jw h1 (Yd ps)
    have k2:m*s.length*t.length<=W*b.length*t.length:=Jw (by omega) (Yd pt)
    have e1:T*(b.length:Int)*s.length=T*s.length*b.length:=Xy ..
    have e2:m*(t.length:Int)*s.length=m*s.length*t.length:=Xy ..
    have e3:W*(b.length:Int)*t.length=W*t.length*b.length:=Xy ..
    refine ⟨Yu (a:=(b.length:Int)) (by omega) pb,λz=>?_⟩
    have z':T*s.length*b.length=W*t.length*b.length:=by rw [z]
    have f2:m*s.length*t.length=W*b.length*t.length:=by omega
    have g2:m*(s.length:Int)=W*b.length:=Yv (by omega) f2
    have f1:T*b.length*s.length=m*t.length*s.length:=by omega
    have g1:T*(b.length:Int)=m*t.length:=Yv (by omega) f1
    have:=h2 g1
    omega
   ·rw [Qs.mp ht,hW]
    exact ⟨Je _,λ_=>Qi _⟩
  ·intro c
   refine .inr ⟨Jv _ hb,hm,λt ht=>?_⟩
   rcases Jo.mp ht with ht | ht
   ·exact ha t ht
   ·rw [Qs.mp ht,hW]
    exact ⟨by omega,λz=>by omega⟩
theorem A? {b:List Int} (nd:left.Nodup) (ok:dZ left rows) (hl:left≠[]) (h:nQ rows (iQ left) b m):xW left rows b m:=by
 rcases h with ⟨h0,_⟩ | ⟨hb,hm,ha⟩
 ·cases left with
  | nil=>exact absurd rfl hl
  | cons x l =>
   have:=aCN (x::l) x (Ql ..)
   rw [h0] at this; cases this
 ·refine ⟨tJ _ _ hb,aEh (aCP _ _ hb) nd,hm,λp=>?_⟩
  by_cases c:left.filter p = []
  ·have e1:c9 rows p=0:=cY λr hr=>if_neg λz=>by
    obtain ⟨r1,r2,_⟩:=ok r hr
    cases q:r.1 with
    | nil=>exact r1 q
    | cons x t =>
     have hx:x∈r.1:=by rw [q]; exact Ql ..
     have:x∈left.filter p:=Jd.mpr ⟨r2 x hx,Qt.mp z x hx⟩
     rw [c] at this; cases this
   have e2:gE left p=0:=by unfold gE; rw [c]; rfl
   rw [e1,e2]
   exact ⟨by omega,λ_=>by omega⟩
  ·have h1:=ha _ (aBe p left c)
   have e:c9 rows (ak (left.filter p))=c9 rows p:=aZ λr hr=>by
    obtain ⟨_,r2,_⟩:=ok r hr
    have:r.1.all (ak (left.filter p))=r.1.all p:=by
     rw [Xf,Qt,Qt]
     exact ⟨λz x hx=>(Jd.mp (fJ.mp (z x hx))).2,λz x hx=>fJ.mpr (Jd.mpr ⟨r2 x hx,z x hx⟩)⟩
    rw [this]
   rw [e] at h1
   exact ⟨h1.1,λz=>by unfold gE; have:=h1.2 z; omega⟩
theorem rA (n:Nat):(aQ n).Nodup:=by
 unfold aQ
 rw [List.nodup_iff_pairwise_ne,List.pairwise_map]
 refine List.Pairwise.imp ?_ List.nodup_range
 intro a b h z
 exact h (by omega)
theorem wG (n:Nat):aQ (n+1)=aQ n++[(n:Int)]:=by
 unfold aQ
 rw [List.range_succ,Qp]
 rfl
noncomputable def gZ (hl:Nat->Int->Int) (m:Nat) (h:Int):Int:=aG ((List.range m).map λw=>hl w h)
noncomputable def Am (hl:Nat->Int->Int) (n w:Nat):Int:=aG ((aQ (n+1)).map (hl w))
noncomputable def mV (tk:List (List Int)) (w:Nat):List Int:=tk.getD w []
noncomputable def qx (tk:List (List Int)) (hl:Nat->Int->Int) (g:Int) (w:Nat) (t:Int):Prop:=w < tk.length/\0 < hl w g/\t∈mV tk w
structure Aq (n:Nat) (tk:List (List Int)) (am:Nat->Int) (rm:Int->Int) (hl:Nat->Int->Int) (room:Int->Int):Prop where
 nn:∀ w h,0<=hl w h
 sup:∀ w h,w < tk.length->0 < hl w h->h=n∨h∈mV tk w
 rows:∀ w,w < tk.length->Am hl n w=am w
 cols:∀ h:Int,0<=h->h < n->gZ hl tk.length h+room h=rm h
 FR:∀ h,0<=room h
noncomputable def HP (n:Nat) (tk:List (List Int)) (am:Nat->Int) (rm:Int->Int):Prop :=
 ∀ R:Int->Bool,aG ((List.range tk.length).map λw=>if (mV tk w).all R=true then am w else 0)<=aG ((aQ n).map λh=>if R h=true then rm h else 0)
theorem k? (S:Aq n tk am rm hl room) (jj:HP n tk am rm) (hc:∀ g∈os,∀ w t,qx tk hl g w t->t∈os) (hn:(n:Int)∈os) (pos:0 < gZ hl tk.length n) :
  ∃ h∈os,0<=h/\h < n/\0 < room h:=by
 by_cases c:∃ h∈os,0<=h/\h < n/\0 < room h
 ·exact c
 ·exfalso
  have z:∀ h∈os,0<=h->h < n->room h=0:=λh h1 h2 h3=>by
   have:=S.FR h
   by_cases q:0 < room h
   ·exact absurd ⟨h,h1,h2,h3,q⟩ c
   ·omega
  have h1:=jj (ak os)
  have e1:aG ((aQ n).map λh=>if ak os h=true then rm h else 0)=aG ((List.range tk.length).map λw=>aG ((aQ n).map λh=>if ak os h=true then hl w h else 0)):=by
   rw [tF]
   refine aZ λh hh=>?_
   obtain ⟨u1,u2⟩:=gG.mp hh
   by_cases q:ak os h=true
   ·have:=S.cols h u1 u2
    rw [z h (fJ.mp q) u1 u2] at this
    rw [if_pos q,<- this]
    unfold gZ
    rw [Int.add_zero]
    exact aZ λw _=>by rw [if_pos q]
   ·rw [if_neg q]
    exact (cY λw _=>by rw [if_neg q]).symm
  have e2:aG ((List.range tk.length).map λw=>aG ((aQ n).map λh=>if ak os h=true then hl w h else 0)+hl w n)<=aG ((List.range tk.length).map λw=>if (mV tk w).all (ak os)=true then am w else 0):=by
   refine gI λw hw=>?_
   have Cm:=Jy.mp hw
   by_cases q:(mV tk w).all (ak os)=true
   ·rw [if_pos q,<- S.rows w Cm]
    unfold Am
    rw [wG,Qp,gY]
    have:aG ((aQ n).map λh=>if ak os h=true then hl w h else 0)<=aG ((aQ n).map (hl w)):=gI λh _=>by
     have:=S.nn w h
     split <;> omega
    show _<=_+(hl w n+0)
    omega
   ·rw [if_neg q]
    have hz:∀ g∈os,hl w g=0:=λg hg=>by
     have:=S.nn w g
     by_cases p:0 < hl w g
     ·exact absurd (Qt.mpr λt ht=>fJ.mpr (hc g hg w t ⟨Cm,p,ht⟩)) q
     ·omega
    rw [hz n hn,cY λh _=>?_]
    ·omega
    ·by_cases p:ak os h=true
     ·rw [if_pos p,hz h (fJ.mp p)]
     ·rw [if_neg p]
  rw [cF] at e2
  unfold gZ at pos
  omega
noncomputable def mx (hl:Nat->Int->Int) (w:Nat) (g t u:Int):Nat->Int->Int:=λv h=>if v=w then hl v h - (if h=g then u else 0)+(if h=t then u else 0) else hl v h
theorem k! {m w:Nat} {g t u:Int} (hw:w < m) (h:Int):gZ (mx hl w g t u) m h=gZ hl m h - (if h=g then u else 0)+(if h=t then u else 0):=by
 unfold gZ
 have e:∀ v,mx hl w g t u v h=hl v h+(if v=w then (if h=t then u else 0) - (if h=g then u else 0) else 0):=λv=>by
  unfold mx
  split <;> omega
 rw [aZ λv _=>e v,cF,mD _ w List.nodup_range (Jy.mpr hw)]
 omega
theorem j? {w:Nat} {g t u:Int} (g0:0<=g) (g1:g<=n) (t0:0<=t) (t1:t<=n) (v:Nat):Am (mx hl w g t u) n v=Am hl n v:=by
 unfold Am
 by_cases c:v=w
 ·have e:∀ h,mx hl w g t u v h=hl v h+((if h=t then u else 0)+(if h=g then -u else 0)):=λh=>by
   unfold mx
   rw [if_pos c]
   split <;> split <;> omega
  have hm:∀ x:Int,0<=x->x<=n->x∈aQ (n+1):=λx h0 h1=>gG.mpr ⟨h0,by omega⟩
  rw [aZ λh _=>e h,cF,cF,mD _ t (rA _) (hm t t0 t1),mD _ g (rA _) (hm g g0 g1)]
  omega
 ·exact aZ λh _=>by unfold mx; rw [if_neg c]
noncomputable def qH (E:Int->Nat->Int->Prop):Int->List (Nat×Int×Int)->Int->Prop
 | h,[],x=>h=x
 | h,s::r,x=>s.2.1=h/\E h s.1 s.2.2/\qH E s.2.2 r x
noncomputable def n_ (first:Int) (ss:List (Nat×Int×Int)):List Int:=first::ss.map (·.2.2)
theorem jL {E:Int->Nat->Int->Prop}:∀ {ss:List (Nat×Int×Int)} {h x:Int},qH E h ss x->(∀ (i:Nat) s,ss[i]?=some s->(n_ h ss)[i]?=some s.2.1/\E s.2.1 s.1 s.2.2/\(n_ h ss)[i+1]?=some s.2.2)/\(n_ h ss)[ss.length]?=some x
 | [],h,x,e=>⟨λi s z=>by simp at z,by rw [show h=x from e]; rfl⟩
 | s::r,h,x,e=>by
  obtain ⟨e1,e2,e3⟩:=e
  obtain ⟨i1,i2⟩:=jL e3
  refine ⟨λi q z=>?_,?_⟩
  ·cases i with
   | zero =>
    have z':s=q:=by simpa using z
    subst z'
    exact ⟨by rw [e1]; rfl,by rw [e1]; exact e2,rfl⟩
   | succ i=>exact i1 i q (by simpa using z)
  ·show (h::s.2.2::r.map (·.2.2))[r.length+1]?=some x
   exact i2
structure r_ (n:Nat) (tk:List (List Int)) (am:Nat->Int) (h0:Nat->Int->Int) (ss:List (Nat×Int×Int)) (u:Int) (i:Nat) (hl:Nat->Int->Int):Prop where
 nn:∀ w h,0<=hl w h
 sup:∀ w h,w < tk.length->0 < hl w h->h=n∨h∈mV tk w
 rows:∀ w,w < tk.length->Am hl n w=am w
 col:∀ c,(n_ n ss)[i]?=some c->∀ h,gZ hl tk.length h=gZ h0 tk.length h - (if h=n then u else 0)+(if h=c then u else 0)
 more:∀ w h,(∀ j:Nat,j < i->(n_ n ss)[j]?≠some h)->h0 w h<=hl w h
theorem z? {u:Int} (S:Aq n tk am rm hl room):r_ n tk am hl ss u 0 hl :=
 ⟨S.nn,S.sup,S.rows,λc hc h=>by
  have:(n:Int)=c:=by simpa [n_] using hc
  rw [this]; omega,λw h _=>Je _⟩
theorem aCR {h0:Nat->Int->Int} {u x:Int} {w:Nat} {g t:Int} (G:r_ n tk am h0 ss u i hl) (hp:qH (qx tk h0) n ss x) (nd:(n_ n ss).Nodup) (hs:ss[i]?=some (w,g,t)) (hu0:0<=u) (hu:∀ s∈ss,u<=h0 s.1 s.2.1) (p8:∀ w,∀ h∈mV tk w,0<=h/\h < n):r_ n tk am h0 ss u (i+1) (mx hl w g t u)/\u<=hl w g/\g≠t:=by
 obtain ⟨p1,_⟩:=jL hp
 obtain ⟨a1,⟨a2,a3,a4⟩,a5⟩:=p1 i _ hs
 have gi:∀ j:Nat,j < i->(n_ n ss)[j]?≠some g:=λj hj z=>by
  have:=(Zw (Qd.mp z).1 nd).mp (z.trans a1.symm)
  omega
 have gt:g≠t:=λz=>by
  subst z
  have:=(Zw (Qd.mp a1).1 nd).mp (a1.trans a5.symm)
  omega
 have UD:u<=hl w g:=Za (hu _ (Qg hs)) (G.more w g gi)
 have gr:0<=g/\g<=n:=by
  cases i with
  | zero =>
   have:(n:Int)=g:=by simpa [n_] using a1
   omega
  | succ i =>
   have hi:i < ss.length:=by
    have:=(Qd.mp a1).1
    simp [n_] at this
    omega
   obtain ⟨_,⟨_,_,b3⟩,b4⟩:=p1 i _ (Qc hi)
   rw [b4] at a1
   have e:ss[i].2.2=g:=Option.some.inj a1
   rw [e] at b3
   have:=p8 _ _ b3
   omega
 obtain ⟨t0,t1⟩:=p8 w t a4
 refine ⟨⟨λv h=>?_,λv h hv hp=>?_,λv hv=>?_,λc hc h=>?_,λv h hh=>?_⟩,UD,gt⟩
 ·have:=G.nn v h
  unfold mx
  by_cases c:v=w
  ·rw [if_pos c]
   by_cases c2:h=g
   ·rw [if_pos c2,c2,c]
    split <;> omega
   ·rw [if_neg c2]
    split <;> omega
  ·rw [if_neg c]; exact this
 ·unfold mx at hp
  by_cases c:v=w
  ·rw [if_pos c] at hp
   by_cases c2:h=t
   ·exact .inr (by rw [c,c2]; exact a4)
   ·rw [if_neg c2] at hp
    exact G.sup v h hv (by split at hp <;> omega)
  ·rw [if_neg c] at hp
   exact G.sup v h hv hp
 ·rw [j? gr.1 gr.2 t0 (by omega)]
  exact G.rows v hv
 ·rw [a5] at hc
  have e:t=c:=Option.some.inj hc
  rw [k! a2,G.col g a1 h,e]
  omega
 ·have h1:=G.more v h λj hj=>hh j (by omega)
  unfold mx
  by_cases c:v=w
  ·rw [if_pos c,if_neg (λz=>hh i (by omega) (by rw [z]; exact a1))]
   split <;> omega
  ·rw [if_neg c]; exact h1
theorem aEj {h0:Nat->Int->Int} {u last:Int} (S:Aq n tk am rm h0 room) (G:r_ n tk am h0 ss u ss.length hl) (hp:qH (qx tk h0) n ss last) (qf:last < n) (hu:u<=room last) :
  Aq n tk am rm hl (λh=>if h=last then room h - u else room h)/\gZ hl tk.length n=gZ h0 tk.length n - u:=by
 have hc:=G.col last (jL hp).2
 refine ⟨⟨G.nn,G.sup,G.rows,λh a b=>?_,λh=>?_⟩,?_⟩
 ·have:=S.cols h a b
  rw [hc h,if_neg (show ¬ h=n by omega)]
  split <;> omega
 ·have:=S.FR h
  show 0<=if h=last then room h - u else room h
  split
  ·rename_i e; rw [e]; omega
  ·exact this
 ·rw [hc n,if_pos rfl,if_neg (by omega)]; omega
theorem Ξ (ha:∀ w,0<=am w) (hr:∀ h,0<=rm h):Aq n tk am rm (λw h=>if h=n then am w else 0) (λh=>rm h):=by
 refine ⟨λw h=>?_,λw h _ hp=>?_,λw _=>?_,λh h0 h1=>?_,hr⟩
 ·show 0<=if h=n then am w else 0
  split
  ·exact ha w
  ·exact Je _
 ·by_cases c:h=n
  ·exact .inl c
  ·rw [if_neg c] at hp; omega
 ·exact mD (am w) (n:Int) (rA _) (gG.mpr ⟨by omega,by omega⟩)
 ·unfold gZ
  rw [cY λw _=>if_neg (show ¬ h=n by omega)]; omega
structure xa (n:Nat) (tk:List (List Int)) (am:Nat->Int) (rm:Int->Int) (hl:Nat->Int->Int):Prop where
 nn:∀ w h,0<=hl w h
 sup:∀ w h,w < tk.length->0 < hl w h->h∈mV tk w
 rows:∀ w,w < tk.length->aG ((aQ n).map (hl w))=am w
 cols:∀ h:Int,0<=h->h < n->gZ hl tk.length h<=rm h
theorem A! (S:Aq n tk am rm hl room) (h0:gZ hl tk.length n<=0):xa n tk am rm hl:=by
 have z:∀ w,w < tk.length->hl w n=0:=λw hw=>by
  have h1:hl w n<=gZ hl tk.length n:=iH (f:=λw=>hl w n) (λv _=>S.nn v n) (Jy.mpr hw)
  have:=S.nn w n
  omega
 refine ⟨S.nn,λw h hw hp=>(S.sup w h hw hp).resolve_left λe=>by rw [e,z w hw] at hp; omega,λw hw=>?_,λh a b=>?_⟩
 ·rw [<- S.rows w hw]
  unfold Am
  rw [wG,Qp,gY]
  show _=_+(hl w n+0)
  rw [z w hw]; omega
 ·have:=S.cols h a b
  have:=S.FR h
  omega
theorem aCS (S:xa n tk am rm hl) (ht:aG ((List.range tk.length).map am)=aG ((aQ n).map rm)):∀ h:Int,0<=h->h < n->gZ hl tk.length h=rm h:=λh a b=>by
 have e:aG ((aQ n).map (gZ hl tk.length))=aG ((aQ n).map rm):=by
  rw [<- ht]
  show aG ((aQ n).map λh=>aG ((List.range tk.length).map λw=>hl w h))=_
  rw [<- tF]
  exact aZ λw hw=>S.rows w (Jy.mp hw)
 have h1:rm h - gZ hl tk.length h<=aG ((aQ n).map λh=>rm h+(-1)*gZ hl tk.length h):=by
  have:=iH (f:=λh=>rm h+(-1)*gZ hl tk.length h) (l:=aQ n) (y:=h) (λx hx=>by
   obtain ⟨u1,u2⟩:=gG.mp hx
   have:=S.cols x u1 u2
   show 0<=rm x+(-1)*gZ hl tk.length x
   omega) (gG.mpr ⟨a,b⟩)
  show rm h - _<=_
  omega
 rw [cF,fY,e] at h1
 have:=S.cols h a b
 omega
theorem C2 (a:Int) {b:Int} (_:0 < b):(Int.gcd a b:Int)*iV a b=a:=Wp (Int.gcd_dvd_left ..)
theorem wH (a:Int) {b:Int} (_:0 < b):(Int.gcd a b:Int)*gX a b=b:=Wp (Int.gcd_dvd_right ..)
theorem oT (a:Int) {b:Int} (hb:0 < b):0 < gX a b:=by
 have h1:=wH a hb
 have h2:=mM (a:=a) hb
 exact Int.pos_of_mul_pos_right (a:=(Int.gcd a b:Int)) (by omega) h2
theorem aCT (a:Int) {b:Int} (hb:0 < b):iV a b*b=a*gX a b:=by
 have h1:=C2 a hb
 have h2:=wH a hb
 calc iV a b*b=iV a b*((Int.gcd a b:Int)*gX a b):=by rw [h2]
  _=(Int.gcd a b:Int)*iV a b*gX a b:=by rw [<- Jx,Xp (iV a b)]
  _=a*gX a b:=by rw [h1]
theorem QG {a b:Int} (ha:0<=a) (hb:0 < b):0<=iV a b:=Int.ediv_nonneg ha (by omega)
theorem Y? {a b:Int} (ha:0<=a) (hb:0 < b):iV a b<=a:=Int.ediv_le_self _ ha
theorem Y! {a b:Int} (hb:0 < b):gX a b<=b:=Int.ediv_le_self _ (by omega)
noncomputable def fE (x:Int×Int):Int×Int:=(iV x.1 x.2,gX x.1 x.2)
theorem QQ {x y:Int×Int} (hx:0 < x.2) (hy:0 < y.2):jK (fE x) (fE y)=jK x y:=by
 unfold jK fE
 have a1:=C2 x.1 hx
 have b1:=wH x.1 hx
 have a2:=C2 y.1 hy
 have b2:=wH y.1 hy
 have g1:=mM (a:=x.1) hx
 have g2:=mM (a:=y.1) hy
 generalize (Int.gcd x.1 x.2:Int)=g at a1 b1 g1
 generalize (Int.gcd y.1 y.2:Int)=k at a2 b2 g2
 show decide (iV x.1 x.2*gX y.1 y.2 < iV y.1 y.2*gX x.1 x.2)=_
 generalize iV x.1 x.2=A at a1 ⊢
 generalize gX x.1 x.2=B at b1 ⊢
 generalize iV y.1 y.2=C at a2 ⊢
 generalize gX y.1 y.2=D at b2 ⊢
 rw [<- a1,<- b1,<- a2,<- b2]
 have e1:g*A*(k*D)=(g*k)*(A*D):=by rw [Jx,Jx,<- Jx A k D,Xp A k,Jx]
 have e2:k*C*(g*B)=(g*k)*(C*B):=by rw [Jx,<- Jx C g B,Xp C g,Jx,<- Jx k g,Xp k g]
 rw [e1,e2]
 have p:0 < g*k:=Int.mul_pos g1 g2
 refine decide_eq_decide.mpr ⟨λh=>Int.mul_lt_mul_of_pos_left h p,λh=>Int.lt_of_mul_lt_mul_left h (Yd p)⟩
end Ab
namespace L2
open PySem
end L2
namespace Ab
open PySem L2
noncomputable def Tp (H H':Hp):Prop:=∀ p xs,H p=some (.tup xs)->H' p=some (.tup xs)
theorem Tp.of (s:aD H H'):Tp H H':=λ_ _ h=>s _ _ h
theorem Tp.upd {u:HO} (h:∀ xs,H a≠some (.tup xs)):Tp H (upd H a u):=λp xs e=>by
 have ne:p≠a:=λz=>h xs (by rw [<- z]; exact e)
 rw [aI ne]; exact e
theorem rB {fs:List (Key×V)} (h:fs.map (·.1)=os.map Sum.inl) (t:Int):(bV fs (.inl t)).isSome=decide (t∈os):=by
 rw [<- eS]
 have:(fs.any λkv=>decide (kv.1=Sum.inl t))=((fs.map (·.1)).any λk=>decide (k=Sum.inl t)):=by rw [Wj]; rfl
 rw [this,h,Wj,Xf]
 simp
structure Tree (Ed:Int->Nat->Int->Prop) (n first:Int) (H:Hp) (fs:List (Key×V)) (os:List Int):Prop where
 keys:fs.map (·.1)=os.map Sum.inl
 nd:os.Nodup
 jm:∀ o∈os,0<=o/\o < n
 head:os[0]?=some first
 v0:bV fs (.inl first)=some .bj
 par:∀ (j:Nat) (t:Int),0 < j->os[j]?=some t->∃ (p:Addr) (w:Nat) (g:Int) (i:Nat),bV fs (.inl t)=some (.ref p)/\H p=some (.tup [.int (w:Nat),.int g,.int t])/\Ed g w t/\i < j/\os[i]?=some g
section
variable {Ed:Int->Nat->Int->Prop} {n first:Int} {fs:List (Key×V)}
theorem Tree.tp (T:Tree Ed n first H fs os) (e:Tp H H'):Tree Ed n first H' fs os :=
 ⟨T.keys,T.nd,T.jm,T.head,T.v0,λj t h0 h1=>let ⟨p,w,g,i,a,b,c⟩:=T.par j t h0 h1; ⟨p,w,g,i,a,e _ _ b,c⟩⟩
theorem Tree.len (T:Tree Ed n first H fs os):os.length<=n.toNat:=iY _ _ T.nd λx hx=>by have:=T.jm x hx; omega
theorem Tree.DK (T:Tree Ed n first H fs os):fs.length=os.length:=by
 have:=congrArg Ym T.keys
 rwa [Qa,Qa] at this
theorem Tree.one (h0:0<=first) (h1:first < n):Tree Ed n first H [(.inl first,.bj)] [first] :=
 ⟨rfl,by simp,λo ho=>by rw [Qs.mp ho]; exact ⟨h0,h1⟩,rfl,eE rfl,λj t h2 h3=>by
  cases j with
  | zero=>omega
  | succ j=>simp at h3⟩
theorem Tree.grow (T:Tree Ed n first H fs os) {p:Addr} {w:Nat} {g t:Int} (hp:H p=some (.tup [.int (w:Nat),.int g,.int t])) (e:Ed g w t) (hi:os[i]?=some g) (ht:t∉os) (r0:0<=t) (r1:t < n) :
  Tree Ed n first H (fs++[(.inl t,.ref p)]) (os++[t]):=by
 have hv:bV fs (.inl t)=none:=by
  have:=rB T.keys t
  rw [decide_eq_false ht] at this
  cases q:bV fs (.inl t) with
  | none=>rfl
  | some v=>rw [q] at this; cases this
 have ax:i < os.length:=(Qd.mp hi).1
 have val:∀ j:Key,bV (fs++[(.inl t,.ref p)]) j=if j=.inl t then some (.ref p) else bV fs j:=λj=>pI _ _ _ _ hv
 have hf:first∈os:=Qg T.head
 refine ⟨by rw [Qp,Qp,T.keys]; rfl,?_,λo ho=>?_,?_,?_,λj t' h0 h1=>?_⟩
 ·rw [Zl]
  exact ⟨T.nd,by simp,λx hx y hy z=>ht (by rw [<- Qs.mp hy,<- z]; exact hx)⟩
 ·rcases Jo.mp ho with h | h
  ·exact T.jm o h
  ·rw [Qs.mp h]; exact ⟨r0,r1⟩
 ·rw [Jb (by omega)]; exact T.head
 ·rw [val,if_neg (λz=>ht (by have:first=t:=(by simpa using z); rw [<- this]; exact hf))]
  exact T.v0
 ·by_cases hj:j < os.length
  ·rw [Jb hj] at h1
   obtain ⟨p',w',g',i',a,b,c,d,e'⟩:=T.par j t' h0 h1
   have ne:(Sum.inl t':Key)≠Sum.inl t:=λz=>ht (by have:t'=t:=(by simpa using z); rw [<- this]; exact Qg h1)
   exact ⟨p',w',g',i',by rw [val,if_neg ne]; exact a,b,c,d,by rw [Jb (by omega)]; exact e'⟩
  ·have ej:j=os.length:=by
    have:=(Qd.mp h1).1
    rw [Qr] at this
    simp at this
    omega
   subst ej
   rw [Jp (Qi _),Qad] at h1
   have et:t'=t:=by simpa using h1.symm
   subst et
   exact ⟨p,w,g,i,by rw [val,if_pos rfl],hp,e,ax,by rw [Jb ax]; exact hi⟩
end
noncomputable def X? (Ed:Int->Nat->Int->Prop) (os:List Int):Prop:=∀ g∈os,∀ w t,Ed g w t->t∈os
noncomputable def mO (K:Rb):Sp:=λvs H Q _=>∃ rp first qs rs n Ed,vs = [.ref rp,.int first]/\Rows H rp qs rs/\rs.length=n.toNat/\C3 Ed rs 1000/\(∀ g w t,Ed g w t->0<=t/\t < n)/\n<=100/\0<=first/\first < n /\
 ∀ fd H' fs os,aD H H'->H fd=none->H' fd=some (.dK fs)->Tree Ed n first H' fs os->X? Ed os->Q (.ref fd) H'
theorem kN:ae ["rows", "first", "found", "waiting", "giver", "taker"] ["rows", "first"] (aF lY):=.of
theorem tK (G:Fn K mg "reached" lY ["rows", "first"] f fd) (B:Bl mg):ab P w K mg base ao 1 f fd ["rows", "first"] (mO K):=by
 refine G.fn.oK kN λa_ A outer s H vs Q E hr h=>?_
 ·obtain ⟨rp,first,qs,rs,n,Ed,rfl,R,x_,ER,sj,gu,kh,Cw,k⟩:=h
  refine ⟨_,(aE (aU (i:=2) kN.nd rfl (Or.inl rfl) (zV (pv 1) g!))
   (aE (aU (i:=3) kN.nd rfl (Or.inl rfl) (dY (aA (pv 1) aC)))
   (aE (kD PassesOwn.never (yS (pv 3) (λ_=>rfl))
    (aE (aU (i:=4) kN.nd rfl (Or.inl rfl) (lK Ro PySem.F.slot_list_pop PySem.F.type_list_pop aDp (pv 3) (aA aM aC)))
    (aK (PV (eC PassesOwn.never rfl (xD (aY cQ (pv 0) (pv 4) (λ_ _=>rfl))) (aJ (i:=5) kN.nd rfl (Or.inl rfl))
     (aK (eJ (Pg (aCE (kF hr) (pv 5) (pv 2)) (by with_unfolding_all rfl))
      (aE (qO (kF hr) (pv 2) (pv 5) (cV (aA (kU (kF hr) (aY cQ (pv 0) (pv 4) (λ_ _=>rfl)) (pv 5) (λ_ _=>rfl)) (aA (pv 4) (aA (pv 5) aC)))) rfl)
      (aK (dO (lK Ro Rq Rr gB (pv 3) (aA (pv 5) aC)))))
      bR)))))))
   (aK (aW (pv 2)))))),?_⟩
  intro ij wj
  refine ⟨_,rfl,.inl first,rfl,aB,?_⟩
  rw [wQ]
  have s1:=aD.new (o:=.dK [(.inl first,.bj)]) wj
  have e1:upd H ij (.dK [(.inl first,.bj)]) ij=some (.dK [(.inl first,.bj)]):=aB
  generalize upd H ij (.dK [(.inl first,.bj)])=H1 at s1 e1 ⊢
  refine ⟨_,rfl,l_ _,λwt f6=>?_⟩
  have AI:H wt=none:=s1.free f6
  have F1:ij≠wt:=λz=>by rw [z,f6] at e1; cases e1
  have s2:=s1.trans (aD.new (o:=.lst [.int first]) f6)
  have e2:=(aD.new (o:=.lst [.int first]) f6) _ _ e1
  have w2:upd H1 wt (.lst [.int first]) wt=some (.lst [.int first]):=aB
  generalize upd H1 wt (.lst [.int first])=H2 at s2 e2 w2 ⊢
  -- the while
  refine ⟨λm σ H3=>∃ (v4 v5:Option V) (mm:Nat) (fs:List (Key×V)) (os:List Int),σ = [some (.ref rp),some (.int first),some (.ref ij),some (.ref wt),v4,v5]/\m=n.toNat - mm/\aD H H3/\H3 ij=some (.dK fs)/\H3 wt=some (.lst ((os.drop mm).map V.int))/\Tree Ed n first H3 fs os/\mm<=os.length /\
    ∀ (i:Nat) (g:Int),i < mm->os[i]?=some g->∀ w t,Ed g w t->t∈os,
   ⟨n.toNat - 0,none,none,0,_,[first],rfl,rfl,s2,e2,w2,Tree.one kh Cw,Jl _,λi g hi=>absurd hi (Nat.not_lt_zero _)⟩,?_⟩
  rintro m σ H3 ⟨v4,v5,mm,fs,os,rfl,rfl,s3,e3,w3,T3,hmm,K'⟩
  refine ⟨_,rfl,!((os.drop mm).map V.int).isEmpty,.inl ⟨_,ai.of w3,rfl⟩,?_⟩
  by_cases kr:mm < os.length
  ·-- a turn
   have br:(os.drop mm)≠[]:=by
    intro z
    have:=congrArg Ym z
    rw [Zo] at this
    simp at this
    omega
   have hb:(!((os.drop mm).map V.int).isEmpty)=true:=by
    cases q:os.drop mm with
    | nil=>exact absurd q br
    | cons _ _=>rfl
   rw [hb]
   refine iE ?_
   have ky:os.drop mm=os[mm]::os.drop (mm+1):=Yx kr
   have GV:os[mm]?=some (os[mm]):=Qc kr
   generalize os[mm]=g at ky GV
   obtain ⟨GY,VI⟩:=T3.jm g (Qg GV)
   have RM:=T3.len
   refine ⟨λar H'=>∃ m',m' < n.toNat - mm/\∃ (v4 v5:Option V) (mm:Nat) (fs:List (Key×V)) (os:List Int),ar = [some (.ref rp),some (.int first),some (.ref ij),some (.ref wt),v4,v5]/\m'=n.toNat - mm/\aD H H'/\H' ij=some (.dK fs)/\H' wt=some (.lst ((os.drop mm).map V.int))/\Tree Ed n first H' fs os/\mm<=os.length /\
    ∀ (i:Nat) (g:Int),i < mm->os[i]?=some g->∀ w t,Ed g w t->t∈os,λar H' z=>z,?_⟩
   refine ⟨_,rfl,.inl ⟨rfl,_,ai.of w3⟩,?_⟩
   have Lx:((os.drop mm).map V.int)[0]?=some (.int g):=by rw [ky]; rfl
   have lg:0 < ((os.drop mm).map V.int).length:=(Qd.mp Lx).1
   refine ⟨wt,_,0,0,.int g,rfl,rfl,w3,by decide,by decide,oF (i:=0) (by decide) lg,Lx,?_⟩
   have VM:((os.drop mm).map V.int).eraseIdx 0=(os.drop (mm+1)).map V.int:=by rw [ky]; rfl
   rw [VM]
   have s4:=s3.wr (u:=.lst ((os.drop (mm+1)).map V.int)) AI
   have e4:upd H3 wt (.lst ((os.drop (mm+1)).map V.int)) ij=some (.dK fs):=by rw [aI F1]; exact e3
   have w4:upd H3 wt (.lst ((os.drop (mm+1)).map V.int)) wt=some (.lst ((os.drop (mm+1)).map V.int)):=aB
   have T4:=T3.tp (Tp.upd (a:=wt) (u:=.lst ((os.drop (mm+1)).map V.int)) λxs z=>by rw [w3] at z; cases z)
   generalize upd H3 wt (.lst ((os.drop (mm+1)).map V.int))=H4 at s4 e4 w4 T4 ⊢
   -- the row
   have R4:=R.same s4
   have vc:g.toNat < qs.length:=by rw [R.len,x_]; omega
   have cq:((g.toNat:Nat):Int)=g:=by omega
   obtain ⟨qg,uw⟩:∃ q,qs[g.toNat]?=some q:=⟨_,Qc vc⟩
   obtain ⟨r,hr⟩:∃ r,rs[g.toNat]?=some r:=⟨_,Qc (by rw [x_]; omega)⟩
   have jz:g9 (qs.map V.ref) g=some (.ref qg):=by
    have:=cM (xs:=qs.map V.ref) (j:=g.toNat) (v:=.ref qg) (by rw [Qe,uw]; rfl)
    rwa [cq] at this
   have cb:=R.row _ _ _ uw hr
   have yq:=s4 _ _ cb
   obtain ⟨G',hRl⟩:=ER _ _ hr
   rw [cq] at G'
   have Bk:qg≠ij:=λz=>by rw [z,wj] at cb; cases cb
   have FX:qg≠wt:=λz=>by rw [z,AI] at cb; cases cb
   have S4:rp≠qg:=λz=>by have:=R.lst; rw [z,cb] at this; cases this
   refine ⟨_,rfl,_,rfl,rp,_,g,_,rfl,rfl,ai.of R4.lst,jz,qg,r,rfl,yq,λo nf=>?_⟩
   have z5:upd H4 qg (.c_ o (.dK r)) qg=some (.c_ o (.dK r)):=aB
   have b5:bo qg H (upd H4 qg (.c_ o (.dK r))):=λb u nb hb=>by rw [aI nb]; exact s4 _ _ hb
   have e5:upd H4 qg (.c_ o (.dK r)) ij=some (.dK fs):=by rw [aI (Ne.symm Bk)]; exact e4
   have w5:upd H4 qg (.c_ o (.dK r)) wt=some (.lst ((os.drop (mm+1)).map V.int)):=by rw [aI (Ne.symm FX)]; exact w4
   have T5:=T4.tp (Tp.upd (a:=qg) (u:=.c_ o (.dK r)) λxs z=>by rw [yq] at z; cases z)
   generalize upd H4 qg (.c_ o (.dK r))=H5 at z5 b5 e5 w5 T5 ⊢
   refine zU (a:=qg) (o:=o) (kvs:=r) (λj σ H6=>∃ (v5:Option V) (fs:List (Key×V)) (os:List Int),σ = [some (.ref rp),some (.int first),some (.ref ij),some (.ref wt),some (.int g),v5]/\H6 qg=some (.c_ o (.dK r))/\bo qg H H6/\H6 ij=some (.dK fs)/\H6 wt=some (.lst ((os.drop (mm+1)).map V.int))/\Tree Ed n first H6 fs os/\mm+1<=os.length/\os[mm]?=some g /\
     (∀ (i:Nat) (g:Int),i < mm->os[i]?=some g->∀ w t,Ed g w t->t∈os)/\∀ (i:Nat) k v t,i < j->r[i]?=some (k,v)->k=.inl t->t∈os)
    ⟨v5,fs,os,rfl,z5,b5,e5,w5,T5,kr,GV,K',λi k v t hi=>absurd hi (Nat.not_lt_zero _)⟩ (λj σ H6 _ ⟨_,_,_,_,h,_⟩=>h) ?_ ?_
   ·rintro j ⟨key,val⟩ σ H6 hj ⟨v5,fs,os,rfl,z6,b6,e6,w6,T6,Bx,Cu,Er,Hw⟩
    -- the key is a hand,its value a work
    obtain ⟨aaa,mj⟩:∃ v,bV r key=some v:=by
     have:(bV r key).isSome=true:=by
      rw [<- eS,Xb]
      exact ⟨_,Qg hj,by simp⟩
     cases q:bV r key with
     | none=>rw [q] at this; cases this
     | some v=>exact ⟨v,rfl⟩
    obtain ⟨wk,t,rfl,rfl,hE⟩:=G'.1 _ _ mj
    obtain ⟨UJ,UI⟩:=sj _ _ _ hE
    dsimp only [kV]
    have dn:∀ (Bh:List Int),t∈Bh->(∀ x∈os,x∈Bh)->∀ (i:Nat) k v t',i < j+1->r[i]?=some (k,v)->k=.inl t'->t'∈Bh:=λBh h1 h2 i k v t' hi hk he=>by
     by_cases uc:i < j
     ·exact h2 _ (Hw i k v t' uc hk he)
     ·have:i=j:=by omega
      subst this
      rw [hj] at hk
      cases hk
      have:t=t':=by simpa using he
      rw [<- this]; exact h1
    refine ⟨_,rfl,_,rfl,ij,_,rfl,xB.k (k:=.inl t) e6,_,rfl,?_⟩
    rw [rB T6.keys]
    by_cases xr:t∈os
    ·rw [decide_eq_true xr]
     refine iS ?_
     exact ⟨_,fs,os,rfl,z6,b6,e6,w6,T6,Bx,Cu,Er,dn os xr λ_ h=>h⟩
    ·rw [decide_eq_false xr]
     refine iE ?_
     have V4:H6 rp=some (.lst (qs.map V.ref)):=b6 _ _ S4 R.lst
     refine ⟨_,rfl,_,rfl,rp,_,g,_,rfl,rfl,ai.of V4,jz,_,rfl,qg,.int (wk:Nat),rfl,.inl ⟨r,.inl t,.inr ⟨o,z6⟩,rfl,mj.symm⟩,_,rfl,_,rfl,bP (show 3<=1000 by decide),λp hp=>?_⟩
     have sp:=aD.new (o:=.tup [.int (wk:Nat),.int g,.int t]) hp
     have ep:upd H6 p (.tup [.int (wk:Nat),.int g,.int t]) p=_:=aB
     have b7:bo qg H (upd H6 p (.tup [.int (wk:Nat),.int g,.int t])):=b6.trans (bo.of sp)
     have z7:=sp _ _ z6
     have e7:=sp _ _ e6
     have w7:=sp _ _ w6
     have T7:=T6.tp (Tp.of sp)
     generalize upd H6 p (.tup [.int (wk:Nat),.int g,.int t])=H7 at sp ep b7 z7 e7 w7 T7 ⊢
     have hv:bV fs (.inl t)=none:=by
      have:=rB T7.keys t
      rw [decide_eq_false xr] at this
      cases q:bV fs (.inl t) with
      | none=>rfl
      | some v=>rw [q] at this; cases this
     have T7l:=T7.len
     have T7f:=T7.DK
     have T8:=T7.grow ep hE Cu xr UJ UI
     have JW:fU fs (.inl t) (.ref p)=fs++[(.inl t,.ref p)]:=zO _ hv
     refine ⟨_,rfl,_,rfl,ij,_,rfl,vA.k (k:=.inl t) e7 (by rw [Rf]; omega),?_⟩
     rw [JW]
     have b8:bo qg H (upd H7 ij (.dK (fs++[(.inl t,.ref p)]))):=λb u nb hb=>by
      rw [aI (λz=>by rw [z,wj] at hb; cases hb)]
      exact b7 b u nb hb
     have z8:upd H7 ij (.dK (fs++[(.inl t,.ref p)])) qg=some (.c_ o (.dK r)):=by rw [aI Bk]; exact z7
     have e8:upd H7 ij (.dK (fs++[(.inl t,.ref p)])) ij=_:=aB
     have w8:upd H7 ij (.dK (fs++[(.inl t,.ref p)])) wt=some (.lst ((os.drop (mm+1)).map V.int)):=by rw [aI (Ne.symm F1)]; exact w7
     have Q1:=T8.tp (Tp.upd (a:=ij) (u:=.dK (fs++[(.inl t,.ref p)])) λxs z=>by rw [e7] at z; cases z)
     generalize upd H7 ij (.dK (fs++[(.inl t,.ref p)]))=H8 at b8 z8 e8 w8 Q1 ⊢
     refine ⟨_,rfl,.inl ⟨rfl,_,ai.of w8⟩,_,rfl,wt,_,.int t,rfl,rfl,w8,by rw [Qa,Zo,Rf]; omega,?_⟩
     have VR:(os.drop (mm+1)).map V.int++[V.int t]=((os++[t]).drop (mm+1)).map V.int:=by
      rw [List.drop_append_of_le_length Bx,Qp]; rfl
     rw [VR]
     refine ⟨_,_,os++[t],rfl,by rw [aI FX]; exact z8,λb u nb hb=>?_,by rw [aI F1]; exact e8,aB,Q1.tp (Tp.upd λxs z=>by rw [w8] at z; cases z),by rw [Qr]; omega,by rw [Jb (by omega)]; exact Cu,λi g' hi Bz w t' e'=>?_,dn _ (by simp) λx hx=>Jv _ hx⟩
     ·rw [aI (λz=>by rw [z,AI] at hb; cases hb)]
      exact b8 b u nb hb
     ·rw [Jb (by omega)] at Bz
      exact Jv _ (Er i g' hi Bz w t' e')
   ·rintro σ H6 ⟨v5,fs,os,rfl,z6,b6,e6,w6,T6,Bx,Cu,Er,Hw⟩
    refine ⟨qg,o,r,z6,nf,?_⟩
    have hole:=T6.len
    have s7:aD H (upd H6 qg (.dK r)):=λb u hb=>by
     by_cases Aa:b=qg
     ·rw [Aa] at hb ⊢
      rw [aB,<- cb]; exact hb
     ·rw [aI Aa]; exact b6 b u Aa hb
    refine ⟨n.toNat - (mm+1),by omega,_,_,mm+1,fs,os,rfl,rfl,s7,by rw [aI (Ne.symm Bk)]; exact e6,by rw [aI (Ne.symm FX)]; exact w6,T6.tp (Tp.upd λxs z=>by rw [z6] at z; cases z),Bx,λi g' hi Bz w t e=>?_⟩
    by_cases VE:i < mm
    ·exact Er i g' VE Bz w t e
    ·have:i=mm:=by omega
     subst this
     rw [Cu] at Bz
     cases Bz
     have hs:=G'.2 w t e
     rw [<- eS,Xb] at hs
     obtain ⟨⟨k,v⟩,hk,he⟩:=hs
     obtain ⟨j,hj⟩:=Qv.mp hk
     exact Hw j k v t (Qd.mp hj).1 hj (by simpa using he)
  ·have hlen:mm=os.length:=by omega
   have hb:(!((os.drop mm).map V.int).isEmpty)=false:=by rw [hlen,List.drop_length]; rfl
   rw [hb]
   refine iS ?_
   refine ⟨_,rfl,k ij H3 fs os s3 wj e3 T3 λg hg w t e=>?_⟩
   obtain ⟨i,hi⟩:=Qv.mp hg
   exact K' i g (by have:=(Qd.mp hi).1; omega) hi w t e
structure ay (H:Hp) (ps:List Addr) (ss:List (Nat×Int×Int)):Prop where
 len:ps.length=ss.length
 at_:∀ (i:Nat) p s,ps[i]?=some p->ss[i]?=some s->H p=some (.tup [.int (s.1:Nat),.int s.2.1,.int s.2.2])
theorem ay.nil:ay H [] []:=⟨rfl,λi p s h=>by simp at h⟩
theorem ay.cons {ps:List Addr} (h:ay H ps ss) {p:Addr} {w:Nat} {g t:Int} (hp:H p=some (.tup [.int (w:Nat),.int g,.int t])):ay H (p::ps) ((w,g,t)::ss):=by
 refine ⟨by rw [Jr,Jr,h.len],λi p' s h1 h2=>?_⟩
 cases i with
 | zero =>
  have e1:p=p':=by simpa using h1
  have e2:(w,g,t)=s:=by simpa using h2
  subst e1 e2
  exact hp
 | succ i=>exact h.at_ i p' s (by simpa using h1) (by simpa using h2)
theorem ay.tp {ps:List Addr} (h:ay H ps ss) (e:Tp H H'):ay H' ps ss:=⟨h.len,λi p s a b=>e _ _ (h.at_ i p s a b)⟩
noncomputable def rC (K:Rb):Sp:=λvs H Q _=>∃ gw last fs os first n Ed jl,vs = [.ref gw,.int last]/\H gw=some (.dK fs)/\Tree Ed n first H fs os/\n<=100/\os[jl]?=some last /\
 ∀ p H' ps ss,aD H H'->H p=none->H' p=some (.lst (ps.map V.ref))->ay H' ps ss->qH Ed first ss last->(n_ first ss).Nodup->(∀ s∈ss,s.2.2∈os)->(0 < jl->ss≠[])->Q (.ref p) H'
theorem rD:ae ["found", "last", "some", "step"] ["found", "last"] (aF sM):=.of
theorem QP (G:Fn K mg "way_to" sM ["found", "last"] f fd) (B:Bl mg):ab P w K mg base ao 1 f fd ["found", "last"] (rC K):=by
 refine G.fn.oK rD λa_ A outer s H vs Q E hr h=>?_
 ·obtain ⟨gw,last,fs,os,first,n,Ed,jl,rfl,Cv,T,gu,ua,k⟩:=h
  refine ⟨_,(aE (aU (i:=2) rD.nd rfl (Or.inl rfl) (dY aC))
   (aE (aU (i:=3) rD.nd rfl (Or.inl rfl) (kU (kF hr) (pv 0) (pv 1) (λ_ _=>rfl)))
   (aE (kD PassesOwn.never (Pg (aEN (pv 3)))
    (aE (dO (lK Ro Rq Rr gB (pv 2) (aA (pv 3) aC)))
    (aK (aU (i:=3) rD.nd rfl (Or.inl rfl) (kU (kF hr) (pv 0) (aY cD (pv 3) aM (λ_ _=>rfl)) (λ_ _=>rfl))))))
   (aK (aW (PX (pv 2) (E9 wS aM))))))),?_⟩
  have Tl:=T.len
  have J7:n.toNat < sizeLine:=by rw [Rf]; omega
  refine ⟨bP (show 0<=1000 by decide),λsm Ez=>?_⟩
  have s1:=aD.new (o:=.lst []) Ez
  have e1:upd H sm (.lst []) sm=some (.lst []):=aB
  generalize upd H sm (.lst [])=H1 at s1 e1 ⊢
  -- what stands at a found hand
  have vals:∀ (j:Nat) (t:Int),os[j]?=some t->∃ v,bV fs (.inl t)=some v/\((j=0/\v=.bj)∨∃ p w g i,0 < j/\v=.ref p/\H p=some (.tup [.int (w:Nat),.int g,.int t])/\Ed g w t/\i < j/\os[i]?=some g):=λj t ht=>by
   by_cases hj:j=0
   ·subst hj
    rw [T.head] at ht
    cases ht
    exact ⟨_,T.v0,.inl ⟨rfl,rfl⟩⟩
   ·obtain ⟨p,w,g,i,a,b,c,d,e⟩:=T.par j t (by omega) ht
    exact ⟨_,a,.inr ⟨p,w,g,i,by omega,rfl,b,c,d,e⟩⟩
  obtain ⟨v0,LB,_⟩:=vals jl last ua
  refine ⟨_,rfl,_,rfl,gw,v0,rfl,.inl ⟨fs,.inl last,.inl (s1 _ _ Cv),rfl,LB.symm⟩,?_⟩
  refine ⟨λm σ H2=>∃ (j:Nat) (t:Int) (v:V) (kb:List Addr) (ss:List (Nat×Int×Int)),m=j/\σ = [some (.ref gw),some (.int last),some (.ref sm),some v]/\os[j]?=some t/\bV fs (.inl t)=some v/\aD H H2/\H2 sm=some (.lst (kb.map V.ref))/\ay H2 kb.reverse ss/\qH Ed t ss last/\(t::ss.map (·.2.2)).Nodup /\
    (∀ x∈ss.map (·.2.2),∃ i:Nat,j < i/\os[i]?=some x)/\kb.length+j<=jl/\(j < jl->ss≠[]),
   ⟨jl,jl,last,v0,[],[],rfl,rfl,ua,LB,s1,e1,ay.nil,rfl,by simp,λx h=>by simp at h,by simp,λh=>by omega⟩,?_⟩
  rintro j σ H2 ⟨_,t,v,kb,ss,rfl,rfl,hj,hv,s2,e2,S2,P2,N2,I2,L2',L3⟩
  have VB:jl < os.length:=(Qd.mp ua).1
  obtain ⟨v',zl,cs⟩:=vals j t hj
  rw [hv] at zl
  cases zl
  rcases cs with ⟨rfl,rfl⟩ | ⟨p,w,g,i,hj0,rfl,hp,hE,uc,hg⟩
  ·refine ⟨_,rfl,_,rfl,?_⟩
   refine iS ?_
   rw [T.head] at hj
   cases hj
   refine ⟨_,rfl,_,rfl,rfl,sm,_,rfl,ai.of e2,λp hp=>?_⟩
   have s3:=aD.new (o:=.lst (kb.map V.ref).reverse) hp
   refine k p _ kb.reverse ss (s2.trans s3) (s2.free hp) (by rw [aB,List.map_reverse]) (S2.tp (Tp.of s3)) P2 N2 (λx hx=>?_) L3
   obtain ⟨i,_,hi⟩:=I2 _ (Jg.mpr ⟨x,hx,rfl⟩)
   exact Qg hi
  ·refine ⟨_,rfl,_,rfl,?_⟩
   refine iE ?_
   obtain ⟨vg,LA,_⟩:=vals i g hg
   refine ⟨λar H'=>∃ m',m' < j/\∃ (j:Nat) (t:Int) (v:V) (kb:List Addr) (ss:List (Nat×Int×Int)),m'=j/\ar = [some (.ref gw),some (.int last),some (.ref sm),some v]/\os[j]?=some t/\bV fs (.inl t)=some v/\aD H H'/\H' sm=some (.lst (kb.map V.ref))/\ay H' kb.reverse ss/\qH Ed t ss last/\(t::ss.map (·.2.2)).Nodup /\
    (∀ x∈ss.map (·.2.2),∃ i:Nat,j < i/\os[i]?=some x)/\kb.length+j<=jl/\(j < jl->ss≠[]),λar H' z=>z,?_⟩
   have hsz:(kb.map V.ref).length < sizeLine:=by
    rw [Qa]
    exact Xg (Qw (Qw (Xx _ _) L2') (Qw (Ya VB) Tl)) J7
   refine ⟨_,rfl,.inl ⟨rfl,_,ai.of e2⟩,_,rfl,sm,_,.ref p,rfl,rfl,e2,hsz,?_⟩
   have s3:aD H (upd H2 sm (.lst (kb.map V.ref++[.ref p]))):=s2.wr Ez
   have e3:upd H2 sm (.lst (kb.map V.ref++[.ref p])) sm=_:=aB
   have S3:=S2.tp (Tp.upd (a:=sm) (u:=.lst (kb.map V.ref++[.ref p])) λxs z=>by rw [e2] at z; cases z)
   generalize upd H2 sm (.lst (kb.map V.ref++[.ref p]))=H3 at s3 e3 S3 ⊢
   have xy:=s3 _ _ hp
   refine ⟨_,rfl,_,rfl,p,_,1,.int g,rfl,rfl,ah.of xy,rfl,gw,vg,rfl,.inl ⟨fs,.inl g,.inl (s3 _ _ Cv),rfl,LA.symm⟩,?_⟩
   refine ⟨i,uc,i,g,vg,kb++[p],(w,g,t)::ss,rfl,rfl,hg,LA,s3,by rw [Qp]; exact e3,?_,⟨rfl,hE,P2⟩,?_,?_,?_,λ_=>by simp⟩
   ·rw [Wv]
    exact S3.cons xy
   ·show (g::t::ss.map (·.2.2)).Nodup
    rw [Xm]
    refine ⟨λhm=>?_,N2⟩
    have inj:∀ i',i < i'->os[i']?=some g->False:=λi' h1 h2=>by
     have:=(Zw (Qd.mp hg).1 T.nd).mp (hg.trans h2.symm)
     omega
    rcases Qk.mp hm with e | hm
    ·exact inj j uc (by rw [e]; exact hj)
    ·obtain ⟨i',h1,h2⟩:=I2 g hm
     exact inj i' (by omega) h2
   ·intro x hx
    rcases Qk.mp (show x∈t::ss.map (·.2.2) from hx) with rfl | hx
    ·exact ⟨j,uc,hj⟩
    ·obtain ⟨i',h1,h2⟩:=I2 x hx
     exact ⟨i',by omega,h2⟩
   ·rw [Qr]
    show kb.length+1+i<=jl
    omega
section
variable {n first:Int} {fs:List (Key×V)}
theorem Tree.rl (T:Tree (mU ws hs) n first H fs os):∀ (j:Nat) (t:Int),os[j]?=some t->RL ws hs j first t:=by
 intro j
 induction j using Nat.strongRecOn with
 | ind j ih =>
  intro t ht
  by_cases h0:j=0
  ·subst h0
   rw [T.head] at ht
   exact Option.some.inj ht
  ·obtain ⟨p,w,g,i,_,_,e,hi,hg⟩:=T.par j t (by omega) ht
   exact ((ih i hi g hg).snoc e).mono (by omega)
theorem QO:∀ {ss:List (Nat×Int×Int)} {h x:Int},qH (mU ws hs) h ss x->jF ws hs h ss x
 | [],_,_,e=>e
 | _::_,_,_,⟨a,b,c⟩=>⟨a,b,QO c⟩
end
noncomputable def xY:Str:=("levels_or_way" : Str) ++ ".<locals>." ++ "<lambda>"
theorem tL {n:Int} {h:Int} (h0:0<=h) (h1:h < n):g9 ((aV n hs).map V.int) h=some (.int ((hs.count h:Nat):Int)):=by
 have ax:h.toNat < n.toNat:=by omega
 have cq:((h.toNat:Nat):Int)=h:=by omega
 have h1:((aV n hs).map V.int)[h.toNat]?=some (.int ((hs.count h:Nat):Int)):=by rw [Qe,gL ax,cq]; rfl
 have h2:=cM h1
 rwa [cq] at h2
noncomputable def Ox (n:Int) (ws:List (List Int)) (hs:List Int) (H H':Hp) (p:Addr):Prop :=
 (∃ q lv,H' p=some (.tup [.str "levels",.ref q])/\H' q=some (.tup (lv.map V.int))/\kJ n ws hs lv) ∨
 ∃ q ps ss,H' p=some (.tup [.str "way",.ref q])/\H q=none/\H' q=some (.lst (ps.map V.ref))/\ay H' ps ss/\qD n ws hs ss
noncomputable def Fi (K:Rb) (Pt:Addr):Sp:=λvs H Q _=>∃ x y n ws hs,vs = [x,y]/\gD K H x y n ws hs/\H Pt=some (.tab xY)/\∀ p H',aD H H'->Ox n ws hs H H' p->Q (.ref p) H'
theorem tM:ae ["book", "deal", "many", "rows", "levels", "hand", "found", "last"] ["book", "deal"] (aF C0):=.of
theorem z! {Nw fR Nu:Addr} {NT dR NR:FuncData} (G:Fn K mg "levels_or_way" C0 ["book", "deal"] f fd) (hc:fd.code=.ref c) (Z:Lm K mg base c Pt) (B:Bl mg) (R:Pr K mg fW fH fK fB i9 fD jr fL dW dH dK dB i_ dD jt dL) (GH:Fn K mg "handing" lX ["book", "deal"] Nw NT) (GR:Fn K mg "reached" lY ["rows", "first"] fR dR) (GW:Fn K mg "way_to" sM ["found", "last"] Nu NR):ab P w K mg base ao 8 f fd ["book", "deal"] (Fi K Pt):=by
 have OL:ab P w K mg base ao 7 fL dL ["book", "deal"] (qX K):=sU B R
 have OH:ab P w K mg base ao 1 Nw NT ["book", "deal"] (wE K):=aBc GH B
 have OR:ab P w K mg base ao 1 fR dR ["rows", "first"] (mO K):=tK GR B
 have OW:ab P w K mg base ao 1 Nu NR ["found", "last"] (rC K):=QP GW B
 refine G.fn.SU hc tM (λvs H Q E h=>?_) (λA outer s H vs Q E hr h=>?_)
 ·obtain ⟨x,y,n,ws,hs,rfl,_⟩:=h
  rfl
 ·obtain ⟨x,y,n,ws,hs,rfl,g,hT,k⟩:=h
  have r1:au 1 _:=hr.mono (by decide)
  refine ⟨_,(aE (aU (i:=2) tM.nd rfl (Or.inr rfl) (bA R.L OL hr rfl (aA (pv 0) (aA (pv 1) aC))))
   (aE (aU (i:=3) tM.nd rfl (Or.inl rfl) (bA GH OH r1 rfl (aA (pv 0) (aA (pv 1) aC))))
   (aE (aU (i:=4) tM.nd rfl (Or.inl rfl) (dY aC))
   (aE (eC PassesOwn.never rfl (eA rfl B.range (aA (aY cD (pv 0) aM (λ_ _=>rfl)) aC)) (aJ (i:=5) tM.nd rfl (Or.inl rfl))
    (aE (aU (i:=6) tM.nd rfl (Or.inl rfl) (bA GR OR r1 rfl (aA (pv 3) (aA (pv 5) aC))))
    (aE (aU (i:=7) tM.nd rfl (Or.inl rfl) (aCG 2 rfl r1 rfl B.min Z rfl (q:=xY) rfl (pv 6) rfl rfl))
    (aE (eJ (bG O1 (bC wR (aY cD (pv 2) (pv 5) (λ_ _=>rfl)) (aY cD (pv 2) (pv 7) (λ_ _=>rfl))) aM (bJ _))
     (aK (aW (cV (aA IE (aA (bA GW OW r1 rfl (aA (pv 6) (aA (pv 7) aC))) aC)))))
     bR)
    (aK (dO (lK Ro Rq Rr gB (pv 4) (aA (aY cD (pv 2) (pv 7) (λ_ _=>rfl)) aC))))))))
   (aK (aW (cV (aA IE (aA (bU cN rfl B.tuple dU (aA (pv 4) aC)) aC))))))))),?_⟩
  obtain ⟨wg,md,gu⟩:=g.len
  obtain ⟨a,b,ys,ex,ha,jy,fi⟩:=cW g.1
  obtain ⟨_,_,vz,lh⟩:=bB g.2.1
  have sj:∀ g w t,mU ws hs g w t->0<=t/\t < n:=λg w t e=>by
   obtain ⟨_,l,h1,h2,_⟩:=e
   exact (cE (lh l (Qg h1))).2.1 t h2
  refine ⟨_,rfl,_,rfl,x,y,n,ws,hs,rfl,g,λmp H1 s1 qd=>?_⟩
  have g1:=g.same s1
  refine ⟨_,rfl,_,rfl,x,y,n,ws,hs,rfl,g1,λrp H2 qs rs s2 jn ig R2 x_ ER=>?_⟩
  refine ⟨bP (show 0<=1000 by decide),λlp di=>?_⟩
  have fu:=s1.trans s2
  have s3:=fu.trans (aD.new (o:=.lst []) di)
  have Ke:H lp=none:=fu.free di
  have R3:=R2.same (aD.new (o:=.lst []) di)
  have m3:=(s2.trans (aD.new (o:=.lst []) di)) _ _ qd
  have e3:upd H2 lp (.lst []) lp=some (.lst []):=aB
  have rh:H rp=none:=s1.free jn
  have SY:rp≠lp:=λz=>by have:=R2.lst; rw [z,di] at this; cases this
  have S6:∀ q∈qs,q≠lp:=λq hq z=>by
   obtain ⟨i,hi⟩:=Qv.mp hq
   have qj:i < rs.length:=by rw [<- R2.len]; exact (Qd.mp hi).1
   have:=R2.row i q _ hi (Qc qj)
   rw [z,di] at this; cases this
  have TB:mp≠lp:=λz=>by have:=s2 _ _ qd; rw [z,di] at this; cases this
  generalize upd H2 lp (.lst [])=H3 at s3 R3 m3 e3 ⊢
  subst ex
  refine ⟨_,rfl,a,_,0,.int n,rfl,rfl,s3.ag ha,rfl,n,rfl,by omega,by omega,kE (lo:=0) (n:=n.toNat) (λi σ H4=>∃ (v5 v6 v7:Option V) (lv:List Int),σ = [some (.ref a),some y,some (.ref mp),some (.ref rp),some (.ref lp),v5,v6,v7]/\aD H H4/\Rows H4 rp qs rs/\H4 mp=some (.tup ((aV n hs).map V.int))/\H4 lp=some (.lst (lv.map V.int))/\lv.length=i /\
    ∀ (h:Nat) (v:Int),lv[h]?=some v->oG ws hs n.toNat h v/\((hs.count (h:Int):Nat):Int) - v < 2)
   ⟨none,none,none,[],rfl,s3,R3,m3,e3,rfl,λh v e=>by simp at e⟩ ?_ ?_⟩
  ·rintro i σ H4 hi ⟨v5,v6,v7,lv,rfl,s4,R4,m4,e4,u5,L4⟩
   have GP:(0:Int)<=0+(i:Int):=by omega
   have l7:0+(i:Int) < n:=by omega
   refine ⟨_,rfl,_,rfl,rp,0+(i:Int),qs,rs,n,mU ws hs,rfl,R4,x_,λg r e=>⟨(ER g r e).1,Qw (ER g r e).2 (by decide)⟩,sj,by omega,GP,l7,λgw H5 fs os s5 Cv e5 T5 C5=>?_⟩
   have K3:=s4.trans s5
   have R5:=R4.same s5
   have m5:=s5 _ _ m4
   have l5:=s5 _ _ e4
   have T5l:=T5.len
   have jg:0 < os.length:=(Qd.mp T5.head).1
   refine ⟨_,rfl,os,λo=>((hs.count o:Nat):Int),.ref mp,⟨gw,rfl,.inr (.inr ⟨fs,e5,T5.keys⟩)⟩,jg,K3 _ _ hT,rfl,λo ho=>?_,λj m H6 s6 hj AN _=>?_⟩
   ·obtain ⟨o0,o1⟩:=T5.jm o ho
    refine ⟨o0,by omega,mp,_,rfl,.inl (ah.of m5),?_⟩
    rw [Qe,gL (by omega),show ((o.toNat:Nat):Int)=o by omega]
    rfl
   have ua:j < os.length:=(Qd.mp hj).1
   obtain ⟨m0,m1⟩:=T5.jm m (Qg hj)
   have FN:=K3.trans s6
   have R6:=R5.same s6
   have m6:=s6 _ _ m5
   have l6:=s6 _ _ l5
   have e6:=s6 _ _ e5
   have T6:=T5.tp (Tp.of s6)
   have BG:RL ws hs n.toNat (0+(i:Int)) m:=(T6.rl j m hj).mono (by omega)
   have yt:oG ws hs n.toNat (0+(i:Int)) ((hs.count m:Nat):Int):=by
    refine ⟨⟨m,BG,rfl⟩,λk x hx=>?_⟩
    exact AN x (hx.closed (S:=λo=>o∈os) (λg w t hg e=>C5 g hg w t e) (Qg T5.head))
   refine ⟨_,rfl,_,rfl,mp,_,_,_,rfl,rfl,ah.of m6,tL GP l7,_,rfl,_,rfl,mp,_,_,_,rfl,rfl,ah.of m6,tL m0 m1,_,_,rfl,rfl,_,_,rfl,rfl,_,rfl,?_⟩
   refine gC (λc=>?_) (λc=>?_)
   ·have m8:((hs.count (0+(i:Int)):Nat):Int) - ((hs.count m:Nat):Int)≥2:=of_decide_eq_true c
    refine ⟨_,rfl,_,rfl,gw,m,fs,os,0+(i:Int),n,mU ws hs,j,rfl,e6,T6,by omega,hj,λp H7 ps ss s7 hp Gu S7 P7 N7 _ F2=>⟨uq _ _,λq hq=>?_⟩⟩
    have s8:=aD.new (o:=.tup [.str "way",.ref p]) hq
    refine k q _ ((FN.trans s7).trans s8) (.inr ⟨p,ps,ss,aB,FN.free hp,s8 _ _ Gu,S7.tp (Tp.of s8),0+(i:Int),m,F2 ?_,QO P7,N7,GP,l7,BG,m8⟩)
    rcases Nat.eq_zero_or_pos j with z | z
    ·rw [z,T5.head] at hj
     cases hj
     omega
    ·exact z
   ·have ax:¬ ((hs.count (0+(i:Int)):Nat):Int) - ((hs.count m:Nat):Int)≥2:=λz=>c (decide_eq_true z)
    refine ⟨_,rfl,.inl ⟨rfl,_,ai.of l6⟩,_,rfl,_,rfl,mp,_,_,_,rfl,rfl,ah.of m6,tL m0 m1,lp,_,_,rfl,rfl,l6,by rw [Qa,Rf]; omega,?_⟩
    refine ⟨_,_,_,lv++[((hs.count m:Nat):Int)],rfl,FN.wr Ke,?_,by rw [aI TB]; exact m6,by rw [aB,Qp]; rfl,by rw [Qr,u5]; rfl,λh v e=>?_⟩
    ·refine ⟨by rw [aI SY]; exact R6.lst,R6.len,R6.nd,λg q r h1 h2=>?_⟩
     rw [aI (S6 q (Qg h1))]
     exact R6.row g q r h1 h2
    ·by_cases hh:h < lv.length
     ·rw [Jb hh] at e
      exact L4 h v e
     ·have eh:h=i:=by
       have:=(Qd.mp e).1
       rw [Qr] at this
       simp at this
       omega
      subst eh
      rw [Jp (by omega),u5,Qad] at e
      have ev:((hs.count m:Nat):Int)=v:=by simpa using e
      rw [<- ev]
      rw [Zj] at yt ax
      exact ⟨yt,by omega⟩
  ·rintro σ H4 ⟨v5,v6,v7,lv,rfl,s4,R4,m4,e4,u5,L4⟩
   refine ⟨_,rfl,lp,_,rfl,.inl ⟨ai.of e4,λq hq=>⟨uq _ _,λp hp=>?_⟩⟩⟩
   have s5:=(aD.new (o:=.tup (lv.map V.int)) hq).trans (aD.new (o:=.tup [.str "levels",.ref q]) hp)
   exact k p _ (s4.trans s5) (.inl ⟨q,lv,aB,(aD.new hp) _ _ aB,u5,L4⟩)
theorem QN:∀ (ts:List Str) (k:Nat) (acc:Str),(textFrom k acc ts).length<=acc.length+piled ts
 | [],_,acc=>by show acc.length<=acc.length+0; exact Qi _
 | t::r,k,acc=>by
  have ih:=QN r (k+1) (acc++(if k > 0 then ", " else "" : String)++t)
  have e:(acc++(if k > 0 then ", " else "" : String)++t).length<=acc.length+2+t.length:=by
   rw [Str.length_append,Str.length_append]
   have:(((if k > 0 then ", " else "" : String):Str)).length<=2:=by split <;> decide
   omega
  show (textFrom (k+1) _ r).length<=_
  rw [piled_cons]
  omega
theorem aEk (ts:List Str):(listText ts).length<=2+piled ts:=by
 unfold listText
 rw [Str.length_append]
 have h:=QN ts 0 "["
 have e1:((("[" : String):Str)).length=1:=rfl
 have e2:((("]" : String):Str)).length=1:=rfl
 omega
theorem aCU (ts:List Str):(tupleText ts).length<=3+piled ts:=by
 unfold tupleText
 rw [Str.length_append,Str.length_append]
 have e1:((("(" : String):Str)).length=1:=rfl
 have e3:(((if ts.length==1 then ",)" else ")" : String):Str)).length<=2:=by split <;> decide
 have e4:(Str.join ", " ts).length<=piled ts:=by
  cases ts with
  | nil=>decide
  | cons x r=>have:=join_length_add (x::r) (by simp); omega
 omega
theorem lF (f:α->PyData):∀ l:List α,PyData.shownAll (l.map f)=l.map λx=>(f x).shown
 | []=>by rw [Yb,PyData.shownAll]; rfl
 | x::r=>by rw [Jh,PyData.shownAll,lF f r]; rfl
theorem pP (f:α->Str) (k:Nat):∀ l:List α,(∀ x∈l,(f x).length<=k)->piled (l.map f)<=(k+2)*l.length
 | [],_=>by rw [Yb,piled_nil]; exact Jl _
 | x::r,h=>by
  rw [Jh,piled_cons,Jr,Nat.mul_succ]
  have h1:=h x (Ql ..)
  have h2:=pP f k r (λy hy=>h y (Qo _ hy))
  omega
mutual
theorem wI:∀ d:PyData,d.canLay0=true->eM d=true
 | .none,_=>by unfold eM; rfl
 | .bool _,_=>by unfold eM; rfl
 | .int _,_=>by unfold eM; rfl
 | .str _,_=>by unfold eM; rfl
 | .list ds,h=>by unfold eM; rw [PyData.canLay0] at h; exact nR ds h
 | .tuple ds,h=>by unfold eM; rw [PyData.canLay0] at h; exact nR ds h
 | .dict _,h=>by rw [PyData.canLay0] at h; cases h
theorem nR:∀ ds:List PyData,PyData.canLayAll0 ds=true->iJ ds=true
 | [],_=>by unfold iJ; rfl
 | d::ds,h=>by
  rw [PyData.canLayAll0,Jm] at h
  unfold iJ
  rw [wI d h.1,nR ds h.2]
  rfl
end
theorem lG (f:α->PyData):∀ l:List α,(∀ x∈l,(f x).showable=true)->PyData.showableAll (l.map f)=true
 | [],_=>by rw [Yb,PyData.showableAll]
 | x::r,h=>by rw [Jh,PyData.showableAll,h x (Ql ..),lG f r (λy hy=>h y (Qo _ hy))]; rfl
theorem X! {i:Int} (h:i.natAbs < 10^38):(PyData.int i).showable=true/\(PyData.int i).shown.length<=40:=by
 refine ⟨?_,?_⟩
 ·unfold PyData.showable
  refine decide_eq_true ?_
  by_cases z:i.natAbs=0
  ·rw [z]; decide
  ·have:i.natAbs.log2 < 128:=(Wu z).mpr (Qq h (by decide))
   omega
 ·have e:=int_text_length_le10 (a:=i) (k:=38) (by decide) h
  rw [PyData.shown]
  show (Str.ofString (toString i)).length<=_
  rw [ofString_length]
  omega
noncomputable def d2 (n:Int) (ws:List (List Int)) (hs:List Int):PyData:=.list [bI n ws,eG hs]
theorem nT:∀ {h x:Int} {ss:List (Nat×Int×Int)},jF ws hs h ss x->ss.map (·.2.1)++[x]=h::ss.map (·.2.2)
 | _,_,[],e=>by cases e; rfl
 | _,_,s::r,⟨e1,_,e3⟩=>by rw [Jh,Ye,nT e3,e1]; rfl
theorem mP:∀ {h x:Int} {ss:List (Nat×Int×Int)},jF ws hs h ss x->∀ (i:Nat) s,ss[i]?=some s->mU ws hs s.2.1 s.1 s.2.2/\∀ s',0 < i->ss[i - 1]?=some s'->s'.2.2=s.2.1
 | _,_,[],_,i,s,hs=>by simp at hs
 | h,_,a::r,⟨e1,e2,e3⟩,0,s,hs'=>by
  have:a=s:=by simpa using hs'
  subst this
  exact ⟨by rw [e1]; exact e2,λs' h0=>by omega⟩
 | h,_,a::r,⟨e1,e2,e3⟩,i+1,s,hs'=>by
  have hr:r[i]?=some s:=by simpa using hs'
  obtain ⟨p1,p2⟩:=mP e3 i s hr
  refine ⟨p1,λs' _ j6=>?_⟩
  cases i with
  | zero =>
   have e:a=s':=by simpa using j6
   subst e
   cases r with
   | nil=>simp at hr
   | cons b r' =>
    have:b=s:=by simpa using hr
    subst this
    exact e3.1.symm
  | succ i=>exact p2 s' (by omega) (by simpa using j6)
theorem wJ:∀ {h x:Int} {ss:List (Nat×Int×Int)},jF ws hs h ss x->∀ s,ss[ss.length - 1]?=some s->s.2.2=x
 | _,_,[],_,s,e=>by simp at e
 | _,_,[a],⟨_,_,e3⟩,s,e=>by
  have:a=s:=by simpa using e
  subst this
  exact e3
 | _,_,a::b::r,⟨_,_,e3⟩,s,e=>wJ e3 s (by simpa using e)
noncomputable def lL (s:Nat×Int×Int):List Int:=[(s.1:Int),s.2.1,s.2.2]
theorem ay.den:∀ {ps:List Addr} {ss:List (Nat×Int×Int)},ay H ps ss->aP K H ((ss.map lL).map cO) (ps.map V.ref)
 | [],[],_=>aN.mpr rfl
 | [],_::_,h=>by have:=h.len; simp at this
 | _::_,[],h=>by have:=h.len; simp at this
 | p::ps,s::ss,h=>by
  have h0:=h.at_ 0 p s rfl rfl
  have hr:ay H ps ss:=⟨by have:=h.len; simpa using this,λi p' s' a b=>h.at_ (i+1) p' s' (by simpa using a) (by simpa using b)⟩
  exact aL.mpr ⟨_,_,rfl,aS.mpr ⟨p,rfl,ah.of h0⟩,ay.den hr⟩
end Ab
namespace L2
open PySem
end L2
namespace Ab
open PySem L2
theorem aAq {k g t:Int} (h:gW ws hs [k,g,t]=true):0<=k/\k < hs.length/\hs[k.toNat]?=some g/\t≠g/\t∈ws.getD k.toNat []:=by
 have h':(decide (0<=k) && (decide (k < hs.length) && (hs[k.toNat]?==some g && (!decide (t=g) && decide (t∈ws.getD k.toNat [])))))=true:=h
 simp only [Jm,decide_eq_true_eq,beq_iff_eq,Bool.not_eq_true',decide_eq_false_iff_not] at h'
 exact ⟨h'.1,h'.2.1,h'.2.2.1,h'.2.2.2.1,h'.2.2.2.2⟩
noncomputable def nF (hs:List Int) (L:List (List Int)):List Int:=L.foldl (λh st=>h.set (st.getD 0 0).toNat (tD st)) hs
theorem aCV (L:List (List Int)):∀ hs:List Int,(nF hs L).length=hs.length:=by
 induction L with
 | nil=>intro hs; rfl
 | cons s r ih=>intro hs; show (nF (hs.set _ _) r).length=_; rw [ih,Xn]
theorem aBg (hs:List Int) (L:List (List Int)) (st:List Int):nF hs (L++[st])=(nF hs L).set (st.getD 0 0).toNat (tD st):=by unfold nF; rw [List.foldl_append]; rfl
noncomputable def Ap (K:Rb) (H:Hp) (x y:V) (p:Addr) (xs:List V) (n:Int) (ws:List (List Int)) (hs:List Int) (L:List (List Int)):Prop:=gD K H x y n ws hs/\ai K H p xs/\aP K H (L.map cO) xs/\L.length<=30/\∀ l∈L,l.length<=1000
theorem Ap.same {x:V} {p:Addr} {n:Int} {L:List (List Int)} (h:Ap K H x y p xs n ws hs L) (s:aD H H'):Ap K H' x y p xs n ws hs L:=⟨h.1.same s,s.b_ h.2.1,s.af _ _ h.2.2.1,h.2.2.2⟩
theorem Ap.B7 {x:V} {p:Addr} {n:Int} {L:List (List Int)} (h:Ap K H x y p xs n ws hs L) (hw:tE ws hs L=true) {u:V} (hu:xs[i]?=some u) :
  ∃ (c:Addr) (kk gg tt:Int),u=.ref c/\L[i]?=some [kk,gg,tt]/\ah K H c [.int kk,.int gg,.int tt]/\gW ws hs [kk,gg,tt]=true:=by
 have hx:=aH h.2.2.1
 rw [Qa] at hx
 have ax:i < L.length:=by have:=(Qd.mp hu).1; omega
 have el:L[i]?=some L[i]:=Qc ax
 obtain ⟨c1,e1,e2⟩:=lB h.2.2.1 el
 rw [hu] at e1
 have jj:L.all (gW ws hs)=true:=by unfold tE at hw; simp only [Jm] at hw; exact hw.2.1
 have ic:=Qt.mp jj _ (Xu ax)
 obtain ⟨kk,gg,tt,e3⟩:=wD ic
 rw [e3] at e2 el ic
 exact ⟨c1,kk,gg,tt,Option.some.inj e1,el,e2,ic⟩
noncomputable def QF (K:Rb):Sp:=λvs H Q _=>∃ x y p xs n ws hs L,vs = [x,y,.ref p]/\Ap K H x y p xs n ws hs L/\tE ws hs L=true/\∀ H',aD H H'->Q .bj H'
theorem W?:ae ["book", "deal", "some"] ["book", "deal", "some"] (aF xM):=.of
theorem aEl {Nt:Addr} {NQ:FuncData} (G:Fn K mg "need_way" xM ["book", "deal", "some"] f fd) (B:Bl mg) (R:Pr K mg fW fH fK fB i9 fD jr fL dW dH dK dB i_ dD jt dL) (GW:Fn K mg "is_way" An ["book", "deal", "some"] Nt NQ) (GS:Fn K mg "is_step" vY ["book", "deal", "step"] fS dS):ab P w K mg base ao 8 f fd ["book", "deal", "some"] (QF K):=by
 have IS:ab P w K mg base ao 7 Nt NQ ["book", "deal", "some"] (OJ K):=l? GW B R GS
 refine G.fn.oK W? λa_ A outer s H vs Q E hr h=>?_
 ·obtain ⟨x,y,p,xs,n,ws,hs,L,rfl,hi,hw,k⟩:=h
  refine ⟨_,aK (eJ (dJ (cT (bA GW IS hr rfl (aA (pv 0) (aA (pv 1) (aA (pv 2) aC)))))) mH bR),?_⟩
  refine ⟨_,rfl,_,rfl,_,rfl,x,y,p,xs,n,ws,hs,L,rfl,hi.1,hi.2.1,hi.2.2.1,hi.2.2.2.1,hi.2.2.2.2,λH' s1=>⟨_,rfl,?_⟩⟩
  rw [hw]
  refine iS ?_
  exact k H' s1
noncomputable def O7 (K:Rb):Sp:=λvs H Q _=>∃ x y p xs n ws hs L,vs = [x,y,.ref p]/\Ap K H x y p xs n ws hs L/\tE ws hs L=true/\∀ q H',aD H H'->H q=none->H' q=some (.tup ((nF hs L).map V.int))->Q (.ref q) H'
theorem tN:ae ["book", "deal", "some", "behind", "work", "giver", "taker"] ["book", "deal", "some"] (aF Fe):=.of
theorem W! {fN:Addr} {dN:FuncData} (G:Fn K mg "gone" Fe ["book", "deal", "some"] f fd) (B:Bl mg) (JC:Fn K mg "need_way" xM ["book", "deal", "some"] fN dN) (IW:ab P w K mg base ao 8 fN dN ["book", "deal", "some"] (QF K)):ab P w K mg base ao 9 f fd ["book", "deal", "some"] (O7 K):=by
 refine G.fn.oK tN λa_ A outer s H vs Q E hr h=>?_
 ·obtain ⟨x,y,p,xs,n,ws,hs,L,rfl,hi,hw,k⟩:=h
  have r8:au 8 _:=hr
  refine ⟨_,(aE (dO (bA JC IW r8 rfl (aA (pv 0) (aA (pv 1) (aA (pv 2) aC)))))
  (aE (aU (i:=3) tN.nd rfl (Or.inl rfl) (bU nY rfl B.list sH (aA (pv 1) aC)))
  (aE (eC PassesOwn.never rfl (cK (pv 2)) (iC rfl (aR (aJ (i:=4) tN.nd rfl (Or.inl rfl)) (aR (aJ (i:=5) tN.nd rfl (Or.inl rfl)) (aR (aJ (i:=6) tN.nd rfl (Or.inl rfl)) cJ))))
   (aK (kR (pv 6) (ID (pv 3) (pv 4) nW))))
  (aK (aW (bU cN rfl B.tuple dU (aA (pv 3) aC))))))),?_⟩
  refine ⟨_,rfl,_,rfl,_,rfl,x,y,p,xs,n,ws,hs,L,rfl,hi,hw,λH1 s1=>?_⟩
  have l7:=hi.same s1
  obtain ⟨c0,rfl,CF⟩:=aS.mp l7.1.2.2.1
  have lg:=aH hi.2.2.1
  rw [Qa] at lg
  refine ⟨_,rfl,c0,_,rfl,.inr CF,λbh MB=>?_⟩
  have s2:=aD.new (o:=.lst (hs.map V.int)) MB
  have e2:upd H1 bh (.lst (hs.map V.int)) bh=some (.lst (hs.map V.int)):=aB
  generalize upd H1 bh (.lst (hs.map V.int))=H2 at s2 e2 ⊢
  refine ⟨_,rfl,p,rfl,⟨_,(l7.same s2).2.1⟩,gO (K:=K) (a:=p) (xs:=xs) (λi σ H3=>∃ v4 v5 v6,σ = [some x,some (.ref c0),some (.ref p),some (.ref bh),v4,v5,v6]/\aD H1 H3/\H3 bh=some (.lst ((nF hs (L.take i)).map V.int))) ⟨_,_,_,rfl,s2,e2⟩ (λi σ H3 _ ⟨_,_,_,_,s3,_⟩=>(l7.same s3).2.1) ?_ ?_⟩
  ·rintro i u σ H3 hu ⟨v4,v5,v6,rfl,s3,e3⟩
   obtain ⟨c,kk,gg,tt,rfl,el,hc,ic⟩:=(l7.same s3).B7 hw hu
   obtain ⟨k0,k1,_⟩:=aAq ic
   refine ⟨c,_,rfl,hc,rfl,_,_,rfl,_,_,rfl,_,_,rfl,rfl,?_⟩
   refine ⟨_,rfl,_,rfl,_,rfl,bh,_,kk,kk.toNat,rfl,rfl,e3,O8 k0 (by rw [Qa,aCV]; exact k1),?_⟩
   refine ⟨_,_,_,rfl,s3.wr MB,?_⟩
   rw [aB,Xj,el]
   show some (HO.lst _)=some (HO.lst ((nF hs (L.take i++[[kk,gg,tt]])).map V.int))
   rw [aBg,List.map_set]
   rfl
  ·rintro σ H3 ⟨v4,v5,v6,rfl,s3,e3⟩
   rw [lg,Jn (Qi _)] at e3
   refine ⟨_,rfl,bh,_,rfl,.inl ⟨ai.of e3,λq hq=>k q _ ((s1.trans s3).trans (aD.new hq)) ((s1.trans s3).free hq) aB⟩⟩
end Ab
namespace Ab
noncomputable def hV (hs:List Int) (ss:List (Nat×Int×Int)):List Int:=ss.foldl (λh s=>h.set s.1 s.2.2) hs
theorem pQ:∀ (ss:List (Nat×Int×Int)) (hs:List Int),(hV hs ss).length=hs.length
 | [],_=>rfl
 | s::r,hs=>by show (hV (hs.set s.1 s.2.2) r).length=_; rw [pQ r,Xn]
theorem tO:∀ (hs:List Int) (w:Nat) (g t c:Int),hs[w]?=some g->(((hs.set w t).count c:Nat):Int)=((hs.count c:Nat):Int) - (if c=g then 1 else 0)+(if c=t then 1 else 0)
 | [],w,g,t,c,h=>by simp at h
 | a::r,0,g,t,c,h=>by
  have e:a=g:=by simpa using h
  subst e
  rw [List.set_cons_zero,Zi,Zi]
  by_cases h1:c=a <;> by_cases h2:c=t
  ·subst h1; subst h2; simp
  ·subst h1; have:(t==c)=false:=by simpa using λz=>h2 z.symm
   simp [h2,this]
  ·subst h2; have:(a==c)=false:=by simpa using λz=>h1 z.symm
   simp [h1,this]
  ·have e1:(a==c)=false:=by simpa using λz=>h1 z.symm
   have e2:(t==c)=false:=by simpa using λz=>h2 z.symm
   simp [h1,h2,e1,e2]
 | a::r,w+1,g,t,c,h=>by
  have ih:=tO r w g t c (by simpa using h)
  rw [List.set_cons_succ,Zi,Zi]
  omega
theorem QM {w:Nat} {g u:Int} (hg:hs[w]?=some g):∀ {h x:Int} {r:List (Nat×Int×Int)},jF ws hs h r x->(∀ s∈r,s.2.1≠g)->jF ws (hs.set w u) h r x
 | _,_,[],e,_=>e
 | h,_,s::r,⟨e1,⟨e2,e3⟩,e4⟩,hn=>by
  refine ⟨e1,⟨?_,e3⟩,QM hg e4 λs' hs'=>hn s' (Qo _ hs')⟩
  have br:w≠s.1:=λz=>by
   subst z
   rw [hg] at e2
   exact hn s (Ql ..) (e1.trans (Option.some.inj e2).symm)
  rw [Yg br]
  exact e2
theorem aAs {h x:Int} (hp:jF ws hs h ss x):∀ s∈ss,s.2.1∈h::ss.map (·.2.2):=λs hs'=>by
 rw [<- nT hp]
 exact Jv _ (Jg.mpr ⟨s,hs',rfl⟩)
theorem tP:∀ (ss:List (Nat×Int×Int)) {hs:List Int} {h x:Int},jF ws hs h ss x->(h::ss.map (·.2.2)).Nodup->∀ c:Int,(((hV hs ss).count c:Nat):Int)=((hs.count c:Nat):Int) - (if c=h then 1 else 0)+(if c=x then 1 else 0)
 | [],hs,h,x,hp,_,c=>by
  have e:h=x:=hp
  subst e
  show ((hs.count c:Nat):Int)=_
  omega
 | s::r,hs,h,x,⟨e1,e2,e3⟩,hn,c=>by
  rw [Jh,Xm] at hn
  have h1:=QM (u:=s.2.2) e2.1 e3 λs' hs' z=>hn.1 (by rw [<- z]; exact aAs e3 s' hs')
  have ih:=tP r h1 hn.2 c
  have e:=tO hs s.1 h s.2.2 c e2.1
  show (((hV (hs.set s.1 s.2.2) r).count c:Nat):Int)=_
  omega
theorem pR:∀ (ss:List (Nat×Int×Int)) {hs:List Int},(∀ s∈ss,∃ l,ws[s.1]?=some l/\s.2.2∈l)->(∀ (j:Nat) (h:Int) (l:List Int),hs[j]?=some h->ws[j]?=some l->h∈l)->∀ (j:Nat) (h:Int) (l:List Int),(hV hs ss)[j]?=some h->ws[j]?=some l->h∈l
 | [],_,_,hd=>hd
 | s::r,hs,hl,hd=>pR r (λs' h'=>hl s' (Qo _ h')) λj h l e1 e2=>by
  obtain ⟨l',z1,z2⟩:=hl s (Ql ..)
  rw [Xk] at e1
  by_cases z:s.1=j
  ·subst z
   rw [if_pos rfl] at e1
   split at e1
   ·rw [z1] at e2
    rw [<- Option.some.inj e2,<- Option.some.inj e1]; exact z2
   ·cases e1
  ·rw [if_neg z] at e1
   exact hd j h l e1 e2
noncomputable def j8:Nat->Nat
 | 0=>0
 | k+1=>j8 k+k
noncomputable def Sm (g:Nat->Nat):Nat->Nat
 | 0=>0
 | n+1=>Sm g n+g n
theorem QE {g g':Nat->Nat}:∀ n:Nat,(∀ i,i < n->g' i=g i)->Sm g' n=Sm g n
 | 0,_=>rfl
 | n+1,h=>by show Sm g' n+g' n=Sm g n+g n; rw [QE n λi hi=>h i (by omega),h n (by omega)]
theorem IA {g g':Nat->Nat} {a:Nat}:∀ n:Nat,a < n->(∀ i,i < n->i≠a->g' i=g i)->Sm g' n+g a=Sm g n+g' a
 | 0,h,_=>by omega
 | n+1,h,hh=>by
  show Sm g' n+g' n+g a=Sm g n+g n+g' a
  by_cases e:a=n
  ·subst e
   rw [QE a λi hi=>hh i (by omega) (by omega)]
   omega
  ·have ih:=IA (g:=g) (g':=g') n (by omega) λi hi hn=>hh i (by omega) hn
   rw [hh n (by omega) (λz=>e z.symm)]
   omega
theorem O6:∀ k:Nat,k<=12->j8 k<=12*k
 | 0,_=>Qi _
 | k+1,h=>by have:=O6 k (by omega); show j8 k+k<=_; omega
theorem OI {g:Nat->Nat} {b:Nat} (h:∀ i,g i<=b):∀ n,Sm g n<=b*n
 | 0=>Jl _
 | n+1=>by have:=OI h n; have:=h n; show Sm g n+g n<=_; rw [Nat.mul_succ]; omega
noncomputable def vk (n:Nat) (hs:List Int):Nat:=Sm (λi=>j8 (hs.count (i:Int))) n
theorem y? (h6:n<=6) (h:hs.length<=12):vk n hs<=864:=by
 have:=OI (g:=λi=>j8 (hs.count (i:Int))) (b:=144) (λi=>by
  have h1:hs.count (i:Int)<=hs.length:=List.count_le_length
  have h2:=O6 _ (Qw h1 h)
  show j8 (hs.count (i:Int))<=144
  omega) n
 unfold vk
 omega
theorem aEo {n:Int} (W:qD n ws hs ss) (ht:∀ g w t,mU ws hs g w t->0<=t/\t < n):vk n.toNat (hV hs ss) < vk n.toNat hs:=by
 obtain ⟨h,x,br,hP,hN,EC,GU,BG,m8⟩:=W
 obtain ⟨s,hs'⟩:∃ s,ss[ss.length - 1]?=some s:=⟨_,Qc (by have:=Jj.mpr br; omega)⟩
 have ex:=wJ hP s hs'
 have hx:=ht _ _ _ (mP hP _ s hs').1
 rw [ex] at hx
 have hc:=tP ss hP hN
 have LX:h≠x:=λz=>by rw [z] at m8; omega
 have e1:=IA (g:=λi=>j8 (hs.count (i:Int))) (g':=λi=>if i=h.toNat then j8 (hs.count h - 1) else j8 (hs.count (i:Int))) (a:=h.toNat) n.toNat (by omega) (λi _ z=>if_neg z)
 have e2:=IA (g:=λi=>if i=h.toNat then j8 (hs.count h - 1) else j8 (hs.count (i:Int))) (g':=λi=>j8 ((hV hs ss).count (i:Int))) (a:=x.toNat) n.toNat (by omega) (λi hi z=>by
  have BD:=hc (i:Int)
  by_cases zh:i=h.toNat
  ·have zi:(i:Int)=h:=by omega
   rw [if_pos zh]
   rw [zi,if_pos rfl,if_neg LX] at BD
   rw [zi]
   show j8 ((hV hs ss).count h)=_
   congr 1
   omega
  ·rw [if_neg zh]
   rw [if_neg (show ¬ (i:Int)=h by omega),if_neg (show ¬ (i:Int)=x by omega)] at BD
   show j8 ((hV hs ss).count (i:Int))=_
   congr 1
   omega)
 have ch:((h.toNat:Nat):Int)=h:=by omega
 have cx:((x.toNat:Nat):Int)=x:=by omega
 simp only [if_pos,ch,cx,if_neg (show ¬ x.toNat=h.toNat by omega)] at e1 e2
 have VW:=hc x
 rw [if_neg (λz=>LX z.symm),if_pos rfl] at VW
 have Kk:(hV hs ss).count x=hs.count x+1:=by omega
 rw [Kk] at e2
 have t1:j8 (hs.count x+1)=j8 (hs.count x)+hs.count x:=rfl
 have t2:j8 (hs.count h)=j8 (hs.count h - 1)+(hs.count h - 1):=by
  have:hs.count h=(hs.count h - 1)+1:=by omega
  conv=>lhs; rw [this]
  rfl
 unfold vk
 omega
noncomputable def oU (n:Int) (ws:List (List Int)):List Int->List (List (Nat×Int×Int))->List Int->Prop
 | hs,[],he=>hs=he
 | hs,ss::r,he=>qD n ws hs ss/\oU n ws (hV hs ss) r he
theorem oU.snoc {n:Int}:∀ {hs:List Int} {W:List (List (Nat×Int×Int))} {hc:List Int} {ss:List (Nat×Int×Int)},oU n ws hs W hc->qD n ws hc ss->oU n ws hs (W++[ss]) (hV hc ss)
 | _,[],_,_,e,w=>by cases e; exact ⟨w,rfl⟩
 | _,_::_,_,_,⟨a,b⟩,w=>⟨a,oU.snoc b w⟩
end Ab
namespace Ab
open PySem L2
theorem QD:∀ (ss:List (Nat×Int×Int)) (hs:List Int),nF hs (ss.map lL)=hV hs ss
 | [],_=>rfl
 | s::r,hs=>by
  have e:((lL s).getD 0 0).toNat=s.1:=Zb _
  show nF (hs.set ((lL s).getD 0 0).toNat (tD (lL s))) (r.map lL)=hV (hs.set s.1 s.2.2) r
  rw [e,QD r]
  rfl
theorem V? {h x:Int} (br:ss≠[]) (hP:jF ws hs h ss x) (hN:(h::ss.map (·.2.2)).Nodup):tE ws hs (ss.map lL)=true:=by
 have hp:bS (ss.map lL)=h::ss.map (·.2.2):=by
  cases ss with
  | nil=>exact absurd rfl br
  | cons s r =>
   show lA (lL s)::((s::r).map lL).map tD=_
   rw [Xz,show lA (lL s)=h from hP.1]
   rfl
 unfold tE qZ
 rw [hp,decide_eq_true hN,Bool.and_true,Jm,Jm]
 refine ⟨?_,?_,?_⟩
 ·cases ss with
  | nil=>exact absurd rfl br
  | cons _ _=>rfl
 ·rw [Qt]
  intro st ic
  obtain ⟨s,hs',rfl⟩:=Jg.mp ic
  obtain ⟨i,hi⟩:=Qv.mp hs'
  obtain ⟨⟨e1,l,e2,e3,e4⟩,_⟩:=mP hP i s hi
  have ax:=(Qd.mp e1).1
  show (decide (0<=(s.1:Int)) && (decide ((s.1:Int) < hs.length) && (hs[(s.1:Int).toNat]?==some s.2.1 && (!decide (s.2.2=s.2.1) && decide (s.2.2∈ws.getD (s.1:Int).toNat [])))))=true
  rw [Zb,e1,Qx,e2,decide_eq_true (show (0:Int)<=s.1 by omega),decide_eq_true (show (s.1:Int) < hs.length by omega),decide_eq_false e4,decide_eq_true (show s.2.2∈(some l).getD [] from e3)]
  simp
 ·rw [<- nT hP,Qt]
  intro p x8
  obtain ⟨i,hi⟩:=Qv.mp x8
  rw [Jz] at hi
  obtain ⟨h1,h2⟩:=hi
  rw [Qe] at h1
  cases q:ss[i]? with
  | none=>rw [q] at h1; cases h1
  | some s =>
   rw [q] at h1
   have ax:=(Qd.mp q).1
   rw [Jb (by rw [Qa]; exact ax),Qe,q] at h2
   rw [<- Option.some.inj h1,<- Option.some.inj h2]
   exact beq_self_eq_true _
structure cm (H:Hp) (qs:List Addr) (Ws:List (List (Nat×Int×Int))):Prop where
 len:qs.length=Ws.length
 at_:∀ (i:Nat) q ss,qs[i]?=some q->Ws[i]?=some ss->∃ ps:List Addr,H q=some (.lst (ps.map V.ref))/\ay H ps ss
theorem cm.same (h:cm H qs Ws) (s:aD H H'):cm H' qs Ws:=⟨h.len,λi q ss a b=>let ⟨ps,h1,h2⟩:=h.at_ i q ss a b; ⟨ps,s _ _ h1,h2.tp (Tp.of s)⟩⟩
theorem Tp.but (b:bo t H H') (ht:H t=some (.lst zs)):Tp H H':=λp xs h=>b p _ (λz=>by rw [z,ht] at h; cases h) h
theorem cm.but (h:cm H qs Ws) (b:bo t H H') (ht:H t=some (.lst zs)) (hn:∀ q∈qs,q≠t):cm H' qs Ws:=⟨h.len,λi q ss a e=>let ⟨ps,h1,h2⟩:=h.at_ i q ss a e; ⟨ps,b _ _ (hn q (Qg a)) h1,h2.tp (Tp.but b ht)⟩⟩
theorem cm.snoc {ps:List Addr} (h:cm H qs Ws) (h1:H q=some (.lst (ps.map V.ref))) (h2:ay H ps ss):cm H (qs++[q]) (Ws++[ss]):=by
 refine ⟨by rw [Qr,Qr,h.len]; rfl,λi q' KZ a b=>?_⟩
 by_cases hi:i < qs.length
 ·rw [Jb hi] at a
  rw [Jb (by rw [<- h.len]; exact hi)] at b
  exact h.at_ i q' KZ a b
 ·rw [Jp (by omega)] at a
  rw [Jp (by rw [<- h.len]; omega)] at b
  have ax:=(Qd.mp a).1
  have e0:i - qs.length=0:=by simp at ax; omega
  rw [e0] at a
  rw [<- h.len,e0] at b
  have ea:q=q':=by simpa using a
  have eb:ss=KZ:=by simpa using b
  subst ea; subst eb
  exact ⟨ps,h1,h2⟩
noncomputable def y! (n:Int) (ws:List (List Int)) (hs:List Int) (H':Hp) (p:Addr):Prop :=
 ∃ wl dl qs Ws he lv,H' p=some (.tup [.ref wl,.ref dl])/\H' wl=some (.lst (qs.map V.ref))/\cm H' qs Ws/\Ws.length<=864/\H' dl=some (.tup (he.map V.int))/\oU n ws hs Ws he/\kJ n ws he lv
noncomputable def tQ (K:Rb) (Pt:Addr):Sp:=λvs H Q _=>∃ x y n ws hs,vs = [x,y]/\gD K H x y n ws hs/\H Pt=some (.tab xY)/\∀ p H',aD H H'->y! n ws hs H' p->Q (.ref p) H'
theorem gD.but {x:V} {n:Int} (g:gD K H x y n ws hs) (b:bo t H H') (ht:H t=some (.lst zs)):gD K H' x y n ws hs:=⟨b.den ht _ _ (aAd n ws) g.1,g.2.1,b.den ht _ _ (aAc hs) g.2.2.1,g.2.2.2⟩
theorem gD.w9 {x:V} {n:Int} (g:gD K H x y n ws hs):∀ a w t,mU ws hs a w t->0<=t/\t < n:=λa w t e=>by
 obtain ⟨_,_,vz,lh⟩:=bB g.2.1
 obtain ⟨_,l,h1,h2,_⟩:=e
 exact (cE (lh l (Qg h1))).2.1 t h2
theorem gD.short {x:V} {n:Int} (g:gD K H x y n ws hs) (W:qD n ws hs ss):ss.length<=12:=by
 obtain ⟨wg,md,gu⟩:=g.len
 obtain ⟨h,xx,br,hP,hN,EC,GU,BG,m8⟩:=W
 have:=iY n.toNat (h::ss.map (·.2.2)) hN λz hz=>by
  rcases Qk.mp hz with rfl | hz
  ·omega
  ·obtain ⟨s',hs',rfl⟩:=Jg.mp hz
   obtain ⟨i,hi⟩:=Qv.mp hs'
   have:=g.w9 _ _ _ (mP hP i s' hi).1
   omega
 rw [Jr,Qa] at this
 omega
theorem gD.gone {x:V} {n:Int} (g:gD K H x y n ws hs) (W:qD n ws hs ss) {d:Addr} (hd:ah K H d ((hV hs ss).map V.int)):gD K H x (.ref d) n ws (hV hs ss):=by
 obtain ⟨fe,CA⟩:=bQ g.2.2.2
 obtain ⟨h,xx,br,hP,_⟩:=W
 refine ⟨g.1,g.2.1,aS.mpr ⟨d,rfl,hd⟩,qY (by rw [pQ]; exact fe) (pR ss (λs hs'=>?_) CA)⟩
 obtain ⟨i,hi⟩:=Qv.mp hs'
 obtain ⟨⟨_,l,e2,e3,_⟩,_⟩:=mP hP i s hi
 exact ⟨l,e2,e3⟩
theorem gM:ae ["book", "deal", "ways", "word", "shown"] ["book", "deal"] (aF kK):=.of
theorem aAt {CO fG:Addr} {CV dG:FuncData} (G:Fn K mg "bettered" kK ["book", "deal"] f fd) (B:Bl mg) (Fw:Fn K mg "levels_or_way" C0 ["book", "deal"] CO CV) (Fs:ab P w K mg base ao 8 CO CV ["book", "deal"] (Fi K Pt)) (GG:Fn K mg "gone" Fe ["book", "deal", "some"] fG dG) (OG:ab P w K mg base ao 9 fG dG ["book", "deal", "some"] (O7 K)):ab P w K mg base ao 10 f fd ["book", "deal"] (tQ K Pt):=by
 refine G.fn.oK gM λa_ A outer s H vs Q E hr h=>?_
 ·obtain ⟨x,y,n,ws,hs,rfl,g,hT,k⟩:=h
  have r9:au 9 _:=hr
  have r8:au 8 _:=hr.mono (by decide)
  refine ⟨_,(aE (aU (i:=2) gM.nd rfl (Or.inl rfl) (dY aC))
  (aE (kR (bA Fw Fs r8 rfl (aA (pv 0) (aA (pv 1) aC))) (iC rfl (aR (aJ (i:=3) gM.nd rfl (Or.inl rfl)) (aR (aJ (i:=4) gM.nd rfl (Or.inl rfl)) cJ))))
  (aE (kD PassesOwn.never (bG pZ (pv 3) IE (bJ _))
   (aE (dO (lK Ro Rq Rr gB (pv 2) (aA (pv 4) aC)))
  (aE (aU (i:=1) gM.nd rfl (Or.inl rfl) (bA GG OG r9 rfl (aA (pv 0) (aA (pv 1) (aA (pv 4) aC)))))
  (aK (kR (bA Fw Fs r8 rfl (aA (pv 0) (aA (pv 1) aC))) (iC rfl (aR (aJ (i:=3) gM.nd rfl (Or.inl rfl)) (aR (aJ (i:=4) gM.nd rfl (Or.inl rfl)) cJ))))))))
  (aK (aW (cV (aA (pv 2) (aA (bU cN rfl B.tuple dU (aA (bK (own:=["hand"]) (fr:=[]) (a9:=[]) (aT (aF kK) ["book", "deal", "ways", "word", "shown"] rfl rfl (by decide +kernel)) rfl (eY (pv 1))
    (λ_ _ _ _=>(aJ (i:=0) (show (["hand"]:List Str).Nodup by decide +kernel) rfl (Or.inl rfl))) (λ_ _ _ _=>bZ)
    (λ_ _ _ _=>(pv 0))) aC)) aC)))))))),?_⟩
  obtain ⟨wg,md,gu⟩:=g.len
  obtain ⟨c0,rfl,_⟩:=aS.mp g.2.2.1
  refine ⟨bP (Jl _),λwl zk=>?_⟩
  have s0:=aD.new (o:=.lst []) zk
  have e0:upd H wl (.lst []) wl=some (.lst []):=aB
  generalize upd H wl (.lst [])=H0 at s0 e0 ⊢
  refine ⟨_,rfl,_,rfl,x,.ref c0,n,ws,hs,rfl,g.same s0,s0 _ _ hT,λp1 H1 s1 TD=>?_⟩
  obtain ⟨W,hW⟩:∃ W:Nat->St->Hp->Prop,W=λm σ H1=>∃ (d q:Addr) (hc:List Int) (Ws:List (List (Nat×Int×Int))) (qs:List Addr) (word:Str),σ = [some x,some (.ref d),some (.ref wl),some (.str word),some (.ref q)]/\aD H H1/\gD K H1 x (.ref d) n ws hc/\H1 wl=some (.lst (qs.map V.ref))/\cm H1 qs Ws/\(∀ z∈qs,z≠wl)/\oU n ws hs Ws hc/\Ws.length+vk n.toNat hc<=864/\m=vk n.toNat hc /\
    ((word = "levels" /\ ∃ lv,kJ n ws hc lv)∨(word = "way" /\ q≠wl/\∃ ps ss,H1 q=some (.lst (ps.map V.ref))/\ay H1 ps ss/\qD n ws hc ss)):=⟨_,rfl⟩
  -- what is told is taken up
  have take:∀ (d p1:Addr) (hc:List Int) (Ws:List (List (Nat×Int×Int))) (qs:List Addr) (Ha Hb:Hp),aD H Ha->aD Ha Hb->gD K Ha x (.ref d) n ws hc->Ha wl=some (.lst (qs.map V.ref))->cm Ha qs Ws->(∀ z∈qs,z≠wl)->oU n ws hs Ws hc->Ws.length+vk n.toNat hc<=864->Ox n ws hc Ha Hb p1 ->
    ∃ word q,Hb p1=some (.tup [.str word,.ref q])/\W (vk n.toNat hc) [some x,some (.ref d),some (.ref wl),some (.str word),some (.ref q)] Hb:=by
   intro d p1 hc Ws qs Ha Hb sa sb ga ea wa na ca la TD
   subst hW
   rcases TD with ⟨q,lv,h1,_,h2⟩ | ⟨q,ps,ss,h1,h2,h3,h4,h5⟩
   ·exact ⟨_,q,h1,d,q,hc,Ws,qs,_,rfl,sa.trans sb,ga.same sb,sb _ _ ea,wa.same sb,na,ca,la,rfl,.inl ⟨rfl,lv,h2⟩⟩
   ·exact ⟨_,q,h1,d,q,hc,Ws,qs,_,rfl,sa.trans sb,ga.same sb,sb _ _ ea,wa.same sb,na,ca,la,rfl,.inr ⟨rfl,(λz=>by rw [z,ea] at h2; cases h2),ps,ss,h3,h4,h5⟩⟩
  obtain ⟨word,q,h1,w1⟩:=take c0 p1 hs [] [] H0 H1 s0 s1 (g.same s0) e0 ⟨rfl,λi q ss a=>by simp at a⟩ (λ_ h=>(Qn h).elim) rfl (by have:=y? (n:=n.toNat) (hs:=hs) (by omega) wg; simpa using this) TD
  refine ⟨p1,_,rfl,ah.of h1,rfl,_,_,rfl,_,_,rfl,rfl,?_⟩
  refine ⟨W,⟨_,w1⟩,?_⟩
  intro m σ H2 w2
  have KQ:=w2
  rw [hW] at KQ
  obtain ⟨d,q,hc,Ws,qs,word,rfl,s2,g2,e2,FE,Ln,N1,le2,hm,alt⟩:=KQ
  refine ⟨_,rfl,rfl,_,rfl,?_⟩
  rcases alt with ⟨rfl,lv,u5⟩ | ⟨rfl,nq,ps,ss,hq,hS,CH⟩
  ·rw [decide_eq_false (show ¬ V.str "levels" = V.str "way" by intro z; injection z with z; revert z; decide)]
   refine iS ?_
   obtain ⟨c1,ec,CD⟩:=aS.mp g2.2.2.1
   obtain rfl:d=c1:=by injection ec
   obtain ⟨LM,_,_⟩:=g2.len
   refine ⟨_,rfl,_,rfl,d,rfl,⟨_,CD⟩,kI (K:=K) (a:=d) (xs:=hc.map V.int) (vs:=hc.map V.int) (λσ=>∃ v,σ = [v]) (by rw [Qa]; omega) rfl CD ⟨none,rfl⟩ ?_ ?_⟩
   ·rintro j xv v σ H3 hx hv ⟨v',rfl⟩ s3 Q' qo
    rw [hx] at hv
    obtain rfl:=Option.some.inj hv
    exact ⟨_,rfl,qo _ _ ⟨_,rfl⟩ (aD.refl _)⟩
   ·rintro H3 s3 z hz
    have s4:=aD.new (o:=.lst (hc.map V.int)) hz
    refine ⟨z,_,rfl,.inl ⟨ai.of aB,λdl fe=>?_⟩⟩
    have s5:=aD.new (o:=.tup (hc.map V.int)) fe
    refine ⟨uq _ _,λp hp=>?_⟩
    have s6:=aD.new (o:=.tup [.ref wl,.ref dl]) hp
    have FO:=((s3.trans s4).trans s5).trans s6
    exact k p _ (s2.trans FO) ⟨wl,dl,qs,Ws,hc,lv,aB,FO _ _ e2,FE.same FO,by omega,s6 _ _ aB,N1,u5⟩
  ·rw [decide_eq_true rfl]
   refine iE ?_
   refine ⟨λar H'=>∃ m',m' < m/\W m' ar H',λ_ _ z=>z,?_⟩
   have UQ:(qs.map V.ref).length < sizeLine:=by rw [Qa,FE.len]; exact Xg (show Ws.length<=864 by omega) (by rw [Rf]; decide)
   refine ⟨_,rfl,.inl ⟨rfl,_,ai.of e2⟩,_,rfl,wl,_,_,rfl,rfl,e2,UQ,?_⟩
   have b3:bo wl H2 (upd H2 wl (.lst (qs.map V.ref++[.ref q]))):=bo.at
   have e3:upd H2 wl (.lst (qs.map V.ref++[.ref q])) wl=some (.lst ((qs++[q]).map V.ref)):=by rw [aB,Qp]; rfl
   have s3:aD H (upd H2 wl (.lst (qs.map V.ref++[.ref q]))):=s2.wr zk
   have g3:=g2.but b3 e2
   have Gp:=b3 _ _ nq hq
   have ql:=hS.tp (Tp.but b3 e2)
   have KO:=(FE.but b3 e2 Ln).snoc Gp ql
   generalize upd H2 wl (.lst (qs.map V.ref++[.ref q]))=H3 at b3 e3 s3 g3 Gp ql KO ⊢
   obtain ⟨h,xx,br,hP,hN,yr⟩:=id CH
   have hsl:=g2.short CH
   refine ⟨_,rfl,_,rfl,_,rfl,x,.ref d,q,ps.map V.ref,n,ws,hc,ss.map lL,rfl,⟨g3,ai.of Gp,ql.den,by rw [Qa]; omega,λl hl=>?_⟩,V? br hP hN,λd' H4 s4 gj e4=>?_⟩
   ·obtain ⟨s',_,rfl⟩:=Jg.mp hl
    exact (show 3<=1000 by decide)
   rw [QD] at e4
   have g4:=(g3.same s4).gone CH (ah.of e4)
   have RP:=aEo CH g2.w9
   refine ⟨_,rfl,_,rfl,x,.ref d',n,ws,hV hc ss,rfl,g4,s4 _ _ (s3 _ _ hT),λp5 H5 s5 TD5=>?_⟩
   obtain ⟨word,q',h5,w5⟩:=take d' p5 (hV hc ss) (Ws++[ss]) (qs++[q]) H4 H5 (s3.trans s4) s5 g4 (s4 _ _ e3) (KO.same s4) (λz hz=>by
    rcases Jo.mp hz with hz | hz
    ·exact Ln z hz
    ·rw [Qs.mp hz]; exact nq) (N1.snoc CH) (by rw [Qr]; show Ws.length+1+_<=864; omega) TD5
   refine ⟨p5,_,rfl,ah.of h5,rfl,_,_,rfl,_,_,rfl,rfl,?_⟩
   exact ⟨_,by omega,w5⟩
noncomputable def lH (a b:List Int):Bool:=(List.range (a.length+1)).all λk=>decide (aG (a.take k)<=aG (b.take k))
theorem aAu {a b:List Int} (h:∀ k,k<=a.length->aG (a.take k)<=aG (b.take k)):lH a b=true:=by
 unfold lH
 rw [Qt]
 intro k hk
 have:=Jy.mp hk
 exact decide_eq_true (h k (by omega))
theorem xZ {l:Expr} (hK:X.K=K) (hl:PE X l tl):PI X tg l (Of K tl):=by subst hK; exact eY hl
noncomputable def pS (K:Rb):Sp:=λvs H Q _=>∃ x y n ws hs,vs = [x,y]/\gD K H x y n ws hs/\∀ p H' (ms:List Int),aD H H'->H p=none->H' p=some (.lst (ms.map V.int))->ms.Perm (aV n hs)->ms.Pairwise (·≥·)->Q (.ref p) H'
theorem aCW:ae ["book", "deal"] ["book", "deal"] (aF oH):=.of
theorem aBi (G:Fn K mg "falling" oH ["book", "deal"] f fd) (B:Bl mg) (R:Pr K mg fW fH fK fB i9 fD jr fL dW dH dK dB i_ dD jt dL):ab P w K mg base ao 8 f fd ["book", "deal"] (pS K):=by
 have OL:ab P w K mg base ao 7 fL dL ["book", "deal"] (qX K):=sU B R
 refine G.fn.oK aCW λa_ A outer s H vs Q E hr h=>?_
 ·obtain ⟨x,y,n,ws,hs,rfl,g,k⟩:=h
  refine ⟨_,aK (aW (uU rfl B.sorted (bA R.L OL hr rfl (aA (pv 0) (aA (pv 1) aC))))),?_⟩
  obtain ⟨hl,md,gu⟩:=g.len
  refine ⟨_,rfl,_,rfl,x,y,n,ws,hs,rfl,g,λp H1 s1 hp=>?_⟩
  refine ⟨p,aV n hs,rfl,.inr (ah.of hp),by rw [cC]; omega,λq ms hq zr Gs=>?_⟩
  exact k q _ ms (s1.trans (aD.new hq)) (s1.free hq) aB zr Gs
theorem aBj {a b:List Int} (h:a.Perm b):aG a=aG b:=by
 induction h with
 | nil=>rfl
 | cons x _ ih=>exact congrArg (x + ·) ih
 | swap x y l=>show y+(x+aG l)=x+(y+aG l); omega
 | trans _ _ h1 h2=>exact h1.trans h2
noncomputable def ex (t:Int) (l:List Int):Int:=aG (l.map λx=>max (x - t) 0)
theorem wK (t:Int):∀ l:List Int,0<=ex t l
 | []=>Je _
 | x::l=>by
  show 0<=max (x - t) 0+ex t l
  have:=wK t l
  omega
theorem yA {t:Int} {a b:List Int} (h:a.Perm b):ex t a=ex t b:=aBj (h.map _)
theorem QL (t:Int) (l:List Int) (k:Nat):ex t l=ex t (l.take k)+ex t (l.drop k):=by
 unfold ex
 rw [<- gY,<- Qp,Wl]
theorem O5 (t:Int):∀ l:List Int,aG l<=l.length*t+ex t l
 | []=>by show (0:Int)<=_; rw [Wi]; show (0:Int)<=0*t+0; omega
 | x::l=>by
  have h:=O5 t l
  show x+aG l<=((l.length+1:Nat):Int)*t+(max (x - t) 0+ex t l)
  have e:((l.length+1:Nat):Int)*t=(l.length:Int)*t+t:=by rw [Yn,Zr]; simp
  rw [e]
  generalize (l.length:Int)*t=z at h
  omega
theorem O4 {t:Int}:∀ {l:List Int},(∀ x∈l,t<=x)->l.length*t+ex t l=aG l
 | [],_=>by show (0:Int)*t+0=0; omega
 | x::l,h=>by
  have h1:=O4 (t:=t) (l:=l) λy hy=>h y (Qo _ hy)
  have h2:=h x (Ql ..)
  show ((l.length+1:Nat):Int)*t+(max (x - t) 0+ex t l)=x+aG l
  have e:((l.length+1:Nat):Int)*t=(l.length:Int)*t+t:=by rw [Yn,Zr]; simp
  rw [e]
  generalize (l.length:Int)*t=z at h1
  omega
theorem V! {t:Int} (h:∀ x∈l,x<=t):ex t l=0:=cY λx hx=>by have:=h x hx; omega
theorem aBk {a b ys:List Int} (hl:a.length=b.length) (h:∀ t,ex t a<=ex t b) (hm:ms.Perm a) (hy:ys.Perm b) (sy:ys.Pairwise (·≥·)) (k:Nat) (hk:k<=ms.length):aG (ms.take k)<=aG (ys.take k):=by
 cases k with
 | zero=>rw [Zz,Zz]; exact Je _
 | succ k =>
  have Bn:ys.length=ms.length:=by rw [hy.length_eq,hm.length_eq,hl]
  have ax:k < ys.length:=by omega
  have hd:=Wl (k+1) ys
  have jj:∀ i j,i<=j->∀ x y,ys[i]?=some x->ys[j]?=some y->y<=x:=λi j uc x y ea eb=>by
   rcases Qae i j with h | h
   ·obtain ⟨hi,rfl⟩:=Qd.mp ea
    obtain ⟨hj,rfl⟩:=Qd.mp eb
    exact List.pairwise_iff_getElem.mp sy i j hi hj h
   ·have:=Nat.le_antisymm uc h
    subst this
    rw [ea] at eb
    rw [Option.some.inj eb]; exact Je _
  have et:ys[k]?=some ys[k]:=Qc ax
  generalize ys[k]=t at et
  have h1:∀ x∈ys.take (k+1),t<=x:=λx hx=>by
   obtain ⟨i,hi⟩:=Qv.mp hx
   have VF:i < k+1:=by have:=(Qd.mp hi).1; rw [Qy] at this; omega
   rw [List.getElem?_take,if_pos VF] at hi
   exact jj i k (by omega) x t hi et
  have h2:∀ x∈ys.drop (k+1),x<=t:=λx hx=>by
   obtain ⟨i,hi⟩:=Qv.mp hx
   rw [List.getElem?_drop] at hi
   exact jj k (k+1+i) (by omega) t x et hi
  have e1:=O5 t (ms.take (k+1))
  have e2:=O4 h1
  have e3:=QL t ms (k+1)
  have e4:=QL t ys (k+1)
  have e5:=V! h2
  have e6:=wK t (ms.drop (k+1))
  have e7:=h t
  rw [<- yA hm,<- yA hy] at e7
  have l1:(ms.take (k+1)).length=(ys.take (k+1)).length:=by rw [Qy,Qy]; omega
  rw [l1] at e1
  omega
theorem oV {a b ys:List Int} (hl:a.length=b.length) (h:∀ t,ex t a<=ex t b) (hm:ms.Perm a) (hy:ys.Perm b) (sy:ys.Pairwise (·≥·)):lH ms ys=true:=aAu λk hk=>aBk hl h hm hy sy k hk
noncomputable def ib (p:Int->Bool) (hs:List Int):Int:=aG (hs.map λh=>if p h then 1 else 0)
theorem i5 {p:Int->Bool}:∀ {hs hs':List Int},hs.length=hs'.length->(∀ (i:Nat) g t,hs[i]?=some g->hs'[i]?=some t->p g=true->p t=true)->ib p hs<=ib p hs'
 | [],[],_,_=>Je _
 | g::hs,t::hs',hl,h=>by
  have h1:=i5 (p:=p) (hs:=hs) (hs':=hs') (by simpa using hl) λi a b ha hb=>h (i+1) a b (by simpa using ha) (by simpa using hb)
  have h2:=h 0 g t rfl rfl
  show (if p g then (1:Int) else 0)+ib p hs<=(if p t then (1:Int) else 0)+ib p hs'
  cases hg:p g with
  | false =>
   simp only [Ju,if_false]
   split <;> omega
  | true =>
   rw [h2 hg]
   simp only [if_true]
   omega
 | [],_::_,hl,_=>by simp at hl
 | _::_,[],hl,_=>by simp at hl
theorem U? {m:Nat} {h:Int} (p:Int->Bool) (h0:0<=h) (h1:h < m):aG ((aQ m).map λi=>if p i then (if h=i then 1 else 0) else 0)=if p h then 1 else 0:=by
 induction m with
 | zero=>omega
 | succ m ih =>
  have e:aQ (m+1)=aQ m++[(m:Int)]:=by unfold aQ; rw [List.range_succ,Qp]; rfl
  rw [e,Qp,gY]
  show _+((if p (m:Int) then (if h=(m:Int) then (1:Int) else 0) else 0)+0)=_
  by_cases hm:h=(m:Int)
  ·rw [cY (l:=aQ m) (f:=λi=>if p i then (if h=i then 1 else 0) else 0) λx hx=>by
    unfold aQ at hx
    obtain ⟨i,hi,rfl⟩:=Jg.mp hx
    have va:=Jy.mp hi
    rw [if_neg (show ¬ h=((i:Nat):Int) by omega)]
    split <;> rfl]
   rw [if_pos hm,hm]
   omega
  ·rw [ih (by omega),if_neg hm]
   have:(if p (m:Int)=true then (0:Int) else 0)=0:=by split <;> rfl
   rw [this]
   omega
theorem kO {n:Int} (p:Int->Bool):∀ {hs:List Int},(∀ h∈hs,0<=h/\h < n)->aG ((aQ n.toNat).map λh=>if p h then ((hs.count h:Nat):Int) else 0)=ib p hs
 | [],_=>by
  show _=(0:Int)
  exact cY λx _=>by
   rw [List.count_nil]
   split <;> rfl
 | h::hs,hh=>by
  have ih:=kO (n:=n) p (hs:=hs) λx hx=>hh x (Qo _ hx)
  have hb:=hh h (Ql ..)
  have e1:=U? (m:=n.toNat) p hb.1 (by omega)
  show _=(if p h then (1:Int) else 0)+ib p hs
  rw [<- ih,<- e1,<- cF]
  refine aZ λi _=>?_
  rw [Zi]
  by_cases hp:p i=true
  ·rw [if_pos hp,if_pos hp,if_pos hp]
   by_cases hi:h=i
   ·rw [if_pos hi,if_pos (by rw [hi]; simp)]; omega
   ·rw [if_neg hi,if_neg (by simpa using hi)]; omega
  ·rw [if_neg hp,if_neg hp,if_neg hp]; rfl
end Ab
namespace Ab
open L2
theorem jM {n:Int} (hb:bN (bI n ws)=true) (hd:eI ws (eG hs)=true):∀ h∈hs,0<=h/\h < n:=λh hh=>by
 obtain ⟨_,_,_,lh⟩:=bB hb
 obtain ⟨hl,hm⟩:=bQ hd
 obtain ⟨i,hi⟩:=Qv.mp hh
 have ax:i < ws.length:=by rw [<- hl]; exact (Qd.mp hi).1
 have e:=Qc ax
 exact (cE (lh _ (Qg e))).2.1 h (hm i h _ hi e)
theorem tR:∀ {a b:List Int},a.length=b.length->(∀ k,k<=a.length->aG (a.take k)=aG (b.take k))->a=b
 | [],[],_,_=>rfl
 | [],_::_,hl,_=>by simp at hl
 | _::_,[],hl,_=>by simp at hl
 | x::a,y::b,hl,h=>by
  have h1:x+0=y+0:=h 1 (by simp)
  have e:x=y:=by omega
  subst e
  refine congrArg _ (tR (by simpa using hl) λk hk=>?_)
  have h2:x+aG (a.take k)=x+aG (b.take k):=h (k+1) (by simpa using hk)
  omega
theorem tS {a b:List Int} (h:lH a b=true) (k:Nat) (hk:k<=a.length):aG (a.take k)<=aG (b.take k):=by
 unfold lH at h
 exact of_decide_eq_true (Qt.mp h k (Jy.mpr (by omega)))
theorem aCX {a b:List Int} (hl:a.length=b.length) (h1:lH a b=true) (h2:lH b a=true):a=b :=
 tR hl λk hk=>Int.le_antisymm (tS h1 k hk) (tS h2 k (by omega))
theorem aBl {a b ys:List Int} (hl:a.length=b.length) (h1:∀ t,ex t a<=ex t b) (h2:∀ t,ex t b<=ex t a) (hm:ms.Perm a) (hy:ys.Perm b) (sm:ms.Pairwise (·≥·)) (sy:ys.Pairwise (·≥·)):ms=ys :=
 aCX (by rw [hm.length_eq,hy.length_eq,hl]) (oV hl h1 hm hy sy) (oV hl.symm h2 hy hm sm)
theorem QC:∀ {a:List α} {b:List β},a.length=b.length->(a.zip b).map Prod.fst=a
 | [],[],_=>rfl
 | x::a,y::b,h=>congrArg (x::·) (QC (by simpa using h))
 | [],_::_,h=>by simp at h
 | _::_,[],h=>by simp at h
theorem QB:∀ {a:List α} {b:List β},a.length=b.length->(a.zip b).map Prod.snd=b
 | [],[],_=>rfl
 | x::a,y::b,h=>congrArg (y::·) (QB (by simpa using h))
 | [],_::_,h=>by simp at h
 | _::_,[],h=>by simp at h
end Ab
namespace Ab
open PySem L2
theorem tT {n:Int}:∀ {Ws:List (List (Nat×Int×Int))} {hs he:List Int},oU n ws hs Ws he->eI ws (eG hs)=true->eI ws (eG he)=true
 | [],hs,he,c,h=>by
  have e:hs=he:=c
  rw [<- e]; exact h
 | ss::Ws,hs,he,⟨W,c⟩,h=>by
  refine tT c ?_
  obtain ⟨fe,CA⟩:=bQ h
  obtain ⟨h0,xx,br,hP,_⟩:=W
  refine qY (by rw [pQ]; exact fe) (pR ss (λs hs'=>?_) CA)
  obtain ⟨i,hi⟩:=Qv.mp hs'
  obtain ⟨⟨_,l,e2,e3,_⟩,_⟩:=mP hP i s hi
  exact ⟨l,e2,e3⟩
theorem vF {n:Int} (L:kJ n ws hs lv) (W:qD n ws hs ss):False:=by
 obtain ⟨h,x,br,hP,hN,h0,h1,BG,m8⟩:=W
 have ax:h.toNat < lv.length:=by rw [L.1]; omega
 obtain ⟨m1,m2⟩:=L.2 h.toNat _ (Qc ax)
 rw [show ((h.toNat:Nat):Int)=h by omega] at m1 m2
 have:=m1.2 _ x BG
 omega
noncomputable def pT (K:Rb) (Pt:Addr):Sp:=λvs H Q _=>∃ (x:V) (n:Int) (ws:List (List Int)),vs = [x]/\Den K H (bI n ws) x/\bN (bI n ws)=true/\H Pt=some (.tab xY) /\
 ∀ (p dp lp:Addr) (hs lv:List Int) H',aD H H'->H' p=some (.tup [.ref dp,.ref lp])->H' dp=some (.tup (hs.map V.int))->eI ws (eG hs)=true->H' lp=some (.tup (lv.map V.int))->kJ n ws hs lv->Q (.ref p) H'
theorem pU:ae ["book", "ways", "deal"] ["book"] (aF lZ):=.of
theorem aBm {CP CO:Addr} {CW CV:FuncData} (G:Fn K mg "evenest" lZ ["book"] f fd) (B:Bl mg) (R:Pr K mg fW fH fK fB i9 fD jr fL dW dH dK dB i_ dD jt dL) (Fy:Fn K mg "bettered" kK ["book", "deal"] CP CW) (Ft:ab P w K mg base ao 10 CP CW ["book", "deal"] (tQ K Pt)) (Fw:Fn K mg "levels_or_way" C0 ["book", "deal"] CO CV) (Fs:ab P w K mg base ao 8 CO CV ["book", "deal"] (Fi K Pt)):ab P w K mg base ao 11 f fd ["book"] (pT K Pt):=by
 have Df:ab P w K mg base ao 4 i9 i_ ["book"] (oM K):=oN B R
 refine G.fn.oK pU λa_ A outer s H vs Q E hr h=>?_
 ·obtain ⟨x,n,ws,rfl,hx,bz,hT,k⟩:=h
  have r4:au 4 _:=hr.mono (by decide)
  have r8:au 8 _:=hr.mono (by decide)
  have SO:au 10 _:=hr
  refine ⟨_,(aE (dO (bA R.NB Df r4 rfl (aA (pv 0) aC)))
  (aE (kR (bA Fy Ft SO rfl (aA (pv 0) (aA (bU cN rfl B.tuple dU (aA (bK (own:=["able"]) (fr:=[]) (a9:=[]) (aT (aF lZ) ["book", "ways", "deal"] rfl rfl (by decide +kernel)) rfl (eY (aY cD (pv 0) aM (λ_ _=>rfl)))
    (λ_ _ _ _=>(aJ (i:=0) (show (["able"]:List Str).Nodup by decide +kernel) rfl (Or.inl rfl))) (λ_ _ _ _=>bZ)
    (λ_ _ _ _=>(aY (cH (K:=K) rfl) (pv 0) aM (λ_ _=>rfl)))) aC)) aC))) (iC rfl (aR (aJ (i:=1) pU.nd rfl (Or.inl rfl)) (aR (aJ (i:=2) pU.nd rfl (Or.inl rfl)) cJ))))
  (aK (aW (cV (aA (pv 2) (aA (aY cD (bA Fw Fs r8 rfl (aA (pv 0) (aA (pv 2) aC))) aM (λ_ _=>rfl)) aC))))))),?_⟩
  obtain ⟨md,gu,vz,lh⟩:=bB bz
  refine ⟨_,rfl,x,bI n ws,rfl,hx,bz,λH1 s1=>?_⟩
  have Ci:=s1.den _ _ hx
  obtain ⟨a,b,ys,rfl,ha,jy,fi⟩:=cW Ci
  have x9:=aH fi
  rw [Qa] at x9
  refine ⟨_,rfl,_,rfl,a,_,1,.ref b,rfl,rfl,ha,rfl,b,rfl,⟨_,jy⟩,gS (K:=K) (a:=b) (xs:=ys) (λσ=>∃ v,σ = [v]) (λi zs H2=>H2=H1/\zs=((ws.take i).map λl=>l.headD 0).map V.int) (bP (by omega)) ⟨none,rfl⟩ ⟨rfl,rfl⟩ (λi zs H2 z=>by rw [z.2,Qa,Qa,Qy]; omega) (λi zs H2 z=>by rw [z.1]; exact jy) ?_ ?_⟩
  ·rintro i zs σ u H2 hu ⟨v,rfl⟩ ⟨rfl,rfl⟩ hz
   obtain ⟨dv,ki,rq⟩:=eV fi hu
   rw [Qe] at ki
   obtain ⟨l,hl,rfl⟩:∃ l,ws[i]?=some l/\cO l=dv:=by
    cases q:ws[i]? with
    | none=>rw [q] at ki; cases ki
    | some l=>rw [q] at ki; exact ⟨l,rfl,Option.some.inj ki⟩
   obtain ⟨aw,rfl,EH⟩:=aS.mp rq
   obtain ⟨l0,_,_⟩:=cE (lh l (Qg hl))
   have jz:g9 (l.map V.int) 0=some (.int (l.headD 0)):=by
    cases l with
    | nil=>exact absurd rfl l0
    | cons y l=>exact cM (j:=0) rfl
   refine eO ?_
   refine ⟨_,rfl,aw,_,0,_,rfl,rfl,EH,jz,hz,⟨_,rfl⟩,rfl,?_⟩
   rw [Xj,hl,Qp,Qp]
   rfl
  ·rintro zs H2 ⟨rfl,rfl⟩ lq LJ
   rw [Jn (show ws.length<=ys.length by omega)]
   refine ⟨lq,_,rfl,.inl ⟨ai.of aB,λdq VS=>?_⟩⟩
   have s3:=(aD.new (o:=.lst ((ws.map λl=>l.headD 0).map V.int)) LJ).trans (aD.new (o:=.tup ((ws.map λl=>l.headD 0).map V.int)) VS)
   have d3:upd (upd H2 lq (.lst ((ws.map λl=>l.headD 0).map V.int))) dq (.tup ((ws.map λl=>l.headD 0).map V.int)) dq=some (.tup ((ws.map λl=>l.headD 0).map V.int)):=aB
   generalize upd (upd H2 lq (.lst ((ws.map λl=>l.headD 0).map V.int))) dq (.tup ((ws.map λl=>l.headD 0).map V.int))=H3 at s3 d3 ⊢
   have L_:eI ws (eG (ws.map λl=>l.headD 0))=true:=qY (by rw [Qa]) λj h l e1 e2=>by
    rw [Qe,e2] at e1
    have e:l.headD 0=h:=Option.some.inj e1
    obtain ⟨l0,_,_⟩:=cE (lh l (Qg e2))
    cases l with
    | nil=>exact absurd rfl l0
    | cons y l=>rw [<- e]; exact Ql ..
   have g_:=s1.trans s3
   have g3:gD K H3 (.ref a) (.ref dq) n ws (ws.map λl=>l.headD 0):=⟨s3.den _ _ Ci,bz,aS.mpr ⟨dq,rfl,ah.of d3⟩,L_⟩
   refine ⟨.ref a,.ref dq,n,ws,_,rfl,g3,g_ _ _ hT,λp H4 s4 hp=>?_⟩
   obtain ⟨wl,dl,qs,Ws,he,lv,Gy,_,_,_,fe,m9,u5⟩:=hp
   refine ⟨p,_,rfl,ah.of Gy,rfl,_,_,rfl,_,_,rfl,rfl,?_⟩
   have L9:=tT m9 L_
   have gz:=g_.trans s4
   have g4:gD K H4 (.ref a) (.ref dl) n ws he:=⟨(s3.trans s4).den _ _ Ci,bz,aS.mpr ⟨dl,rfl,ah.of fe⟩,L9⟩
   refine ⟨_,rfl,_,rfl,_,rfl,.ref a,.ref dl,n,ws,he,rfl,g4,gz _ _ hT,λp2 H5 s5 lu=>?_⟩
   rcases lu with ⟨F4,TK,e1,e2,e3⟩ | ⟨_,_,ss,_,_,_,_,hW⟩
   ·refine ⟨p2,_,1,.ref F4,rfl,rfl,ah.of e1,rfl,uq _ _,λr i7=>?_⟩
    have s6:=aD.new (o:=.tup [.ref dl,.ref F4]) i7
    exact k r dl F4 he TK _ (gz.trans (s5.trans s6)) aB ((s5.trans s6) _ _ fe) L9 (s6 _ _ e2) e3
   ·exact (vF u5 hW).elim
end Ab
namespace L2
open PySem PySem.Spec PyProof.Rows
noncomputable def HN (i j:Int):Prop:=i.natAbs < 2^4000/\j.natAbs < 2^4000
theorem QA {i:Int} (h:i.natAbs < 2^4000):Builtin.Int.intBits i<=2^20:=by
 unfold Builtin.Int.intBits
 split
 ·exact Jl _
 ·rename_i hz
  have xp:i≠0:=by simpa using hz
  have h3:i.natAbs.log2 < 4000:=(Wu (by omega)).mpr h
  have:(2:Nat)^20=1048576:=by decide
  omega
theorem HN.ok {i j:Int} (h:HN i j):IntMulOk i j:=IntMulOk.of_bits (QA h.1) (QA h.2)
theorem mQ:d6 X (binaryOp .Mult) (rI HN λi j=>.int (i*j)):=Bi λ_ _ _ _ _ _ _ hc q=>mul_int q hc.ok
noncomputable def C1 (i j:Int):Prop:=0 < j/\j.natAbs < 2^4000
theorem hG:d6 X (binaryOp .FloorDiv) (rI C1 λi j=>.int (i / j)):=Bi λi j _ _ _ _ _ hc q=>by
 have h1:(0:Int) < j:=hc.1
 refine Md (by omega) (by rw [Zm i (by omega)]; exact q) (.inl (PyProof.noPylong_of_log2 ?_))
 have h3:j.natAbs.log2 < 4000:=(Wu (by omega)).mpr hc.2
 omega
end L2
namespace Ab
open PySem L2
theorem aEs (x y:Int):Int.gcd y (x % y)=Int.gcd x y:=by
 rw [Int.gcd_comm x y]
 refine Int.gcd_right_eq_iff.mpr λc hc=>?_
 have h1:c ∣ y*(x / y):=Int.dvd_mul_of_dvd_left hc
 have h2:=Int.emod_add_mul_ediv x y
 constructor
 ·intro h
  rw [<- h2]
  exact Int.dvd_add h h1
 ·intro h
  rw [Int.emod_def]
  exact Int.dvd_sub h h1
noncomputable def QK:Sp:=λvs H Q _=>∃ a b:Int,vs = [.int a,.int b]/\0 < b/\Q (.int (Int.gcd a b)) H
theorem QJ:ae ["a", "b"] ["a", "b"] (aF qT):=.of
theorem aCY (G:Fn K mg "common" qT ["a", "b"] f fd) (B:Bl mg):ab P w K mg base ao 1 f fd ["a", "b"] QK:=by
 refine G.fn.oK QJ λa_ A outer s H vs Q E hr h=>?_
 ·obtain ⟨a,b,rfl,hb,k⟩:=h
  refine ⟨_,(aE (kD PassesOwn.never (bG mW (pv 1) aM (bJ _))
   (aK (d? (i:=0) (j:=1) rfl QJ.nd rfl rfl (by decide) rfl rfl (aA (pv 1) (aA (bC nI (pv 0) (pv 1)) aC)) rfl)))
  (aK (aW (pv 0)))),?_⟩
  refine ⟨λm σ H1=>∃ x y:Int,σ = [some (.int x),some (.int y)]/\H1=H/\m=y.toNat/\0<=y/\Int.gcd x y=Int.gcd a b/\(y=0->0 < x),⟨_,a,b,rfl,rfl,rfl,by omega,rfl,by omega⟩,?_⟩
  rintro m σ H1 ⟨x,y,rfl,rfl,rfl,hy,hg,hx⟩
  refine ⟨_,rfl,rfl,_,rfl,?_⟩
  refine gC (λc=>?_) (λc=>?_)
  ·have F':y≠0:=by simpa using c
   have hyp:0 < y:=by omega
   refine ⟨λσ H2=>∃ u v:Int,σ = [some (.int u),some (.int v)]/\H2=H1/\v.toNat < y.toNat/\0<=v/\Int.gcd u v=Int.gcd a b/\(v=0->0 < u),?_,?_⟩
   ·rintro ar H' ⟨u,v,rfl,rfl,h1,h2,h3,h4⟩
    exact ⟨_,h1,u,v,rfl,rfl,rfl,h2,h3,h4⟩
   ·refine ⟨_,rfl,_,rfl,_,rfl,_,_,rfl,rfl,hyp,_,_,rfl,?_⟩
    have l1:=Yq x F'
    have l2:=Zu x hyp
    exact ⟨y,x % y,rfl,rfl,by omega,l1,(aEs x y).trans hg,λ_=>hyp⟩
  ·have F':y=0:=by simpa using c
   subst F'
   refine ⟨_,rfl,?_⟩
   have my:=hx rfl
   have:(Int.gcd a b:Int)=x:=by rw [<- hg,Int.gcd_zero]; omega
   rw [this] at k
   exact k
noncomputable def oW:Sp:=λvs H Q _=>∃ a b:Int,vs = [.int a,.int b]/\0 < b/\b < 2^1000/\∀ p,H p=none->Q (.ref p) (upd H p (.tup [.int (iV a b),.int (gX a b)]))
theorem x? {a b:Int} (hb:0 < b) (h:b < m):(Int.gcd a b:Int) < m:=Zg (Int.gcd_le_right a hb) h
theorem Y1 {b:Int} (h0:0 < b) (h:b < 2^1000):b.natAbs < 2^4000:=by
 have h2:b.natAbs < 2^1000:=by
  have:((2:Int)^1000)=((2^1000:Nat):Int):=by rw [Int.natCast_pow]; rfl
  rw [this] at h
  omega
 exact Qq h2 (Xv (by decide) (by decide))
theorem QI:ae ["a", "b", "most"] ["a", "b"] (aF oI):=.of
theorem aCZ {fC:Addr} {dC:FuncData} (G:Fn K mg "lowest" oI ["a", "b"] f fd) (B:Bl mg) (GC:Fn K mg "common" qT ["a", "b"] fC dC):ab P w K mg base ao 2 f fd ["a", "b"] oW:=by
 have OC:ab P w K mg base ao 1 fC dC ["a", "b"] QK:=aCY GC B
 refine G.fn.oK QI λa_ A outer s H vs Q E hr h=>?_
 ·obtain ⟨a,b,rfl,hb,G3,k⟩:=h
  refine ⟨_,(aE (aU (i:=2) QI.nd rfl (Or.inl rfl) (bA GC OC hr rfl (aA (pv 0) (aA (pv 1) aC))))
  (aK (aW (cV (aA (bC hG (pv 0) (pv 2)) (aA (bC hG (pv 1) (pv 2)) aC)))))),?_⟩
  have g0:=mM (a:=a) hb
  have g1:=Y1 g0 (x? (a:=a) hb G3)
  exact ⟨_,rfl,_,rfl,a,b,rfl,hb,_,rfl,_,rfl,_,_,rfl,rfl,⟨g0,g1⟩,_,rfl,_,rfl,_,_,rfl,rfl,⟨g0,g1⟩,uq _ _,λp hp=>k p hp⟩
noncomputable def JF (K:Rb) (H:Hp) (p:Addr) (a b:Int):Prop:=ah K H p [.int a,.int b]/\0 < b/\b < 2^200/\a.natAbs < 2^200
theorem Ow {b:Int} (h0:0 < b) (h:b < 2^200):b.natAbs < 2^200:=by
 have:((2:Int)^200)=((2^200:Nat):Int):=by rw [Int.natCast_pow]; rfl
 rw [this] at h
 omega
theorem EY {b:Int} (h:b.natAbs < 2^200):b.natAbs < 2^4000:=Qq h (Xv (by decide) (by decide))
noncomputable def H_ (K:Rb):Sp:=λvs H Q _=>∃ (p1 p2:Addr) (a b c d:Int),vs = [.ref p1,.ref p2]/\JF K H p1 a b/\JF K H p2 c d/\Q (.bl (decide (a*d < c*b))) H
theorem x!:ae ["one", "other"] ["one", "other"] (aF Fb):=.of
theorem U! (G:Fn K mg "is_less" Fb ["one", "other"] f fd):ab P w K mg base ao 1 f fd ["one", "other"] (H_ K):=by
 refine G.fn.oK x! λa_ A outer s H vs Q E hr h=>?_
 ·obtain ⟨p1,p2,a,b,c,d,rfl,⟨s1,b0,b1,a1⟩,⟨s2,d0,d1,c1⟩,k⟩:=h
  refine ⟨_,(aK (aW (gQ E5 (bC mQ (aY cD (pv 0) aM (λ_ _=>rfl)) (aY cD (pv 1) aM (λ_ _=>rfl))) (bC mQ (aY cD (pv 1) aM (λ_ _=>rfl)) (aY cD (pv 0) aM (λ_ _=>rfl))) (bJ _)))),?_⟩
  have bn:=EY (Ow b0 b1)
  have dn:=EY (Ow d0 d1)
  have an:=EY a1
  have cn:=EY c1
  exact ⟨_,rfl,p1,_,0,_,rfl,rfl,s1,rfl,_,rfl,p2,_,1,_,rfl,rfl,s2,rfl,a,d,rfl,rfl,⟨an,dn⟩,_,rfl,p2,_,0,_,rfl,rfl,s2,rfl,_,rfl,p1,_,1,_,rfl,rfl,s1,rfl,c,b,rfl,rfl,⟨cn,bn⟩,_,_,rfl,rfl,k⟩
theorem Θ {b:Bool} {A:Prop} (e:b=false) (h:B):if b=true then A else B:=by subst e; exact iS h
theorem OF {b:Bool} {A:Prop} (e:b=true) (h:A):if b=true then A else B:=by subst e; exact iE h
theorem T? (v:V):(!decide (v=v))=false:=by simp
noncomputable def jW (x:Int×Int):PyData:=.tuple [.int x.1,.int x.2]
theorem hJ {x:Int×Int}:Den K H (jW x) v↔∃ p,v=.ref p/\ah K H p [.int x.1,.int x.2]:=by
 constructor
 ·intro h
  obtain ⟨p,xs,rfl,hp,hx⟩:=bL.mp h
  obtain ⟨x1,r1,rfl,d1,xu⟩:=aL.mp hx
  obtain ⟨x2,r2,rfl,d2,dk⟩:=aL.mp xu
  rw [aN.mp dk,dE.mp d1,dE.mp d2] at hp
  exact ⟨p,rfl,hp⟩
 ·rintro ⟨p,rfl,hp⟩
  exact bL.mpr ⟨p,_,rfl,hp,aL.mpr ⟨_,_,rfl,dE.mpr rfl,aL.mpr ⟨_,_,rfl,dE.mpr rfl,aN.mpr rfl⟩⟩⟩
noncomputable def HM (x:Int×Int):Prop:=0 < x.2/\x.2 < 2^200/\x.1.natAbs < 2^200
theorem O3 {p:Addr} {x:Int×Int} (h:ah K H p [.int x.1,.int x.2]) (o:HM x):JF K H p x.1 x.2:=⟨h,o.1,o.2.1,o.2.2⟩
theorem cS {l:List α} {x:α} (h:l[i]?=some x):l.take (i+1)=l.take i++[x]:=by rw [Wc,h]; rfl
theorem cI {f:α->PyData} {ps:List α} (h:aP K H (ps.map f) vs) (hv:vs[i]?=some v):∃ x,ps[i]?=some x/\Den K H (f x) v:=by
 obtain ⟨d,hd,ox⟩:=eV h hv
 rw [Qe] at hd
 obtain ⟨x,hx,rfl⟩:=Ja.mp hd
 exact ⟨x,hx,ox⟩
theorem wL:∀ {ds:List PyData} {zs:List V},zs.length=ds.length->(∀ (i:Nat) d z,ds[i]?=some d->zs[i]?=some z->Den K H d z)->aP K H ds zs
 | [],[],_,_=>aN.mpr rfl
 | [],_::_,h,_=>by cases h
 | _::_,[],h,_=>by cases h
 | d::ds,z::zs,hl,h=>aL.mpr ⟨z,zs,rfl,h 0 d z rfl rfl,wL (by simpa using hl) λi d' z' h1 h2=>h (i+1) d' z' h1 h2⟩
noncomputable def C6 (s:List Int) (g:Int):PyData:=.tuple [cO s,.int g]
theorem tU {s:List Int} {g:Int} (h:Den K H (C6 s g) v):∃ p q,v=.ref p/\ah K H p [.ref q,.int g]/\ah K H q (s.map V.int):=by
 obtain ⟨p,xs,rfl,hp,hx⟩:=bL.mp h
 obtain ⟨x1,r1,rfl,d1,xu⟩:=aL.mp hx
 obtain ⟨x2,r2,rfl,d2,dk⟩:=aL.mp xu
 rw [aN.mp dk] at hp
 obtain ⟨q,rfl,hq⟩:=aS.mp d1
 rw [dE.mp d2] at hp
 exact ⟨p,q,rfl,hp,hq⟩
theorem pV {s:List Int} {g:Int} {p:Addr} (h1:ah K H p [.ref q,.int g]) (h2:ah K H q (s.map V.int)):Den K H (C6 s g) (.ref p) :=
 bL.mpr ⟨p,_,rfl,h1,aL.mpr ⟨_,_,rfl,aS.mpr ⟨q,rfl,h2⟩,aL.mpr ⟨_,_,rfl,dE.mpr rfl,aN.mpr rfl⟩⟩⟩
theorem aAB (s:List Int) (g:Int):cX (C6 s g)=true:=by
 unfold C6 cX cP
 rw [gN]
 unfold cP cX cP
 rfl
theorem OE:bootBuiltins "any" = some (.builtin "any"):=by decide +kernel
theorem w? {u:HO} (e:aD H H') (h:H a=none):aD H (upd H' a u):=λb o q=>by
 rw [aI (λz=>by rw [z,h] at q; cases q)]
 exact e b o q
noncomputable def yf (ws:List (List Int)) (wt:List Int):Prop:=wt.length=ws.length/\∀ w∈wt,0<=w/\w<=99
theorem Δ {p:Addr} (h:ah K H p (l.map V.int)):Den K H (.tuple (l.map .int)) (.ref p):=aS.mpr ⟨p,rfl,h⟩
theorem w! {b:Bool} (h:((List.replicate n b).map V.bl)[i]?=some v):v=.bl b:=by
 rw [Qe] at h
 obtain ⟨c,hc,rfl⟩:=Ja.mp h
 rw [Wd (Qg hc)]
theorem P_ (i:Int) (l:List Int):ma (.int i) (l.map V.int)=decide (i∈l):=by
 rw [qW,Xf,Xb,decide_eq_true_iff]
 exact ⟨λ⟨y,h1,h2⟩=>by have:y=i:=(by simpa using h2); rw [<- this]; exact h1,λh=>⟨i,h,by simp⟩⟩
theorem yB (hs:List Int):(eT hs).length=2^hs.length:=by rw [gH,Jr,aCO]
theorem tV (hs:List Int):∀ s∈eT hs,s.length<=hs.length:=λs h=>by
 rw [gH] at h
 rcases Qk.mp h with rfl | h
 ·exact Jl _
 ·exact qG hs s h
theorem T! {m:Nat} (h:m<=n):2^m<=2^n:=Xv (by decide) h
noncomputable def yC (K:Rb):Sp:=λvs H Q _=>∃ (x:V) (n:Int) (ws:List (List Int)) (wp:Addr) (wt:List Int),vs = [x,.ref wp]/\Den K H (bI n ws) x/\bN (bI n ws)=true/\ah K H wp (wt.map V.int)/\yf ws wt/\∀ H',aD H H'->Q (.bl true) H'
theorem S?:ae ["book", "thing"] ["book", "thing"] (aF sO):=.of
theorem aEu (G:Fn K mg "are_weights" sO ["book", "thing"] f fd) (B:Bl mg) (R:Pr K mg fW fH fK fB i9 fD jr fL dW dH dK dB i_ dD jt dL):ab P w K mg base ao 5 f fd ["book", "thing"] (yC K):=by
 have OW:ab P w K mg base ao 1 fW dW ["thing"] (mL K):=mB R.W B
 have Df:ab P w K mg base ao 4 i9 i_ ["book"] (oM K):=oN B R
 obtain ⟨Sf,U3⟩:=B.mw
 refine G.fn.oK S? λa_ A outer s H vs Q E hr h=>?_
 ·obtain ⟨x,n,ws,wp,wt,rfl,hx,bz,hw,f6,k⟩:=h
  have r1:au 1 _:=hr.mono (by decide)
  have r4:au 4 _:=hr
  refine ⟨_,(aE (dO (bA R.NB Df r4 rfl (aA (pv 0) aC)))
  (aE (eJ (PW.pt (lJ (dJ (cT (aO eD rfl B.isinstance nE (aA (pv 1) (aA (iI (v:=.ty "tuple") rfl B.tuple dU rfl) aC))))) (jB (bG mW (aO aX rfl B.len eF (aA (pv 1) aC)) (aO aX rfl B.len eF (aA (aY cD (pv 0) aM (λ_ _=>rfl)) aC)) (bJ _)))))
   (aK (aW iN))
   bR)
  (aK (aW (aO (jD rfl) rfl B.all sI (aA (bK (own:=["weight"]) (fr:=[]) (a9:=[]) (aT (aF sO) ["book", "thing"] rfl rfl (by decide +kernel)) rfl (eY (pv 1))
    (λ_ _ _ _=>(aJ (i:=0) (show (["weight"]:List Str).Nodup by decide +kernel) rfl (Or.inl rfl))) (λ_ _ _ _=>bZ)
    (λ_ _ _ _=>(nG (bA R.W OW r1 rfl (aA (pv 0) aC)) (pB (yR vK vK aM (pv 0) (mG (v:=.int 99) rfl U3 ⟨Sf,rfl⟩)))))) aC)))))),?_⟩
  refine ⟨_,rfl,x,_,rfl,hx,bz,λH1 s1=>?_⟩
  have Bp:=s1.ag hw
  obtain ⟨c,b,ys,e,hc,EG,vy⟩:=cW (s1.den _ _ hx)
  cases e
  have m7:=aH vy
  rw [Qa] at m7
  obtain ⟨_,_,qr,_⟩:=bB bz
  refine ⟨_,rfl,.ref wp,.tup,rfl,(Δ Bp).kd,_,rfl,?_⟩
  refine iS ?_
  refine ⟨_,rfl,wp,_,rfl,.inr Bp,_,rfl,c,_,1,.ref b,rfl,rfl,hc,rfl,b,ys,rfl,.inr EG,rfl,_,rfl,?_⟩
  refine Θ (by rw [Qa,f6.1,m7]; exact T? _) ?_
  refine ⟨_,rfl,wp,rfl,⟨_,Bp⟩,kI (K:=K) (a:=wp) (xs:=wt.map V.int) (vs:=(List.replicate wt.length true).map V.bl) (λσ=>∃ v,σ = [v]) (by rw [Qa,f6.1]; omega) (by simp) Bp ⟨none,rfl⟩ ?_ ?_⟩
  ·rintro i u v σ H2 hu hv ⟨v0,rfl⟩ s2 Q' k'
   rw [w! hv] at k'
   obtain ⟨z,hz,rfl⟩:=Jg.mp (Qg hu)
   have:=f6.2 z hz
   refine ⟨_,rfl,.int z,.int z,rfl,dE.mpr rfl,_,rfl,iE ?_⟩
   refine ⟨_,rfl,_,_,rfl,rfl,_,rfl,OF (decide_eq_true this.1) ⟨_,_,rfl,rfl,?_⟩⟩
   show Q' (.bl (decide (z<=99))) _ _
   rw [decide_eq_true this.2]
   exact k' _ _ ⟨_,rfl⟩ (aD.refl _)
  ·intro H3 s3 p hp
   refine ⟨p,List.replicate wt.length true,rfl,ai.of aB,?_⟩
   rw [show (List.replicate wt.length true).all id=true by simp]
   exact k _ (s1.trans (s3.trans (aD.new hp)))
noncomputable def tW (K:Rb):Sp:=λvs H Q _=>∃ (x:V) (n:Int) (ws:List (List Int)) (wp:Addr) (wt:List Int),vs = [x,.ref wp]/\Den K H (bI n ws) x/\bN (bI n ws)=true/\ah K H wp (wt.map V.int)/\yf ws wt/\∀ H',aD H H'->Q .bj H'
theorem aEv:ae ["book", "weights"] ["book", "weights"] (aF qU):=.of
theorem aC0 {fA:Addr} {dA:FuncData} (G:Fn K mg "need_weights" qU ["book", "weights"] f fd) (GAW:Fn K mg "are_weights" sO ["book", "thing"] fA dA) (I_:ab P w K mg base ao 5 fA dA ["book", "thing"] (yC K)):ab P w K mg base ao 6 f fd ["book", "weights"] (tW K):=by
 refine G.fn.oK aEv λa_ A outer s H vs Q E hr h=>?_
 ·obtain ⟨x,n,ws,wp,wt,rfl,hx,bz,hw,f6,k⟩:=h
  have r5:au 5 _:=hr
  refine ⟨_,(aK (eJ (dJ (cT (bA GAW I_ r5 rfl (aA (pv 0) (aA (pv 1) aC)))))
   mH
   bR)),?_⟩
  exact ⟨_,rfl,_,rfl,x,n,ws,wp,wt,rfl,hx,bz,hw,f6,λH1 s1=>⟨_,rfl,iS (k _ s1)⟩⟩
noncomputable def oX (K:Rb):Sp:=λvs H Q _=>∃ (p q:Addr) (l s:List Int),vs = [.ref p,.ref q]/\ah K H p (l.map V.int)/\ah K H q (s.map V.int)/\l.length<=1000/\∀ H',aD H H'->Q (.bl (lC s l)) H'
theorem aEw:ae ["able", "some"] ["able", "some"] (aF mK):=.of
theorem aC1 (G:Fn K mg "is_within" mK ["able", "some"] f fd) (B:Bl mg):ab P w K mg base ao 1 f fd ["able", "some"] (oX K):=by
 refine G.fn.oK aEw λa_ A outer s H vs Q E hr h=>?_
 ·obtain ⟨p,q,l,s',rfl,hp,hq,hl,k⟩:=h
  refine ⟨_,(aK (aW (aO (jD rfl) rfl B.all sI (aA (bK (own:=["hand"]) (fr:=[1]) (a9:=["some"]) (aT (aF mK) ["able", "some"] rfl rfl (by decide +kernel)) rfl (eY (pv 0))
    (λ_ _ _ _=>(aJ (i:=0) (show (["hand", "some"]:List Str).Nodup by decide +kernel) rfl (Or.inl rfl))) (λ_ _ _ _=>bZ)
    (λ_ _ _ _=>(gQ (sT (K:=K) rfl) (pv 0) (pv 1) (by with_unfolding_all rfl)))) aC)))),?_⟩
  refine ⟨_,rfl,p,rfl,⟨_,hp⟩,kI (K:=K) (a:=p) (xs:=l.map V.int) (vs:=(l.map λh=>decide (h∈s')).map V.bl) (λσ=>∃ v,σ = [v,some (.ref q)]) (by rw [Qa]; exact hl) (by simp) hp ⟨none,rfl⟩ ?_ ?_⟩
  ·rintro i u v σ H2 hu hv ⟨v0,rfl⟩ s2 Q' k'
   rw [Qe] at hu hv
   obtain ⟨z,hz,rfl⟩:=Ja.mp hu
   rw [Qe,hz] at hv
   cases hv
   refine ⟨_,rfl,_,rfl,q,s'.map V.int,rfl,.inr (s2.ag hq),rfl,kM _,?_⟩
   have e:ma (.int z) (s'.map V.int)=decide (z∈s'):=P_ z s'
   show Q' (.bl (ma (.int z) (s'.map V.int))) _ _
   rw [e]
   exact k' _ _ ⟨_,rfl⟩ (aD.refl _)
  ·intro H3 s3 p2 lu
   refine ⟨p2,_,rfl,ai.of aB,?_⟩
   rw [show (l.map λh=>decide (h∈s')).all id=lC s' l by unfold lC; rw [Yc]; rfl]
   exact k _ (s3.trans (aD.new lu))
noncomputable def HZ (K:Rb):Sp:=λvs H Q _=>∃ (l:Addr) (hs:List Int),vs = [.ref l]/\ai K H l (hs.map V.int)/\hs.length<=6/\∀ p xs H',aD H H'->H p=none->H' p=some (.lst xs)->aP K H' ((iQ hs).map cO) xs->Q (.ref p) H'
theorem yD:ae ["hands", "sets", "hand"] ["hands"] (aF C4):=.of
theorem S! (G:Fn K mg "sets_of" C4 ["hands"] f fd) (B:Bl mg):ab P w K mg base ao 1 f fd ["hands"] (HZ K):=by
 refine G.fn.oK yD λa_ A outer s H vs Q E hr h=>?_
 ·obtain ⟨l,hs,rfl,hl,h6,k⟩:=h
  refine ⟨_,(aE (aU (i:=1) yD.nd rfl (Or.inl rfl) (dY (aA (cV aC) aC)))
  (aE (eC PassesOwn.never rfl (cK (pv 0)) (aJ (i:=2) yD.nd rfl (Or.inr rfl))
   (aK (aU (i:=1) yD.nd rfl (Or.inl rfl) (bC rN (pv 1) (bK (own:=["some"]) (fr:=[2]) (a9:=["hand"]) (aT (aF C4) ["hands", "sets", "hand"] rfl rfl (by decide +kernel)) rfl (cK (pv 1))
    (λ_ _ _ _=>(aJ (i:=0) (show (["some", "hand"]:List Str).Nodup by decide +kernel) rfl (Or.inl rfl))) (λ_ _ _ _=>bZ)
    (λ_ _ _ _=>(bC (aDE (K:=K) rfl) (pv 0) (cV (aA (pv 1) aC)))))))))
  (aK (aW (yW aEX (pv 1) (P9 aM) P'))))),?_⟩
  refine ⟨bP (Jl _),λp0 h0=>⟨l_ _,λp1 h1=>?_⟩⟩
  have s1:=(aD.new (o:=.tup []) h0).trans (aD.new (o:=.lst [.ref p0]) h1)
  have n1:H p1=none:=(aD.new (o:=.tup []) h0).free h1
  have e1:upd (upd H p0 (.tup [])) p1 (.lst [.ref p0]) p1=some (.lst [.ref p0]):=aB
  have d1:aP K (upd (upd H p0 (.tup [])) p1 (.lst [.ref p0])) ((eT (hs.take 0)).map cO) [.ref p0]:=aL.mpr ⟨_,_,rfl,aS.mpr ⟨p0,rfl,(aD.new h1).ag (ah.of aB)⟩,aN.mpr rfl⟩
  generalize upd (upd H p0 (.tup [])) p1 (.lst [.ref p0])=H1 at s1 e1 d1 ⊢
  refine ⟨_,rfl,l,rfl,⟨_,s1.b_ hl⟩,gO (K:=K) (a:=l) (xs:=hs.map V.int) (λi σ H2=>∃ q xs v,σ = [some (.ref l),some (.ref q),v]/\aD H H2/\H q=none/\H2 q=some (.lst xs)/\aP K H2 ((eT (hs.take i)).map cO) xs) ⟨p1,_,none,rfl,s1,n1,e1,d1⟩ (λi σ H2 _ ⟨_,_,_,_,s2,_⟩=>s2.b_ hl) ?_ ?_⟩
  ·rintro i y σ H2 hy ⟨q,xs,v,rfl,s2,nq,hq,hd⟩
   rw [Qe] at hy
   obtain ⟨h,hh,rfl⟩:=Ja.mp hy
   have hi:i < hs.length:=(Qd.mp hh).1
   have lg:xs.length=2^i:=by
    rw [aH hd,Qa,yB,Qy,Wg (by omega)]
   have aae:xs.length<=32:=by rw [lg]; exact T! (n:=5) (by omega)
   refine ⟨_,rfl,_,rfl,q,rfl,⟨_,ai.of hq⟩,iF (K:=K) (a:=q) (xs:=xs) (λσ=>∃ v,σ = [v,some (.int h)]) (λj ys H3=>aD H2 H3/\aP K H3 (((eT (hs.take i)).take j).map λt=>cO (t++[h])) ys) (bP (by omega)) ⟨none,rfl⟩ ⟨aD.refl _,aN.mpr rfl⟩ ?_ (λj ys H3 ⟨s3,_⟩=>s3.b_ (ai.of hq)) ?_ ?_⟩
   ·rintro j ys H3 ⟨_,zx⟩
    rw [aH zx,Qa,Qy]
    exact Xo _ _
   ·rintro j ys σ x H3 hx ⟨v0,rfl⟩ ⟨s3,zx⟩ hz
    obtain ⟨d,qk,hd2⟩:=eV (s3.af _ _ hd) hx
    rw [Qe] at qk
    obtain ⟨t,ht,rfl⟩:=Ja.mp qk
    obtain ⟨a,rfl,ha⟩:=aS.mp hd2
    have ht5:t.length<=i:=by
     have:=tV _ t (Qg ht)
     rw [Qy] at this
     omega
    refine ⟨_,rfl,_,rfl,l_ _,λpt t7=>⟨a,pt,_,_,rfl,rfl,(aD.new t7).ag ha,ah.of aB,bP (by rw [Qa]; show _+1<=_; omega),λpc H4 s4 Gv=>?_⟩⟩
    have og:=(aD.new (o:=.tup [.int h]) t7).trans s4
    refine ⟨hz,⟨_,rfl⟩,s3.trans og,?_⟩
    rw [Wc,ht,Qp]
    refine bH (og.af _ _ zx) (aL.mpr ⟨_,_,rfl,aS.mpr ⟨pc,rfl,?_⟩,aN.mpr rfl⟩)
    rw [Qp]
    exact Gv
   ·rintro ys H3 ⟨s3,zx⟩ pn mz
    have Bn:ys.length<=32:=by
     rw [aH zx,Qa,Qy]
     omega
    refine ⟨q,pn,xs,ys,rfl,rfl,(s3.trans (aD.new mz)) _ _ hq,aB,bP (by omega),λpr ke=>?_⟩
    have i6:=s3.trans ((aD.new (o:=.lst ys) mz).trans (aD.new (o:=.lst (xs++ys)) ke))
    refine ⟨pr,xs++ys,_,rfl,s2.trans i6,(s2.trans (s3.trans (aD.new mz))).free ke,aB,?_⟩
    rw [Wc,hh,show (some h).toList = [h] from rfl,kB,Qp,Xz]
    refine bH (i6.af _ _ hd) ?_
    have e:xs.length=(eT (hs.take i)).length:=by rw [aH hd,Qa]
    rw [e,Jt] at zx
    exact ((aD.new mz).trans (aD.new ke)).af _ _ zx
  ·rintro σ H2 ⟨q,xs,v,rfl,s2,nq,hq,hd⟩
   refine ⟨_,rfl,_,rfl,q,xs,rfl,ai.of hq,λpr ke=>?_⟩
   have e:nJ xs (some 1) none=xs.drop 1:=aCw xs 1
   rw [e]
   rw [Qa,Jt,gH,Jh] at hd
   obtain ⟨x,r,rfl,_,dk⟩:=aL.mp hd
   exact k pr _ _ (s2.trans (aD.new ke)) (s2.free ke) aB ((aD.new ke).af _ _ dk)
noncomputable def pD (r:List Int×Int):PyData:=C6 r.1 r.2
theorem Z? (rows:bT) (s:List Int):c9 rows (ak s)=aG ((rows.filter λr=>lC s r.1).map (·.2)):=xV _ (λr:List Int×Int=>r.1.all (ak s)) rows
noncomputable def vj (rows:bT):Prop:=∀ r∈rows,r.1.length<=6/\0<=r.2/\r.2<=99
theorem O2 (h:vj rows) (p:Int->Bool):0<=c9 rows p/\c9 rows p<=rows.length*99:=by
 refine ⟨oP λr hr=>?_,?_⟩
 ·have:=h r hr
  by_cases c:r.1.all p=true
  ·rw [if_pos c]; omega
  ·rw [if_neg c]; exact Je _
 ·rw [<- mN (f:=λ_:List Int×Int=>(99:Int)) (l:=rows) λ_ _=>rfl]
  refine gI λr hr=>?_
  have:=h r hr
  by_cases c:r.1.all p=true
  ·rw [if_pos c]; omega
  ·rw [if_neg c]; omega
theorem iW {i:Int} (h:i.natAbs<=1000000):i.natAbs < 2^4000:=Qq (Xg h (show 1000000 < 2^20 by decide)) (Xv (by decide) (by decide))
noncomputable def HY (K:Rb):Sp:=λvs H Q _=>∃ (lp rp:Addr) (hs:List Int) (zs:List V) (rows:bT),vs = [.ref lp,.ref rp]/\ai K H lp (hs.map V.int)/\ai K H rp zs/\aP K H (rows.map pD) zs/\hs.length<=6/\rows.length<=12/\vj rows /\
 ∀ p q b m H',aD H H'->ah K H' p [.ref q,.int m]->ah K H' q (b.map V.int)->nQ rows (iQ hs) b m->Q (.ref p) H'
theorem fZ:ae ["hands", "rows", "best", "most", "some", "weight", "more"] ["hands", "rows"] (aF kL):=.of
theorem R? (G:Fn K mg "heaviest" kL ["hands", "rows"] f fd) (B:Bl mg) (GSt:Fn K mg "sets_of" C4 ["hands"] fS dS) (OSt:ab P w K mg base ao 1 fS dS ["hands"] (HZ K)) (JA:Fn K mg "is_within" mK ["able", "some"] fI dI) (IU:ab P w K mg base ao 1 fI dI ["able", "some"] (oX K)):ab P w K mg base ao 2 f fd ["hands", "rows"] (HY K):=by
 refine G.fn.oK fZ λa_ A outer s H vs Q E hr h=>?_
 ·obtain ⟨lp,rp,hs,zs,rows,rfl,di,jn,hd,h6,qr,Gk,k⟩:=h
  have r1:au 1 _:=hr
  refine ⟨_,(aE (aU (i:=2) fZ.nd rfl (Or.inl rfl) (cV aC))
  (aE (aU (i:=3) fZ.nd rfl (Or.inl rfl) aM)
  (aE (eC PassesOwn.never rfl (cK (bA GSt OSt r1 rfl (aA (pv 0) aC))) (aJ (i:=4) fZ.nd rfl (Or.inr rfl))
   (aE (aU (i:=5) fZ.nd rfl (Or.inl rfl) (aO (aDt rfl) rfl B.sum Φ (aA (bK (own:=["able", "heft"]) (fr:=[4]) (a9:=["some"]) (aT (aF kL) ["hands", "rows", "best", "most", "some", "weight", "more"] rfl rfl (by decide +kernel)) rfl (cK (pv 1))
    (λ_ _ _ _=>(iU (K:=K) (n:=2) rfl rfl (aR (aJ (i:=0) (show (["able", "heft", "some"]:List Str).Nodup by decide +kernel) rfl (Or.inl rfl)) (aR (aJ (i:=1) (show (["able", "heft", "some"]:List Str).Nodup by decide +kernel) rfl (Or.inl rfl)) cJ)))) (λ_ _ _ _=>lT (cT (bA JA IU r1 rfl (aA (pv 0) (aA (pv 2) aC)))))
    (λ_ _ _ _=>(pv 1))) aC)))
  (aE (aU (i:=6) fZ.nd rfl (Or.inl rfl) (bC wR (bC mQ (pv 5) (aO aX rfl B.len eF (aA (pv 2) aC))) (bC mQ (pv 3) (aO aX rfl B.len eF (aA (pv 4) aC)))))
  (aK (eJ (PW.pt (lJ (bG qA (pv 6) aM (bJ _)) (jB (PW.pt (f? (bG pZ (pv 6) aM (bJ _)) (aEO (bG qA (aO aX rfl B.len eF (aA (pv 4) aC)) (aO aX rfl B.len eF (aA (pv 2) aC)) (bJ _))))))))
   (aE (aU (i:=2) fZ.nd rfl (Or.inl rfl) (pv 4))
  (aK (aU (i:=3) fZ.nd rfl (Or.inl rfl) (pv 5))))
   bR)))))
  (aK (aW (cV (aA (pv 2) (aA (pv 3) aC)))))))),?_⟩
  have o7:=aH hd
  rw [Qa] at o7
  refine ⟨bP (Jl _),λp0 h0=>?_⟩
  have s1:=aD.new (o:=.tup []) h0
  have e1:ah K (upd H p0 (.tup [])) p0 (([]:List Int).map V.int):=ah.of aB
  generalize upd H p0 (.tup [])=H1 at s1 e1 ⊢
  refine ⟨_,rfl,lp,hs,rfl,s1.b_ di,h6,λsp xs H2 s2 FW ie zj=>?_⟩
  have fu:=s1.trans s2
  refine ⟨sp,rfl,⟨_,ai.of ie⟩,gO (K:=K) (a:=sp) (xs:=xs) (λi σ H3=>∃ b q m v4 v5 v6,σ = [some (.ref lp),some (.ref rp),some (.ref q),some (.int m),v4,v5,v6]/\aD H2 H3/\ah K H3 q (b.map V.int)/\nQ rows ((iQ hs).take i) b m/\b.length<=6/\0<=m/\m<=10000) ⟨[],p0,0,none,none,none,rfl,aD.refl _,s2.ag e1,.inl ⟨rfl,rfl,rfl⟩,by simp,by decide,by decide⟩ (λi σ H3 _ ⟨_,_,_,_,_,_,_,s3,_⟩=>s3.b_ (ai.of ie)) ?_ ?_⟩
  ·rintro i x σ H3 hx ⟨b,q,m,v4,v5,v6,rfl,s3,hq,hb,VZ,LI,Bu⟩
   obtain ⟨t,ht,UG⟩:=cI zj hx
   obtain ⟨a,rfl,ha⟩:=aS.mp UG
   have CG:=s3.ag ha
   have xr:t∈iQ hs:=Qg ht
   have LD:t.length<=6:=Qw (qG hs t xr) h6
   have g_:=fu.trans s3
   have hW:=O2 Gk (ak t)
   refine ⟨_,rfl,rp,rfl,⟨_,g_.b_ jn⟩,iF (K:=K) (a:=rp) (xs:=zs) (λσ=>∃ v w,σ = [v,w,some (.ref a)]) (λj ys H4=>aD H3 H4/\ys=(((rows.take j).filter λr=>lC t r.1).map (·.2)).map V.int) (bP (by omega)) ⟨none,none,rfl⟩ ⟨aD.refl _,rfl⟩ ?_ (λj ys H4 ⟨s4,_⟩=>(g_.trans s4).b_ jn) ?_ ?_⟩
   ·rintro j ys H4 ⟨_,rfl⟩
    rw [Qa,Qa]
    exact Qw (Ji _ _) (by rw [Qy]; exact Xo _ _)
   ·rintro j ys σ y H4 hy ⟨v,w,rfl⟩ ⟨s4,rfl⟩ hz
    obtain ⟨r,hr,Bs⟩:=cI hd hy
    obtain ⟨pp,pq,rfl,lr,t8⟩:=tU Bs
    have gz:=g_.trans s4
    obtain ⟨r6,r0,r99⟩:=Gk r (Qg hr)
    refine ⟨pp,_,rfl,gz.ag lr,rfl,_,_,rfl,_,_,rfl,rfl,?_⟩
    refine ⟨_,rfl,_,rfl,pq,a,r.1,t,rfl,gz.ag t8,s4.ag CG,by omega,λH5 s5=>⟨_,rfl,?_⟩⟩
    rw [cS hr,Xt,Qp,Qp]
    cases hw:lC t r.1 with
    | true =>
     refine iE ?_
     refine ⟨_,rfl,hz,⟨_,_,rfl⟩,s4.trans s5,?_⟩
     rw [Qz,hw]; rfl
    | false =>
     refine iS ?_
     refine ⟨⟨_,_,rfl⟩,s4.trans s5,?_⟩
     rw [Qz,hw]
     show _=_++[]
     rw [Xl]
   ·rintro ys H4 ⟨s4,rfl⟩ pn mz
    rw [o7,Jt]
    have s5:=aD.new (o:=.lst (((rows.filter λr=>lC t r.1).map (·.2)).map V.int)) mz
    refine ⟨pn,_,rfl,ai.of aB,λx hx=>?_,?_,?_⟩
    ·obtain ⟨r,hr,rfl⟩:=Jg.mp hx
     have:=Gk r (Jd.mp hr).1
     omega
    ·rw [Qa]; exact Qw (Ji _ _) (by omega)
    ·rw [<- Z?]
     have i6:=s4.trans s5
     generalize upd H4 pn _=H5 at i6 ⊢
     dsimp only [cU]
     refine ⟨_,rfl,_,rfl,q,_,rfl,.inr (i6.ag hq),_,_,rfl,rfl,⟨iW (by omega),iW (by rw [Qa]; omega)⟩,_,rfl,_,rfl,a,_,rfl,.inr (i6.ag CG),_,_,rfl,rfl,⟨iW (by omega),iW (by rw [Qa]; omega)⟩,_,_,rfl,rfl,?_⟩
     rw [Qa,Qa]
     obtain ⟨c1,c2⟩:=aCQ (s:=t) (λu hu=>tJ hs u (Yh hu)) (tJ hs t xr) hb
     rw [<- cS ht] at c1 c2
     dsimp only [cU]
     have dc:¬ (0 < c9 rows (ak t)*b.length - m*t.length∨c9 rows (ak t)*b.length - m*t.length=0/\(b.length:Int) < t.length)->∀ x4 x5 x6,∃ b' q' m' v4 v5 v6,([some (.ref lp),some (.ref rp),some (.ref q),some (.int m),x4,x5,x6]:St) = [some (.ref lp),some (.ref rp),some (.ref q'),some (.int m'),v4,v5,v6]/\aD H2 H5/\ah K H5 q' (b'.map V.int)/\nQ rows ((iQ hs).take (i+1)) b' m'/\b'.length<=6/\0<=m'/\m'<=10000:=λc _ _ _=>⟨b,q,m,_,_,_,rfl,s3.trans i6,i6.ag hq,c2 c,VZ,LI,Bu⟩
     refine ⟨_,rfl,_,_,rfl,rfl,_,rfl,?_⟩
     refine gC (λd=>?_) (λd=>?_)
     ·exact ⟨_,rfl,_,rfl,t,a,_,_,_,_,rfl,s3.trans i6,i6.ag CG,c1 (.inl (of_decide_eq_true d)),LD,hW.1,by omega⟩
     ·have n1:¬ 0 < c9 rows (ak t)*b.length - m*t.length:=λz=>d (decide_eq_true z)
      refine ⟨_,rfl,rfl,_,rfl,?_⟩
      refine gC (λd2=>?_) (λd2=>?_)
      ·have e2:c9 rows (ak t)*b.length - m*t.length=0:=by simpa using d2
       refine ⟨_,rfl,a,_,rfl,.inr (i6.ag CG),_,rfl,q,_,rfl,.inr (i6.ag hq),_,_,rfl,rfl,_,rfl,?_⟩
       rw [Qa,Qa]
       refine gC (λd3=>?_) (λd3=>?_)
       ·exact ⟨_,rfl,_,rfl,t,a,_,_,_,_,rfl,s3.trans i6,i6.ag CG,c1 (.inr ⟨e2,of_decide_eq_true d3⟩),LD,hW.1,by omega⟩
       ·exact dc (λz=>z.elim n1 λz=>d3 (decide_eq_true z.2)) _ _ _
      ·exact dc (λz=>z.elim n1 λz=>d2 (by rw [z.1]; rfl)) _ _ _
  ·rintro σ H3 ⟨b,q,m,v4,v5,v6,rfl,s3,hq,hb,_⟩
   have hl:=aH zj
   rw [Qa] at hl
   rw [hl,Jt] at hb
   exact ⟨_,rfl,_,rfl,bP (show 2<=1000 by decide),λp hp=>k p q b m _ (fu.trans (s3.trans (aD.new hp))) (ah.of aB) ((aD.new hp).ag hq) hb⟩
noncomputable def R!:Scope:=match (fF iK).getD 4 (.Pass ⟨0,0,0,0⟩) with
 | .While _ [_,_,_,_,.Assign _ (.ListComp _ _ sc _) _] _ _=>sc
 | _=>{ kind:=.function,names:=[],isGenerator:=false,isCoroutine:=false }
noncomputable def tX (b:List Int×Int):PyData:=.tuple [cO b.1,jW (fE (b.2,(b.1.length:Int)))]
theorem aAD (x:Int×Int):cX (jW x)=true:=by
 unfold jW cX cP cX cP cX cP
 rfl
theorem tY (b:List Int×Int):cX (tX b)=true:=by
 unfold tX cX cP
 rw [gN]
 unfold cP
 rw [aAD]
 unfold cP
 rfl
theorem Z! {b:List Int×Int} {p r:Addr} (h1:ah K H p [.ref q,.ref r]) (h2:ah K H q (b.1.map V.int)) (h3:ah K H r [.int (fE (b.2,(b.1.length:Int))).1,.int (fE (b.2,(b.1.length:Int))).2]):Den K H (tX b) (.ref p) :=
 bL.mpr ⟨p,_,rfl,h1,aL.mpr ⟨_,_,rfl,aS.mpr ⟨q,rfl,h2⟩,aL.mpr ⟨_,_,rfl,hJ.mpr ⟨r,rfl,h3⟩,aN.mpr rfl⟩⟩⟩
theorem Q? {b:List Int×Int} (h:Den K H (tX b) v):∃ p q r,v=.ref p/\ah K H p [.ref q,.ref r]/\ah K H q (b.1.map V.int)/\ah K H r [.int (fE (b.2,(b.1.length:Int))).1,.int (fE (b.2,(b.1.length:Int))).2]:=by
 obtain ⟨p,xs,rfl,hp,hx⟩:=bL.mp h
 obtain ⟨x1,r1,rfl,d1,xu⟩:=aL.mp hx
 obtain ⟨x2,r2,rfl,d2,dk⟩:=aL.mp xu
 rw [aN.mp dk] at hp
 obtain ⟨q,rfl,hq⟩:=aS.mp d1
 obtain ⟨r,rfl,hr⟩:=hJ.mp d2
 exact ⟨p,q,r,rfl,hp,hq,hr⟩
theorem tZ (i:Int) (l:List Int):(!ma (.int i) (l.map V.int))=!ak l i:=by rw [P_]; rfl
theorem Q0 (rows:bT) (s:List Int):(bw rows s).length<=rows.length:=by unfold bw; rw [Qa]; exact Ji _ _
theorem vj.bw {s:List Int} (h:vj rows):vj (bw rows s):=λr hr=>by
 obtain ⟨r0,h0,rfl⟩:=Jg.mp hr
 obtain ⟨a,b,c⟩:=h r0 (Jd.mp h0).1
 exact ⟨Qw (Ji _ _) a,b,c⟩
theorem iR {n:Int} (hb:bN (bI n ws)=true) (hw:yf ws wt):dZ (aQ n.toNat) (ws.zip wt)/\vj (ws.zip wt)/\(ws.zip wt).length<=12:=by
 obtain ⟨h1,h2,h3,h4⟩:=bB hb
 have key:∀ r∈ws.zip wt,r.1≠[]/\(∀ h∈r.1,h∈aQ n.toNat)/\r.1.length<=6/\0<=r.2/\r.2<=99:=λr hr=>by
  obtain ⟨a,b⟩:=Yl hr
  obtain ⟨c1,c2,c3⟩:=cE (h4 _ a)
  have:=jI (by omega) c2 c3
  have:=hw.2 _ b
  exact ⟨c1,λh hh=>gG.mpr (by have:=c2 h hh; omega),by omega,this⟩
 exact ⟨λr hr=>⟨(key r hr).1,(key r hr).2.1,(key r hr).2.2.2.1⟩,λr hr=>(key r hr).2.2,by rw [Wk]; omega⟩
theorem Q! (hx:aP K H (ws.map cO) xs) (hl:wt.length=ws.length) (hz:zs.length=min xs.length (wt.map V.int).length) (hp:Fo H xs (wt.map V.int) zs):aP K H ((ws.zip wt).map pD) zs:=by
 have lg:=aH hx
 rw [Qa] at lg
 rw [Qa] at hz
 refine wL (by rw [Qa,Wk]; omega) λi d z h1 h2=>?_
 obtain ⟨q,x,y,rfl,h3,h4,h5⟩:=hp i z h2
 rw [Qe] at h1 h4
 obtain ⟨r,hr,rfl⟩:=Ja.mp h1
 obtain ⟨g,hg,rfl⟩:=Ja.mp h4
 obtain ⟨l,ly,u6⟩:=cI hx h3
 obtain ⟨a,rfl,ha⟩:=aS.mp u6
 rw [Jz] at hr
 rw [ly,hg] at hr
 have e1:l=r.1:=Option.some.inj hr.1
 have e2:g=r.2:=Option.some.inj hr.2
 rw [e1] at ha
 rw [e2] at h5
 exact pV (ah.of h5) ha
noncomputable def oY (K:Rb):Sp:=λvs H Q _=>∃ (x:V) (n:Int) (ws:List (List Int)) (wp:Addr) (wt:List Int),vs = [x,.ref wp]/\Den K H (bI n ws) x/\bN (bI n ws)=true/\ah K H wp (wt.map V.int)/\yf ws wt /\
 ∀ p us bs H',aD H H'->H p=none->H' p=some (.lst us)->aP K H' (bs.map tX) us->dX (aQ n.toNat) (ws.zip wt) bs->us.length<=6->Q (.ref p) H'
theorem hU:ae ["book", "weights", "left", "rows", "told", "some", "weight"] ["book", "weights"] (aF iK):=.of
theorem aC2 {fN fV:Addr} {dN dV:FuncData} (G:Fn K mg "blocks" iK ["book", "weights"] f fd) (B:Bl mg) (JC:Fn K mg "need_weights" qU ["book", "weights"] fN dN) (IW:ab P w K mg base ao 6 fN dN ["book", "weights"] (tW K)) (GHv:Fn K mg "heaviest" kL ["hands", "rows"] fV dV) (OHv:ab P w K mg base ao 2 fV dV ["hands", "rows"] (HY K)) (GL:Fn K mg "lowest" oI ["a", "b"] fL dL) (OL:ab P w K mg base ao 2 fL dL ["a", "b"] oW) (JA:Fn K mg "is_within" mK ["able", "some"] fI dI) (IU:ab P w K mg base ao 1 fI dI ["able", "some"] (oX K)):ab P w K mg base ao 7 f fd ["book", "weights"] (oY K):=by
 refine G.fn.oK hU λa_ A outer s H vs Q E hr h=>?_
 ·obtain ⟨x,n,ws,wp,wt,rfl,hx,bz,om,f6,k⟩:=h
  have r6:au 6 _:=hr
  have r2:au 2 _:=hr.mono (by decide)
  have r1:au 1 _:=hr.mono (by decide)
  refine ⟨_,(aE (dO (bA JC IW r6 rfl (aA (pv 0) (aA (pv 1) aC))))
  (aE (aU (i:=2) hU.nd rfl (Or.inl rfl) (bU (uV rfl) rfl B.list sH (aA (bU zG rfl B.range G! (aA (aY cD (pv 0) aM (λ_ _=>rfl)) aC)) aC)))
  (aE (aU (i:=3) hU.nd rfl (Or.inl rfl) (aA2 .t .t rfl rfl B.list rfl B.zip (aA (aY cD (pv 0) aM (λ_ _=>rfl)) (aA (pv 1) aC))))
  (aE (aU (i:=4) hU.nd rfl (Or.inl rfl) (dY aC))
  (aE (kD PassesOwn.never (yS (pv 2) (λ_=>rfl))
   (aE (kR (bA GHv OHv r2 rfl (aA (pv 2) (aA (pv 3) aC))) (iC rfl (aR (aJ (i:=5) hU.nd rfl (Or.inr rfl)) (aR (aJ (i:=6) hU.nd rfl (Or.inl rfl)) cJ))))
  (aE (dO (lK Ro Rq Rr gB (pv 4) (aA (cV (aA (pv 5) (aA (bA GL OL r2 rfl (aA (pv 6) (aA (aO aX rfl B.len eF (aA (pv 5) aC)) aC))) aC))) aC)))
  (aE (eL (i:=2) (own:=["hand"]) (fr:=[5]) (a9:=["some"]) (aT (aF iK) ["book", "weights", "left", "rows", "told", "some", "weight"] rfl rfl (by decide +kernel)) rfl hU.nd rfl rfl rfl (cK (pv 2))
    (λ_ _ _ _=>(aJ (i:=0) (show (["hand", "some"]:List Str).Nodup by decide +kernel) rfl (Or.inl rfl))) (λ_ _ _ _=>lT (bG (jZ (K:=K) rfl) (pv 0) (pv 1) (by with_unfolding_all rfl)))
    (λ_ _ _ _=>(pv 0)))
  (aE (eL (i:=3) (own:=["able", "heft"]) (fr:=[5]) (a9:=["some"]) (aT (aF iK) ["book", "weights", "left", "rows", "told", "some", "weight"] rfl rfl (by decide +kernel)) rfl hU.nd rfl rfl rfl (cK (pv 3))
    (λ_ _ _ _=>(iU (K:=K) (n:=2) rfl rfl (aR (aJ (i:=0) (show (["able", "heft", "some"]:List Str).Nodup by decide +kernel) rfl (Or.inl rfl)) (aR (aJ (i:=1) (show (["able", "heft", "some"]:List Str).Nodup by decide +kernel) rfl (Or.inl rfl)) cJ)))) (λ_ _ _ _=>lT (dJ (cT (bA JA IU r1 rfl (aA (pv 0) (aA (pv 2) aC))))))
    (λ_ _ _ _=>(cV (aA (pv 0) (aA (pv 1) aC)))))
  (aK (eL (i:=3) (own:=["able", "heft"]) (fr:=[5]) (a9:=["some"]) (aT (aF iK) ["book", "weights", "left", "rows", "told", "some", "weight"] rfl rfl (by decide +kernel)) rfl hU.nd rfl rfl rfl (cK (pv 3))
    (λ_ _ _ _=>(iU (K:=K) (n:=2) rfl rfl (aR (aJ (i:=0) (show (["able", "heft", "some"]:List Str).Nodup by decide +kernel) rfl (Or.inl rfl)) (aR (aJ (i:=1) (show (["able", "heft", "some"]:List Str).Nodup by decide +kernel) rfl (Or.inl rfl)) cJ)))) (λ_ _ _ _=>bZ)
    (λ_ _ _ _=>(cV (aA (bU (jH (K:=K) rfl) rfl B.tuple dU (aA (bK (own:=["hand"]) (fr:=[2]) (a9:=["some"]) (aT (HJ R! (aF iK)) ["able", "heft", "some"] rfl rfl (by decide +kernel)) rfl (xZ (K:=K) rfl (pv 0))
    (λ_ _ _ _=>(aJ (i:=0) (show (["hand", "some"]:List Str).Nodup by decide +kernel) rfl (Or.inl rfl))) (λ_ _ _ _=>lT (bG (jZ (K:=K) rfl) (pv 0) (pv 1) (by with_unfolding_all rfl)))
    (λ_ _ _ _=>(pv 0))) aC)) (aA (pv 1) aC)))))))))))
  (aK (aW (pv 4)))))))),?_⟩
  obtain ⟨a,b,ys,rfl,ha,hb,fi⟩:=cW hx
  have m7:=aH fi
  rw [Qa] at m7
  obtain ⟨md,gu,qr,_⟩:=bB bz
  obtain ⟨RO,RS,RL⟩:=iR bz f6
  refine ⟨_,rfl,_,rfl,_,n,ws,wp,wt,rfl,hx,bz,om,f6,λH1 s1=>?_⟩
  refine ⟨_,rfl,a,_,0,.int n,rfl,rfl,s1.ag ha,rfl,n,rfl,λpr ke=>⟨pr,n.toNat,rfl,by rw [aB,Yr (by omega)],by omega,λlp di=>?_⟩⟩
  have s2:=s1.trans ((aD.new (o:=.jm 0 n) ke).trans (aD.new (o:=.lst ((aQ n.toNat).map V.int)) di))
  have el:upd (upd H1 pr (.jm 0 n)) lp (.lst ((aQ n.toNat).map V.int)) lp=some (.lst ((aQ n.toNat).map V.int)):=aB
  generalize upd (upd H1 pr (.jm 0 n)) lp (.lst ((aQ n.toNat).map V.int))=H2 at s2 el ⊢
  refine ⟨_,rfl,a,_,1,.ref b,rfl,rfl,s2.ag ha,rfl,_,rfl,b,wp,ys,_,rfl,s2.ag hb,s2.ag om,by rw [Rf]; omega,λrp zs H3 s3 nrp jn o7 JX=>?_⟩
  have Bg:=s2.trans s3
  have D3:aP K H3 ((ws.zip wt).map pD) zs:=Q! (Bg.af _ _ fi) f6.1 o7 JX
  refine ⟨bP (Jl _),λtp lj=>?_⟩
  have og:=aD.new (o:=.lst []) lj
  have FV:H tp=none:=Bg.free lj
  have et:upd H3 tp (.lst []) tp=some (.lst []):=aB
  have NL:=og _ _ (s3 _ _ el)
  have NI:=og _ _ jn
  have nl:lp≠tp:=λz=>by rw [<- z,s3 _ _ el] at lj; cases lj
  have nr:rp≠tp:=λz=>by rw [<- z,jn] at lj; cases lj
  have D4:=og.af _ _ D3
  have s4:=Bg.trans og
  generalize upd H3 tp (.lst [])=H4 at og et NL NI D4 s4 ⊢
  -- the while
  refine ⟨λm σ H5=>∃ lp rp hs zs rows us bs v5 v6,m=hs.length/\σ = [some (.ref a),some (.ref wp),some (.ref lp),some (.ref rp),some (.ref tp),v5,v6]/\aD H H5/\lp≠tp/\rp≠tp/\H5 lp=some (.lst (hs.map V.int))/\H5 rp=some (.lst zs)/\H5 tp=some (.lst us)/\aP K H5 (rows.map pD) zs/\aP K H5 (bs.map tX) us/\us.length+hs.length<=6/\hs.Nodup/\dZ hs rows/\vj rows/\rows.length<=12/\∀ iM,dX hs rows iM->dX (aQ n.toNat) (ws.zip wt) (bs++iM),
   ⟨_,lp,rp,aQ n.toNat,zs,ws.zip wt,[],[],none,none,rfl,rfl,s4,nl,nr,NL,NI,et,D4,aN.mpr rfl,by rw [bW]; show 0+_<=6; omega,rA _,RO,RS,RL,λiM h=>h⟩,?_⟩
  rintro m σ H5 ⟨lp,rp,hs,zs,rows,us,bs,v5,v6,rfl,rfl,s5,nl,nr,el,er,et,DR,DB,hlen,uz,RO,RS,RL,yu⟩
  refine ⟨_,rfl,!(hs.map V.int).isEmpty,.inl ⟨_,ai.of el,rfl⟩,?_⟩
  by_cases br:hs = []
  ·subst br
   refine iS ?_
   refine ⟨_,rfl,k tp us bs H5 s5 FV et DB ?_ (by simpa using hlen)⟩
   have:=yu [] rfl
   rwa [Xl] at this
  ·refine OF (by cases hs with
    | nil=>exact absurd rfl br
    | cons _ _=>rfl) ?_
   refine ⟨λar H'=>∃ m',m' < hs.length/\∃ lp rp hs zs rows us bs v5 v6,m'=Ym hs/\ar = [some (.ref a),some (.ref wp),some (.ref lp),some (.ref rp),some (.ref tp),v5,v6]/\aD H H'/\lp≠tp/\rp≠tp/\H' lp=some (.lst (hs.map V.int))/\H' rp=some (.lst zs)/\H' tp=some (.lst us)/\aP K H' (rows.map pD) zs/\aP K H' (bs.map tX) us/\us.length+hs.length<=6/\hs.Nodup/\dZ hs rows/\vj rows/\rows.length<=12/\∀ iM,dX hs rows iM->dX (aQ n.toNat) (ws.zip wt) (bs++iM),λar H' z=>z,?_⟩
   refine ⟨_,rfl,_,rfl,lp,rp,hs,zs,rows,rfl,ai.of el,ai.of er,DR,by omega,RL,RS,λp q c mm H6 s6 hp hq D7=>?_⟩
   have HV:=A? uz RO br D7
   obtain ⟨c1,c2,c3,_⟩:=id HV
   have cl:c.length<=6:=by rw [c2]; exact Qw (Ji _ _) (by omega)
   have c0:0 < c.length:=Jj.mpr c1
   refine ⟨p,_,rfl,hp,rfl,_,_,rfl,_,_,rfl,rfl,?_⟩
   refine ⟨_,rfl,.inl ⟨rfl,_,ai.of (s6 _ _ et)⟩,_,rfl,_,rfl,_,rfl,q,_,rfl,.inr hq,mm,_,rfl,by rw [Qa]; omega,?_,λpf US=>⟨bP (show 2<=1000 by decide),λpb ux=>?_⟩⟩
   ·rw [Qa]
    have:((c.length:Nat):Int)<=6:=by omega
    exact Zg this (by decide)
   -- told,one block more
   have LM:(((c.map V.int).length:Nat):Int)=c.length:=by rw [Qa]
   rw [LM] at ux ⊢
   have s7:=(aD.new (o:=.tup [.int (iV mm c.length),.int (gX mm c.length)]) US).trans (aD.new (o:=.tup [.ref q,.ref pf]) ux)
   have db:Den K (upd (upd H6 pf (.tup [.int (iV mm c.length),.int (gX mm c.length)])) pb (.tup [.ref q,.ref pf])) (tX (c,mm)) (.ref pb):=Z! (ah.of aB) (s7.ag hq) ((aD.new ux).ag (ah.of aB))
   generalize upd (upd H6 pf (.tup [.int (iV mm c.length),.int (gX mm c.length)])) pb (.tup [.ref q,.ref pf])=H7 at s7 db ⊢
   have Bf:=s6.trans s7
   have CQ:=Bf _ _ et
   refine ⟨tp,us,.ref pb,rfl,rfl,CQ,by rw [Rf]; omega,?_⟩
   have b8:bo tp H7 (upd H7 tp (.lst (us++[.ref pb]))):=bo.at
   have s8:aD H (upd H7 tp (.lst (us++[.ref pb]))):=w? (s5.trans Bf) FV
   have Ho:upd H7 tp (.lst (us++[.ref pb])) lp=_:=(aI nl).trans (Bf _ _ el)
   have Hm:upd H7 tp (.lst (us++[.ref pb])) rp=_:=(aI nr).trans (Bf _ _ er)
   have ET:upd H7 tp (.lst (us++[.ref pb])) tp=some (.lst (us++[.ref pb])):=aB
   have RG:=b8.af CQ _ _ (fX pD (λr=>aAB r.1 r.2) rows) (Bf.af _ _ DR)
   have RH:aP K (upd H7 tp (.lst (us++[.ref pb]))) ((bs++[(c,mm)]).map tX) (us++[.ref pb]):=by
    rw [Qp]
    exact bH (b8.af CQ _ _ (fX tX tY bs) (Bf.af _ _ DB)) (aL.mpr ⟨_,_,rfl,b8.den CQ _ _ (tY _) db,aN.mpr rfl⟩)
   have EB:=b8.ag CQ (s7.ag hq)
   generalize upd H7 tp (.lst (us++[.ref pb]))=H8 at s8 Ho Hm ET RG RH EB ⊢
   -- left
   refine ⟨_,rfl,lp,rfl,⟨_,ai.of Ho⟩,iF (K:=K) (a:=lp) (xs:=hs.map V.int) (λσ=>∃ v,σ = [v,some (.ref q)]) (λj ys H9=>aD H8 H9/\ys=((hs.take j).filter λh=>!ak c h).map V.int) (bP (by rw [Qa]; omega)) ⟨none,rfl⟩ ⟨aD.refl _,rfl⟩ ?_ (λj ys H9 ⟨s9,_⟩=>s9.b_ (ai.of Ho)) ?_ ?_⟩
   ·rintro j ys H9 ⟨_,rfl⟩
    rw [Qa]
    exact Qw (Ji _ _) (by rw [Qy]; exact Xo _ _)
   ·rintro j ys σ y H9 hy ⟨v,rfl⟩ ⟨s9,rfl⟩ hz
    rw [Qe] at hy
    obtain ⟨h,hh,rfl⟩:=Ja.mp hy
    refine ⟨_,rfl,_,rfl,q,c.map V.int,rfl,.inr (s9.ag EB),rfl,kM _,_,rfl,?_⟩
    have e:(!ma (.int h) (c.map V.int))=!ak c h:=tZ h c
    show if (!ma (.int h) (c.map V.int))=true then _ else _
    rw [e,cS hh,Xt,Qp]
    cases hc:ak c h with
    | false =>
     refine iE ⟨_,rfl,hz,⟨_,rfl⟩,s9,?_⟩
     rw [Qz,hc]; rfl
    | true =>
     refine iS ⟨⟨_,rfl⟩,s9,?_⟩
     rw [Qz,hc]
     show _=_++[]
     rw [Xl]
   ·rintro ys H9 ⟨s9,rfl⟩ l2 ly
    rw [Qa,Jt]
    have jb:=s9.trans (aD.new (o:=.lst ((hs.filter λh=>!ak c h).map V.int)) ly)
    have Es:l2≠tp:=λz=>by rw [z,s9 _ _ ET] at ly; cases ly
    have DM:upd H9 l2 (.lst ((hs.filter λh=>!ak c h).map V.int)) l2=_:=aB
    generalize upd H9 l2 (.lst ((hs.filter λh=>!ak c h).map V.int))=um at jb DM ⊢
    -- rows: those not within
    have o7:=aH DR
    rw [Qa] at o7
    refine ⟨_,rfl,rp,rfl,⟨_,ai.of (jb _ _ Hm)⟩,iF (K:=K) (a:=rp) (xs:=zs) (λσ=>∃ v w,σ = [v,w,some (.ref q)]) (λj ys o_=>aD um o_/\aP K o_ (((rows.take j).filter λr=>!(r.1.all (ak c))).map pD) ys) (bP (by omega)) ⟨none,none,rfl⟩ ⟨aD.refl _,aN.mpr rfl⟩ ?_ (λj ys o_ ⟨h8,_⟩=>h8.b_ (ai.of (jb _ _ Hm))) ?_ ?_⟩
    ·rintro j ys o_ ⟨_,Ai⟩
     rw [aH Ai,Qa]
     exact Qw (Ji _ _) (by rw [Qy]; exact Xo _ _)
    ·rintro j ys σ y o_ hy ⟨v,w,rfl⟩ ⟨h8,Ai⟩ hz
     have ym:=jb.trans h8
     obtain ⟨r,hr,Bs⟩:=cI (ym.af _ _ RG) hy
     obtain ⟨pp,pq,rfl,lr,t8⟩:=tU Bs
     obtain ⟨r6,_,_⟩:=RS r (Qg hr)
     refine ⟨pp,_,rfl,lr,rfl,_,_,rfl,_,_,rfl,rfl,?_⟩
     refine ⟨_,rfl,_,rfl,pq,q,r.1,c,rfl,t8,ym.ag EB,by omega,λqv fu=>⟨_,rfl,?_⟩⟩
     rw [cS hr,Xt,Qp]
     show if (!(r.1.all (ak c)))=true then _ else _
     cases hw:r.1.all (ak c) with
     | false =>
      refine iE ⟨_,rfl,_,rfl,bP (show 2<=1000 by decide),λpn mz=>⟨hz,⟨_,_,rfl⟩,h8.trans (fu.trans (aD.new mz)),?_⟩⟩
      refine bH ((fu.trans (aD.new mz)).af _ _ Ai) ?_
      rw [Qz,hw]
      exact aL.mpr ⟨_,_,rfl,pV (ah.of aB) ((fu.trans (aD.new mz)).ag t8),aN.mpr rfl⟩
     | true =>
      refine iS ⟨⟨_,_,rfl⟩,h8.trans fu,?_⟩
      rw [Qz,hw]
      show aP K _ (_++[]) _
      rw [Xl]
      exact fu.af _ _ Ai
    ·rintro ys o_ ⟨h8,Ai⟩ B6 Du
     rw [o7,Jt] at Ai
     have fu:=h8.trans (aD.new (o:=.lst ys) Du)
     have A1:upd o_ B6 (.lst ys) B6=some (.lst ys):=aB
     have EW:=(aD.new (o:=.lst ys) Du).af _ _ Ai
     generalize upd o_ B6 (.lst ys)=qv at fu A1 EW ⊢
     have Bn:=aH EW
     rw [Qa] at Bn
     have aad:ys.length<=12:=by rw [Bn]; exact Qw (Ji _ _) RL
     generalize ML:(rows.filter λr=>!(r.1.all (ak c)))=sd at EW Bn
     have RS1:∀ r∈sd,r.1.length<=6:=λr hr=>by rw [<- ML] at hr; exact (RS r (Jd.mp hr).1).1
     refine ⟨_,rfl,B6,rfl,⟨_,ai.of A1⟩,iF (K:=K) (a:=B6) (xs:=ys) (λσ=>∃ v w,σ = [v,w,some (.ref q)]) (λj zs yk=>aD qv yk/\aP K yk (((sd.take j).map λr=>(r.1.filter λh=>!ak c h,r.2)).map pD) zs) (bP (by omega)) ⟨none,none,rfl⟩ ⟨aD.refl _,aN.mpr rfl⟩ ?_ (λj zs yk ⟨g_,_⟩=>g_.b_ (ai.of A1)) ?_ ?_⟩
     ·rintro j zs yk ⟨_,Ah⟩
      rw [aH Ah,Qa,Qa,Qy]
      exact Xo _ _
     ·rintro j zs σ y yk hy ⟨v,w,rfl⟩ ⟨g_,Ah⟩ hz
      obtain ⟨r,hr,Bs⟩:=cI (g_.af _ _ EW) hy
      obtain ⟨pp,pq,rfl,lr,t8⟩:=tU Bs
      have hr6:=RS1 r (Qg hr)
      have sq:=(jb.trans fu).trans g_
      refine ⟨pp,_,rfl,lr,rfl,_,_,rfl,_,_,rfl,rfl,?_⟩
      refine ⟨_,rfl,pq,rfl,⟨_,t8⟩,gS (K:=K) (a:=pq) (xs:=r.1.map V.int) (λσ=>∃ v,σ = [v,some (.ref q)]) (λi as j_=>aD yk j_/\as=((r.1.take i).filter λh=>!ak c h).map V.int) (bP (by rw [Qa]; omega)) ⟨none,rfl⟩ ⟨aD.refl _,rfl⟩ ?_ (λi as j_ ⟨gz,_⟩=>gz.ag t8) ?_ ?_⟩
      ·rintro i as j_ ⟨_,rfl⟩
       rw [Qa]
       exact Qw (Ji _ _) (by rw [Qy]; exact Xo _ _)
      ·rintro i as σ y j_ hy ⟨v,rfl⟩ ⟨gz,rfl⟩ Cf
       rw [Qe] at hy
       obtain ⟨h,hh,rfl⟩:=Ja.mp hy
       refine ⟨_,rfl,_,rfl,q,c.map V.int,rfl,.inr ((sq.trans gz).ag EB),rfl,kM _,_,rfl,?_⟩
       have e:(!ma (.int h) (c.map V.int))=!ak c h:=tZ h c
       show if (!ma (.int h) (c.map V.int))=true then _ else _
       rw [e,cS hh,Xt,Qp]
       cases hc:ak c h with
       | false =>
        refine iE ⟨_,rfl,Cf,⟨_,rfl⟩,gz,?_⟩
        rw [Qz,hc]; rfl
       | true =>
        refine iS ⟨⟨_,rfl⟩,gz,?_⟩
        rw [Qz,hc]
        show _=_++[]
        rw [Xl]
      ·rintro as j_ ⟨gz,rfl⟩ pl jo
       rw [Qa,Jt]
       refine ⟨pl,_,rfl,.inl ⟨ai.of aB,λpt t7=>?_⟩⟩
       refine ⟨_,rfl,bP (show 2<=1000 by decide),λpn mz=>⟨hz,⟨_,_,rfl⟩,?_,?_⟩⟩
       ·exact g_.trans (gz.trans ((aD.new jo).trans ((aD.new t7).trans (aD.new mz))))
       ·rw [cS hr,Qp,Qp]
        refine bH ((gz.trans ((aD.new jo).trans ((aD.new t7).trans (aD.new mz)))).af _ _ Ah) ?_
        exact aL.mpr ⟨_,_,rfl,pV (ah.of aB) ((aD.new mz).ag (ah.of aB)),aN.mpr rfl⟩
     ·rintro KH yk ⟨g_,Ah⟩ K9 wc
      rw [Bn,Jt] at Ah
      have gz:=g_.trans (aD.new (o:=.lst KH) wc)
      have S0:K9≠tp:=λz=>by rw [z,((jb.trans fu).trans g_) _ _ ET] at wc; cases wc
      have sA:=jb.trans (fu.trans gz)
      have ax:(hs.filter λh=>!ak c h).length < hs.length:=by
       have e:hs.length=(hs.filter (ak c)).length+(hs.filter λh=>!ak c h).length:=by
        have:=pN c2 (λ_=>true)
        unfold gE at this
        rw [Ww.mpr (λa _=>by simp),Ww.mpr (λa _=>rfl)] at this
        rw [<- c2]; omega
       rw [<- c2] at e
       omega
      have eR:sd.map (λr=>(r.1.filter λh=>!ak c h,r.2))=bw rows c:=by rw [<- ML]; rfl
      rw [eR] at Ah
      refine ⟨_,ax,l2,K9,hs.filter λh=>!ak c h,KH,bw rows c,us++[.ref pb],bs++[(c,mm)],_,_,rfl,rfl,s8.trans sA,Es,S0,(fu.trans gz) _ _ DM,aB,sA _ _ ET,(aD.new wc).af _ _ Ah,sA.af _ _ RH,?_,uz.filter _,RO.bw,RS.bw,Qw (Q0 _ _) RL,λiM yr=>?_⟩
      ·rw [Qr,Xe]; omega
      ·rw [List.append_assoc]
       exact yu ((c,mm)::iM) ⟨HV,yr⟩
noncomputable def oZ (r:List (Key×V)) (n:Int):Prop:=∃ os:List Int,r.map (·.1)=os.map Sum.inl/\os.Nodup/\∀ o∈os,0<=o/\o < n
theorem oZ.nil {n:Int}:oZ [] n:=⟨[],rfl,Zy,λ_ h=>(Qn h).elim⟩
theorem oZ.len {n:Int} (h:oZ r n):r.length<=n.toNat:=by
 obtain ⟨os,e,nd,rg⟩:=h
 have:=congrArg Ym e
 rw [Qa,Qa] at this
 rw [this]
 exact iY _ _ nd λx hx=>by have:=rg x hx; omega
theorem oZ.key {n:Int} (h:oZ r n) {k:Key} (hk:(bV r k).isSome=true):∃ t,k=.inl t/\0<=t/\t < n:=by
 obtain ⟨os,e,nd,rg⟩:=h
 rw [<- eS,Xb] at hk
 obtain ⟨kv,h1,h2⟩:=hk
 have h3:kv.1∈r.map (·.1):=Jg.mpr ⟨kv,h1,rfl⟩
 rw [e] at h3
 obtain ⟨o,ho,he⟩:=Jg.mp h3
 exact ⟨o,by rw [<- of_decide_eq_true h2,<- he],rg o ho⟩
theorem oZ.put {n:Int} (h:oZ r n) {t:Int} (v:V) (h0:0<=t) (h1:t < n):oZ (fU r (.inl t) v) n:=by
 obtain ⟨os,e,nd,rg⟩:=h
 have mv:=rB e t
 by_cases c:t∈os
 ·refine ⟨os,?_,nd,rg⟩
  have:(fU r (.inl t) v).map (·.1)=r.map (·.1):=by
   unfold fU
   rw [eS,mv,decide_eq_true c,if_pos rfl,Xz]
   refine Yp λkv _=>?_
   show (if kv.1=Sum.inl t then _ else _:Key×V).1=kv.1
   split
   ·rfl
   ·rfl
  rw [this]; exact e
 ·have hv:bV r (.inl t)=none:=by
   rw [decide_eq_false c] at mv
   cases q:bV r (.inl t) with
   | none=>rfl
   | some v=>rw [q] at mv; cases mv
  refine ⟨os++[t],by rw [zO _ hv,Qp,Qp,e]; rfl,?_,λo ho=>?_⟩
  ·rw [Zl]
   exact ⟨nd,by simp,λx hx y hy z=>c (by rw [<- Qs.mp hy,<- z]; exact hx)⟩
  ·rcases Jo.mp ho with h | h
   ·exact rg o h
   ·rw [Qs.mp h]; exact ⟨h0,h1⟩
structure de (r:List (Key×V)) (f:Int->Int) (n:Nat):Prop where
 rn:oZ r (n+1)
 val:∀ h v,bV r (.inl h)=some v->v=.int (f h)
 bj:∀ h,bV r (.inl h)=none->f h=0
 FZ:(bV r (.inl (n:Int))).isSome=true
noncomputable def yE (cg:List (List (Key×V))) (hl:Nat->Int->Int) (n:Nat):Prop:=∀ w r,cg[w]?=some r->de r (hl w) n
structure vm (H:Hp) (tp:Addr) (jk:List Addr) (tk:List (List Int)):Prop where
 lst:H tp=some (.lst (jk.map V.ref))
 len:jk.length=tk.length
 row:∀ (w:Nat) q l,jk[w]?=some q->tk[w]?=some l->H q=some (.lst (l.map V.int))
theorem vm.same {tp:Addr} {jk:List Addr} (h:vm H tp jk tk) (s:aD H H'):vm H' tp jk tk:=⟨s _ _ h.lst,h.len,λw q l a b=>s _ _ (h.row w q l a b)⟩
theorem vm.but {tp:Addr} {jk:List Addr} (h:vm H tp jk tk) (s:bo t H H') (ht:∀ xs,H t≠some (.lst xs)):vm H' tp jk tk :=
 ⟨s _ _ (λz=>ht _ (z ▸ h.lst)) h.lst,h.len,λw q l a b=>s _ _ (λz=>ht _ (z ▸ h.row w q l a b)) (h.row w q l a b)⟩
theorem P? {w:Nat} (h:tk[w]?=some l):mV tk w=l:=by unfold mV; rw [Qx,h]; rfl
noncomputable def yF (K:Rb):Sp:=λvs H Q _=>∃ (tp hp:Addr) (jk ds:List Addr) (tk:List (List Int)) (cg:List (List (Key×V))) (hl:Nat->Int->Int) (n:Nat),vs = [.ref tp,.ref hp,.int ((n+1:Nat):Int)]/\vm H tp jk tk/\Rows H hp ds cg/\cg.length=tk.length/\yE cg hl n/\n < 100/\(∀ w,∀ h∈mV tk w,0<=h/\h < n) /\
 ∀ rp H' qs rs,aD H H'->Rows H' rp qs rs->rs.length=n+1->C3 (qx tk hl) rs 1000->Q (.ref rp) H'
theorem mR:ae ["takers", "held", "many", "rows", "work", "row", "giver", "taker"] ["takers", "held", "many"] (aF sP):=.of
theorem aEA (G:Fn K mg "handing_parts" sP ["takers", "held", "many"] f fd) (B:Bl mg):ab P w K mg base ao 1 f fd ["takers", "held", "many"] (yF K):=by
 refine G.fn.oK mR λa_ A outer s H vs Q E hr h=>?_
 ·obtain ⟨tp,hp,jk,ds,tk,cg,hl,n,rfl,L,D,fe,HO,hn,p8,k⟩:=h
  refine ⟨_,(aE (eL (i:=3) (own:=["hand"]) (fr:=[]) (a9:=[]) (aT (aF sP) ["takers", "held", "many", "rows", "work", "row", "giver", "taker"] rfl rfl (by decide +kernel)) rfl mR.nd rfl rfl rfl (eA rfl B.range (aA (pv 2) aC))
    (λ_ _ _ _=>(aJ (i:=0) (show (["hand"]:List Str).Nodup by decide +kernel) rfl (Or.inl rfl))) (λ_ _ _ _=>bZ)
    (λ_ _ _ _=>zS))
  (aE (eC PassesOwn.never rfl (aE8 .l rfl B.enumerate (aA (pv 1) aC)) (iC rfl (aR (aJ (i:=4) mR.nd rfl (Or.inl rfl)) (aR (aJ (i:=5) mR.nd rfl (Or.inl rfl)) cJ)))
   (aK (PV (eC PassesOwn.never rfl (xD (pv 5)) (aJ (i:=6) mR.nd rfl (Or.inl rfl))
   (aK (eJ (bG qA (kU (kF hr) (pv 5) (pv 6) (λ_ _=>rfl)) aM (bJ _))
   (aK (eC PassesOwn.never rfl (cK (aY cQ (pv 0) (pv 4) (λ_ _=>rfl))) (aJ (i:=7) mR.nd rfl (Or.inl rfl))
   (aK (qO (kF hr) (aY cQ (pv 3) (pv 6) (λ_ _=>rfl)) (pv 7) (pv 4) rfl))))
   bR))))))
  (aK (aW (pv 3))))),?_⟩
  refine ⟨_,rfl,_,rfl,by omega,by omega,gK (lo:=0) (n:=(((n+1:Nat):Int)).toNat) (λσ=>∃ v,σ = [v]) (λi zs H2=>∃ qs:List Addr,zs=qs.map V.ref/\qs.length=i/\aD H H2/\qs.Nodup/\∀ q∈qs,H q=none/\H2 q=some (.dK [])) ?_ ⟨none,rfl⟩ ⟨[],rfl,rfl,aD.refl H,Zy,λ_ h=>(Qn h).elim⟩ ?_ ?_ ?_⟩
  ·rw [Rf]; omega
  ·rintro i zs H2 ⟨qs,rfl,hq,_⟩
   rw [Qa]; omega
  ·rintro i zs σ H2 hi ⟨v,rfl⟩ ⟨qs,rfl,hq,s2,nd,ig⟩ hz
   refine eO ?_
   intro p hp
   refine ⟨hz,⟨_,rfl⟩,qs++[p],by rw [Qp]; rfl,by rw [Qr,hq]; rfl,s2.trans (aD.new hp),?_,λq Cp=>?_⟩
   ·rw [Zl]
    refine ⟨nd,by simp,λx hx y hy e=>?_⟩
    rw [Qs.mp hy] at e
    have:=(ig x hx).2
    rw [e,hp] at this; cases this
   ·rcases Jo.mp Cp with h | h
    ·exact ⟨(ig q h).1,(aD.new hp) _ _ (ig q h).2⟩
    ·rw [Qs.mp h]
     exact ⟨s2.free hp,aB⟩
  ·rintro zs H2 ⟨qs,rfl,hq,s2,nd,ig⟩ rp jn
   have eN:(((n+1:Nat):Int)).toNat=n+1:=by omega
   rw [eN] at hq
   have s3:=s2.trans (aD.new (o:=.lst (qs.map V.ref)) jn)
   have rh:H rp=none:=s2.free jn
   have R3:Rows (upd H2 rp (.lst (qs.map V.ref))) rp qs (List.replicate (n+1) []):=⟨aB,by rw [Xh]; exact hq,nd,λg q r h1 h2=>by
    rw [Xc] at h2
    split at h2
    ·rw [<- Option.some.inj h2]
     exact (aD.new jn) _ _ (ig q (Qg h1)).2
    ·cases h2⟩
   generalize upd H2 rp (.lst (qs.map V.ref))=H3 at s3 R3 ⊢
   have D3:=D.same s3
   refine ⟨_,rfl,hp,_,rfl,ai.of D3.lst,aDJ (K:=K) (k:=.l) (a:=hp) (xs:=ds.map V.ref)
    (λi σ H4=>(∃ v4 v5 v6 v7,σ = [some (.ref tp),some (.ref hp),some (.int ((n+1:Nat):Int)),some (.ref rp),v4,v5,v6,v7])/\aD H H4/\∃ rs,Rows H4 rp qs rs/\rs.length=n+1/\∀ (g:Nat) r,rs[g]?=some r->oZ r n/\oO (λw t=>w < i/\qx tk hl g w t) r)
    ⟨⟨_,_,_,_,rfl⟩,s3,_,R3,Xh,λg r hr=>?_⟩ (λ_ σ H4 _ ⟨_,s4,_⟩=>ai.of (s4 _ _ D.lst)) ?_ ?_⟩
   ·rw [Xc] at hr
    split at hr
    ·rw [<- Option.some.inj hr]
     exact ⟨oZ.nil,oO.nil λw t h=>by omega⟩
    ·cases hr
   ·rintro i x p σ H4 hx ⟨⟨v4,v5,v6,v7,rfl⟩,s4,rs,R4,qe,E4⟩ x8
    rw [Qe] at hx
    obtain ⟨d,hd,rfl⟩:=Ja.mp hx
    have hi:i < cg.length:=by rw [<- D.len]; exact (Qd.mp hd).1
    have p_:cg[i]?=some cg[i]:=Qc hi
    generalize cg[i]=r at p_
    have cb:=D.row i d r hd p_
    obtain ⟨UO,mj,J8,_⟩:=HO i r p_
    have sp:=aD.new (o:=.tup [.int (i:Nat),.ref d]) x8
    have ep:upd H4 p (.tup [.int (i:Nat),.ref d]) p=some (.tup [.int (i:Nat),.ref d]):=aB
    have s5:=s4.trans sp
    have R5:=R4.same sp
    generalize upd H4 p (.tup [.int (i:Nat),.ref d])=H5 at sp ep s5 R5 ⊢
    refine ⟨p,_,rfl,ah.of ep,rfl,_,_,rfl,_,_,rfl,rfl,?_⟩
    have ax:i < tk.length:=by rw [<- fe]; exact hi
    have Bw:tk[i]?=some tk[i]:=Qc ax
    generalize tk[i]=l at Bw
    have Hl:=P? Bw
    have UE:i < jk.length:=by rw [L.len]; exact ax
    have Cn:jk[i]?=some jk[i]:=Qc UE
    generalize jk[i]=tq at Cn
    have LJ:=L.row i tq l Cn Bw
    have o6:∀ xs,H d≠some (.lst xs):=λxs z=>by rw [cb] at z; cases z
    have FY:∀ q∈qs,q≠d:=λq hq z=>by have:=(ig q hq).1; rw [z,cb] at this; cases this
    have Lc:rp≠d:=λz=>by rw [z,cb] at rh; cases rh
    refine ⟨_,rfl,d,r,rfl,s5 _ _ cb,λo nf=>?_⟩
    have z6:upd H5 d (.c_ o (.dK r)) d=some (.c_ o (.dK r)):=aB
    have b6:bo d H (upd H5 d (.c_ o (.dK r))):=λb u nb hb=>by rw [aI nb]; exact s5 _ _ hb
    have R6:Rows (upd H5 d (.c_ o (.dK r))) rp qs rs:=⟨by rw [aI Lc]; exact R5.lst,R5.len,R5.nd,λg q r' a b=>by rw [aI (FY q (Qg a))]; exact R5.row g q r' a b⟩
    generalize upd H5 d (.c_ o (.dK r))=H6 at z6 b6 R6 ⊢
    refine zU (a:=d) (o:=o) (kvs:=r) (λj σ H7=>(∃ v6 v7,σ = [some (.ref tp),some (.ref hp),some (.int ((n+1:Nat):Int)),some (.ref rp),some (.int (i:Nat)),some (.ref d),v6,v7])/\H7 d=some (.c_ o (.dK r))/\bo d H H7/\∃ rs,Rows H7 rp qs rs/\rs.length=n+1/\∀ (g:Nat) r',rs[g]?=some r'->oZ r' n/\oO (λw t=>(w < i/\qx tk hl g w t)∨(w=i/\0 < hl i g/\t∈l/\∃ (j':Nat) (kv:Key×V),j' < j/\r[j']?=some kv/\kv.1=.inl (g:Int))) r')
     ⟨⟨_,_,rfl⟩,z6,b6,rs,R6,qe,λg r' i7=>⟨(E4 g r' i7).1,(E4 g r' i7).2.congr λw t=>⟨.inl,λz=>z.elim id λ⟨_,_,_,j',_,hj,_⟩=>by omega⟩⟩⟩ (λj σ H7 _ ⟨_,h,_⟩=>h) ?_ ?_
    ·rintro j ⟨key,val⟩ σ H7 hj ⟨⟨v6,v7,rfl⟩,z7,b7,rs,R7,Cs,E7⟩
     have sf:(bV r key).isSome=true:=by
      rw [<- eS,Xb]
      exact ⟨_,Qg hj,by simp⟩
     obtain ⟨gv,rfl,GY,VI⟩:=UO.key sf
     obtain ⟨vv,Lz⟩:∃ v,bV r (.inl gv)=some v:=by
      cases q:bV r (.inl gv) with
      | none=>rw [q] at sf; cases sf
      | some v=>exact ⟨v,rfl⟩
     have ev:=mj gv vv Lz
     subst ev
     dsimp only [kV]
     have cq:((gv.toNat:Nat):Int)=gv:=by omega
     refine ⟨_,rfl,_,rfl,d,.int (hl i gv),rfl,.inl ⟨r,.inl gv,.inr ⟨o,z7⟩,rfl,Lz.symm⟩,_,_,rfl,rfl,_,rfl,?_⟩
     have grow:∀ (g:Nat) (w:Nat) (t:Int),((w < i/\qx tk hl g w t)∨(w=i/\0 < hl i g/\t∈l/\∃ (j':Nat) (kv:Key×V),j' < j+1/\r[j']?=some kv/\kv.1=.inl (g:Int))) ↔
       (((w < i/\qx tk hl g w t)∨(w=i/\0 < hl i g/\t∈l/\∃ (j':Nat) (kv:Key×V),j' < j/\r[j']?=some kv/\kv.1=.inl (g:Int)))∨(w=i/\(g:Int)=gv/\0 < hl i gv/\t∈l)):=λg w t=>by
      constructor
      ·rintro (z | ⟨z1,z2,z3,j',kv,z4,z5,z6⟩)
       ·exact .inl (.inl z)
       ·by_cases c:j' < j
        ·exact .inl (.inr ⟨z1,z2,z3,j',kv,c,z5,z6⟩)
        ·have ej:j'=j:=by omega
         rw [ej,hj] at z5
         have ek:(Sum.inl gv,val)=kv:=Option.some.inj z5
         have eg:gv=(g:Int):=by rw [<- ek] at z6; simpa using z6
         exact .inr ⟨z1,eg.symm,by rw [eg]; exact z2,z3⟩
      ·rintro ((z | ⟨z1,z2,z3,j',kv,z4,z5,z6⟩) | ⟨z1,z2,z3,z4⟩)
       ·exact .inl z
       ·exact .inr ⟨z1,z2,z3,j',kv,by omega,z5,z6⟩
       ·exact .inr ⟨z1,by rw [z2]; exact z3,z4,j,_,by omega,hj,by rw [z2]⟩
     refine gC (λc=>?_) (λc=>?_)
     ·have jg:0 < hl i gv:=of_decide_eq_true c
      have L7:=L.but b7 o6
      have Kb:=L7.row i tq l Cn Bw
      refine ⟨_,rfl,_,rfl,tp,_,_,_,rfl,rfl,ai.of L7.lst,cM (by rw [Qe,Cn]; rfl),tq,rfl,⟨_,ai.of Kb⟩,gO (K:=K) (a:=tq) (xs:=l.map V.int) (λm σ H8=>(∃ v7,σ = [some (.ref tp),some (.ref hp),some (.int ((n+1:Nat):Int)),some (.ref rp),some (.int (i:Nat)),some (.ref d),some (.int gv),v7])/\H8 d=some (.c_ o (.dK r))/\bo d H H8/\∃ rs,Rows H8 rp qs rs/\rs.length=n+1/\∀ (g:Nat) r',rs[g]?=some r'->oZ r' n/\oO (λw t=>((w < i/\qx tk hl g w t)∨(w=i/\0 < hl i g/\t∈l/\∃ (j':Nat) (kv:Key×V),j' < j/\r[j']?=some kv/\kv.1=.inl (g:Int)))∨(w=i/\(g:Int)=gv/\t∈l.take m)) r')
       ⟨⟨_,rfl⟩,z7,b7,rs,R7,Cs,λg r' i7=>⟨(E7 g r' i7).1,(E7 g r' i7).2.congr λw t=>⟨.inl,λz=>z.elim id λz=>by rw [Zz] at z; exact (Qn z.2.2).elim⟩⟩⟩ (λ_ σ H8 _ ⟨_,_,b8,_⟩=>ai.of ((L.but b8 o6).row i tq l Cn Bw)) ?_ ?_⟩
      ·rintro m tv σ H8 Gg ⟨⟨v7,rfl⟩,z8,b8,rs,R8,zu,E8⟩
       obtain ⟨t,ht,rfl⟩:=jU Gg
       obtain ⟨t0,t1⟩:=p8 i t (by rw [Hl]; exact Qg ht)
       have vc:gv.toNat < qs.length:=by rw [hq]; omega
       have uw:qs[gv.toNat]?=some qs[gv.toNat]:=Qc vc
       generalize qs[gv.toNat]=qg at uw
       have zq:rs[gv.toNat]?=some rs[gv.toNat]:=Qc (by rw [zu]; omega)
       generalize rs[gv.toNat]=rg at zq
       have jz:g9 (qs.map V.ref) gv=some (.ref qg):=by
        have:=cM (xs:=qs.map V.ref) (j:=gv.toNat) (v:=.ref qg) (by rw [Qe,uw]; rfl)
        rwa [cq] at this
       have DY:=R8.row _ _ _ uw zq
       obtain ⟨MS,WB⟩:=E8 _ _ zq
       have RQ:=MS.len
       have Gn:=(ig qg (Qg uw)).1
       have S9:=FY qg (Qg uw)
       refine ⟨_,rfl,_,rfl,_,rfl,rp,_,gv,_,rfl,rfl,ai.of R8.lst,jz,_,rfl,qg,_,rfl,vA.k (k:=.inl t) DY (by rw [Rf]; omega),?_⟩
       refine ⟨⟨_,rfl⟩,by rw [aI (Ne.symm S9)]; exact z8,λb u nb hb=>by rw [aI (λz=>by rw [z,Gn] at hb; cases hb)]; exact b8 b u nb hb,rs.set gv.toNat (fU rg (.inl t) (.int (i:Nat))),R8.put uw zq,by rw [Xn]; exact zu,λg2 r2 dk=>?_⟩
       rw [Xk] at dk
       by_cases eg:gv.toNat=g2
       ·rw [if_pos eg,if_pos (by rw [zu]; omega)] at dk
        cases dk
        have Hq:((g2:Nat):Int)=gv:=by omega
        refine ⟨MS.put _ t0 t1,(WB.put i t).congr λw t'=>?_⟩
        rw [cq,Hq,cS ht]
        constructor
        ·rintro ((z | ⟨z1,z2,z3⟩) | ⟨z1,z2⟩)
         ·exact .inl z
         ·exact .inr ⟨z1,rfl,Jv _ z3⟩
         ·exact .inr ⟨z1,rfl,by rw [z2]; simp⟩
        ·rintro (z | ⟨z1,z2,z3⟩)
         ·exact .inl (.inl z)
         ·rcases Jo.mp z3 with z3 | z3
          ·exact .inl (.inr ⟨z1,rfl,z3⟩)
          ·exact .inr ⟨z1,Qs.mp z3⟩
       ·rw [if_neg eg] at dk
        refine ⟨(E8 _ _ dk).1,(E8 _ _ dk).2.congr λw t'=>?_⟩
        have ng:¬ ((g2:Nat):Int)=gv:=by omega
        exact ⟨λz=>z.elim .inl λz=>absurd z.2.1 ng,λz=>z.elim .inl λz=>absurd z.2.1 ng⟩
      ·rintro σ H8 ⟨⟨v7,rfl⟩,z8,b8,rs,R8,zu,E8⟩
       refine ⟨⟨_,_,rfl⟩,z8,b8,rs,R8,zu,λg r' i7=>⟨(E8 g r' i7).1,(E8 g r' i7).2.congr λw t=>?_⟩⟩
       rw [Qa,Jt,grow]
       exact ⟨λz=>z.elim .inl λ⟨a,b,c⟩=>.inr ⟨a,b,jg,c⟩,λz=>z.elim .inl λ⟨a,b,_,c⟩=>.inr ⟨a,b,c⟩⟩
     ·have jg:¬ 0 < hl i gv:=λz=>c (decide_eq_true z)
      refine ⟨⟨_,_,rfl⟩,z7,b7,rs,R7,Cs,λg r' i7=>⟨(E7 g r' i7).1,(E7 g r' i7).2.congr λw t=>?_⟩⟩
      rw [grow]
      exact ⟨.inl,λz=>z.elim id λz=>absurd z.2.2.1 jg⟩
    ·rintro σ H7 ⟨⟨v6,v7,rfl⟩,z7,b7,rs,R7,Cs,E7⟩
     refine ⟨d,o,r,z7,nf,?_⟩
     have s8:aD H (upd H7 d (.dK r)):=λb u hb=>by
      by_cases Aa:b=d
      ·rw [Aa] at hb ⊢
       rw [aB,<- cb]; exact hb
      ·rw [aI Aa]; exact b7 b u Aa hb
     refine ⟨⟨_,_,_,_,rfl⟩,s8,rs,⟨by rw [aI Lc]; exact R7.lst,R7.len,R7.nd,λg q r' a b=>by rw [aI (FY q (Qg a))]; exact R7.row g q r' a b⟩,Cs,λg r' i7=>⟨(E7 g r' i7).1,(E7 g r' i7).2.congr λw t=>?_⟩⟩
     constructor
     ·rintro (⟨z1,z2⟩ | ⟨z1,z2,z3,_⟩)
      ·exact ⟨by omega,z2⟩
      ·rw [z1]; exact ⟨by omega,ax,z2,by rw [Hl]; exact z3⟩
     ·rintro ⟨z1,z2,z3,z4⟩
      by_cases hw:w < i
      ·exact .inl ⟨hw,z2,z3,z4⟩
      ·have ew:w=i:=by omega
       subst ew
       have hs:(bV r (.inl (g:Int))).isSome=true:=by
        cases q:bV r (.inl (g:Int)) with
        | none=>rw [J8 _ q] at z3; omega
        | some v=>rfl
       rw [<- eS,Xb] at hs
       obtain ⟨kv,LV,GJ⟩:=hs
       obtain ⟨j',u9⟩:=Qv.mp LV
       exact .inr ⟨rfl,z3,by rw [Hl] at z4; exact z4,j',kv,(Qd.mp u9).1,u9,of_decide_eq_true GJ⟩
   ·rintro σ H4 ⟨⟨v4,v5,v6,v7,rfl⟩,s4,rs,R4,qe,E4⟩
    refine ⟨_,rfl,k rp H4 qs rs s4 R4 qe λg r hr=>⟨(E4 g r hr).2.congr λw t=>⟨λz=>z.2,λz=>⟨?_,z⟩⟩,?_⟩⟩
    ·rw [Qa,D.len,fe]; exact z.1
    ·have:=(E4 g r hr).1.len; omega
theorem de.put {f:Int->Int} (h:de r f n) {t:Int} (x:Int) (h0:0<=t) (h1:t<=n):de (fU r (.inl t) (.int x)) (λh=>if h=t then x else f h) n:=by
 have ne:∀ {h:Int},¬ h=t->¬ (Sum.inl h:Key)=Sum.inl t:=λc z=>c (by simpa using z)
 refine ⟨h.rn.put _ h0 (by omega),λh' v hv=>?_,λh' hv=>?_,?_⟩
 ·rw [jE] at hv
  by_cases c:h'=t
  ·rw [if_pos (by rw [c])] at hv
   rw [if_pos c]
   exact (Option.some.inj hv).symm
  ·rw [if_neg (ne c)] at hv
   rw [if_neg c]
   exact h.val h' v hv
 ·rw [jE] at hv
  by_cases c:h'=t
  ·rw [if_pos (by rw [c])] at hv; cases hv
  ·rw [if_neg (ne c)] at hv
   rw [if_neg c]
   exact h.bj h' hv
 ·rw [jE]
  by_cases c:(n:Int)=t
  ·rw [if_pos (by rw [c])]; rfl
  ·rw [if_neg (ne c)]; exact h.FZ
theorem de.congr {f g:Int->Int} (h:de r f n) (e:∀ x,f x=g x):de r g n:=⟨h.rn,λx v q=>by rw [h.val x v q,e],λx q=>by rw [<- e]; exact h.bj x q,h.FZ⟩
theorem de.get {f:Int->Int} (h:de r f n) (x:Int):(bV r (.inl x)).getD (.int 0)=.int (f x):=by
 cases q:bV r (.inl x) with
 | none=>rw [h.bj x q]; rfl
 | some v=>rw [h.val x v q]; rfl
theorem de.pos {f:Int->Int} (h:de r f n) {x:Int} (hx:f x≠0):bV r (.inl x)=some (.int (f x)):=by
 cases q:bV r (.inl x) with
 | none=>exact absurd (h.bj x q) hx
 | some v=>rw [h.val x v q]
theorem de.JL {f:Int->Int} (h:de r f n):bV r (.inl (n:Int))=some (.int (f n)):=by
 cases q:bV r (.inl (n:Int)) with
 | none=>have:=h.FZ; rw [q] at this; cases this
 | some v=>rw [h.val n v q]
noncomputable def km (l:List Int):Nat->Int:=λw=>l.getD w 0
noncomputable def jq (l:List Int):Int->Int:=λh=>l.getD h.toNat 0
theorem yG {x:Int} (h:l[i]?=some x):km l i=x:=by unfold km; rw [Qx,h]; rfl
theorem O_ (h:∀ x∈l,0<=x) (i:Nat):0<=km l i:=by
 cases q:l[i]? with
 | none=>unfold km; rw [Qx,q]; exact Je _
 | some x=>rw [yG q]; exact h x (Qg q)
structure xb (n:Nat) (tk:List (List Int)) (am rm:List Int) (H H':Hp) (mp hp:Addr) (ds:List Addr) (rl:List Int) (cg:List (List (Key×V))) (hl:Nat->Int->Int) (room:Int->Int):Prop where
 same:aD H H'
 lst:H' mp=some (.lst (rl.map V.int))
 len:rl.length=n+1
 Eo:∀ i:Nat,i < n->rl[i]?=some (room i)
 rn:rl[n]?=some 0
 rows:Rows H' hp ds cg
 hlen:cg.length=tk.length
 held:yE cg hl n
 y8:Aq n tk (km am) (jq rm) hl room
noncomputable def uA (K:Rb):Sp:=λvs H Q _=>∃ (tp ap mp:Addr) (jk:List Addr) (tk:List (List Int)) (am rm:List Int) (n:Nat),vs = [.ref tp,.ref ap,.ref mp]/\vm H tp jk tk/\ai K H ap (am.map V.int)/\H mp=some (.lst (rm.map V.int))/\am.length=tk.length/\rm.length=n/\n < 100/\tk.length<=100/\(∀ x∈am,0<=x)/\(∀ x∈rm,0<=x)/\(∀ w,∀ h∈mV tk w,0<=h/\h < n)/\HP n tk (km am) (jq rm) /\
 ∀ hp ds cg hl H',aD H H'->Rows H' hp ds cg->cg.length=tk.length->yE cg hl n->xa n tk (km am) (jq rm) hl->Q (.ref hp) H'
theorem gA:ae ["takers", "amounts", "rooms", "nobody", "held", "found", "last", "some", "units", "work", "giver", "taker"] ["takers", "amounts", "rooms"] (aF jR):=.of
theorem aC3 {fR:Addr} {dR:FuncData} (G:Fn K mg "spread" jR ["takers", "amounts", "rooms"] f fd) (B:Bl mg) (GR:Fn K mg "reached" lY ["rows", "first"] fR dR) (OR:ab P w K mg base ao 1 fR dR ["rows", "first"] (mO K)) (GWy:Fn K mg "way_to" sM ["found", "last"] fW dW) (IS:ab P w K mg base ao 1 fW dW ["found", "last"] (rC K)) (JD:Fn K mg "handing_parts" sP ["takers", "held", "many"] fH dH) (IY:ab P w K mg base ao 1 fH dH ["takers", "held", "many"] (yF K)):ab P w K mg base ao 2 f fd ["takers", "amounts", "rooms"] (uA K):=by
 refine G.fn.oK gA λa_ A outer s H vs Q E hr h=>?_
 ·obtain ⟨tp,ap,Lp,jk,tk,am,rm,n,rfl,L,o9,Dy,G4,Br,hn,htl,V1,UP,p8,jj,k⟩:=h
  have r1:au 1 _:=hr
  refine ⟨_,(aE (aU (i:=3) gA.nd rfl (Or.inr rfl) (aO aX rfl B.len eF (aA (pv 2) aC)))
  (aE (aU (i:=2) gA.nd rfl (Or.inr rfl) (bC rN (pv 2) (dY (aA aM aC))))
  (aE (aU (i:=4) gA.nd rfl (Or.inr rfl) (bK (own:=["amount"]) (fr:=[3]) (a9:=["nobody"]) (aT (aF jR) ["takers", "amounts", "rooms", "nobody", "held", "found", "last", "some", "units", "work", "giver", "taker"] rfl rfl (by decide +kernel)) rfl (cK (pv 1))
    (λ_ _ _ _=>(aJ (i:=0) (show (["amount", "nobody"]:List Str).Nodup by decide +kernel) rfl (Or.inl rfl))) (λ_ _ _ _=>bZ)
    (λ_ _ _ _=>(zV (pv 1) (pv 0)))))
  (aE (kD PassesOwn.never (cT (aO (zM rfl) rfl B.any OE (aA (bK (own:=["row"]) (fr:=[3]) (a9:=["nobody"]) (aT (aF jR) ["takers", "amounts", "rooms", "nobody", "held", "found", "last", "some", "units", "work", "giver", "taker"] rfl rfl (by decide +kernel)) rfl (cK (pv 4))
    (λ_ _ _ _=>(aJ (i:=0) (show (["row", "nobody"]:List Str).Nodup by decide +kernel) rfl (Or.inl rfl))) (λ_ _ _ _=>bZ)
    (λ_ _ _ _=>(gQ qA (kU (kF hr) (pv 0) (pv 1) (λ_ _=>rfl)) aM (bJ _)))) aC)))
   (aE (aU (i:=5) gA.nd rfl (Or.inl rfl) (bA GR OR r1 rfl (aA (bA JD IY r1 rfl (aA (pv 0) (aA (pv 4) (aA (aO aX rfl B.len eF (aA (pv 2) aC)) aC)))) (aA (pv 3) aC))))
  (aE (aU (i:=6) gA.nd rfl (Or.inl rfl) (aY cQ (aDV (own:=["hand"]) (fr:=[2]) (a9:=["rooms"]) (aT (aF jR) ["takers", "amounts", "rooms", "nobody", "held", "found", "last", "some", "units", "work", "giver", "taker"] rfl rfl (by decide +kernel)) rfl (pv 5)
    (λ_ _ _ _=>(aJ (i:=0) (show (["hand", "rooms"]:List Str).Nodup by decide +kernel) rfl (Or.inl rfl))) (λ_ _ _ _=>lT (bG qA (aY (oE (K:=K) rfl) (pv 1) (pv 0) (λ_ _=>rfl)) aM (bJ _)))
    (λ_ _ _ _=>(pv 0))) aM (λ_ _=>rfl)))
  (aE (aU (i:=7) gA.nd rfl (Or.inl rfl) (bA GWy IS r1 rfl (aA (pv 5) (aA (pv 6) aC))))
  (aE (aU (i:=8) gA.nd rfl (Or.inl rfl) (aO (aCx rfl) rfl B.min HX (aA (bC rN (dY (aA (aY cQ (pv 2) (pv 6) (λ_ _=>rfl)) aC)) (bK (own:=["work", "giver", "taker"]) (fr:=[4]) (a9:=["held"]) (aT (aF jR) ["takers", "amounts", "rooms", "nobody", "held", "found", "last", "some", "units", "work", "giver", "taker"] rfl rfl (by decide +kernel)) rfl (cK (pv 7))
    (λ_ _ _ _=>(iU (K:=K) (n:=3) rfl rfl (aR (aJ (i:=0) (show (["work", "giver", "taker", "held"]:List Str).Nodup by decide +kernel) rfl (Or.inl rfl)) (aR (aJ (i:=1) (show (["work", "giver", "taker", "held"]:List Str).Nodup by decide +kernel) rfl (Or.inl rfl)) (aR (aJ (i:=2) (show (["work", "giver", "taker", "held"]:List Str).Nodup by decide +kernel) rfl (Or.inl rfl)) cJ))))) (λ_ _ _ _=>bZ)
    (λ_ _ _ _=>(kU (kF hr) (aY (oE (K:=K) rfl) (pv 3) (pv 0) (λ_ _=>rfl)) (pv 1) (λ_ _=>rfl))))) aC)))
  (aE (aEQ (pv 2) (pv 6) aDW (pv 8) d! nW)
  (aK (eC PassesOwn.never rfl (cK (pv 7)) (iC rfl (aR (aJ (i:=9) gA.nd rfl (Or.inl rfl)) (aR (aJ (i:=10) gA.nd rfl (Or.inl rfl)) (aR (aJ (i:=11) gA.nd rfl (Or.inl rfl)) cJ))))
   (aE (K? (kF hr) (aY cQ (pv 4) (pv 9) (λ_ _=>rfl)) (pv 10) (pv 8) b! (by intros; rfl))
  (aK (qO (kF hr) (aY cQ (pv 4) (pv 9) (λ_ _=>rfl)) (pv 11) (bC iD (lK Ii Uw Ip PR (aY cQ (pv 4) (pv 9) (λ_ _=>rfl)) (aA (pv 11) (aA aM aC))) (pv 8)) rfl)))))))))))
  (aK (aW (pv 4))))))),?_⟩
  refine ⟨_,rfl,Lp,_,rfl,.inl (ai.of Dy),?_⟩
  have DZ:(((rm.map V.int).length:Nat):Int)=(n:Int):=by rw [Qa,Br]
  rw [DZ]
  dsimp only [cU]
  refine ⟨_,rfl,l_ _,λpz Gr=>⟨Lp,pz,_,_,rfl,rfl,(aD.new Gr) _ _ Dy,aB,bP (by rw [Qa,Br]; show n+1<=1000; omega),λmp qd=>?_⟩⟩
  have s1:=(aD.new (o:=.lst [.int 0]) Gr).trans (aD.new (o:=.lst (rm.map V.int++[.int 0])) qd)
  have zb:H mp=none:=(aD.new (o:=.lst [.int 0]) Gr).free qd
  have em:upd (upd H pz (.lst [.int 0])) mp (.lst (rm.map V.int++[.int 0])) mp=some (.lst ((rm++[0]).map V.int)):=by rw [aB,Qp]; rfl
  generalize upd (upd H pz (.lst [.int 0])) mp (.lst (rm.map V.int++[.int 0]))=H1 at s1 em ⊢
  dsimp only [cU]
  -- held
  refine ⟨_,rfl,ap,rfl,⟨_,s1.b_ o9⟩,iF (K:=K) (a:=ap) (xs:=am.map V.int) (λσ=>∃ v,σ = [v,some (.int n)]) (λi zs H2=>∃ qs:List Addr,zs=qs.map V.ref/\qs.length=i/\aD H1 H2/\qs.Nodup/\∀ (j:Nat) q a,qs[j]?=some q->am[j]?=some a->H1 q=none/\H2 q=some (.dK [(.inl (n:Int),.int a)])) (bP (by rw [Qa]; omega)) ⟨none,rfl⟩ ⟨[],rfl,rfl,aD.refl _,Zy,λj q a h=>by simp at h⟩ ?_ (λi zs H2 ⟨_,_,_,s2,_⟩=>(s1.trans s2).b_ o9) ?_ ?_⟩
  ·rintro i zs H2 ⟨qs,rfl,hq,_⟩
   rw [Qa]; omega
  ·rintro i zs σ y H2 hy ⟨v,rfl⟩ ⟨qs,rfl,hq,s2,nd,ig⟩ hz
   obtain ⟨a,ha,rfl⟩:=jU hy
   refine eO ?_
   intro p hp
   refine ⟨_,rfl,_,rfl,.inl (n:Int),rfl,aB,?_⟩
   rw [wQ]
   refine ⟨hz,⟨_,rfl⟩,qs++[p],by rw [Qp]; rfl,by rw [Qr,hq]; rfl,s2.trans (aD.new hp),?_,λj q a' hj ve=>?_⟩
   ·rw [Zl]
    refine ⟨nd,by simp,λx hx y hy e=>?_⟩
    rw [Qs.mp hy] at e
    obtain ⟨j,hj⟩:=Qv.mp hx
    have ua:=(Qd.mp hj).1
    have qj:=(Qd.mp ha).1
    have:=(ig j x _ hj (Qc (show j < am.length by omega))).2
    rw [e,hp] at this; cases this
   ·by_cases c:j < qs.length
    ·rw [Jb c] at hj
     obtain ⟨h1,h2⟩:=ig j q a' hj ve
     exact ⟨h1,(aD.new hp) _ _ h2⟩
    ·rw [Jp (by omega)] at hj
     have qi:j - qs.length=0:=by
      have:=(Qd.mp hj).1
      simp at this; omega
     rw [qi] at hj
     have e1:p=q:=by simpa using hj
     have ej:j=i:=by omega
     rw [ej,ha] at ve
     have e2:a=a':=Option.some.inj ve
     rw [<- e1,<- e2]
     exact ⟨s2.free hp,aB⟩
  ·rintro zs H2 ⟨ds,rfl,fe,s2,XX,DF⟩ hp GQ
   rw [Qa] at fe
   have s3:=s2.trans (aD.new (o:=.lst (ds.map V.ref)) GQ)
   have AF:H1 hp=none:=s2.free GQ
   have nhp:H hp=none:=s1.free AF
   have Li:∀ d∈ds,H1 d=none:=λd hd=>by
    obtain ⟨j,hj⟩:=Qv.mp hd
    have ua:=(Qd.mp hj).1
    exact (DF j d _ hj (Qc (show j < am.length by omega))).1
   have n1:mp≠hp:=λz=>by rw [<- z,em] at AF; cases AF
   have n2:∀ d∈ds,d≠mp:=λd hd z=>by have:=Li d hd; rw [z,em] at this; cases this
   have I0:xb n tk am rm H (upd H2 hp (.lst (ds.map V.ref))) mp hp ds (rm++[0]) (am.map λa=>[(.inl (n:Int),.int a)]) (λw h=>if h=n then km am w else 0) (λh=>jq rm h):=by
    refine ⟨s1.trans s3,s3 _ _ em,by simp [Br],λi hi=>?_,?_,⟨aB,by rw [Qa]; exact fe,XX,λg q r h1 h2=>?_⟩,by rw [Qa]; exact G4,λw r hr=>?_,Ξ (O_ V1) (λh=>O_ UP _)⟩
    ·rw [Jb (by omega),Qc (show i < rm.length by omega)]
     congr 1
     show _=rm.getD ((i:Int)).toNat 0
     rw [Qx,show ((i:Int)).toNat=i by omega,Qc (show i < rm.length by omega)]
     rfl
    ·rw [Jp (by omega),Br,Qad]; rfl
    ·rw [Qe] at h2
     obtain ⟨a,ha,rfl⟩:=Ja.mp h2
     exact (aD.new GQ) _ _ (DF g q a h1 ha).2
    ·rw [Qe] at hr
     obtain ⟨a,ha,rfl⟩:=Ja.mp hr
     have ea:=yG ha
     have hv:∀ h:Int,bV [((Sum.inl (n:Int):Key),V.int a)] (.inl h)=if h=n then some (.int a) else none:=λh=>by
      by_cases c:h=n
      ·rw [if_pos c]; exact eE (by rw [c])
      ·have nz:¬ (Sum.inl (n:Int):Key)=Sum.inl h:=λz=>by
        have:(n:Int)=h:=by simpa using z
        exact c this.symm
       rw [if_neg c,eQ nz]; rfl
     refine ⟨⟨[(n:Int)],rfl,by simp,λo ho=>by rw [Qs.mp ho]; omega⟩,λh v q=>?_,λh q=>?_,by rw [hv,if_pos rfl]; rfl⟩
     ·rw [hv] at q
      by_cases c:h=n
      ·rw [if_pos c] at q ⊢
       rw [ea]; exact (Option.some.inj q).symm
      ·rw [if_neg c] at q; cases q
     ·rw [hv] at q
      by_cases c:h=n
      ·rw [if_pos c] at q; cases q
      ·rw [if_neg c]
   generalize upd H2 hp (.lst (ds.map V.ref))=H3 at s3 I0 ⊢
   dsimp only [cU]
   have JM:∀ d∈ds,H d=none:=λd hd=>s1.free (Li d hd)
   -- the while
   refine ⟨λm σ H4=>∃ rl cg hl room v5 v6 v7 v8 v9 v10 v11,m=(gZ hl tk.length n).toNat/\σ = [some (.ref tp),some (.ref ap),some (.ref mp),some (.int n),some (.ref hp),v5,v6,v7,v8,v9,v10,v11]/\xb n tk am rm H H4 mp hp ds rl cg hl room,
    ⟨_,_,_,_,_,none,none,none,none,none,none,none,rfl,rfl,I0⟩,?_⟩
   rintro m σ H4 ⟨rl,cg,hl,room,v5,v6,v7,v8,v9,v10,v11,rfl,rfl,I4⟩
   have wq:ds.length=tk.length:=by rw [I4.rows.len,I4.hlen]
   refine ⟨_,rfl,hp,rfl,⟨_,ai.of I4.rows.lst⟩,oC (K:=K) (a:=hp) (xs:=ds.map V.ref) (vs:=((List.range tk.length).map λw=>decide (0 < hl w n)).map V.bl) (λσ=>∃ v,σ = [v,some (.int n)]) (by rw [Qa]; omega) (by simp [wq]) (ai.of I4.rows.lst) ⟨none,rfl⟩ ?_ ?_⟩
   ·rintro i x v σ H5 hx hv ⟨v0,rfl⟩ s5 Q' k'
    rw [Qe] at hx
    obtain ⟨d,hd,rfl⟩:=Ja.mp hx
    have qj:i < tk.length:=by rw [<- wq]; exact (Qd.mp hd).1
    rw [Qe,Qe,Zq qj] at hv
    cases hv
    have GN:i < cg.length:=by rw [I4.hlen]; exact qj
    have p_:cg[i]?=some cg[i]:=Qc GN
    generalize cg[i]=r at p_
    have cb:=s5 _ _ (I4.rows.row i d r hd p_)
    exact ⟨_,rfl,_,rfl,d,.int (hl i n),rfl,.inl ⟨r,.inl n,.inl cb,rfl,((I4.held i r p_).JL).symm⟩,_,_,rfl,rfl,k' _ _ ⟨_,rfl⟩ (aD.refl _)⟩
   ·intro H5 s5 pb ux
    refine ⟨pb,_,rfl,ai.of aB,_,rfl,?_⟩
    have I6:xb n tk am rm H (upd H5 pb (.lst (((List.range tk.length).map λw=>decide (0 < hl w n)).map V.bl))) mp hp ds rl cg hl room:=by
     have s6:=s5.trans (aD.new (o:=.lst (((List.range tk.length).map λw=>decide (0 < hl w n)).map V.bl)) ux)
     exact ⟨I4.same.trans s6,s6 _ _ I4.lst,I4.len,I4.Eo,I4.rn,I4.rows.same s6,I4.hlen,I4.held,I4.y8⟩
    generalize upd H5 pb (.lst (((List.range tk.length).map λw=>decide (0 < hl w n)).map V.bl))=H6 at I6 ⊢
    refine gC (λc=>?_) (λc=>?_)
    ·have jg:0 < gZ hl tk.length n:=by
      obtain ⟨b,hb,jy⟩:=Xb.mp c
      obtain ⟨w,hw,rfl⟩:=Jg.mp hb
      have h1:hl w n<=gZ hl tk.length n:=iH (f:=λw=>hl w n) (λv _=>I6.y8.nn v n) hw
      have h2:0 < hl w n:=of_decide_eq_true jy
      omega
     refine ⟨λar H'=>∃ m',m' < (gZ hl tk.length n).toNat/\∃ rl cg hl room v5 v6 v7 v8 v9 v10 v11,m'=(gZ hl tk.length n).toNat/\ar = [some (.ref tp),some (.ref ap),some (.ref mp),some (.int n),some (.ref hp),v5,v6,v7,v8,v9,v10,v11]/\xb n tk am rm H H' mp hp ds rl cg hl room,λar H' z=>z,?_⟩
     have L6:=L.same I6.same
     have iu:∀ h:Int,0<=h->h < n->jq rl h=room h:=λh h0 h1=>by
      have:=I6.Eo h.toNat (by omega)
      rw [show ((h.toNat:Nat):Int)=h by omega] at this
      exact yG this
     have A_:jq rl n=0:=by
      have:=yG I6.rn
      show rl.getD ((n:Int)).toNat 0=0
      rw [show ((n:Int)).toNat=n by omega]
      exact this
     have DI:∀ h:Int,0<=h->h<=n->g9 (rl.map V.int) h=some (.int (jq rl h)):=λh h0 h1=>by
      have ax:h.toNat < rl.length:=by rw [I6.len]; omega
      have:=cM (xs:=rl.map V.int) (j:=h.toNat) (v:=.int (jq rl h)) (by unfold jq; rw [Qe,Qx,Qc ax]; rfl)
      rwa [show ((h.toNat:Nat):Int)=h by omega] at this
     -- found
     refine ⟨_,rfl,_,rfl,_,rfl,mp,_,rfl,.inl (ai.of I6.lst),tp,hp,jk,ds,tk,cg,hl,n,by rw [Qa,I6.len]; rfl,L6,I6.rows,I6.hlen,I6.held,hn,p8,λrp H7 qs rs s7 R7 UN E7=>?_⟩
     refine ⟨_,rfl,rp,(n:Int),qs,rs,(n:Int)+1,qx tk hl,rfl,R7,by rw [UN]; omega,E7,λg w t e=>?_,by omega,by omega,by omega,λgw H8 fs os s8 Cv e8 T8 C8=>?_⟩
     ·have:=p8 w t e.2.2; omega
     dsimp only [cU]
     have FK:=s7.trans s8
     have T8l:=T8.len
     have T8f:=T8.DK
     have TC:mp≠gw:=λz=>by have:=s7 _ _ I6.lst; rw [z,Cv] at this; cases this
     refine ⟨_,rfl,gw,fs,rfl,e8,λo=>aCI (a:=gw) (o:=o) (kvs:=fs) (λσ=>∃ v,σ = [v,some (.ref mp)]) (λi zs H9=>H9=upd H8 gw (.c_ o (.dK fs))/\zs=((os.take i).filter λh=>decide (0 < jq rl h)).map V.int) (bP (by omega)) ⟨_,rfl⟩ ⟨rfl,rfl⟩ (λi zs H9 z=>?_) (λi zs H9 z=>by rw [z.1]; exact aB) ?_ ?_⟩
     ·rw [z.2,Qa]
      exact Qw (Ji _ _) (by rw [Qy]; omega)
     ·rintro i y3 σ p H9 Gx ⟨v,rfl⟩ ⟨rfl,rfl⟩ hsz
      obtain ⟨ov,LH,UT⟩:∃ ov,os[i]?=some ov/\p.1=.inl ov:=by
       have e:=congrArg (λl=>l[i]?) T8.keys
       simp only [Qe] at e
       rw [Gx] at e
       cases q:os[i]? with
       | none=>rw [q] at e; cases e
       | some ov=>rw [q] at e; exact ⟨ov,rfl,Option.some.inj e⟩
      have UY:=T8.jm ov (Qg LH)
      rw [UT]
      refine ⟨_,rfl,_,rfl,mp,_,ov,_,rfl,rfl,ai.of (by rw [aI TC]; exact FK _ _ I6.lst),DI ov UY.1 (by omega),_,_,rfl,rfl,_,rfl,?_⟩
      rw [cS LH,Xt,Qp]
      cases hc:decide (0 < jq rl ov) with
      | true =>
       refine iE ⟨_,rfl,hsz,⟨_,rfl⟩,rfl,?_⟩
       rw [Qz,hc]; rfl
      | false =>
       refine iS ⟨⟨_,rfl⟩,rfl,?_⟩
       rw [Qz,hc]
       show _=_++[]
       rw [Xl]
     ·rintro y3 H9 ⟨rfl,rfl⟩ lp di
      rw [T8f,Jt]
      obtain ⟨h1,U0,WJ,WH,WG⟩:=k? I6.y8 jj (os:=os) C8 (Qg T8.head) jg
      generalize iw:(os.filter λh=>decide (0 < jq rl h))=free
      have jh:∀ h,h∈free↔h∈os/\0 < jq rl h:=λh=>by rw [<- iw,Jd,decide_eq_true_iff]
      have Le:gw≠lp:=λz=>by rw [<- z,aB] at di; cases di
      have Kc:H8 lp=none:=by rw [aI (Ne.symm Le)] at di; exact di
      have s9:aD H8 (upd (upd (upd H8 gw (.c_ o (.dK fs))) lp (.lst (free.map V.int))) gw (.dK fs)):=λb u hb=>by
       by_cases Ac:b=gw
       ·rw [Ac] at hb ⊢
        rw [aB,<- e8]; exact hb
       ·rw [aI Ac,aI (λz=>by rw [z,Kc] at hb; cases hb),aI Ac]
        exact hb
      have Hn:upd (upd (upd H8 gw (.c_ o (.dK fs))) lp (.lst (free.map V.int))) gw (.dK fs) lp=some (.lst (free.map V.int)):=by rw [aI (Ne.symm Le),aB]
      generalize upd (upd (upd H8 gw (.c_ o (.dK fs))) lp (.lst (free.map V.int))) gw (.dK fs)=H9 at s9 Hn ⊢
      have e9:=s9 _ _ e8
      have T9:=T8.tp (Tp.of s9)
      cases ue:free with
      | nil =>
       have:h1∈free:=(jh h1).mpr ⟨U0,by rw [iu h1 WJ WH]; exact WG⟩
       rw [ue] at this; cases this
      | cons last iM =>
       rw [ue] at Hn
       obtain ⟨Bv,x_⟩:=(jh last).mp (by rw [ue]; exact Ql ..)
       have rj:=T8.jm last Bv
       have t_:last < n:=by
        have:last≠n:=λz=>by rw [z,A_] at x_; omega
        omega
       rw [iu last rj.1 t_] at x_
       obtain ⟨jl,ua⟩:=Qv.mp Bv
       refine ⟨lp,_,0,.int last,rfl,rfl,ai.of Hn,cM (xs:=(last::iM).map V.int) (j:=0) rfl,?_⟩
       dsimp only [cU]
       refine ⟨_,rfl,_,rfl,gw,last,fs,os,(n:Int),(n:Int)+1,qx tk hl,jl,rfl,e9,T9,by omega,ua,λsp um ps ss jb ie BJ IQ BR RE _ _=>?_⟩
       dsimp only [cU]
       have Ax:=FK.trans (s9.trans jb)
       have aaf:ss.length<=100:=by
        have h1:(n_ (n:Int) ss).length<=n+1:=iY (n+1) _ RE λx hx=>by
         rcases Qk.mp hx with rfl | hx
         ·omega
         ·obtain ⟨s,hs,rfl⟩:=Jg.mp hx
          obtain ⟨i,hi⟩:=Qv.mp hs
          have:=p8 _ _ ((jL BR).1 i s hi).2.1.2.2
          omega
        unfold n_ at h1
        rw [Jr,Qa] at h1
        omega
       have jo:=IQ.len
       -- units
       refine ⟨_,rfl,_,rfl,mp,_,last,_,rfl,rfl,ai.of (Ax _ _ I6.lst),DI last rj.1 (by omega),l_ _,λpl JZ=>?_⟩
       rw [iu last rj.1 t_]
       have sA:=aD.new (o:=.lst [.int (room last)]) JZ
       refine ⟨_,rfl,sp,rfl,⟨_,ai.of (sA _ _ BJ)⟩,oC (K:=K) (a:=sp) (xs:=ps.map V.ref) (vs:=(ss.map λs=>hl s.1 s.2.1).map V.int) (λσ=>∃ x y z,σ = [x,y,z,some (.ref hp)]) (by rw [Qa]; omega) (by simp [jo]) (ai.of (sA _ _ BJ)) ⟨none,none,none,rfl⟩ ?_ ?_⟩
       ·rintro i x v σ o_ hx hv ⟨x1,x2,x3,rfl⟩ h8 Q' k'
        rw [Qe] at hx
        obtain ⟨q,hq,rfl⟩:=Ja.mp hx
        have Gj:i < ss.length:=by rw [<- jo]; exact (Qd.mp hq).1
        have hs:=Qc Gj
        generalize ss[i]=st at hs
        rw [Qe,Qe,hs] at hv
        cases hv
        have Dm:=Ax.trans (sA.trans h8)
        obtain ⟨_,⟨hw,hg,ht⟩,_⟩:=(jL BR).1 i st hs
        have Gm:=(sA.trans h8) _ _ (IQ.at_ i q st hq hs)
        have Gd:st.1 < ds.length:=by rw [wq]; exact hw
        have hd:=Qc Gd
        generalize ds[st.1]=d at hd
        have Ck:st.1 < cg.length:=by rw [I6.hlen]; exact hw
        have hr:=Qc Ck
        generalize cg[st.1]=r at hr
        have cb:=Dm _ _ (I6.rows.row _ d r hd hr)
        refine ⟨q,_,rfl,ah.of Gm,rfl,_,_,rfl,_,_,rfl,_,_,rfl,rfl,?_⟩
        exact ⟨_,rfl,_,rfl,hp,_,_,_,rfl,rfl,ai.of (Dm _ _ I6.rows.lst),cM (by rw [Qe,hd]; rfl),_,rfl,d,.int (hl st.1 st.2.1),rfl,.inl ⟨r,.inl st.2.1,.inl cb,rfl,((I6.held _ r hr).pos (by omega)).symm⟩,k' _ _ ⟨_,_,_,rfl⟩ (aD.refl _)⟩
       ·intro o_ h8 pc Gv
        have sB:=h8.trans (aD.new (o:=.lst ((ss.map λs=>hl s.1 s.2.1).map V.int)) Gv)
        refine ⟨pl,pc,_,_,rfl,rfl,sB _ _ aB,aB,bP (by simp; omega),λpm zr=>?_⟩
        have sC:=sA.trans (sB.trans (aD.new (o:=.lst ([.int (room last)]++(ss.map λs=>hl s.1 s.2.1).map V.int)) zr))
        have Dv:upd (upd o_ pc (.lst ((ss.map λs=>hl s.1 s.2.1).map V.int))) pm (.lst ([.int (room last)]++(ss.map λs=>hl s.1 s.2.1).map V.int)) pm=some (.lst ((room last::ss.map λs=>hl s.1 s.2.1).map V.int)):=aB
        generalize upd (upd o_ pc (.lst ((ss.map λs=>hl s.1 s.2.1).map V.int))) pm (.lst ([.int (room last)]++(ss.map λs=>hl s.1 s.2.1).map V.int))=qv at sC Dv ⊢
        refine ⟨pm,_,rfl,ai.of Dv,by simp,λu Ge LC=>?_⟩
        dsimp only [cU]
        have u1:u<=room last:=LC _ (Ql ..)
        have u2:∀ s∈ss,u<=hl s.1 s.2.1:=λs hs=>LC _ (Qo _ (Jg.mpr ⟨s,hs,rfl⟩))
        have u0:0 < u:=by
         rcases Qk.mp Ge with rfl | Ge
         ·exact x_
         ·obtain ⟨s,hs,rfl⟩:=Jg.mp Ge
          obtain ⟨i,hi⟩:=Qv.mp hs
          exact ((jL BR).1 i s hi).2.1.2.1
        have Aw:=Ax.trans sC
        have A4:=Aw _ _ I6.lst
        have Ka:last.toNat < rl.length:=by rw [I6.len]; omega
        have vc:(rl.map V.int)[last.toNat]?=some (.int (room last)):=by
         rw [Qe,I6.Eo last.toNat (by omega),show ((last.toNat:Nat):Int)=last by omega]; rfl
        refine ⟨_,rfl,_,rfl,mp,_,last,_,rfl,rfl,ai.of A4,rj.1,vc,_,rfl,_,_,rfl,rfl,mp,_,last,last.toNat,rfl,rfl,A4,O8 rj.1 (by rw [Qa,I6.len]; omega),?_⟩
        have Ku:(rl.map V.int).set last.toNat (.int (room last - u))=(rl.set last.toNat (room last - u)).map V.int:=List.map_set.symm
        rw [Ku]
        have aac:H mp=none:=zb
        have g_:aD H (upd qv mp (.lst ((rl.set last.toNat (room last - u)).map V.int))):=(I6.same.trans Aw).wr zb
        have DL:upd qv mp (.lst ((rl.set last.toNat (room last - u)).map V.int)) mp=_:=aB
        have Hy:bo mp qv (upd qv mp (.lst ((rl.set last.toNat (room last - u)).map V.int))):=bo.at
        have Fm:=I6.rows.same Aw
        have Q5:Rows (upd qv mp (.lst ((rl.set last.toNat (room last - u)).map V.int))) hp ds cg:=⟨(aI (Ne.symm n1)).trans Fm.lst,Fm.len,Fm.nd,λg q r a b=>(aI (n2 q (Qg a))).trans (Fm.row g q r a b)⟩
        have SW:sp≠mp:=λz=>by have:=(FK.trans s9) _ _ I6.lst; rw [<- z,ie] at this; cases this
        have A0:upd qv mp (.lst ((rl.set last.toNat (room last - u)).map V.int)) sp=some (.lst (ps.map V.ref)):=(aI SW).trans (sC _ _ BJ)
        have Q3:ay (upd qv mp (.lst ((rl.set last.toNat (room last - u)).map V.int))) ps ss:=(IQ.tp (Tp.of sC)).tp (Tp.upd λxs z=>by rw [A4] at z; cases z)
        generalize upd qv mp (.lst ((rl.set last.toNat (room last - u)).map V.int))=yk at g_ DL Q5 A0 Q3 ⊢
        -- the steps
        refine ⟨_,rfl,sp,rfl,⟨_,ai.of A0⟩,gO (K:=K) (a:=sp) (xs:=ps.map V.ref) (λi σ j_=>∃ v9 v10 v11 ji dm,σ = [some (.ref tp),some (.ref ap),some (.ref mp),some (.int n),some (.ref hp),some (.ref gw),some (.int last),some (.ref sp),some (.int u),v9,v10,v11]/\aD H j_/\j_ mp=some (.lst ((rl.set last.toNat (room last - u)).map V.int))/\Rows j_ hp ds ji/\ji.length=tk.length/\yE ji dm n/\r_ n tk (km am) hl ss u i dm/\j_ sp=some (.lst (ps.map V.ref))/\ay j_ ps ss) ⟨_,_,_,cg,hl,rfl,g_,DL,Q5,I6.hlen,I6.held,z? I6.y8,A0,Q3⟩ (λi σ j_ _ ⟨_,_,_,_,_,_,_,_,_,_,_,_,h,_⟩=>ai.of h) ?_ ?_⟩
        ·rintro i x σ j_ hx ⟨v9,v10,v11,ji,dm,rfl,gz,A3,Dc,we,xc,Dj,wz,IM⟩
         rw [Qe] at hx
         obtain ⟨q,hq,rfl⟩:=Ja.mp hx
         have Gj:i < ss.length:=by rw [<- jo]; exact (Qd.mp hq).1
         have hs:=Qc Gj
         generalize ss[i]=st at hs
         obtain ⟨wk,g,tt⟩:=st
         obtain ⟨_,⟨hw,hg,ht⟩,_⟩:=(jL BR).1 i _ hs
         obtain ⟨G15,ug,gt⟩:=aCR Dj BR RE hs (Yd u0) u2 p8
         have Gm:=IM.at_ i q _ hq hs
         have Gd:wk < ds.length:=by rw [wq]; exact hw
         have hd:=Qc Gd
         generalize ds[wk]=d at hd
         have Ck:wk < ji.length:=by rw [we]; exact hw
         have hr:=Qc Ck
         generalize ji[wk]=r at hr
         have cb:=Dc.row _ d r hd hr
         have HR:=xc _ r hr
         have L8:=Qg hd
         have Lj:=n2 d L8
         have Ll:=JM d L8
         have Dq:sp≠d:=λz=>by rw [z,cb] at wz; cases wz
         obtain ⟨Sb,tt1⟩:=p8 wk tt ht
         have Kt:0 < dm wk g:=by omega
         have gr:0<=g/\g<=n:=by
          rcases Dj.sup wk g hw Kt with z | z
          ·omega
          ·have:=p8 wk g z; omega
         have Br:=HR.rn.len
         refine ⟨q,_,rfl,ah.of Gm,rfl,_,_,rfl,_,_,rfl,_,_,rfl,rfl,?_⟩
         have jz:g9 (ds.map V.ref) (wk:Int)=some (.ref d):=cM (by rw [Qe,hd]; rfl)
         refine ⟨_,rfl,_,rfl,hp,_,_,_,rfl,rfl,ai.of Dc.lst,jz,_,rfl,d,.int (dm wk g),rfl,.inl ⟨r,.inl g,.inl cb,rfl,(HR.pos (by omega)).symm⟩,_,rfl,_,_,rfl,rfl,_,vA.k (k:=.inl g) cb (by rw [Rf]; omega),?_⟩
         have Fv:=HR.put (t:=g) (dm wk g - u) gr.1 gr.2
         have C_:=Dc.put (r':=fU r (.inl g) (.int (dm wk g - u))) hd hr
         have y9:=gz.wr (u:=.dK (fU r (.inl g) (.int (dm wk g - u)))) Ll
         have A2:upd j_ d (.dK (fU r (.inl g) (.int (dm wk g - u)))) mp=_:=(aI (Ne.symm Lj)).trans A3
         have AZ:upd j_ d (.dK (fU r (.inl g) (.int (dm wk g - u)))) sp=_:=(aI Dq).trans wz
         have IK:=IM.tp (Tp.upd (a:=d) (u:=.dK (fU r (.inl g) (.int (dm wk g - u)))) λxs z=>by rw [cb] at z; cases z)
         have f9:upd j_ d (.dK (fU r (.inl g) (.int (dm wk g - u)))) d=some (.dK (fU r (.inl g) (.int (dm wk g - u)))):=aB
         have JV:=Fv.rn.len
         generalize dk:fU r (.inl g) (.int (dm wk g - u))=r2 at Fv C_ y9 A2 AZ IK f9 JV ⊢
         generalize upd j_ d (.dK r2)=H15 at C_ y9 A2 AZ IK f9 ⊢
         have dk:(ji.set wk r2)[wk]?=some r2:=by rw [Xk,if_pos rfl,if_pos Ck]
         refine ⟨_,rfl,_,rfl,hp,_,_,_,rfl,rfl,ai.of C_.lst,jz,.inr (.inr (.inl ⟨rfl,.inl ⟨_,f9⟩⟩)),_,rfl,d,r2,.inl tt,.int 0,rfl,rfl,.inl f9,?_⟩
         rw [Fv.get tt]
         refine ⟨_,rfl,_,_,rfl,rfl,_,rfl,_,rfl,hp,_,_,_,rfl,rfl,ai.of C_.lst,jz,_,rfl,d,_,rfl,vA.k (k:=.inl tt) f9 (by rw [Rf]; omega),?_⟩
         have HR3:=Fv.put (t:=tt) ((if tt=g then dm wk g - u else dm wk tt)+u) Sb (by omega)
         have R16:=C_.put (r':=fU r2 (.inl tt) (.int ((if tt=g then dm wk g - u else dm wk tt)+u))) hd dk
         refine ⟨_,_,_,(ji.set wk r2).set wk (fU r2 (.inl tt) (.int ((if tt=g then dm wk g - u else dm wk tt)+u))),mx dm wk g tt u,rfl,y9.wr Ll,(aI (Ne.symm Lj)).trans A2,R16,by rw [Xn,Xn]; exact we,λv r' i7=>?_,G15,(aI Dq).trans AZ,IK.tp (Tp.upd λxs z=>by rw [f9] at z; cases z)⟩
         rw [Xk,Xk,Xn] at i7
         by_cases cv:wk=v
         ·rw [if_pos cv,if_pos Ck] at i7
          rw [<- Option.some.inj i7,<- cv]
          refine HR3.congr λx=>?_
          unfold mx
          rw [if_pos rfl,if_neg (Ne.symm gt)]
          by_cases c1:x=tt
          ·rw [if_pos c1,if_pos c1,if_neg (λz=>gt (by rw [<- z,c1])),c1]; omega
          ·rw [if_neg c1,if_neg c1]
           by_cases c2:x=g
           ·rw [if_pos c2,if_pos c2,c2]; omega
           ·rw [if_neg c2,if_neg c2]; omega
         ·rw [if_neg cv,if_neg cv] at i7
          refine (xc v r' i7).congr λx=>?_
          unfold mx
          rw [if_neg (Ne.symm cv)]
        ·rintro σ j_ ⟨v9,v10,v11,ji,dm,rfl,gz,A3,Dc,we,xc,Dj,wz,IM⟩
         rw [Qa,jo] at Dj
         obtain ⟨S',Kl⟩:=aEj I6.y8 Dj BR t_ u1
         refine ⟨_,?_,_,ji,dm,_,_,_,_,_,_,_,_,rfl,rfl,gz,A3,by rw [Xn]; exact I6.len,λi hi=>?_,?_,Dc,we,xc,S'⟩
         ·rw [Kl]; omega
         ·rw [Xk]
          by_cases cl:last.toNat=i
          ·rw [if_pos cl,if_pos Ka,if_pos (by omega),show ((i:Nat):Int)=last by omega]
          ·rw [if_neg cl,if_neg (by omega)]
           exact I6.Eo i hi
         ·rw [Xk,if_neg (by omega)]
          exact I6.rn
    ·have hz:gZ hl tk.length n<=0:=by
      have:∀ w∈List.range tk.length,hl w n=0:=λw hw=>by
       have h0:=I6.y8.nn w n
       by_cases p:0 < hl w n
       ·exact absurd (Xb.mpr ⟨true,Jg.mpr ⟨w,hw,decide_eq_true p⟩,rfl⟩) c
       ·omega
      unfold gZ
      rw [cY this]
      exact Je _
     exact ⟨_,rfl,k hp ds cg hl H6 I6.same I6.rows I6.hlen I6.held (A! I6.y8 hz)⟩
noncomputable def P!:Scope:=match (fF kX).getD 0 (.Pass ⟨0,0,0,0⟩) with
 | .Return (some (.ListComp _ _ sc _)) _=>sc
 | _=>{ kind:=.function,names:=[],isGenerator:=false,isCoroutine:=false }
theorem aC4 (hK:X.K=K) (hc:X.calm=true):dQ X (.builtin "any") (λxs H Q=>∃ (p:Addr) (bs:List Bool),xs = [.ref p]/\ai K H p (bs.map V.bl)/\Q (.bl (bs.any id)) H):=by subst hK; exact zM hc
noncomputable def jc (ls:List (Int×Int)) (h:Int):Int×Int:=ls.getD h.toNat (0,1)
theorem OA {ls:List (Int×Int)} {us:List V} (hd:aP K H (ls.map jW) us) {h:Int} (h0:0<=h) (h1:h < ls.length):∃ p,g9 us h=some (.ref p)/\ah K H p [.int (jc ls h).1,.int (jc ls h).2]/\jc ls h∈ls:=by
 have hl:=aH hd
 rw [Qa] at hl
 have ax:h.toNat < us.length:=by omega
 have hu:=Qc ax
 generalize us[h.toNat]=u at hu
 obtain ⟨x,hx,Ga⟩:=cI hd hu
 obtain ⟨p,rfl,hp⟩:=hJ.mp Ga
 have e:jc ls h=x:=by unfold jc; rw [Qx,hx]; rfl
 have:=cM hu
 rw [show ((h.toNat:Nat):Int)=h by omega] at this
 rw [e]
 exact ⟨p,this,hp,Qg hx⟩
theorem uB:∀ {bs:bT} {left:List Int} {rows:bT},dZ left rows->dX left rows bs->∀ (i j:Nat) b c,i < j->bs[i]?=some b->bs[j]?=some c->∀ h∈b.1,h∉c.1
 | [],_,_,_,_,i,j,b,c,_,h,_=>by simp at h
 | d::bs,left,rows,ok,hb,i,j,b,c,uc,hi,hj=>by
  cases j with
  | zero=>omega
  | succ j =>
   cases i with
   | zero =>
    have e:d=b:=by simpa using hi
    subst e
    intro h hh hc
    have:=(lE ok.bw hb.2 c (Qg (by simpa using hj))).2.2.2 h hc
    have:=(Jd.mp this).2
    rw [fJ.mpr hh] at this
    cases this
   | succ i=>exact uB ok.bw hb.2 i j b c (by omega) (by simpa using hi) (by simpa using hj)
noncomputable def uC (K:Rb):Sp:=λvs H Q _=>∃ (ap lp:Addr) (l:List Int) (us:List V) (ls:List (Int×Int)),vs = [.ref ap,.ref lp]/\ah K H ap (l.map V.int)/\ah K H lp us/\aP K H (ls.map jW) us/\(∀ x∈ls,HM x)/\l.length<=1000/\(∀ h∈l,0<=h/\h < ls.length) /\
 ∀ p H',aD H H'->H p=none->H' p=some (.lst ((cZ (jc ls) l).map V.int))->Q (.ref p) H'
theorem aEC:ae ["able", "loads"] ["able", "loads"] (aF kX):=.of
theorem aC5 (G:Fn K mg "least_loaded" kX ["able", "loads"] f fd) (B:Bl mg) (GS:Fn K mg "is_less" Fb ["one", "other"] fS dS) (OS:ab P w K mg base ao 1 fS dS ["one", "other"] (H_ K)):ab P w K mg base ao 2 f fd ["able", "loads"] (uC K):=by
 refine G.fn.oK aEC λa_ A outer s H vs Q E hr h=>?_
 ·obtain ⟨ap,lp,l,us,ls,rfl,o9,di,hd,az,yw,zq,k⟩:=h
  have r1:au 1 _:=hr
  refine ⟨_,(aK (aW (bK (z:=some "hand") (own:=["hand"]) (fr:=[0,1]) (a9:=["able", "loads"]) (rV (aF kX) ["able", "loads"] rfl rfl (λ_ _=>rfl) (λ_=>rfl) (by decide +kernel)) rfl (eY (pv 0))
    (λ_ _ _ _=>(aJ (i:=0) (show (["hand", "able", "loads"]:List Str).Nodup by decide +kernel) rfl (Or.inr rfl))) (λ_ _ _ _=>lT (dJ (cT (aO (aC4 (K:=K) rfl rfl) rfl B.any OE (aA (bK (own:=["other"]) (fr:=[0,2]) (a9:=["hand", "loads"]) (aT (HJ P! (aF kX)) ["hand", "able", "loads"] rfl rfl (by decide +kernel)) rfl (xZ (K:=K) rfl (pv 1))
    (λ_ _ _ _=>(aJ (i:=0) (show (["other", "hand", "loads"]:List Str).Nodup by decide +kernel) rfl (Or.inl rfl))) (λ_ _ _ _=>bZ)
    (λ_ _ _ _=>(bA GS OS r1 rfl (aA (aY (cH (K:=K) rfl) (pv 2) (pv 0) (λ_ _=>rfl)) (aA (aY (cH (K:=K) rfl) (pv 2) (pv 1) (λ_ _=>rfl)) aC))))) aC)))))
    (λ_ _ _ _=>(pv 0))))),?_⟩
  refine ⟨_,rfl,ap,rfl,⟨_,o9⟩,gS (K:=K) (a:=ap) (xs:=l.map V.int) (λσ=>∃ v,σ = [v,some (.ref ap),some (.ref lp)]) (λi ys H1=>aD H H1/\ys=((l.take i).filter λh=>!(l.any λo=>jK (jc ls o) (jc ls h))).map V.int) (bP (by rw [Qa]; exact yw)) ⟨none,rfl⟩ ⟨aD.refl _,rfl⟩ ?_ (λi ys H1 ⟨s1,_⟩=>s1.ag o9) ?_ ?_⟩
  ·rintro i ys H1 ⟨_,rfl⟩
   rw [Qa]
   exact Qw (Ji _ _) (by rw [Qy]; exact Xo _ _)
  ·rintro i ys σ y H1 hy ⟨v,rfl⟩ ⟨s1,rfl⟩ hz
   obtain ⟨h,hh,rfl⟩:=jU hy
   obtain ⟨h0,h1⟩:=zq h (Qg hh)
   refine ⟨_,rfl,ap,rfl,⟨_,s1.ag o9⟩,kI (K:=K) (a:=ap) (xs:=l.map V.int) (vs:=(l.map λo=>jK (jc ls o) (jc ls h)).map V.bl) (λσ=>∃ v,σ = [v,some (.int h),some (.ref lp)]) (by rw [Qa]; exact yw) (by simp) (s1.ag o9) ⟨none,rfl⟩ ?_ ?_⟩
   ·rintro j u v σ H2 hu hv ⟨v0,rfl⟩ s2 Q' k'
    obtain ⟨o,ho,rfl⟩:=jU hu
    rw [Qe,Qe,ho] at hv
    cases hv
    have fu:=s1.trans s2
    obtain ⟨o0,o1⟩:=zq o (Qg ho)
    have hd2:=fu.af _ _ hd
    obtain ⟨po,a1,a2,a3⟩:=OA hd2 o0 o1
    obtain ⟨ph,b1,b2,b3⟩:=OA hd2 h0 h1
    exact ⟨_,rfl,_,rfl,lp,_,o,_,rfl,rfl,fu.ag di,a1,_,rfl,_,rfl,lp,_,h,_,rfl,rfl,fu.ag di,b1,po,ph,_,_,_,_,rfl,O3 a2 (az _ a3),O3 b2 (az _ b3),k' _ _ ⟨_,rfl⟩ (aD.refl _)⟩
   ·intro H2 s2 pb ux
    refine ⟨pb,_,rfl,ai.of aB,_,rfl,?_⟩
    have e:(l.map λo=>jK (jc ls o) (jc ls h)).any id=l.any λo=>jK (jc ls o) (jc ls h):=by rw [Wj]; rfl
    rw [e,cS hh,Xt,Qp]
    have s3:=s1.trans (s2.trans (aD.new (o:=.lst ((l.map λo=>jK (jc ls o) (jc ls h)).map V.bl)) ux))
    cases hc:l.any λo=>jK (jc ls o) (jc ls h) with
    | false =>
     refine iE ⟨_,rfl,hz,⟨_,rfl⟩,s3,?_⟩
     rw [Qz,hc]; rfl
    | true =>
     refine iS ⟨⟨_,rfl⟩,s3,?_⟩
     rw [Qz,hc]
     show _=_++[]
     rw [Xl]
  ·rintro ys H1 ⟨s1,rfl⟩ p hp
   rw [Qa,Jt]
   exact k p _ (s1.trans (aD.new hp)) (s1.free hp) aB
noncomputable def dt (n:Int) (bs:bT):List (Int×Int):=(aQ n.toNat).map λh=>fE (dF bs h)
noncomputable def rE (K:Rb):Sp:=λvs H Q _=>∃ (x:V) (n:Int) (ws:List (List Int)) (wp:Addr) (wt:List Int),vs = [x,.ref wp]/\Den K H (bI n ws) x/\bN (bI n ws)=true/\ah K H wp (wt.map V.int)/\yf ws wt /\
 ∀ p us bs H',aD H H'->ah K H' p us->aP K H' ((dt n bs).map jW) us->dX (aQ n.toNat) (ws.zip wt) bs->Q (.ref p) H'
theorem Pu:ae ["book", "weights", "load_of"] ["book", "weights"] (aF nN):=.of
theorem aED (G:Fn K mg "part_loads" nN ["book", "weights"] f fd) (B:Bl mg) (JE:Fn K mg "blocks" iK ["book", "weights"] fB dB) (IZ:ab P w K mg base ao 7 fB dB ["book", "weights"] (oY K)):ab P w K mg base ao 8 f fd ["book", "weights"] (rE K):=by
 refine G.fn.oK Pu λa_ A outer s H vs Q E hr h=>?_
 ·obtain ⟨x,n,ws,wp,wt,rfl,hx,bz,om,f6,k⟩:=h
  have r7:au 7 _:=hr
  refine ⟨_,(aE (aU (i:=2) Pu.nd rfl (Or.inr rfl) (aCJ (own:=["some", "load", "hand"]) (fr:=[]) (a9:=[]) (aT (aF nN) ["book", "weights", "load_of"] rfl rfl (by decide +kernel)) rfl (cK (bA JE IZ r7 rfl (aA (pv 0) (aA (pv 1) aC))))
    (λ_ _ _ _=>(iU (K:=K) (n:=2) rfl rfl (aR (aJ (i:=0) (show (["some", "load", "hand"]:List Str).Nodup by decide +kernel) rfl (Or.inl rfl)) (aR (aJ (i:=1) (show (["some", "load", "hand"]:List Str).Nodup by decide +kernel) rfl (Or.inl rfl)) cJ)))) (λ_ _ _ _=>(xZ (K:=K) rfl (pv 0))) (λ_ _ _ _=>(aJ (i:=2) (show (["some", "load", "hand"]:List Str).Nodup by decide +kernel) rfl (Or.inl rfl)))
    (λ_ _ _ _=>(pv 2)) (λ_ _ _ _=>(pv 1))))
  (aK (aW (bU cN rfl B.tuple dU (aA (bK (own:=["hand"]) (fr:=[2]) (a9:=["load_of"]) (aT (aF nN) ["book", "weights", "load_of"] rfl rfl (by decide +kernel)) rfl (eA rfl B.range (aA (aY cD (pv 0) aM (λ_ _=>rfl)) aC))
    (λ_ _ _ _=>(aJ (i:=0) (show (["hand", "load_of"]:List Str).Nodup by decide +kernel) rfl (Or.inl rfl))) (λ_ _ _ _=>bZ)
    (λ_ _ _ _=>(kU (kF hr) (pv 1) (pv 0) (λ_ _=>rfl)))) aC))))),?_⟩
  obtain ⟨a,b,ys,rfl,ha,hb,fi⟩:=cW hx
  obtain ⟨md,gu,qr,_⟩:=bB bz
  obtain ⟨RO,_,_⟩:=iR bz f6
  refine ⟨_,rfl,_,rfl,_,n,ws,wp,wt,rfl,hx,bz,om,f6,λtp us bs H1 s1 FV NG DB mf tu=>?_⟩
  have ED:=lE RO mf
  rw [bW] at ED
  refine ⟨tp,rfl,⟨_,ai.of NG⟩,zZ (K:=K) (a:=tp) (xs:=us) (λi kvs σ H2=>H2=H1/\(∃ x y z,σ = [x,y,z])/\kvs.length<=6*i/\∀ (j:Nat) c h,j < i->bs[j]?=some c->h∈c.1->∃ v,bV kvs (.inl h)=some v/\Den K H1 (jW (fE (c.2,(c.1.length:Int)))) v) ⟨rfl,⟨_,_,_,rfl⟩,Qi _,λj c h hj=>by omega⟩ (λi ys σ H2 ⟨e,_⟩=>by rw [e]; exact ai.of NG) ?_ ?_⟩
  ·rintro i x kvs σ H2 oj ⟨rfl,⟨x1,x2,x3,rfl⟩,hlen,ya⟩
   obtain ⟨c,hc,j7⟩:=cI DB oj
   obtain ⟨pp,pq,pr,rfl,lr,t8,ke⟩:=Q? j7
   have hi6:i < 6:=Qq (Qd.mp oj).1 tu
   have uh:=ED c (Qg hc)
   refine ⟨pp,_,rfl,lr,rfl,_,_,rfl,_,_,rfl,rfl,?_⟩
   refine ⟨_,rfl,pq,rfl,⟨_,t8⟩,xK (K:=K) (b:=pq) (zs:=c.1.map V.int) (λj q_ σ H3=>H3=H2/\(∃ z,σ = [some (.ref pq),some (.ref pr),z])/\q_.length<=6*i+j/\(∀ (j':Nat) c' h,j' < i->bs[j']?=some c'->h∈c'.1->∃ v,bV q_ (.inl h)=some v/\Den K H2 (jW (fE (c'.2,(c'.1.length:Int)))) v)/\∀ h∈c.1.take j,bV q_ (.inl h)=some (.ref pr)) ⟨rfl,⟨_,rfl⟩,hlen,ya,λh hh=>by rw [Zz] at hh; cases hh⟩ (λj ys σ H3 ⟨e,_⟩=>by rw [e]; exact t8) ?_ ?_⟩
   ·rintro j z q_ σ H3 hz ⟨rfl,⟨z0,rfl⟩,dm,AR,j4⟩
    obtain ⟨h,hh,rfl⟩:=jU hz
    have ua:j < c.1.length:=(Qd.mp hh).1
    refine ⟨_,rfl,_,rfl,.inl h,rfl,by rw [Rf]; omega,rfl,⟨_,rfl⟩,Qw (iO _ _ _) (by omega),λj' c' h' u9 aj gh=>?_,λh' gh=>?_⟩
    ·have ne:¬ (Sum.inl h':Key)=Sum.inl h:=λz=>by
      have e:h'=h:=by simpa using z
      exact uB RO mf j' i c' c u9 aj hc h' gh (by rw [e]; exact Qg hh)
     rw [jE,if_neg ne]
     exact AR j' c' h' u9 aj gh
    ·rw [jE]
     by_cases e:h'=h
     ·rw [if_pos (by rw [e])]
     ·rw [if_neg (λz=>e (by simpa using z))]
      rw [cS hh] at gh
      rcases Jo.mp gh with gh | gh
      ·exact j4 h' gh
      ·exact absurd (Qs.mp gh) e
   ·rintro q_ σ H3 ⟨rfl,⟨z0,rfl⟩,dm,AR,j4⟩
    rw [Qa] at dm j4
    rw [Jt] at j4
    refine ⟨rfl,⟨_,_,_,rfl⟩,by omega,λj' c' h' u9 aj gh=>?_⟩
    by_cases e:j' < i
    ·exact AR j' c' h' e aj gh
    ·have ej:j'=i:=by omega
     rw [ej,hc] at aj
     have ec:c=c':=Option.some.inj aj
     rw [<- ec] at gh ⊢
     exact ⟨_,j4 h' gh,hJ.mpr ⟨pr,rfl,ke⟩⟩
  ·rintro kvs σ H2 ⟨rfl,_,hlen,ya⟩ dp Cz
   have xq:=aH DB
   rw [Qa] at xq
   have s3:=aD.new (o:=.dK kvs) Cz
   have ed:upd H2 dp (.dK kvs) dp=some (.dK kvs):=aB
   have Ki:∀ h∈aQ n.toNat,∃ v,bV kvs (.inl h)=some v/\Den K H2 (jW (fE (dF bs h))) v:=λh hh=>by
    obtain ⟨c,c1,c2,c3⟩:=jV mf h hh
    obtain ⟨j,hj⟩:=Qv.mp c1
    rw [c3]
    exact ya j c h (by rw [xq]; exact (Qd.mp hj).1) hj c2
   generalize upd H2 dp (.dK kvs)=H3 at s3 ed ⊢
   dsimp only [cU]
   have g_:=s1.trans s3
   refine ⟨_,rfl,a,_,0,.int n,rfl,rfl,g_.ag ha,rfl,n,rfl,by omega,by omega,gK (lo:=0) (n:=n.toNat) (λσ=>∃ v,σ = [v,some (.ref dp)]) (λi zs H4=>H4=H3/\aP K H3 ((((aQ n.toNat).take i).map λh=>fE (dF bs h)).map jW) zs) (bP (by omega)) ⟨none,rfl⟩ ⟨rfl,aN.mpr rfl⟩ ?_ ?_ ?_⟩
   ·rintro i zs H4 ⟨_,d4⟩
    rw [aH d4,Qa,Qa,Qy]
    exact Xo _ _
   ·rintro i zs σ H4 hi ⟨v,rfl⟩ ⟨rfl,d4⟩ hz
    have zo:=iP hi
    obtain ⟨v',zl,UB⟩:=Ki (i:Int) (Qg zo)
    refine eO ?_
    refine ⟨_,rfl,_,rfl,dp,v',rfl,.inl ⟨kvs,.inl (i:Int),.inl ed,by show V.int (0+(i:Int))=V.int (i:Int); rw [Zj],zl.symm⟩,hz,⟨_,rfl⟩,rfl,?_⟩
    rw [cS zo,Qp,Qp]
    exact bH d4 (aL.mpr ⟨_,_,rfl,s3.den _ _ UB,aN.mpr rfl⟩)
   ·rintro zs H4 ⟨rfl,d4⟩ lp di
    rw [show (aQ n.toNat).take n.toNat=aQ n.toNat from Jn (by rw [bW]; exact Qi _)] at d4
    refine ⟨lp,zs,rfl,.inl ⟨ai.of aB,λSe lj=>?_⟩⟩
    have s5:=(aD.new (o:=.lst zs) di).trans (aD.new (o:=.tup zs) lj)
    exact k Se zs bs _ (g_.trans s5) (ah.of aB) (s5.af _ _ d4) mf
noncomputable def O?:Scope:=match (fF gF).getD 4 (.Pass ⟨0,0,0,0⟩) with
 | .Assign _ (.ListComp _ _ sc _) _=>sc
 | _=>{ kind:=.function,names:=[],isGenerator:=false,isCoroutine:=false }
theorem uD (g:List Int->Int->Int):∀ (ws:List (List Int)) (wt:List Int),wt.length=ws.length->aG ((List.range ws.length).map λw=>g (ws.getD w []) (wt.getD w 0))=aG ((ws.zip wt).map λr=>g r.1 r.2)
 | [],_,_=>rfl
 | _::_,[],h=>by cases h
 | l::ws,x::wt,h=>by
  rw [Jr,List.range_succ_eq_map,Jh,Xz,List.zip_cons_cons,Jh]
  show g l x+aG ((List.range ws.length).map λw=>g (ws.getD w []) (wt.getD w 0))=g l x+_
  rw [uD g ws wt (by simpa using h)]
  rfl
structure Parts (n:Nat) (ws:List (List Int)) (wt:List Int) (bs:bT) (hl:Nat->Int->Int):Prop where
 nn:∀ w h,0<=hl w h
 sup:∀ w h,w < ws.length->0 < hl w h->h∈cZ (dF bs) (ws.getD w [])
 rows:∀ w,w < ws.length->aG ((aQ n).map (hl w))=wt.getD w 0*60
 cols:∀ h:Int,0<=h->h < n->aG ((List.range ws.length).map λw=>hl w h)=bD bs h
theorem kP (f:α->β) (l:List α) (i:Nat) (a:α) (b:β) (h:i < l.length):(l.map f).getD i b=f (l.getD i a):=by
 rw [Qx,Qx,Qe,Qc h]; rfl
theorem uE (f:Int->Int) {h:Int} (h0:0<=h) (h1:h < n):jq ((aQ n).map f) h=f h:=by
 have:=iP (n:=n) (i:=h.toNat) (by omega)
 unfold jq
 rw [Qx,Qe,this,show ((h.toNat:Nat):Int)=h by omega]; rfl
section
variable {n:Int} {bs:bT}
theorem O! (hl:wt.length=ws.length) (hb:dX (aQ n.toNat) (ws.zip wt) bs) (ok:dZ (aQ n.toNat) (ws.zip wt)) (h6:n<=6):HP n.toNat (ws.map (cZ (dF bs))) (km (wt.map (· * 60))) (jq ((aQ n.toNat).map (bD bs))):=λR=>by
 have h1:=aBd hb ok (by rw [bW]; omega) R
 rw [Qa]
 have e1:aG ((List.range ws.length).map λw=>if (mV (ws.map (cZ (dF bs))) w).all R=true then km (wt.map (· * 60)) w else 0)=aG ((List.range ws.length).map λw=>(λl x=>if (cZ (dF bs) l).all R=true then 60*x else 0) (ws.getD w []) (wt.getD w 0)):=aZ λw hw=>by
  have Cm:=Jy.mp hw
  unfold mV km
  rw [kP _ ws w [] [] Cm,kP _ wt w 0 0 (by omega),Xp]
 have e2:aG ((aQ n.toNat).map λh=>if R h=true then jq ((aQ n.toNat).map (bD bs)) h else 0)=aG ((aQ n.toNat).map λh=>if R h=true then bD bs h else 0):=aZ λh hh=>by
  obtain ⟨a,b⟩:=gG.mp hh
  rw [uE _ a b]
 rw [e1.trans (uD (λl x=>if (cZ (dF bs) l).all R=true then 60*x else 0) ws wt hl),e2]
 have e3:aG ((ws.zip wt).map λr=>if (cZ (dF bs) r.1).all R=true then 60*r.2 else 0)=60*aG ((ws.zip wt).map λr=>if (cZ (dF bs) r.1).all R=true then r.2 else 0):=by
  rw [<- fY]
  exact aZ λr _=>by split <;> omega
 rw [e3]
 exact h1
theorem aEE (hlen:wt.length=ws.length) (hb:dX (aQ n.toNat) (ws.zip wt) bs) (ok:dZ (aQ n.toNat) (ws.zip wt)) (h6:n<=6) (S:xa n.toNat (ws.map (cZ (dF bs))) (km (wt.map (· * 60))) (jq ((aQ n.toNat).map (bD bs))) hl):Parts n.toNat ws wt bs hl:=by
 refine ⟨S.nn,λw h hw hp=>?_,λw hw=>?_,λh h0 h1=>?_⟩
 ·have:=S.sup w h (by rw [Qa]; exact hw) hp
  unfold mV at this
  rwa [kP _ ws w [] [] hw] at this
 ·have:=S.rows w (by rw [Qa]; exact hw)
  unfold km at this
  rwa [kP _ wt w 0 0 (by omega)] at this
 ·have ht:aG ((List.range (ws.map (cZ (dF bs))).length).map (km (wt.map (· * 60))))=aG ((aQ n.toNat).map (jq ((aQ n.toNat).map (bD bs)))):=by
   have e2:aG ((aQ n.toNat).map (jq ((aQ n.toNat).map (bD bs))))=aG ((aQ n.toNat).map (bD bs)):=aZ λh hh=>by
    obtain ⟨a,b⟩:=gG.mp hh
    exact uE _ a b
   rw [e2,<- xX hb ok (by rw [bW]; omega),Qa]
   have e1:aG ((List.range ws.length).map (km (wt.map (· * 60))))=aG ((List.range ws.length).map λw=>(λ(_:List Int) (x:Int)=>60*x) (ws.getD w []) (wt.getD w 0)):=aZ λw hw=>by
    have Cm:=Jy.mp hw
    unfold km
    rw [kP _ wt w 0 0 (by omega),Xp]
   rw [e1.trans (uD (λ(_:List Int) (x:Int)=>60*x) ws wt hlen),<- fY]
  have:=aCS S ht h h0 h1
  unfold gZ at this
  rw [Qa] at this
  rw [this,uE _ h0 h1]
theorem wM (hb:dX (aQ n.toNat) (ws.zip wt) bs) (ok:dZ (aQ n.toNat) (ws.zip wt)) (h6:n<=6) {h:Int} (hh:h∈aQ n.toNat):0<=(dF bs h).1/\0 < (dF bs h).2/\(dF bs h).2<=6/\∃ k:Nat,(dF bs h).2=k:=by
 obtain ⟨b,b1,b2,b3⟩:=jV hb h hh
 obtain ⟨c1,c2,c3,_⟩:=lE ok hb b b1
 rw [bW] at c2
 have:=Jj.mpr c1
 rw [b3]
 exact ⟨c3,by show (0:Int) < b.1.length; omega,by show (b.1.length:Int)<=6; omega,b.1.length,rfl⟩
theorem v? {x:Int×Int} (h:0 < x.2):(fE x).1*60 / (fE x).2=x.1*60 / x.2:=by
 have a:=C2 x.1 h
 have b:=wH x.1 h
 have g:=mM (a:=x.1) h
 show iV x.1 x.2*60 / gX x.1 x.2=x.1*60 / x.2
 conv=>rhs; rw [<- a]
 conv=>rhs; arg 2; rw [<- b]
 rw [Jx,Int.mul_ediv_mul_of_pos _ _ g]
theorem aC6 {f:Int->Int×Int} {g:Int->Int×Int} (h:∀ x∈l,0 < (f x).2/\g x=fE (f x)):cZ g l=cZ f l:=by
 unfold cZ
 refine List.filter_congr λx hx=>?_
 congr 1
 rw [Xf,Xb,Xb]
 refine ⟨λ⟨o,a,b⟩=>⟨o,a,?_⟩,λ⟨o,a,b⟩=>⟨o,a,?_⟩⟩
 ·rwa [(h o a).2,(h x hx).2,QQ (h o a).1 (h x hx).1] at b
 ·rw [(h o a).2,(h x hx).2,QQ (h o a).1 (h x hx).1]; exact b
theorem mS:(dt n bs).length=n.toNat:=by unfold dt; rw [Qa,bW]
theorem ZZ {h:Int} (h0:0<=h) (h1:h < n):jc (dt n bs) h=fE (dF bs h):=by
 have:=iP (n:=n.toNat) (i:=h.toNat) (by omega)
 unfold jc dt
 rw [Qx,Qe,this,show ((h.toNat:Nat):Int)=h by omega]; rfl
theorem O' (hb:dX (aQ n.toNat) (ws.zip wt) bs) (bz:bN (bI n ws)=true) (hw:yf ws wt):∀ x∈dt n bs,HM x/\0<=x.1/\x.1<=100000/\x.2<=6:=λx hx=>by
 obtain ⟨h,hh,rfl⟩:=Jg.mp hx
 obtain ⟨_,h6,_,_⟩:=bB bz
 obtain ⟨ok,rs,rl⟩:=iR bz hw
 obtain ⟨a,b,c,_⟩:=wM hb ok h6 hh
 have ha:(dF bs h).1<=1188:=by
  obtain ⟨d,d1,d2,d3⟩:=jV hb h hh
  rw [d3]
  have key:∀ {bs:bT} {left:List Int} {rows:bT},vj rows->dX left rows bs->∀ b∈bs,b.2<=rows.length*99:=by
   intro bs
   induction bs with
   | nil=>intro _ _ _ _ b hb; cases hb
   | cons e bs ih =>
    intro left rows rs hb b hm
    rcases Qk.mp hm with rfl | hm
    ·rw [hb.1.2.2.1]; exact (O2 rs _).2
    ·have h1:=ih rs.bw hb.2 b hm
     have h2:=Q0 rows e.1
     omega
  have:=key rs hb d d1
  show d.2<=1188
  omega
 have p1:=oT (dF bs h).1 b
 have p2:=Y! (a:=(dF bs h).1) b
 have p3:=QG a b
 have p4:=Y? a b
 refine ⟨⟨p1,Zg (show (fE (dF bs h)).2<=6 by show gX _ _<=6; omega) (by decide),Xg (show (fE (dF bs h)).1.natAbs<=1188 by show (iV _ _).natAbs<=1188; omega) (by decide)⟩,p3,by show iV _ _<=_; omega,by show gX _ _<=_; omega⟩
end
noncomputable def K0 (n:Int) (f:Int->Int):PyData:=.tuple (((aQ n.toNat).map λh=>fE (f h,60)).map jW)
noncomputable def pW (K:Rb):Sp:=λvs H Q _=>∃ (x:V) (n:Int) (ws:List (List Int)) (wp:Addr) (wt:List Int),vs = [x,.ref wp]/\Den K H (bI n ws) x/\bN (bI n ws)=true/\ah K H wp (wt.map V.int)/\yf ws wt /\
 ∀ p lp us sp zs bs hl H',aD H H'->ah K H' p [.ref lp,.ref sp]->ah K H' lp us->aP K H' ((dt n bs).map jW) us->H sp=none->H' sp=some (.lst zs)->aP K H' ((List.range ws.length).map λw=>K0 n (hl w)) zs->dX (aQ n.toNat) (ws.zip wt) bs->Parts n.toNat ws wt bs hl->Q (.ref p) H'
theorem jA:ae ["book", "weights", "loads", "takers", "rooms", "held", "shares"] ["book", "weights"] (aF gF):=.of
theorem aBq {fP:Addr} {dP:FuncData} (G:Fn K mg "in_parts" gF ["book", "weights"] f fd) (B:Bl mg) (JB:Fn K mg "part_loads" nN ["book", "weights"] fP dP) (IV:ab P w K mg base ao 8 fP dP ["book", "weights"] (rE K)) (GLl:Fn K mg "least_loaded" kX ["able", "loads"] fL dL) (OLl:ab P w K mg base ao 2 fL dL ["able", "loads"] (uC K)) (GSp:Fn K mg "spread" jR ["takers", "amounts", "rooms"] fS dS) (OSp:ab P w K mg base ao 2 fS dS ["takers", "amounts", "rooms"] (uA K)) (GL:Fn K mg "lowest" oI ["a", "b"] fW dW) (OL:ab P w K mg base ao 2 fW dW ["a", "b"] oW):ab P w K mg base ao 9 f fd ["book", "weights"] (pW K):=by
 obtain ⟨Eb,Ey⟩:=B.un
 refine G.fn.oK jA λa_ A outer s H vs Q E hr h=>?_
 ·obtain ⟨x,n,ws,wp,wt,rfl,hx,bz,om,f6,k⟩:=h
  have r8:au 8 _:=hr
  have r2:au 2 _:=hr.mono (by decide)
  refine ⟨_,(aE (aU (i:=2) jA.nd rfl (Or.inr rfl) (bA JB IV r8 rfl (aA (pv 0) (aA (pv 1) aC))))
  (aE (eL (i:=3) (own:=["able"]) (fr:=[2]) (a9:=["loads"]) (aT (aF gF) ["book", "weights", "loads", "takers", "rooms", "held", "shares"] rfl rfl (by decide +kernel)) rfl jA.nd rfl rfl rfl (eY (aY cD (pv 0) aM (λ_ _=>rfl)))
    (λ_ _ _ _=>(aJ (i:=0) (show (["able", "loads"]:List Str).Nodup by decide +kernel) rfl (Or.inl rfl))) (λ_ _ _ _=>bZ)
    (λ_ _ _ _=>(bA GLl OLl r2 rfl (aA (pv 0) (aA (pv 1) aC)))))
  (aE (eL (i:=4) (own:=["a", "b"]) (fr:=[]) (a9:=[]) (aT (aF gF) ["book", "weights", "loads", "takers", "rooms", "held", "shares"] rfl rfl (by decide +kernel)) rfl jA.nd rfl rfl rfl (eY (pv 2))
    (λ_ _ _ _=>(iU (K:=K) (n:=2) rfl rfl (aR (aJ (i:=0) (show (["a", "b"]:List Str).Nodup by decide +kernel) rfl (Or.inl rfl)) (aR (aJ (i:=1) (show (["a", "b"]:List Str).Nodup by decide +kernel) rfl (Or.inl rfl)) cJ)))) (λ_ _ _ _=>bZ)
    (λ_ _ _ _=>(bC hG (bC mQ (pv 0) (mG (v:=.int 60) rfl Ey ⟨Eb,rfl⟩)) (pv 1))))
  (aE (aU (i:=5) jA.nd rfl (Or.inl rfl) (bA GSp OSp r2 rfl (aA (pv 3) (aA (bK (own:=["weight"]) (fr:=[]) (a9:=[]) (aT (aF gF) ["book", "weights", "loads", "takers", "rooms", "held", "shares"] rfl rfl (by decide +kernel)) rfl (eY (pv 1))
    (λ_ _ _ _=>(aJ (i:=0) (show (["weight"]:List Str).Nodup by decide +kernel) rfl (Or.inl rfl))) (λ_ _ _ _=>bZ)
    (λ_ _ _ _=>(bC mQ (pv 0) (mG (v:=.int 60) rfl Ey ⟨Eb,rfl⟩)))) (aA (pv 4) aC)))))
  (aE (eL (i:=6) (z:=some "row") (own:=["row"]) (fr:=[0]) (a9:=["book"]) (rV (aF gF) ["book", "weights", "loads", "takers", "rooms", "held", "shares"] rfl rfl (λ_ _=>rfl) (λ_=>rfl) (by decide +kernel)) rfl jA.nd rfl rfl rfl (cK (pv 5))
    (λ_ _ _ _=>(aJ (i:=0) (show (["row", "book"]:List Str).Nodup by decide +kernel) rfl (Or.inr rfl))) (λ_ _ _ _=>bZ)
    (λ_ _ _ _=>(bU (jH (K:=K) rfl) rfl B.tuple dU (aA (bK (own:=["hand"]) (fr:=[0]) (a9:=["row"]) (aT (HJ O? (aF gF)) ["row", "book"] rfl rfl (by decide +kernel)) rfl (eA rfl B.range (aA (aY (cH (K:=K) rfl) (pv 1) aM (λ_ _=>rfl)) aC))
    (λ_ _ _ _=>(aJ (i:=0) (show (["hand", "row"]:List Str).Nodup by decide +kernel) rfl (Or.inl rfl))) (λ_ _ _ _=>bZ)
    (λ_ _ _ _=>(bA GL OL r2 rfl (aA (Po (K:=K) rfl Ii Uw Ip PR (pv 1) (aA (pv 0) (aA aM aC))) (aA (mG (v:=.int 60) rfl Ey ⟨Eb,rfl⟩) aC))))) aC))))
  (aK (aW (cV (aA (pv 2) (aA (pv 6) aC)))))))))),?_⟩
  obtain ⟨a,b,ys,rfl,ha,hb,fi⟩:=cW hx
  have m7:=aH fi
  rw [Qa] at m7
  obtain ⟨md,gu,qr,lh⟩:=bB bz
  obtain ⟨RO,RS,RL⟩:=iR bz f6
  refine ⟨_,rfl,_,rfl,_,n,ws,wp,wt,rfl,hx,bz,om,f6,λlp us bs H1 s1 di EU mf=>?_⟩
  dsimp only [cU]
  have Bv:=O' mf bz f6
  have xq:=aH EU
  rw [Qa,mS] at xq
  have Cj:∀ l∈ws,∀ h∈l,h∈aQ n.toNat/\0<=h/\h < n:=λl hl h hh=>by
   have:=(cE (lh l hl)).2.1 h hh
   exact ⟨gG.mpr (by omega),this⟩
  -- takers
  refine ⟨_,rfl,a,_,1,.ref b,rfl,rfl,s1.ag ha,rfl,b,rfl,⟨_,s1.ag hb⟩,gS (K:=K) (a:=b) (xs:=ys) (λσ=>∃ v,σ = [v,some (.ref lp)]) (λi zs H2=>∃ qs:List Addr,zs=qs.map V.ref/\qs.length=i/\aD H1 H2/\∀ (j:Nat) q l,qs[j]?=some q->ws[j]?=some l->H2 q=some (.lst ((cZ (dF bs) l).map V.int))) (bP (by omega)) ⟨none,rfl⟩ ⟨[],rfl,rfl,aD.refl _,λj q l h=>by simp at h⟩ ?_ (λi zs H2 ⟨_,_,_,s2,_⟩=>(s1.trans s2).ag hb) ?_ ?_⟩
  ·rintro i zs H2 ⟨qs,rfl,hq,_⟩
   rw [Qa]; omega
  ·rintro i zs σ y H2 hy ⟨v,rfl⟩ ⟨qs,rfl,hq,s2,ig⟩ hz
   obtain ⟨l,hl,GF⟩:=cI fi hy
   obtain ⟨al,rfl,G4⟩:=aS.mp GF
   have LK:=Qg hl
   obtain ⟨c1,c2,c3⟩:=cE (lh l LK)
   have Bx:=jI (by omega) c2 c3
   have fu:=s1.trans s2
   refine ⟨_,rfl,_,rfl,al,lp,l,us,dt n bs,rfl,fu.ag G4,s2.ag di,s2.af _ _ EU,λx hx=>(Bv x hx).1,by omega,λh hh=>by rw [mS]; have:=c2 h hh; omega,λp H3 s3 np ep=>?_⟩
   have el:cZ (jc (dt n bs)) l=cZ (dF bs) l:=aC6 λh hh=>by
    obtain ⟨d1,d2,d3⟩:=Cj l LK h hh
    exact ⟨(wM mf RO gu d1).2.1,ZZ d2 d3⟩
   rw [el] at ep
   refine ⟨hz,⟨_,rfl⟩,qs++[p],by rw [Qp]; rfl,by rw [Qr,hq]; rfl,s2.trans s3,λj q l' hj dm=>?_⟩
   by_cases cj:j < qs.length
   ·rw [Jb cj] at hj
    exact s3 _ _ (ig j q l' hj dm)
   ·rw [Jp (by omega)] at hj
    have qi:j - qs.length=0:=by
     have:=(Qd.mp hj).1
     simp at this; omega
    rw [qi] at hj
    have e1:p=q:=by simpa using hj
    rw [show j=i by omega,hl] at dm
    rw [<- e1,<- Option.some.inj dm]
    exact ep
  ·rintro zs H2 ⟨qs,rfl,hq,s2,ig⟩ tp lj
   have s3:=s2.trans (aD.new (o:=.lst (qs.map V.ref)) lj)
   have L3:vm (upd H2 tp (.lst (qs.map V.ref))) tp qs (ws.map (cZ (dF bs))):=⟨aB,by rw [Qa]; omega,λj q l hj hl=>by
    rw [Qe] at hl
    obtain ⟨l0,h0,rfl⟩:=Ja.mp hl
    exact (aD.new lj) _ _ (ig j q l0 hj h0)⟩
   generalize upd H2 tp (.lst (qs.map V.ref))=H3 at s3 L3 ⊢
   -- rooms
   refine ⟨_,rfl,lp,rfl,⟨_,s3.ag di⟩,kI (K:=K) (a:=lp) (xs:=us) (vs:=((aQ n.toNat).map (bD bs)).map V.int) (λσ=>∃ v w,σ = [v,w]) (by omega) (by rw [Qa,Qa,bW,xq]) (s3.ag di) ⟨none,none,rfl⟩ ?_ ?_⟩
   ·rintro i u v σ H4 hu hv ⟨v0,w0,rfl⟩ s4 Q' k'
    obtain ⟨x,oj,Ga⟩:=cI ((s3.trans s4).af _ _ EU) hu
    obtain ⟨px,rfl,UR⟩:=hJ.mp Ga
    have qj:i < n.toNat:=by rw [<- xq]; exact (Qd.mp hu).1
    have zo:=iP qj
    rw [Qe,Qe,zo] at hv
    cases hv
    unfold dt at oj
    rw [Qe,zo] at oj
    have ex:fE (dF bs (i:Int))=x:=Option.some.inj oj
    obtain ⟨o1,o2,o3,o4⟩:=Bv x (by rw [<- ex]; exact Jg.mpr ⟨_,Qg zo,rfl⟩)
    have er:bD bs (i:Int)=x.1*60 / x.2:=by
     rw [<- ex]
     exact (v? (wM mf RO gu (Qg zo)).2.1).symm
    refine ⟨px,_,rfl,UR,rfl,_,_,rfl,_,_,rfl,rfl,?_⟩
    refine ⟨_,rfl,_,_,rfl,rfl,⟨iW (by omega),iW (by decide)⟩,_,rfl,_,_,rfl,rfl,⟨o1.1,iW (by have:=o1.1; omega)⟩,?_⟩
    rw [er] at k'
    exact k' _ _ ⟨_,_,rfl⟩ (aD.refl _)
   ·intro H4 s4 mp qd
    have s5:=s3.trans (s4.trans (aD.new (o:=.lst (((aQ n.toNat).map (bD bs)).map V.int)) qd))
    have em:upd H4 mp (.lst (((aQ n.toNat).map (bD bs)).map V.int)) mp=some (.lst (((aQ n.toNat).map (bD bs)).map V.int)):=aB
    have L5:=L3.same (s4.trans (aD.new (o:=.lst (((aQ n.toNat).map (bD bs)).map V.int)) qd))
    generalize upd H4 mp (.lst (((aQ n.toNat).map (bD bs)).map V.int))=H5 at s5 em L5 ⊢
    have y9:=s1.trans s5
    -- amounts
    refine ⟨_,rfl,_,rfl,wp,rfl,⟨_,y9.ag om⟩,kI (K:=K) (a:=wp) (xs:=wt.map V.int) (vs:=(wt.map (· * 60)).map V.int) (λσ=>∃ v,σ = [v]) (by rw [Qa,f6.1]; omega) (by simp) (y9.ag om) ⟨none,rfl⟩ ?_ ?_⟩
    ·rintro i u v σ H6 hu hv ⟨v0,rfl⟩ s6 Q' k'
     obtain ⟨x,oj,rfl⟩:=jU hu
     rw [Qe,Qe,oj] at hv
     cases hv
     have:=f6.2 x (Qg oj)
     exact ⟨_,rfl,_,_,rfl,rfl,⟨iW (by omega),iW (by decide)⟩,k' _ _ ⟨_,rfl⟩ (aD.refl _)⟩
    ·intro H6 s6 ap o9
     have s7:=s6.trans (aD.new (o:=.lst ((wt.map (· * 60)).map V.int)) o9)
     have El:=s5.trans s7
     refine ⟨_,rfl,tp,ap,mp,qs,ws.map (cZ (dF bs)),wt.map (· * 60),(aQ n.toNat).map (bD bs),n.toNat,rfl,L5.same s7,ai.of aB,s7 _ _ em,by rw [Qa,Qa]; exact f6.1,by rw [Qa,bW],by omega,by rw [Qa]; omega,λx oj=>?_,λx oj=>?_,λw h hh=>?_,O! f6.1 mf RO gu,λhp ds cg hl H8 s8 R8 fe HO S8=>?_⟩
     ·obtain ⟨y,hy,rfl⟩:=Jg.mp oj
      have:=f6.2 y hy
      omega
     ·obtain ⟨h,hh,rfl⟩:=Jg.mp oj
      obtain ⟨d1,d2,_⟩:=wM mf RO gu hh
      exact Int.ediv_nonneg (by omega) (by omega)
     ·unfold mV at hh
      by_cases cw:w < ws.length
      ·rw [kP _ ws w [] [] cw] at hh
       have hm:ws.getD w []∈ws:=by
        rw [Qx,Qc cw]; exact Xu cw
       have:=(Cj _ hm h (tI.mp hh).1).2
       omega
      ·rw [Qx,List.getElem?_eq_none (by rw [Qa]; omega)] at hh
       cases hh
     have PT:=aEE f6.1 mf RO gu S8
     rw [Qa] at fe
     dsimp only [cU]
     have FJ:=s7.trans s8
     have FP:=y9.trans FJ
     have DE:ds.length=ws.length:=by rw [R8.len,fe]
     -- shares
     refine ⟨_,rfl,hp,rfl,⟨_,ai.of R8.lst⟩,iF (K:=K) (a:=hp) (xs:=ds.map V.ref) (λσ=>∃ v,σ = [v,some (.ref a)]) (λi zs H9=>aD H8 H9/\aP K H9 (((List.range ws.length).take i).map λw=>K0 n (hl w)) zs) (bP (by rw [Qa]; omega)) ⟨none,rfl⟩ ⟨aD.refl _,aN.mpr rfl⟩ ?_ (λi zs H9 ⟨s9,_⟩=>s9.b_ (ai.of R8.lst)) ?_ ?_⟩
     ·rintro i zs H9 ⟨_,d9⟩
      rw [aH d9,Qa,Qy]
      exact Xo _ _
     ·rintro i zs σ y H9 hy ⟨v,rfl⟩ ⟨s9,d9⟩ hz
      rw [Qe] at hy
      obtain ⟨d,hd,rfl⟩:=Ja.mp hy
      have qj:i < ws.length:=by rw [<- DE]; exact (Qd.mp hd).1
      have GN:i < cg.length:=by rw [fe]; exact qj
      have p_:=Qc GN
      generalize cg[i]=r at p_
      have cb:=s9 _ _ (R8.row i d r hd p_)
      have HR:=HO i r p_
      have SA:=FP.trans s9
      refine ⟨_,rfl,a,_,0,.int n,rfl,rfl,SA.ag ha,rfl,n,rfl,by omega,by omega,gK (lo:=0) (n:=n.toNat) (λσ=>∃ v,σ = [v,some (.ref d)]) (λj as um=>aD H9 um/\aP K um ((((aQ n.toNat).take j).map λh=>fE (hl i h,60)).map jW) as) (bP (by omega)) ⟨none,rfl⟩ ⟨aD.refl _,aN.mpr rfl⟩ ?_ ?_ ?_⟩
      ·rintro j as um ⟨_,BL⟩
       rw [aH BL,Qa,Qa,Qy]
       exact Xo _ _
      ·rintro j as σ um hj ⟨v,rfl⟩ ⟨jb,BL⟩ Cf
       have UC:=iP hj
       have s_:=jb _ _ cb
       refine eO ?_
       refine ⟨_,rfl,.inr (.inr (.inl ⟨rfl,.inl ⟨_,s_⟩⟩)),_,rfl,d,r,.inl (0+(j:Int)),.int 0,rfl,rfl,.inl s_,?_⟩
       rw [HR.get,Zj]
       refine ⟨_,_,rfl,by decide,?_,λp lu=>?_⟩
       ·exact Zg (show (60:Int)<=2^10 by decide) (by decide)
       ·refine ⟨Cf,⟨_,rfl⟩,jb.trans (aD.new lu),?_⟩
        rw [cS UC,Qp,Qp]
        exact bH ((aD.new lu).af _ _ BL) (aL.mpr ⟨_,_,rfl,hJ.mpr ⟨p,rfl,ah.of aB⟩,aN.mpr rfl⟩)
      ·rintro as um ⟨jb,BL⟩ pl jo
       rw [show (aQ n.toNat).take n.toNat=aQ n.toNat from Jn (by rw [bW]; exact Qi _)] at BL
       refine ⟨pl,as,rfl,.inl ⟨ai.of aB,λpt t7=>?_⟩⟩
       have h8:=(aD.new (o:=.lst as) jo).trans (aD.new (o:=.tup as) t7)
       refine ⟨hz,⟨_,rfl⟩,s9.trans (jb.trans h8),?_⟩
       rw [cS (Zq qj),Qp]
       exact bH ((jb.trans h8).af _ _ d9) (aL.mpr ⟨_,_,rfl,bL.mpr ⟨pt,as,rfl,ah.of aB,h8.af _ _ BL⟩,aN.mpr rfl⟩)
     ·rintro zs H9 ⟨s9,d9⟩ sp ie
      rw [Qa,DE,Jn (by rw [Zv]; exact Qi _)] at d9
      have sE:=s9.trans (aD.new (o:=.lst zs) ie)
      have FW:H sp=none:=(FP.trans s9).free ie
      have Dz:=(s5.trans (FJ.trans sE)).ag di
      have DN:=(s5.trans (FJ.trans sE)).af _ _ EU
      have Dl:=FP.trans sE
      have es:upd H9 sp (.lst zs) sp=some (.lst zs):=aB
      have NO:=(aD.new (o:=.lst zs) ie).af _ _ d9
      generalize upd H9 sp (.lst zs)=um at Dz DN Dl es NO ⊢
      exact ⟨_,rfl,_,rfl,bP (show 2<=1000 by decide),λp lu=>k p lp us sp zs bs hl _ (Dl.trans (aD.new lu)) (ah.of aB) ((aD.new lu).ag Dz) ((aD.new lu).af _ _ DN) FW ((aD.new lu) _ _ es) ((aD.new lu).af _ _ NO) mf PT⟩
noncomputable def h_ (lv:List Int) (h:Int):Int:=lv.getD h.toNat 0
structure ko (n:Int) (ws:List (List Int)) (hs lv:List Int):Prop where
 box:∀ h:Int,0<=h->h < n->h_ lv h<=((hs.count h:Nat):Int)/\((hs.count h:Nat):Int)<=h_ lv h+1
 low:∀ (i:Nat) g l,hs[i]?=some g->ws[i]?=some l->∀ u∈l,h_ lv g<=h_ lv u
noncomputable def pL (lv:List Int) (t:Int):Int->Bool:=λh=>decide (t<=h_ lv h)
noncomputable def cL (n:Int) (lv:List Int) (t:Int):Int:=aG ((aQ n.toNat).map λh=>if pL lv t h then -t else 0)
theorem uF {n:Int}:∀ x∈aQ n.toNat,0<=x/\x < n:=λx hx=>by
 unfold aQ at hx
 obtain ⟨i,hi,rfl⟩:=Jg.mp hx
 have:=Jy.mp hi
 omega
section
variable {n:Int} {hs':List Int}
theorem ZY (L:kJ n ws hs lv) (hr:∀ h∈hs,0<=h/\h < n) (hw:∀ l∈ws,∀ h∈l,0<=h/\h < n):ko n ws hs lv:=by
 obtain ⟨u5,hL⟩:=L
 have at_:∀ h:Int,0<=h->h < n->oG ws hs n.toNat h (h_ lv h)/\((hs.count h:Nat):Int) - h_ lv h < 2:=λh h0 h1=>by
  have e:=Qc (show h.toNat < lv.length by omega)
  have m:=hL _ _ e
  rw [show ((h.toNat:Nat):Int)=h by omega] at m
  have e2:h_ lv h=lv[h.toNat]'(by omega):=by unfold h_; rw [Qx,e]; rfl
  rw [e2]; exact m
 refine ⟨λh h0 h1=>?_,λi g l hg hl u hu=>?_⟩
 ·obtain ⟨m,d⟩:=at_ h h0 h1
  have:=m.le
  omega
 ·have gb:=hr g (Qg hg)
  have ub:=hw l (Qg hl) u hu
  by_cases e:u=g
  ·rw [e]; exact Je _
  ·exact (at_ g gb.1 gb.2).1.w9 (at_ u ub.1 ub.2).1 (w:=i) ⟨hg,l,hl,hu,e⟩
theorem ko.yx (L:ko n ws hs lv) (hr:∀ h∈hs,0<=h/\h < n) (t:Int):ex t (aV n hs)=ib (pL lv t) hs+cL n lv t:=by
 rw [<- kO _ hr]
 unfold ex aV cL
 rw [Xz,<- cF]
 refine aZ λh hh=>?_
 obtain ⟨h0,h1⟩:=uF h hh
 have b:=L.box h h0 h1
 show max (((hs.count h:Nat):Int) - t) 0=_
 unfold pL
 by_cases hp:t<=h_ lv h
 ·rw [decide_eq_true hp,if_pos rfl,if_pos rfl]; omega
 ·rw [decide_eq_false hp,if_neg Qu,if_neg Qu]; omega
theorem Pq (hr:∀ h∈hs',0<=h/\h < n) (t:Int):ib (pL lv t) hs'+cL n lv t=aG ((aQ n.toNat).map λh=>if pL lv t h then ((hs'.count h:Nat):Int) - t else 0):=by
 rw [<- kO _ hr]
 unfold cL
 rw [<- cF]
 refine aZ λh hh=>?_
 split <;> omega
theorem Pp (t:Int):ex t (aV n hs')=aG ((aQ n.toNat).map λh=>max (((hs'.count h:Nat):Int) - t) 0):=by
 unfold ex aV; rw [Xz]; rfl
theorem Oz (hr:∀ h∈hs',0<=h/\h < n) (t:Int):ib (pL lv t) hs'+cL n lv t<=ex t (aV n hs'):=by
 rw [Pq hr,Pp]
 exact gI λh hh=>by split <;> omega
theorem ko.up (L:ko n ws hs lv) (ha:∀ (i:Nat) t,hs'[i]?=some t->∃ l,ws[i]?=some l/\t∈l) (t:Int):∀ (i:Nat) g u,hs[i]?=some g->hs'[i]?=some u->pL lv t g=true->pL lv t u=true:=λi g u hg hu hp=>by
 obtain ⟨l,el,xq⟩:=ha i u hu
 exact decide_eq_true (Za (of_decide_eq_true hp) (L.low i g l hg el u xq))
theorem uG {f g:α->Int}:∀ {l:List α},(∀ x∈l,f x<=g x)->aG (l.map f)=aG (l.map g)->∀ x∈l,f x=g x
 | a::l,h,e,x,hx=>by
  have h1:=h a (Ql ..)
  have h2:=gI (l:=l) λx hx=>h x (Qo _ hx)
  have e':f a+aG (l.map f)=g a+aG (l.map g):=e
  rcases Qk.mp hx with rfl | hx
  ·omega
  ·exact uG (λx hx=>h x (Qo _ hx)) (by omega) x hx
theorem aEG {p:Int->Bool} (hl:hs.length=hs'.length) (h:∀ (i:Nat) g t,hs[i]?=some g->hs'[i]?=some t->p g=true->p t=true) (e:ib p hs=ib p hs'):∀ (i:Nat) g t,hs[i]?=some g->hs'[i]?=some t->p t=true->p g=true:=by
 have e1:ib p hs=aG ((hs.zip hs').map λq=>if p q.1 then 1 else 0):=by
  unfold ib; conv=>lhs; rw [<- QC hl,Xz]
  rfl
 have e2:ib p hs'=aG ((hs.zip hs').map λq=>if p q.2 then 1 else 0):=by
  unfold ib; conv=>lhs; rw [<- QB hl,Xz]
  rfl
 rw [e1,e2] at e
 intro i g t hg ht hp
 have hm:(hs.zip hs')[i]?=some (g,t):=Jz.mpr ⟨hg,ht⟩
 have:=uG (f:=λq:Int×Int=>if p q.1 then (1:Int) else 0) (g:=λq=>if p q.2 then 1 else 0) (λq hq=>by
  obtain ⟨j,hj⟩:=Qv.mp hq
  obtain ⟨a,b⟩:=Jz.mp hj
  have:=h j _ _ a b
  show (if p q.1 then (1:Int) else 0)<=if p q.2 then 1 else 0
  cases c:p q.1 with
  | false=>simp only [Ju,if_false]; split <;> omega
  | true=>rw [this c]; exact Je _) e _ (Qg hm)
 simp only [hp,if_true] at this
 by_cases c:p g=true
 ·exact c
 ·rw [if_neg c] at this; omega
theorem Oy {hs':List Int} (gj:eI ws (eG hs')=true):∀ (i:Nat) t,hs'[i]?=some t->∃ l,ws[i]?=some l/\t∈l:=λi u hu=>by
 obtain ⟨dm,U7⟩:=bQ gj
 have ax:i < ws.length:=by rw [<- dm]; exact (Qd.mp hu).1
 have e:=Qc ax
 exact ⟨_,e,U7 i u _ hu e⟩
theorem ko.i5 (L:ko n ws hs lv) (hd:eI ws (eG hs)=true) (gj:eI ws (eG hs')=true) (t:Int):ib (pL lv t) hs<=ib (pL lv t) hs' :=
 Ab.i5 ((bQ hd).1.trans (bQ gj).1.symm) (L.up (Oy gj) t)
theorem ko.least (L:ko n ws hs lv) (hb:bN (bI n ws)=true) (hd:eI ws (eG hs)=true) (gj:eI ws (eG hs')=true) (t:Int):ex t (aV n hs)<=ex t (aV n hs'):=by
 rw [L.yx (jM hb hd)]
 have:=Oz (lv:=lv) (jM hb gj) t
 have:=L.i5 hd gj t
 omega
theorem ko.same (L:ko n ws hs lv) (hb:bN (bI n ws)=true) (hd:eI ws (eG hs)=true) (gj:eI ws (eG hs')=true) (h:∀ t,ex t (aV n hs')=ex t (aV n hs)):ko n ws hs' lv:=by
 have key:∀ t,ib (pL lv t) hs=ib (pL lv t) hs'/\ib (pL lv t) hs'+cL n lv t=ex t (aV n hs'):=λt=>by
  have h1:=L.yx (jM hb hd) t
  have h2:=Oz (lv:=lv) (jM hb gj) t
  have h3:=L.i5 hd gj t
  have h4:=h t
  constructor <;> omega
 have tw:∀ t x:Int,0<=x->x < n->(if pL lv t x then ((hs'.count x:Nat):Int) - t else 0)=max (((hs'.count x:Nat):Int) - t) 0:=λt x h0 h1=>by
  have e:=(key t).2
  rw [Pq (jM hb gj),Pp] at e
  exact uG (f:=λh=>if pL lv t h then ((hs'.count h:Nat):Int) - t else 0) (g:=λh=>max (((hs'.count h:Nat):Int) - t) 0) (λy _=>by by_cases c:pL lv t y=true <;> simp only [c,if_true,if_false,Ju] <;> exact (by omega)) e x (by
   unfold aQ
   exact Jg.mpr ⟨x.toNat,Jy.mpr (by omega),by omega⟩)
 refine ⟨λx h0 h1=>?_,λi g l hg hl u hu=>?_⟩
 ·have a:=tw (h_ lv x) x h0 h1
  have b:=tw (h_ lv x+1) x h0 h1
  rw [show pL lv (h_ lv x) x=true from decide_eq_true (Je _),if_pos rfl] at a
  rw [show pL lv (h_ lv x+1) x=false from decide_eq_false (by omega),if_neg Qu] at b
  omega
 ·have ax:i < hs.length:=by rw [(bQ hd).1,<- (bQ gj).1]; exact (Qd.mp hg).1
  have eo:=Qc ax
  have:=aEG ((bQ hd).1.trans (bQ gj).1.symm) (L.up (Oy gj) (h_ lv g)) (key _).1 i _ g eo hg (decide_eq_true (Je _))
  exact Za (of_decide_eq_true this) (L.low i _ l eo hl u hu)
theorem ko.iff (L:ko n ws hs lv) (hb:bN (bI n ws)=true) (hd:eI ws (eG hs)=true) (gj:eI ws (eG hs')=true):(aV n hs').Perm (aV n hs)↔ko n ws hs' lv:=by
 refine ⟨λp=>L.same hb hd gj λt=>yA p,λL'=>?_⟩
 have a:=Wx (aV n hs) λa b=>decide (a≥b)
 have a':=Wx (aV n hs') λa b=>decide (a≥b)
 have so:∀ l:List Int,(l.mergeSort λa b=>decide (a≥b)).Pairwise (·≥·):=λl=>by
  have:=List.pairwise_mergeSort (le:=λa b:Int=>decide (a≥b)) (by intro a b c h1 h2; simp at *; omega) (by intro a b; simp; omega) l
  exact this.imp λh=>by simpa using h
 have:=aBl (a:=aV n hs) (b:=aV n hs') (by unfold aV; rw [Qa,Qa]) (λt=>L.least hb hd gj t) (λt=>L'.least hb gj hd t) a a' (so _) (so _)
 exact a'.symm.trans ((List.Perm.of_eq this.symm).trans a)
end
theorem aC7 (ok:dZ left rows) (p q:Int->Bool):c9 rows p+c9 rows q<=c9 rows (λh=>p h || q h)+c9 rows (λh=>p h && q h):=by
 unfold c9
 rw [<- cF,<- cF]
 refine gI λr hr=>?_
 have h0:=(ok r hr).2.2
 have a1:r.1.all p=true->r.1.all (λh=>p h || q h)=true:=λh=>Qt.mpr λx hx=>by rw [Qt.mp h x hx]; rfl
 have a2:r.1.all q=true->r.1.all (λh=>p h || q h)=true:=λh=>Qt.mpr λx hx=>by rw [Qt.mp h x hx]; exact Bool.or_true _
 have a3:r.1.all p=true->r.1.all q=true->r.1.all (λh=>p h && q h)=true:=λh h'=>Qt.mpr λx hx=>by rw [Qt.mp h x hx,Qt.mp h' x hx]; rfl
 by_cases c1:r.1.all p=true
 ·rw [if_pos c1,if_pos (a1 c1)]
  by_cases c2:r.1.all q=true
  ·rw [if_pos c2,if_pos (a3 c1 c2)]; exact Je _
  ·rw [if_neg c2]; split <;> omega
 ·rw [if_neg c1]
  by_cases c2:r.1.all q=true
  ·rw [if_pos c2,if_pos (a2 c2)]; split <;> omega
  ·rw [if_neg c2]; split <;> split <;> omega
theorem aC8 (left:List Int) (p q:Int->Bool):gE left (λh=>p h || q h)+gE left (λh=>p h && q h)=gE left p+gE left q:=by
 unfold gE
 induction left with
 | nil=>rfl
 | cons x l ih =>
  rw [Qz,Qz,Qz,Qz]
  cases hp:p x <;> cases hq:q x
  ·simp only [Yk,Zx,Ju,if_false]; exact ih
  ·simp only [Yk,Zx,Ju,if_false,if_true,Jr]; omega
  ·simp only [Wh,Xq,Ju,if_false,if_true,Jr]; omega
  ·simp only [Wh,Xq,if_true,Jr]; omega
theorem uH {s:List Int} (ok:dZ left rows) (H:xW left rows s m) {p:Int->Bool} (h:c9 rows p*s.length=m*gE left p):∀ x∈left,p x=true->x∈s:=by
 obtain ⟨a1,a2,a3,a4⟩:=H
 have cA:gE left (ak s)=s.length:=by unfold gE; rw [<- a2]
 have ps:(0:Int) < s.length:=by have:=Jj.mpr a1; omega
 have h1:=aC7 ok (ak s) p
 have h2:=aC8 left (ak s) p
 rw [<- a3] at h1
 rw [cA] at h2
 obtain ⟨b1,b2⟩:=a4 λh=>ak s h || p h
 have c1:=(a4 λh=>ak s h && p h).1
 have d1:(m+c9 rows p)*s.length<=(c9 rows (λh=>ak s h || p h)+c9 rows (λh=>ak s h && p h))*s.length:=Jw h1 (Yd ps)
 rw [Zr,Zr,h] at d1
 have d2:m*(gE left (λh=>ak s h || p h)+gE left (λh=>ak s h && p h))=m*(s.length+gE left p):=by rw [h2]
 rw [Ys,Ys] at d2
 have d3:=b2 (by omega)
 rw [pN a2] at d3
 intro x hx hp
 by_cases c:x∈s
 ·exact c
 ·have:x∈(left.filter λh=>!ak s h).filter p:=Jd.mpr ⟨Jd.mpr ⟨hx,by rw [show ak s x=false from decide_eq_false c]; rfl⟩,hp⟩
  have:=List.length_pos_of_mem this
  unfold gE at d3
  omega
theorem aC9 {s s':List Int} {m':Int} (ok:dZ left rows) (H:xW left rows s m) (H':xW left rows s' m'):s=s'/\m=m':=by
 have cA:gE left (ak s)=s.length:=by unfold gE; rw [<- H.2.1]
 have cB:gE left (ak s')=s'.length:=by unfold gE; rw [<- H'.2.1]
 have e1:=(H.2.2.2 (ak s')).1
 have e2:=(H'.2.2.2 (ak s)).1
 rw [<- H'.2.2.1,cB] at e1
 rw [<- H.2.2.1,cA] at e2
 have e:m'*s.length=m*s'.length:=by omega
 have t1:=uH ok H (p:=ak s') (by rw [<- H'.2.2.1,cB]; exact e)
 have t2:=uH ok H' (p:=ak s) (by rw [<- H.2.2.1,cA]; exact e.symm)
 have es:s=s':=by
  rw [H.2.1,H'.2.1]
  refine List.filter_congr λx hx=>?_
  rw [Xf,fJ,fJ]
  exact ⟨λh=>t2 x hx (fJ.mpr h),λh=>t1 x hx (fJ.mpr h)⟩
 exact ⟨es,by rw [H.2.2.1,H'.2.2.1,es]⟩
theorem QZ {s:List Int} (H:xW [] rows s m):False:=H.1 (by rw [H.2.1]; rfl)
theorem uI:∀ {bs BM:bT} {left:List Int} {rows:bT},dZ left rows->dX left rows bs->dX left rows BM->bs=BM
 | [],[],_,_,_,_,_=>rfl
 | [],c::_,left,rows,_,h,h'=>by
  rw [show left = [] from h] at h'
  exact (QZ h'.1).elim
 | b::_,[],left,rows,_,h,h'=>by
  rw [show left = [] from h'] at h
  exact (QZ h.1).elim
 | b::bs,c::BM,left,rows,ok,h,h'=>by
  obtain ⟨e1,e2⟩:=aC9 ok h.1 h'.1
  have e:b=c:=Prod.ext e1 e2
  subst e
  rw [uI ok.bw h.2 h'.2]
theorem QY {f:Int->Int} {g:List Int->Int}:∀ {hs:List Int} {ws:List (List Int)},hs.length=ws.length->(∀ (i:Nat) x l,hs[i]?=some x->ws[i]?=some l->f x<=g l)->aG (hs.map f)<=aG (ws.map g)
 | [],[],_,_=>Je _
 | x::hs,l::ws,e,h=>by
  have h0:=h 0 x l rfl rfl
  have h1:=QY (hs:=hs) (ws:=ws) (by simpa using e) λi y m a b=>h (i+1) y m a b
  show f x+aG (hs.map f)<=g l+aG (ws.map g)
  omega
theorem wN {f:Int->Int} {g:List Int->Int}:∀ {hs:List Int} {ws:List (List Int)},hs.length=ws.length->(∀ (i:Nat) x l,hs[i]?=some x->ws[i]?=some l->g l<=f x)->aG (ws.map g)<=aG (hs.map f)
 | [],[],_,_=>Je _
 | x::hs,l::ws,e,h=>by
  have h0:=h 0 x l rfl rfl
  have h1:=wN (hs:=hs) (ws:=ws) (by simpa using e) λi y m a b=>h (i+1) y m a b
  show g l+aG (ws.map g)<=f x+aG (hs.map f)
  omega
noncomputable def jX (ws:List (List Int)):List Int:=List.replicate ws.length 1
theorem uJ (f:List Int×Int->Int):∀ ws:List (List Int),(ws.zip (jX ws)).map f=ws.map λl=>f (l,1)
 | []=>rfl
 | l::ws=>by
  show f (l,1)::(ws.zip (jX ws)).map f=_
  rw [uJ f ws]; rfl
theorem jY (ws:List (List Int)):yf ws (jX ws):=⟨Xh,λw hw=>by rw [Wd hw]; decide⟩
section
variable {n:Int} {bs:bT} {h:Int}
structure dj (n:Int) (ws:List (List Int)) (hs lv:List Int) (bs:bT):Prop where
 bk:bN (bI n ws)=true
 dl:eI ws (eG hs)=true
 lv:ko n ws hs lv
 bl:dX (aQ n.toNat) (ws.zip (jX ws)) bs
theorem dj.ok (T:dj n ws hs lv bs):dZ (aQ n.toNat) (ws.zip (jX ws)):=(iR T.bk (jY ws)).1
theorem dj.n6 (T:dj n ws hs lv bs):1<=n/\n<=6:=by
 obtain ⟨a,b,_⟩:=bB T.bk
 exact ⟨a,b⟩
theorem dj.BX (T:dj n ws hs lv bs):(aQ n.toNat).length<=6:=by
 have:=T.n6.2
 unfold aQ
 rw [Qa,Zv]; omega
theorem dj.len (T:dj n ws hs lv bs):hs.length=ws.length:=(bQ T.dl).1
theorem dj.ir (T:dj n ws hs lv bs) {g:Int} (hg:hs[i]?=some g) (hl:ws[i]?=some l):g∈l:=(bQ T.dl).2 i g l hg hl
theorem dj.se (T:dj n ws hs lv bs) (hl:ws[i]?=some l):∀ x∈l,x∈aQ n.toNat:=λx hx=>by
 have:=(cE ((bB T.bk).2.2.2 l (Qg hl))).2.1 x hx
 exact (pM (by omega)).mpr this
theorem dj.le (T:dj n ws hs lv bs) {x y:Int} (hx:x∈aQ n.toNat) (hy:y∈aQ n.toNat) (e:jK (dF bs x) (dF bs y)=false):bD bs y<=bD bs x:=by
 obtain ⟨b,hb,_,eb⟩:=jV T.bl x hx
 obtain ⟨c,hc,_,ec⟩:=jV T.bl y hy
 have up:=T.BX
 obtain ⟨b0,b1,b2,_⟩:=lE T.ok T.bl b hb
 obtain ⟨c0,c1,c2,_⟩:=lE T.ok T.bl c hc
 have bp:=Jj.mpr b0
 have cp:=Jj.mpr c0
 unfold jK at e
 have e:=of_decide_eq_false e
 unfold bD
 rw [eb,ec] at e ⊢
 have d1:=tH (m:=b.2) bp (by omega)
 have d2:=tH (m:=c.2) cp (by omega)
 dsimp only at e ⊢
 generalize b.2*60 / (b.1.length:Int)=P at d1 ⊢
 generalize c.2*60 / (c.1.length:Int)=R at d2 ⊢
 generalize b.1.length=k at *
 generalize c.1.length=m at *
 have hk:k=1∨k=2∨k=3∨k=4∨k=5∨k=6:=by omega
 have hm:m=1∨m=2∨m=3∨m=4∨m=5∨m=6:=by omega
 rcases hk with rfl | rfl | rfl | rfl | rfl | rfl <;> rcases hm with rfl | rfl | rfl | rfl | rfl | rfl <;> omega
theorem dj.wx (T:dj n ws hs lv bs) (hl:ws[i]?=some l):∀ y∈gc bs l,y∈l/\∀ o∈l,bD bs y<=bD bs o:=λy hy=>by
 obtain ⟨a,b⟩:=pO T.bl l (T.se hl) y hy
 exact ⟨a,λo ho=>T.le (T.se hl o ho) (T.se hl y a) (b o ho)⟩
theorem dj.jm (T:dj n ws hs lv bs):∀ h∈hs,0<=h/\h < n:=jM T.bk T.dl
theorem dj.upper (T:dj n ws hs lv bs) (X:Int->Bool) (hX:∀ (i:Nat) g l,hs[i]?=some g->ws[i]?=some l->X g=true->∀ y∈gc bs l,X y=true) :
  60*aG ((aQ n.toNat).map λx=>if X x then ((hs.count x:Nat):Int) else 0)<=aG ((aQ n.toNat).map λx=>if X x=true then bD bs x else 0):=by
 rw [kO X T.jm]
 refine Za ?_ (oS T.bl T.ok T.BX X)
 rw [uJ]
 dsimp only
 have:ib X hs<=aG (ws.map λl=>if (gc bs l).all X=true then 1 else 0):=QY T.len λi x l a b=>by
  cases c:X x with
  | false=>simp only [Ju,if_false]; split <;> decide
  | true=>rw [if_pos rfl,if_pos (Qt.mpr (hX i x l a b c))]; exact Je _
 omega
theorem dj.lower (T:dj n ws hs lv bs) (X:Int->Bool) (hX:∀ (i:Nat) g l,hs[i]?=some g->ws[i]?=some l->∀ y∈gc bs l,X y=true->X g=true) :
  aG ((aQ n.toNat).map λx=>if X x=true then bD bs x else 0)<=60*aG ((aQ n.toNat).map λx=>if X x then ((hs.count x:Nat):Int) else 0):=by
 rw [kO X T.jm]
 have h1:=oS T.bl T.ok T.BX λx=>!X x
 have h2:=xX T.bl T.ok T.BX
 rw [uJ] at h1 h2
 dsimp only at h1 h2
 have h3:aG ((aQ n.toNat).map (bD bs))=aG ((aQ n.toNat).map λx=>if X x=true then bD bs x else 0)+aG ((aQ n.toNat).map λx=>if (!X x)=true then bD bs x else 0):=by
  rw [<- cF]
  exact aZ λx _=>by cases X x <;> simp
 have h4:aG (ws.map λl=>(1:Int))<=ib X hs+aG (ws.map λl=>if (gc bs l).all (λx=>!X x)=true then 1 else 0):=by
  have e:aG (ws.map λl=>(1:Int)) - aG (ws.map λl=>if (gc bs l).all (λx=>!X x)=true then 1 else 0)=aG (ws.map λl=>if (gc bs l).all (λx=>!X x)=true then 0 else 1):=by
   have:aG (ws.map λl=>(1:Int))=aG (ws.map λl=>if (gc bs l).all (λx=>!X x)=true then (0:Int) else 1)+aG (ws.map λl=>if (gc bs l).all (λx=>!X x)=true then (1:Int) else 0):=by
    rw [<- cF]
    exact aZ λl _=>by split <;> rfl
   omega
  have:aG (ws.map λl=>if (gc bs l).all (λx=>!X x)=true then (0:Int) else 1)<=ib X hs:=wN T.len λi x l a b=>by
   by_cases c:(gc bs l).all (λx=>!X x)=true
   ·rw [if_pos c]; split <;> decide
   ·rw [if_neg c]
    have:∃ y∈gc bs l,X y=true:=by
     have c':=Bool.eq_false_iff.mpr c
     rw [List.all_eq_false] at c'
     obtain ⟨y,hy,hz⟩:=c'
     exact ⟨y,hy,by simpa using hz⟩
    obtain ⟨y,hy,hz⟩:=this
    rw [if_pos (hX i x l a b y hy hz)]; exact Je _
  omega
 omega
noncomputable def nU (n:Int) (X:Int->Bool):Int:=aG ((aQ n.toNat).map λx=>if X x=true then 1 else 0)
theorem yH {X:Int->Bool} {f:Int->Int} {c:Int} (h:∀ x∈aQ n.toNat,X x=true->f x<=c):aG ((aQ n.toNat).map λx=>if X x=true then f x else 0)<=c*nU n X:=by
 unfold nU
 rw [<- fY]
 exact gI λx hx=>by
  cases q:X x with
  | true=>rw [if_pos rfl,if_pos rfl]; have:=h x hx q; omega
  | false=>simp
theorem yI {X:Int->Bool} {f:Int->Int} {c:Int} (h:∀ x∈aQ n.toNat,X x=true->c<=f x):c*nU n X<=aG ((aQ n.toNat).map λx=>if X x=true then f x else 0):=by
 unfold nU
 rw [<- fY]
 exact gI λx hx=>by
  cases q:X x with
  | true=>rw [if_pos rfl,if_pos rfl]; have:=h x hx q; omega
  | false=>simp
theorem pA {X:Int->Bool} (hh:h∈aQ n.toNat) (q:X h=true):1<=nU n X:=by
 have:=iH (f:=λx=>if X x=true then (1:Int) else 0) (λx _=>by split <;> decide) hh
 rw [if_pos q] at this
 exact this
theorem dj.near (T:dj n ws hs lv bs) (hh:h∈aQ n.toNat):60*(((hs.count h:Nat):Int) - 1) < bD bs h/\bD bs h < 60*(((hs.count h:Nat):Int)+1):=by
 have hb:=λx (hx:x∈aQ n.toNat)=>T.lv.box x (uF x hx).1 (uF x hx).2
 have gh:=hb h hh
 refine ⟨?_,?_⟩
 ·obtain ⟨X,eX⟩:∃ X:Int->Bool,X=λx=>decide (h_ lv h<=h_ lv x) && decide (bD bs x<=bD bs h):=⟨_,rfl⟩
  have iX:∀ x,X x=true↔h_ lv h<=h_ lv x/\bD bs x<=bD bs h:=λx=>by rw [eX]; simp
  have u:=T.upper X λi g l hg hl hx y hy=>by
   obtain ⟨a,b⟩:=(iX g).mp hx
   obtain ⟨c,d⟩:=T.wx hl y hy
   exact (iX y).mpr ⟨Za a (T.lv.low i g l hg hl y c),Za (d g (T.ir hg hl)) b⟩
  have u3:=yH (n:=n) (X:=X) (f:=bD bs) (c:=bD bs h) λx _ hx=>((iX x).mp hx).2
  have u4:(((hs.count h:Nat):Int) - 1)*nU n X+1<=aG ((aQ n.toNat).map λx=>if X x then ((hs.count x:Nat):Int) else 0):=by
   have e:aG ((aQ n.toNat).map λx=>if X x=true then ((hs.count x:Nat):Int) else 0)=(((hs.count h:Nat):Int) - 1)*nU n X+aG ((aQ n.toNat).map λx=>if X x=true then ((hs.count x:Nat):Int) - (((hs.count h:Nat):Int) - 1) else 0):=by
    unfold nU
    rw [<- fY,<- cF]
    exact aZ λx _=>by split <;> omega
   have m:=iH (f:=λx=>if X x=true then ((hs.count x:Nat):Int) - (((hs.count h:Nat):Int) - 1) else 0) (l:=aQ n.toNat) (y:=h) (λx hx=>by
    split
    ·rename_i q
     have:=(iX x).mp q
     have:=hb x hx
     omega
    ·exact Je _) hh
   rw [if_pos ((iX h).mpr ⟨Je _,Je _⟩)] at m
   rw [e]; omega
  have c1:=pA (X:=X) hh ((iX h).mpr ⟨Je _,Je _⟩)
  generalize nU n X=c at *
  rcases Wm (60*(((hs.count h:Nat):Int) - 1)) (bD bs h) with z | z
  ·exact z
  ·have:=Jw z (show 0<=c by omega)
   rw [Jx] at this
   omega
 ·obtain ⟨X,eX⟩:∃ X:Int->Bool,X=λx=>decide (h_ lv x<=h_ lv h) && decide (bD bs h<=bD bs x):=⟨_,rfl⟩
  have iX:∀ x,X x=true↔h_ lv x<=h_ lv h/\bD bs h<=bD bs x:=λx=>by rw [eX]; simp
  have u:=T.lower X λi g l hg hl y hy hx=>by
   obtain ⟨a,b⟩:=(iX y).mp hx
   obtain ⟨c,d⟩:=T.wx hl y hy
   exact (iX g).mpr ⟨Za (T.lv.low i g l hg hl y c) a,Za b (d g (T.ir hg hl))⟩
  have u3:=yI (n:=n) (X:=X) (f:=bD bs) (c:=bD bs h) λx _ hx=>((iX x).mp hx).2
  have u4:aG ((aQ n.toNat).map λx=>if X x then ((hs.count x:Nat):Int) else 0)<=(((hs.count h:Nat):Int)+1)*nU n X - 1:=by
   have e:(((hs.count h:Nat):Int)+1)*nU n X=aG ((aQ n.toNat).map λx=>if X x=true then ((hs.count x:Nat):Int) else 0)+aG ((aQ n.toNat).map λx=>if X x=true then (((hs.count h:Nat):Int)+1) - ((hs.count x:Nat):Int) else 0):=by
    unfold nU
    rw [<- fY,<- cF]
    exact aZ λx _=>by split <;> omega
   have m:=iH (f:=λx=>if X x=true then (((hs.count h:Nat):Int)+1) - ((hs.count x:Nat):Int) else 0) (l:=aQ n.toNat) (y:=h) (λx hx=>by
    split
    ·rename_i q
     have:=(iX x).mp q
     have:=hb x hx
     omega
    ·exact Je _) hh
   rw [if_pos ((iX h).mpr ⟨Je _,Je _⟩)] at m
   rw [e]; omega
  have c1:=pA (X:=X) hh ((iX h).mpr ⟨Je _,Je _⟩)
  generalize nU n X=c at *
  rcases Wm (bD bs h) (60*(((hs.count h:Nat):Int)+1)) with z | z
  ·exact z
  ·have:=Jw z (show 0<=c by omega)
   rw [Jx] at this
   omega
structure Sx (P a b:Int):Prop where
 a0:0<=a
 b1:1<=b
 b6:b<=6
 e:P*b=60*a
theorem pX {k:Nat} (m0:0<=m) (k0:0 < k) (k6:k<=6):Sx (m*60 / (k:Int)) (fE (m,(k:Int))).1 (fE (m,(k:Int))).2:=by
 have d:=tH (m:=m) k0 k6
 have kp:(0:Int) < (k:Int):=by omega
 have a1:=C2 m kp
 have b1:=wH m kp
 have g:=mM (a:=m) kp
 have p:=oT m kp
 have a0:=QG m0 kp
 have le:gX m k<=(k:Int):=by
  have:1*gX m k<=(Int.gcd m k:Int)*gX m k:=Jw (by omega) (by omega)
  omega
 refine ⟨a0,by show 1<=gX m k; omega,by show gX m k<=6; omega,?_⟩
 show m*60 / (k:Int)*gX m k=60*iV m k
 generalize m*60 / (k:Int)=P at *
 have c:=aCT m kp
 have:(k:Int)*(P*gX m k)=(k:Int)*(60*iV m k):=by
  calc (k:Int)*(P*gX m k)=(P*k)*gX m k:=by rw [<- Jx,Xp (k:Int) P]
   _=60*(m*gX m k):=by rw [d,Xp m 60,Jx]
   _=60*(iV m k*k):=by rw [c]
   _=(k:Int)*(60*iV m k):=by rw [Xp (k:Int),Jx]
 exact Int.eq_of_mul_eq_mul_left (by omega) this
theorem dj.sx (T:dj n ws hs lv bs) (hh:h∈aQ n.toNat):Sx (bD bs h) (fE (dF bs h)).1 (fE (dF bs h)).2:=by
 obtain ⟨a,b,c,k,hk⟩:=wM T.bl T.ok T.n6.2 hh
 have:=pX (m:=(dF bs h).1) (k:=k) a (by omega) (by omega)
 rw [<- hk] at this
 exact this
theorem Sx.near {P a b x:Int} (S:Sx P a b) (h1:60*(x - 1) < P) (h2:P < 60*(x+1)):x=a / b∨x=a / b+(if a % b > 0 then 1 else 0):=by
 obtain ⟨a0,b1,b6,e⟩:=S
 have:b=1∨b=2∨b=3∨b=4∨b=5∨b=6:=by omega
 rcases this with rfl | rfl | rfl | rfl | rfl | rfl <;> split <;> omega
theorem Sx.up {P a b:Int} (S:Sx P a b):a / b+(if a % b > 0 then 1 else 0)=(a+b - 1) / b:=by
 obtain ⟨a0,b1,b6,e⟩:=S
 have:b=1∨b=2∨b=3∨b=4∨b=5∨b=6:=by omega
 rcases this with rfl | rfl | rfl | rfl | rfl | rfl <;> split <;> omega
theorem Sx.ceil {P a b x:Int} (S:Sx P a b) (h1:60*(x - 1) < P) (h2:P<=60*x):x=(a+b - 1) / b:=by
 obtain ⟨a0,b1,b6,e⟩:=S
 have:b=1∨b=2∨b=3∨b=4∨b=5∨b=6:=by omega
 rcases this with rfl | rfl | rfl | rfl | rfl | rfl <;> omega
theorem Sx.floor {P a b x:Int} (S:Sx P a b) (h1:60*x<=P) (h2:P < 60*(x+1)):x=a / b:=by
 obtain ⟨a0,b1,b6,e⟩:=S
 have:b=1∨b=2∨b=3∨b=4∨b=5∨b=6:=by omega
 rcases this with rfl | rfl | rfl | rfl | rfl | rfl <;> omega
theorem dj.most (T:dj n ws hs lv bs) {M:Int} (hM:∀ x∈aQ n.toNat,((hs.count x:Nat):Int)<=M) (hh:h∈aQ n.toNat):bD bs h<=60*M:=by
 obtain ⟨X,eX⟩:∃ X:Int->Bool,X=λx=>decide (bD bs h<=bD bs x):=⟨_,rfl⟩
 have iX:∀ x,X x=true↔bD bs h<=bD bs x:=λx=>by rw [eX]; simp
 have u:=T.lower X λi g l hg hl y hy hx=>(iX g).mpr (Za ((iX y).mp hx) ((T.wx hl y hy).2 g (T.ir hg hl)))
 have u3:=yI (n:=n) (X:=X) (f:=bD bs) (c:=bD bs h) λx _ hx=>(iX x).mp hx
 have u4:=yH (n:=n) (X:=X) (f:=λx=>((hs.count x:Nat):Int)) (c:=M) λx hx _=>hM x hx
 have c1:=pA (X:=X) hh ((iX h).mpr (Je _))
 generalize nU n X=c at *
 rcases Wm (60*M) (bD bs h) with z | z
 ·have:=Jw (show 60*M+1<=bD bs h by omega) (show 0<=c by omega)
  rw [Zr,Jx] at this
  omega
 ·exact z
theorem dj.least (T:dj n ws hs lv bs) {M:Int} (hM:∀ x∈aQ n.toNat,M<=((hs.count x:Nat):Int)) (hh:h∈aQ n.toNat):60*M<=bD bs h:=by
 obtain ⟨X,eX⟩:∃ X:Int->Bool,X=λx=>decide (bD bs x<=bD bs h):=⟨_,rfl⟩
 have iX:∀ x,X x=true↔bD bs x<=bD bs h:=λx=>by rw [eX]; simp
 have u:=T.upper X λi g l hg hl hx y hy=>(iX y).mpr (Za ((T.wx hl y hy).2 g (T.ir hg hl)) ((iX g).mp hx))
 have u3:=yH (n:=n) (X:=X) (f:=bD bs) (c:=bD bs h) λx _ hx=>(iX x).mp hx
 have u4:=yI (n:=n) (X:=X) (f:=λx=>((hs.count x:Nat):Int)) (c:=M) λx hx _=>hM x hx
 have c1:=pA (X:=X) hh ((iX h).mpr (Je _))
 generalize nU n X=c at *
 rcases Wm (bD bs h) (60*M) with z | z
 ·have:=Jw (show bD bs h+1<=60*M by omega) (show 0<=c by omega)
  rw [Zr,Jx] at this
  omega
 ·exact z
theorem HS {b:List Int×Int} {bs:bT} {h:Int} (q:dF bs h=(b.2,(b.1.length:Int))):bD bs h=b.2*60 / (b.1.length:Int):=by unfold bD; rw [q]
theorem Ov {m':Int} {k k':Nat} (k0:0 < k) (k6:k<=6) (TR:0 < k') (TQ:k'<=6) (e:m*k'<=m'*k):m*60 / (k:Int)<=m'*60 / (k':Int):=by
 have d1:=tH (m:=m) k0 k6
 have d2:=tH (m:=m') TR TQ
 generalize m*60 / (k:Int)=P at *
 generalize m'*60 / (k':Int)=R at *
 have hk:k=1∨k=2∨k=3∨k=4∨k=5∨k=6:=by omega
 have hm:k'=1∨k'=2∨k'=3∨k'=4∨k'=5∨k'=6:=by omega
 rcases hk with rfl | rfl | rfl | rfl | rfl | rfl <;> rcases hm with rfl | rfl | rfl | rfl | rfl | rfl <;> omega
theorem QX:∀ {bs:bT} {left:List Int} {rows:bT} {z:List Int×Int},dX left rows bs->bs.getLast?=some z->∀ b∈bs,z.2*b.1.length<=b.2*z.1.length
 | [],_,_,_,_,e,_,_=>by cases e
 | [c],_,_,z,_,e,b,hb=>by
  cases e
  rw [Qs.mp hb]; exact Je _
 | c::d::bs,left,rows,z,H,e,b,hb=>by
  have e':(d::bs).getLast?=some z:=by rw [<- e]; rfl
  rcases Qk.mp hb with rfl | hb
  ·have:=(oR H.1 H.2 z (Wq e')).2
   omega
  ·exact QX H.2 e' b hb
theorem dj.ends (T:dj n ws hs lv bs):∃ b z BM,bs=b::BM/\bs.getLast?=some z/\(∃ h∈aQ n.toNat,bD bs h=b.2*60 / (b.1.length:Int))/\(∃ h∈aQ n.toNat,bD bs h=z.2*60 / (z.1.length:Int)) /\
  (∀ h∈aQ n.toNat,bD bs h<=b.2*60 / (b.1.length:Int)/\z.2*60 / (z.1.length:Int)<=bD bs h)/\0<=b.2/\0 < b.1.length/\b.1.length<=6/\0<=z.2/\0 < z.1.length/\z.1.length<=6:=by
 have up:=T.BX
 obtain ⟨n1,n6⟩:=T.n6
 obtain ⟨h0,EC⟩:∃ h,h∈aQ n.toNat:=⟨0,(pM (by omega)).mpr ⟨Je _,by omega⟩⟩
 have M:=lE T.ok T.bl
 have S:=jV T.bl
 have L:=T.bl
 cases bs with
 | nil=>obtain ⟨b,hb,_⟩:=S h0 EC; cases hb
 | cons b bs =>
  obtain ⟨z,ez⟩:∃ z,(b::bs).getLast?=some z:=⟨_,List.getLast?_eq_some_getLast (by simp)⟩
  have Lw:=Wq ez
  obtain ⟨b0,b1,b2,b3⟩:=M b (Ql ..)
  obtain ⟨z0,z1,z2,z3⟩:=M z Lw
  have bp:=Jj.mpr b0
  have zp:=Jj.mpr z0
  have F:∀ c∈b::bs,c.2*b.1.length<=b.2*c.1.length:=λc hc=>by
   rcases Qk.mp hc with rfl | hc
   ·exact Je _
   ·have:=(oR L.1 L.2 c hc).2; omega
  have Z:=QX L ez
  refine ⟨b,z,bs,rfl,ez,?_,?_,λh hh=>?_,b2,bp,by omega,z2,zp,by omega⟩
  ·obtain ⟨h,hm⟩:=Yz _ b0
   exact ⟨h,b3 h hm,HS (lD (fJ.mpr hm))⟩
  ·obtain ⟨h,hm⟩:=Yz _ z0
   obtain ⟨c,hc,CD,me⟩:=S h (z3 h hm)
   obtain ⟨i,hi⟩:=Qv.mp hc
   obtain ⟨j,hj⟩:=Qv.mp Lw
   have D:=uB T.ok T.bl
   have XS:i=j:=by
    rcases Nat.lt_trichotomy i j with q | q | q
    ·exact absurd hm (D i j c z q hi hj h CD)
    ·exact q
    ·exact absurd CD (D j i z c q hj hi h hm)
   subst XS
   rw [hi] at hj
   cases hj
   exact ⟨h,z3 h hm,HS me⟩
  ·obtain ⟨c,hc,_,me⟩:=S h hh
   obtain ⟨c0,c1,_,_⟩:=M c hc
   have cp:=Jj.mpr c0
   rw [HS me]
   exact ⟨Ov cp (by omega) bp (by omega) (F c hc),Ov zp (by omega) cp (by omega) (Z c hc)⟩
end
end Ab
namespace L2
open PySem PySem.Spec PyProof.Rows
theorem kQ:gy X [] vI:=⟨bR⟩
theorem pY {c:Expr} {a b:List Stmt} {t u:TS} {pos:Pos} (hc:PT X c tc) (ha:gy X a t) (hb:gy X b u):BQ X (.If c a b pos) (Oi tc t u):=⟨eJ hc ha.go hb.go⟩
theorem yJ {wi:TI} {pos:Pos} (hp:PassesOwn (model X.prog X.w) X.A X.env X.xe) (hc:X.calm=true) (hi:PI X tg iter wi) (hg:PG X tg g) (hb:gy X body tb) (hs:∀ x,foldedSetIterable iter X.env x=pure x):BQ X (.For tg iter body [] pos) (Oe wi g tb):=⟨eC hp hc hi hg hb.go hs⟩
section
variable {t u:TS} {σ:St}
theorem jN (h:te σ H λv H1=>u D (σ.set i (some v)) H1):E2 (BO te (cU i)) u D σ H:=h
theorem mF (h:t { D with nx:=u D } σ H):E2 t u D σ H:=h
end
end L2
namespace Ab
open PySem L2
noncomputable def kn (x:Int×Int):PyData:=.tuple [.int (x.1 / x.2),.int ((x.1+x.2 - 1) / x.2)]
theorem QW (ws:List (List Int)):(List.replicate ws.length [V.int 1]).flatten=(jX ws).map V.int:=by
 unfold jX
 generalize ws.length=m
 induction m with
 | zero=>rfl
 | succ k ih=>rw [Xi,Zc,ih,Xi]; rfl
theorem uK {S:List Addr} {f g:α->Int} (fx:Fx S H):∀ {l:List α} {us:List V},aP K H (l.map λx=>PyData.tuple ([f x,g x].map .int)) us->aP K (Vw S H) (l.map λx=>PyData.tuple ([f x,g x].map .int)) us
 | [],us,h=>h
 | x::l,us,h=>by
  obtain ⟨v,vs,rfl,h1,h2⟩:=aL.mp h
  obtain ⟨p,rfl,hp⟩:=aS.mp h1
  exact aL.mpr ⟨_,_,rfl,aS.mpr ⟨p,rfl,fx.ag hp⟩,uK fx h2⟩
theorem yK {n:Int} {bs:bT} (hb:bN (bI n ws)=true) (bl:dX (aQ n.toNat) (ws.zip (jX ws)) bs) {x:Int×Int} (hx:x∈dt n bs):∃ P,Sx P x.1 x.2:=by
 obtain ⟨h,hh,rfl⟩:=Jg.mp hx
 obtain ⟨a,b,c,k,hk⟩:=wM bl (iR hb (jY ws)).1 (bB hb).2.1 hh
 have:=pX (m:=(dF bs h).1) (k:=k) a (by omega) (by omega)
 rw [<- hk] at this
 exact ⟨_,this⟩
noncomputable def uL (K:Rb):Sp:=λvs H Q _=>∃ (x:V) (n:Int) (ws:List (List Int)),vs = [x]/\Den K H (bI n ws) x/\bN (bI n ws)=true /\
 ∀ p us bs H',aD H H'->H p=none->H' p=some (.lst us)->aP K (Vw [p] H') ((dt n bs).map kn) us->dX (aQ n.toNat) (ws.zip (jX ws)) bs->Q (.ref p) H'
theorem QV:ae ["book", "loads"] ["book"] (aF oJ):=⟨rfl,rfl,rfl,by decide +kernel,rfl,by decide +kernel,by decide +kernel⟩
set_option maxHeartbeats 1000000 in
theorem aDa {fP:Addr} {dP:FuncData} (G:Fn K mg "beside" oJ ["book"] f fd) (B:Bl mg) (R:Pr K mg fW fH fK fB i9 fD jr fL dW dH dK dB i_ dD jt dL) (JB:Fn K mg "part_loads" nN ["book", "weights"] fP dP) (IV:ab P w K mg base ao 8 fP dP ["book", "weights"] (rE K)):ab P w K mg base ao 9 f fd ["book"] (uL K):=by
 have Df:ab P w K mg base ao 4 i9 i_ ["book"] (oM K):=oN B R
 refine G.fn.oK QV λa_ A outer s H vs Q E hr h=>?_
 ·obtain ⟨x,n,ws,rfl,hx,bz,k⟩:=h
  have r8:au 8 _:=hr
  have r4:au 4 _:=hr.mono (by decide)
  refine gy.ex (bM ⟨(dO (bA R.NB Df r4 rfl (aA (pv 0) aC)))⟩
   (bM (gT (i:=1) QV.nd rfl (Or.inl rfl) ⟨(bA JB IV r8 rfl (aA (pv 0) (aA (bC (xJ (K:=K) rfl) (cV (aA aM aC)) (aO (eW (K:=K) rfl) rfl B.len eF (aA (aY (cH (K:=K) rfl) (pv 0) aM (λ_ _=>rfl)) aC))) aC)))⟩)
   (eP (jQ ⟨(bK (own:=["a", "b"]) (fr:=[]) (a9:=[]) (aT (aF oJ) ["book", "loads"] rfl rfl (by decide +kernel)) rfl (eY (pv 1)) (λ_ _ _ _=>(iU (K:=K) (n:=2) rfl rfl (aR (aJ (i:=0) (show (["a", "b"]:List Str).Nodup by decide +kernel) rfl (Or.inl rfl)) (aR (aJ (i:=1) (show (["a", "b"]:List Str).Nodup by decide +kernel) rfl (Or.inl rfl)) cJ)))) (λ_ _ _ _=>bZ) (λ_ _ _ _=>(cV (aA (bC hG (pv 0) (pv 1)) (aA (bC hG (bC wR (bC iD (pv 0) (pv 1)) aM) (pv 1)) aC)))))⟩)))) ?_
  refine mF ⟨_,rfl,x,_,rfl,hx,bz,λH1 s1=>?_⟩
  obtain ⟨a,b,ys,rfl,ha,hb,fi⟩:=cW (s1.den _ _ hx)
  have m7:ys.length=ws.length:=by rw [aH fi,Qa]
  obtain ⟨md,gu,qr,_⟩:=bB bz
  dsimp only
  refine jN ⟨_,rfl,l_ _,λp hp=>⟨_,rfl,a,_,1,.ref b,rfl,rfl,(aD.new hp).ag ha,rfl,b,_,rfl,.inr ((aD.new hp).ag hb),?_⟩⟩
  have s2:=aD.new (o:=.tup [.int 1]) hp
  rw [m7]
  refine ⟨p,_,_,rfl,rfl,ah.of aB,by omega,by decide,λq H2 s3 hq=>?_⟩
  rw [QW] at hq
  have Bg:=s2.trans s3
  refine ⟨_,n,ws,q,jX ws,rfl,(s1.trans Bg).den _ _ hx,bz,hq,jY ws,λlp us bs H4 s4 di tu bl=>?_⟩
  dsimp only [cU]
  have gz:=s1.trans (Bg.trans s4)
  have Lr:us.length=(dt n bs).length:=by rw [aH tu,Qa]
  have l6:(dt n bs).length<=6:=by unfold dt; rw [Qa,bW]; omega
  refine ⟨_,rfl,lp,rfl,⟨_,di⟩,gS (K:=K) (a:=lp) (xs:=us) (λσ=>∃ u v,σ = [u,v]) (λi zs H'=>aD H4 H'/\aP K H' (((dt n bs).take i).map kn) zs) (bP (by omega)) ⟨_,_,rfl⟩ ⟨aD.refl _,aN.mpr rfl⟩ (λi zs H' h=>by rw [aH h.2,Qa,Qy]; omega) (λi zs H' h=>h.1.ag di) ?_ ?_⟩
  ·rintro i zs σ x H' my ⟨u,v,rfl⟩ ⟨s',D⟩ hz
   obtain ⟨y,hy,Cg⟩:=cI tu my
   obtain ⟨yp,rfl,hyp⟩:=hJ.mp Cg
   obtain ⟨_,a0,b1,b6,_⟩:=yK bz bl (Qg hy)
   have cd:∀ i:Int,C1 i y.2:=λi=>⟨by omega,Xg (show y.2.natAbs<=6 by omega) (by decide +kernel)⟩
   refine ⟨yp,_,rfl,s'.ag hyp,rfl,_,_,rfl,_,_,rfl,rfl,?_⟩
   dsimp only [cU,pF]
   refine iE ?_
   refine ⟨_,rfl,_,rfl,y.1,y.2,rfl,rfl,cd _,_,rfl,_,rfl,y.1,y.2,rfl,rfl,y.1+y.2,1,rfl,rfl,_,rfl,_,y.2,rfl,rfl,cd _,uq _ _,λnp qc=>⟨hz,⟨_,_,rfl⟩,s'.trans (aD.new qc),?_⟩⟩
   rw [Xj,hy,Qp]
   exact bH ((aD.new qc).af _ _ D) (aL.mpr ⟨_,_,rfl,aS (ns:=[y.1 / y.2,(y.1+y.2 - 1) / y.2]).mpr ⟨np,rfl,ah.of aB⟩,aN.mpr rfl⟩)
  ·rintro zs H' ⟨s',D⟩ rp jn
   rw [show (dt n bs).take us.length=dt n bs from Jn (by omega)] at D
   have s5:=aD.new (o:=.lst zs) jn
   refine k rp zs bs _ (gz.trans (s'.trans s5)) ((gz.trans s').free jn) aB (uK (f:=λx:Int×Int=>x.1 / x.2) (g:=λx:Int×Int=>(x.1+x.2 - 1) / x.2) (λb hb=>by rw [Qs.mp hb]; exact ⟨_,aB⟩) (s5.af _ _ D)) bl
noncomputable def Oa (K:Rb):R2:=λx y H Q=>HL K x y H Q∨HK K x y H Q
theorem Y0 (hK:X.K=K):BU X (Oa K):=by
 intro a b aa s σ H x y v u Q I rx ry h
 rcases h with h | h
 ·exact oE hK a b aa s σ H x y v u Q I rx ry h
 ·exact cH hK a b aa s σ H x y v u Q I rx ry h
noncomputable def rF (K:Rb):Sp:=λvs H Q _=>∃ (p q:Addr) (us:List V) (hs:List Int),vs = [.ref p,.ref q]/\ai K H p us/\(ai K H q (hs.map V.int)∨ah K H q (hs.map V.int))/\us.length=hs.length/\hs.length<=6/\(∀ (i:Nat) h,hs[i]?=some h->∃ u a b,us[i]?=some (.ref u)/\ah K H u [.int a,.int b]/\(h=a∨h=b))/\∀ H',aD H H'->Q (.bl true) H'
theorem N?:ae ["pairs", "heaps"] ["pairs", "heaps"] (aF sR):=⟨rfl,rfl,rfl,by decide +kernel,rfl,by decide +kernel,by decide +kernel⟩
theorem N! (G:Fn K mg "_law_abetween" sR ["pairs", "heaps"] f fd) (B:Bl mg):ab P w K mg base ao 1 f fd ["pairs", "heaps"] (rF K):=by
 refine G.fn.oK N? λa_ A outer s H vs Q E hr h=>?_
 ·obtain ⟨p,q,us,hs,rfl,hp,hq,hl,h6,hh,k⟩:=h
  refine ⟨_,(aK (aW (gQ (IB hr.BZ) (bK (own:=["hand"]) (fr:=[1,0]) (a9:=["heaps", "pairs"]) (aT (aF sR) ["pairs", "heaps"] rfl rfl (by decide +kernel)) rfl (eA rfl B.range (aA (aO (eW (K:=K) rfl) rfl B.len eF (aA (pv 0) aC)) aC))
    (λ_ _ _ _=>(aJ (i:=0) (show (["hand", "heaps", "pairs"]:List Str).Nodup by decide +kernel) rfl (Or.inl rfl))) (λ_ _ _ _=>lT (bG (jZ (K:=K) rfl) (aY (Y0 (K:=K) rfl) (pv 1) (pv 0) (λ_ _=>rfl)) (aY (oE (K:=K) rfl) (pv 2) (pv 0) (λ_ _=>rfl)) (by with_unfolding_all rfl)))
    (λ_ _ _ _=>(pv 0))) (dY aC) (bJ _)))),?_⟩
  refine ⟨_,rfl,p,us,rfl,.inl hp,_,rfl,by omega,by omega,?_⟩
  refine gK (n:=us.length) (lo:=0) (λσ=>∃ u,σ = [u,some (.ref q),some (.ref p)]) (λi ys H'=>H'=H/\ys = []) (bP (by omega)) ⟨none,rfl⟩ ⟨rfl,rfl⟩ (λi ys H' h=>by rw [h.2]; exact Jl _) ?_ ?_
  ·rintro i ys σ H' hi ⟨u,rfl⟩ ⟨rfl,rfl⟩ hz
   obtain ⟨h,gh⟩:∃ h,hs[i]?=some h:=⟨_,Qc (by omega)⟩
   obtain ⟨w,a,b,e1,e2,e3⟩:=hh i h gh
   have N_:g9 (hs.map V.int) (i:Int)=some (.int h):=cM (by rw [Qe,gh]; rfl)
   have at2:g9 us (i:Int)=some (.ref w):=cM e1
   dsimp only [cU]; rw [Zj]
   have main:∀ R:V->Hp->Prop,R (.int h) H'->Oa K (.ref q) (.int (i:Int)) H' R:=λR r=>hq.imp (λz=>⟨q,_,_,_,rfl,rfl,z,N_,r⟩) (λz=>⟨q,_,_,_,rfl,rfl,z,N_,r⟩)
   refine ⟨_,rfl,_,rfl,main _ ⟨_,rfl,_,rfl,p,_,_,_,rfl,rfl,hp,at2,w,_,rfl,.inr e2,rfl,?_,_,rfl,?_⟩⟩
   ·rfl
   ·have e:ma (.int h) [V.int a,V.int b]=true:=by
     rw [show [V.int a,V.int b] = [a,b].map V.int from rfl,qW]
     rcases e3 with rfl | rfl <;> simp
    rw [if_pos rfl,e]
    exact iS ⟨⟨_,rfl⟩,rfl,rfl⟩
  ·rintro ys H' ⟨rfl,rfl⟩ l dm
   refine ⟨by rw [Rf]; simp,λl2 ly=>?_⟩
   have s2:=aD.new (o:=.lst []) ly
   refine ⟨.list [],.list [],gR.mpr ⟨l,[],rfl,ai.of (s2 _ _ aB),aN.mpr rfl⟩,gR.mpr ⟨l2,[],rfl,ai.of aB,aN.mpr rfl⟩,rfl,rfl,by decide +kernel,by decide +kernel,k _ ((aD.new dm).trans s2)⟩
noncomputable def uM (K:Rb):Sp:=λvs H Q _=>∃ (x y:V) (wp:Addr) (n:Int) (ws:List (List Int)) (hs:List Int),vs = [x,.ref wp,y]/\gD K H x y n ws hs/\ah K H wp ((List.replicate hs.length (1:Int)).map V.int)/\∀ p H',aD H H'->H p=none->H' p=some (.lst ((aV n hs).map V.int))->Q (.ref p) H'
theorem uN:ae ["book", "weights", "deal", "found", "at"] ["book", "weights", "deal"] (aF qQ):=.of
theorem aDb (G:Fn K mg "_law_aheaps" qQ ["book", "weights", "deal"] f fd) (B:Bl mg):ab P w K mg base ao 1 f fd ["book", "weights", "deal"] (uM K):=by
 refine G.fn.oK uN λa_ A outer s H vs Q E hr h=>?_
 ·obtain ⟨x,y,wp,n,ws,hs,rfl,g,om,k⟩:=h
  refine ⟨_,(aE (aU (i:=3) uN.nd rfl (Or.inl rfl) (bC r! (dY (aA aM aC)) (aY cD (pv 0) aM (λ_ _=>rfl))))
  (aE (eC PassesOwn.never rfl (eA rfl B.range (aA (aO aX rfl B.len eF (aA (pv 2) aC)) aC)) (aJ (i:=4) uN.nd rfl (Or.inl rfl))
   (aK (kR (bC iD (aY cQ (pv 3) (aY cD (pv 2) (pv 4) (λ_ _=>rfl)) (λ_ _=>rfl)) (aY cD (pv 1) (pv 4) (λ_ _=>rfl))) (ID (pv 3) (aY cD (pv 2) (pv 4) (λ_ _=>rfl)) nW))))
  (aK (aW (pv 3))))),?_⟩
  obtain ⟨hl,md,gu⟩:=g.len
  obtain ⟨a,b,ys,rfl,ha,jy,fi⟩:=cW g.1
  obtain ⟨c,rfl,hc⟩:=aS.mp g.2.2.1
  refine ⟨l_ _,λz hz=>⟨_,rfl,a,_,0,.int n,rfl,rfl,(aD.new hz).ag ha,rfl,z,n,_,rfl,rfl,aB,by omega,by omega,bP (by simp; omega),λfl uf=>?_⟩⟩
  have s1:=aD.new (o:=.lst [V.int 0]) hz
  generalize He:upd H z (.lst [V.int 0])=H1 at s1 uf ⊢
  have AU:H fl=none:=s1.free uf
  have AY:∀ u,ah K (upd H1 fl u) c (hs.map V.int):=λu=>(aD.new uf).ag (s1.ag hc)
  have JS:∀ u,ah K (upd H1 fl u) wp ((List.replicate hs.length (1:Int)).map V.int):=λu=>(aD.new uf).ag (s1.ag om)
  refine ⟨_,rfl,c,_,rfl,.inr (AY _),?_⟩
  rw [Qa]
  refine ⟨hs.length,rfl,by omega,by omega,kE (lo:=0) (n:=((hs.length:Int)).toNat) (λi σ H3=>∃ v,σ = [some (.ref a),some (.ref wp),some (.ref c),some (.ref fl),v]/\H3=upd H1 fl (.lst ((aV n (hs.take i)).map V.int)))
   ⟨none,rfl,by rw [aBa]; rfl⟩ ?_ ?_⟩
  ·rintro i σ H3 hi ⟨v,rfl,rfl⟩
   have va:i < hs.length:=by omega
   have hh:hs[i]?=some hs[i]:=Qc va
   obtain ⟨b0,b1⟩:=g.hand hh
   have BD:g9 (hs.map V.int) (0+(i:Int))=some (.int hs[i]):=by
    rw [Zj]; exact cM (by rw [Qe,hh]; rfl)
   have UA:g9 ((List.replicate hs.length (1:Int)).map V.int) (0+(i:Int))=some (.int 1):=by
    rw [Zj]; exact cM (by rw [Qe,Xc,if_pos va]; rfl)
   generalize hs[i]=h at hh BD b0 b1
   have ax:h.toNat < n.toNat:=by omega
   have cq:((h.toNat:Nat):Int)=h:=by omega
   have jz:g9 ((aV n (hs.take i)).map V.int) h=some (.int (((hs.take i).count h:Nat):Int)):=by
    have h1:((aV n (hs.take i)).map V.int)[h.toNat]?=some (.int (((hs.take i).count h:Nat):Int)):=by rw [Qe,gL ax,cq]; rfl
    have h2:=cM h1
    rwa [cq] at h2
   have VC:oh ((aV n (hs.take i)).map V.int).length h=some h.toNat:=by
    rw [Qa,cC]
    unfold oh
    rw [if_pos b0,if_pos (by omega)]
   refine ⟨_,rfl,_,rfl,_,rfl,c,_,_,_,rfl,rfl,AY _,BD,fl,_,h,_,rfl,rfl,ai.of aB,jz,_,rfl,_,rfl,wp,_,_,_,rfl,rfl,JS _,UA,_,_,rfl,rfl,?_⟩
   refine ⟨_,rfl,_,rfl,_,rfl,c,_,_,_,rfl,rfl,AY _,BD,fl,_,h,h.toNat,rfl,rfl,aB,VC,?_⟩
   refine ⟨_,rfl,?_⟩
   rw [wQ,aAi b0 b1,Xj,hh]
   rfl
  ·rintro σ H3 ⟨v,rfl,rfl⟩
   refine ⟨_,rfl,k fl _ (s1.trans (aD.new uf)) AU ?_⟩
   rw [aB,Zb,Jt]
noncomputable def C7 (H:Hp) (l:List Int) (x:V):Prop:=∃ p,x=.ref p/\H p=some (.tup (l.map V.int))
theorem C7.same {x:V} (h:C7 H l x) (s:aD H H'):C7 H' l x:=let ⟨p,a,b⟩:=h; ⟨p,a,s _ _ b⟩
noncomputable def kC (H:Hp) (R:List Int->Prop) (xs:List V):Prop:=∀ x∈xs,∃ l:List Int,C7 H l x/\R l
section
variable {R R':List Int->Prop} {x:V}
theorem kC.nil:kC H R []:=λx h=>by cases h
theorem kC.one (h:C7 H l x) (hl:R l):kC H R [x]:=λy hy=>by
 rw [Qs] at hy
 exact ⟨l,hy ▸ h,hl⟩
theorem kC.same (h:kC H R xs) (s:aD H H'):kC H' R xs:=λx hx=>by
 obtain ⟨l,h1,h2⟩:=h x hx
 exact ⟨l,h1.same s,h2⟩
theorem kC.app (h:kC H R xs) (g:kC H R ys):kC H R (xs++ys):=λx hx=>by
 rcases Jo.mp hx with hx | hx
 ·exact h x hx
 ·exact g x hx
end
noncomputable def vo (ws:List (List Int)) (i:Nat) (l:List Int):Prop:=l.length=i/\∀ (j:Nat) h,l[j]?=some h->∃ m,ws[j]?=some m/\h∈m
theorem vo.snoc {m:List Int} {h:Int} (b:vo ws i l) (hm:ws[i]?=some m) (hh:h∈m):vo ws (i+1) (l++[h]):=by
 refine ⟨by rw [Qr,b.1]; rfl,λj x hx=>?_⟩
 rcases Qae j l.length with c | c
 ·rw [Jb c] at hx
  exact b.2 j x hx
 ·rw [Jp c] at hx
  have:=(Qd.mp hx).1
  simp at this
  have e:j=i:=by have:=b.1; omega
  subst e
  rw [show j - l.length=0 by omega] at hx
  cases (show h=x by simpa using hx)
  exact ⟨m,hm,hh⟩
theorem vo.KC (b:vo ws ws.length l):eI ws (eG l)=true:=qY b.1 λj h m hl hm=>by
 obtain ⟨m',e,hh⟩:=b.2 j h hl
 rw [e] at hm
 cases hm
 exact hh
noncomputable def yL (K:Rb):Sp:=λvs H Q _=>∃ (x:V) (n:Int) (ws:List (List Int)),vs = [x]/\Den K H (bI n ws) x/\bN (bI n ws)=true/\ws.length<=3/\∀ p xs H',aD H H'->H p=none->H' p=some (.lst xs)->kC H' (λl=>eI ws (eG l)=true) xs->xs.length<=216->Q (.ref p) H'
theorem lI:ae ["book", "found", "able", "more", "begun"] ["book"] (aF sQ):=⟨rfl,rfl,rfl,by decide +kernel,rfl,by decide +kernel,by decide +kernel⟩
set_option maxHeartbeats 2000000 in
theorem aEI (G:Fn K mg "_law_aall_deals" sQ ["book"] f fd) (B:Bl mg):ab P w K mg base ao 1 f fd ["book"] (yL K):=by
 refine G.fn.oK lI λa_ A outer s H vs Q E hr h=>?_
 ·obtain ⟨x,n,ws,rfl,hx,bz,u6,k⟩:=h
  refine ⟨_,(aE (aU (i:=1) lI.nd rfl (Or.inl rfl) (dY (aA (cV aC) aC)))
  (aE (eC PassesOwn.never rfl (eY (aY (cH (K:=K) rfl) (pv 0) aM (λ_ _=>rfl))) (aJ (i:=2) lI.nd rfl (Or.inl rfl))
   (aE (aU (i:=3) lI.nd rfl (Or.inl rfl) (dY aC))
  (aE (eC PassesOwn.never rfl (cK (pv 1)) (aJ (i:=4) lI.nd rfl (Or.inr rfl))
   (aK (aU (i:=3) lI.nd rfl (Or.inl rfl) (bC rN (pv 3) (bK (own:=["hand"]) (fr:=[4]) (a9:=["begun"]) (aT (aF sQ) ["book", "found", "able", "more", "begun"] rfl rfl (by decide +kernel)) rfl (eY (pv 2))
    (λ_ _ _ _=>(aJ (i:=0) (show (["hand", "begun"]:List Str).Nodup by decide +kernel) rfl (Or.inl rfl))) (λ_ _ _ _=>bZ)
    (λ_ _ _ _=>(bC (I? (K:=K) rfl) (pv 1) (cV (aA (pv 0) aC)))))))))
  (aK (aU (i:=1) lI.nd rfl (Or.inl rfl) (pv 3))))))
  (aK (aW (pv 1))))),?_⟩
  obtain ⟨c,bb,ys,e,hc,EG,vy⟩:=cW hx
  cases e
  have m7:=aH vy
  rw [Qa] at m7
  obtain ⟨md,gu,qr,Bo⟩:=bB bz
  refine ⟨bP (Jl _),λp0 h0=>⟨l_ _,λqp Co=>?_⟩⟩
  have s2:=(aD.new (o:=.tup []) h0).trans (aD.new (o:=.lst [.ref p0]) Co)
  have S5:H qp=none:=(aD.new (o:=.tup []) h0).free Co
  have NN:upd (upd H p0 (.tup [])) qp (.lst [.ref p0]) qp=some (.lst [.ref p0]):=aB
  have t2:kC (upd (upd H p0 (.tup [])) qp (.lst [.ref p0])) (vo ws 0) [.ref p0]:=kC.one (l:=[]) ⟨p0,rfl,(aD.new (o:=.lst [.ref p0]) Co) _ _ aB⟩ ⟨rfl,λj h z=>by simp at z⟩
  generalize upd (upd H p0 (.tup [])) qp (.lst [.ref p0])=H2 at s2 NN t2 ⊢
  dsimp only [cU]
  refine ⟨_,rfl,c,_,1,.ref bb,rfl,rfl,s2.ag hc,rfl,bb,rfl,⟨_,s2.ag EG⟩,qL (K:=K) (a:=bb) (xs:=ys) (λi σ H3=>∃ fp fs v2 v3 v4,σ = [some (.ref c),some (.ref fp),v2,v3,v4]/\aD H H3/\H fp=none/\H3 fp=some (.lst fs)/\kC H3 (vo ws i) fs/\fs.length<=6^i) ⟨qp,_,none,none,none,rfl,s2,S5,NN,t2,Qi _⟩ (λi σ H3 _ h=>by obtain ⟨_,_,_,_,_,_,s3,_⟩:=h; exact s3.ag EG) ?_ ?_⟩
  ·rintro i u σ H3 hu ⟨fp,fs,v2,v3,v4,rfl,s3,Lg,e3,t3,Kf⟩
   obtain ⟨d,qk,hd2⟩:=eV (s3.af _ _ vy) hu
   rw [Qe] at qk
   obtain ⟨l,hl,rfl⟩:=Ja.mp qk
   obtain ⟨la,rfl,LN⟩:=aS.mp hd2
   have hi7:i < ws.length:=(Qd.mp hl).1
   obtain ⟨LQ,qf,ly⟩:=cE (Bo l (Qg hl))
   have qe:=jI (by omega) qf ly
   have Gy:6^i<=6^2:=Xv (by decide) (by omega)
   have J0:(6:Nat)^2=36:=by decide
   have uf:fs.length<=36:=by omega
   refine ⟨bP (Jl _),λmp qd=>?_⟩
   have s4:=aD.new (o:=.lst []) qd
   have e4:upd H3 mp (.lst []) mp=some (.lst []):=aB
   have zb:H mp=none:=s3.free qd
   generalize upd H3 mp (.lst [])=H4 at s4 e4 ⊢
   dsimp only [cU]
   refine ⟨_,rfl,fp,rfl,⟨_,ai.of (s4 _ _ e3)⟩,gO (K:=K) (a:=fp) (xs:=fs) (λj σ H5=>∃ mp ms v4,σ = [some (.ref c),some (.ref fp),some (.ref la),some (.ref mp),v4]/\aD H4 H5/\H mp=none/\H5 mp=some (.lst ms)/\kC H5 (vo ws (i+1)) ms/\ms.length<=j*6) ⟨mp,[],v4,rfl,aD.refl _,zb,e4,kC.nil,Jl _⟩ (λj σ H5 _ h=>by obtain ⟨_,_,_,_,s5,_⟩:=h; exact s5.b_ (ai.of (s4 _ _ e3))) ?_ ?_⟩
   ·rintro j y σ H5 hy ⟨mp,ms,v4,rfl,s5,zb,e5,t5,GI⟩
    obtain ⟨b,⟨p,rfl,ux⟩,mf⟩:=t3 y (Qg hy)
    have i6:=s4.trans s5
    have UX:=i6 _ _ ux
    have ua:j < fs.length:=(Qd.mp hy).1
    refine ⟨_,rfl,_,rfl,la,rfl,⟨_,i6.ag LN⟩,gS (K:=K) (a:=la) (xs:=l.map V.int) (λσ=>∃ v,σ = [v,some (.ref p)]) (λe zs H6=>aD H5 H6/\zs.length=e/\kC H6 (vo ws (i+1)) zs) (bP (by rw [Qa]; omega)) ⟨none,rfl⟩ ⟨aD.refl _,rfl,kC.nil⟩ (λe zs H6 h=>by rw [h.2.1]; exact Qi _) (λe zs H6 h=>h.1.ag (i6.ag LN)) ?_ ?_⟩
    ·rintro e zs σ z H6 Cd ⟨v,rfl⟩ ⟨s6,o7,t6⟩ hz
     rw [Qe] at Cd
     obtain ⟨h,hh,rfl⟩:=Ja.mp Cd
     have EF:=mf.1
     refine ⟨_,rfl,_,rfl,l_ _,λpt t7=>I! (K:=K) (ah.of ((s6.trans (aD.new t7)) _ _ UX)) aB (by rw [Qa]; omega) λp9 H9 s9 Gx=>?_⟩
     have Ek:=(aD.new (o:=.tup [.int h]) t7).trans s9
     refine ⟨hz,⟨_,rfl⟩,s6.trans Ek,by rw [Qr,Xe,o7],(t6.same Ek).app (kC.one (l:=b++[h]) ⟨p9,rfl,by rw [Gx,Qp]; rfl⟩ (mf.snoc hl (Qg hh)))⟩
    ·rintro zs H6 ⟨s6,o7,t6⟩ lp di
     rw [Qa] at o7
     have s7:=aD.new (o:=.lst zs) di
     have e7:upd H6 lp (.lst zs) lp=some (.lst zs):=aB
     generalize upd H6 lp (.lst zs)=H7 at s7 e7 ⊢
     have El:=s6.trans s7
     refine ⟨mp,lp,ms,zs,rfl,rfl,El _ _ e5,e7,by rw [Rf]; omega,λnp qc=>?_⟩
     have s8:=aD.new (o:=.lst (ms++zs)) qc
     have K2:=El.trans s8
     refine ⟨np,ms++zs,_,rfl,s5.trans K2,((s3.trans i6).trans El).free qc,aB,(t5.same K2).app (t6.same (s7.trans s8)),?_⟩
     rw [Qr,o7,Nat.succ_mul]
     omega
   ·rintro σ H5 ⟨mp,ms,v4,rfl,s5,zb,e5,t5,GI⟩
    refine ⟨_,rfl,mp,ms,_,_,_,rfl,s3.trans (s4.trans s5),zb,e5,t5,?_⟩
    rw [Nat.pow_succ]
    omega
  ·rintro σ H3 ⟨fp,fs,v2,v3,v4,rfl,s3,Lg,e3,t3,Kf⟩
   rw [m7] at t3
   refine ⟨_,rfl,k fp fs H3 s3 Lg e3 (λx hx=>let ⟨l,a,b⟩:=t3 x hx; ⟨l,a,b.KC⟩) ?_⟩
   have Gy:6^ys.length<=6^3:=Xv (by decide) (by omega)
   have J0:(6:Nat)^3=216:=by decide
   omega
theorem aDc (m:Nat):(List.replicate m [V.int 1]).flatten=(List.replicate m (1:Int)).map V.int:=by
 induction m with
 | zero=>rfl
 | succ k ih=>rw [Xi,Zc,ih,Xi]; rfl
noncomputable def HE (n:Int) (ws:List (List Int)) (hs:List Int) (f:Addr) (H:Hp) (x:V):Prop:=∃ q hs',x=.ref q/\q≠f/\H q=some (.lst ((aV n hs').map V.int))/\eI ws (eG hs')=true/\(aV n hs').Perm (aV n hs)
noncomputable def yM (K:Rb):Sp:=λvs H Q _=>∃ (x:V) (dp:Addr) (n:Int) (ws:List (List Int)) (hs ms:List Int),vs = [x,.ref dp]/\Den K H (bI n ws) x/\bN (bI n ws)=true/\ws.length<=3/\H dp=some (.lst (ms.map V.int))/\ms.Perm (aV n hs)/\∀ p xs H',aD H H'->H p=none->H' p=some (.lst xs)->(∀ z∈xs,HE n ws hs p H' z)->Q (.ref p) H'
theorem rG:ae ["book", "due", "found", "deal", "heaps"] ["book", "due"] (aF xN):=⟨rfl,rfl,rfl,by decide +kernel,rfl,by decide +kernel,by decide +kernel⟩
set_option maxHeartbeats 2000000 in
theorem aEJ {fA fG:Addr} {dA dG:FuncData} (G:Fn K mg "_law_all_even" xN ["book", "due"] f fd) (B:Bl mg) (GAd:Fn K mg "_law_aall_deals" sQ ["book"] fA dA) (OAd:ab P w K mg base ao 1 fA dA ["book"] (yL K)) (JD:Fn K mg "_law_aheaps" qQ ["book", "weights", "deal"] fG dG) (IY:ab P w K mg base ao 1 fG dG ["book", "weights", "deal"] (uM K)):ab P w K mg base ao 2 f fd ["book", "due"] (yM K):=by
 refine G.fn.oK rG λa_ A outer s H vs Q E hr h=>?_
 ·obtain ⟨x,dp,n,ws,hs,ms,rfl,hx,bz,u6,Cz,U4,k⟩:=h
  have r1:au 1 _:=hr
  refine gy.ex (bM (gT (i:=2) rG.nd rfl (Or.inl rfl) (PY PZ))
   (bM (yJ PassesOwn.never rfl (cK (bA GAd OAd r1 rfl (aA (pv 0) aC))) (aJ (i:=3) rG.nd rfl (Or.inl rfl)) (bM (gT (i:=4) rG.nd rfl (Or.inl rfl) ⟨(bA JD IY r1 rfl (aA (pv 0) (aA (bC (xJ (K:=K) rfl) (cV (aA aM aC)) (aO (eW (K:=K) rfl) rfl B.len eF (aA (pv 3) aC))) (aA (pv 3) aC))))⟩)
   (eP (pY (bG (IB hr.BZ) (PX (aO zH rfl B.sorted aDY (aA (pv 4) aC)) (E9 wS aM)) (bU (uW (K:=K) rfl) rfl B.list sH (aA (pv 1) aC)) (bJ _)) (eP ⟨(dO (lK Ro Rq Rr gB (pv 2) (aA (pv 4) aC)))⟩) kQ))) (λ_=>rfl))
   (eP (jQ ⟨(pv 2)⟩)))) ?_
  refine jN ⟨bP (Jl _),λfp jd=>?_⟩
  have s1:=aD.new (o:=.lst []) jd
  have e1:upd H fp (.lst []) fp=some (.lst []):=aB
  generalize upd H fp (.lst [])=H1 at s1 e1 ⊢
  refine mF ⟨_,rfl,x,n,ws,rfl,s1.den _ _ hx,bz,u6,λdl xs H2 s2 fe NM zj lg=>?_⟩
  have fu:=s1.trans s2
  refine ⟨dl,rfl,⟨_,ai.of NM⟩,gO (K:=K) (a:=dl) (xs:=xs) (λi σ H'=>(∃ v3 v4,σ = [some x,some (.ref dp),some (.ref fp),v3,v4])/\aD H H'/\H' dl=some (.lst xs)/\kC H' (λl=>eI ws (eG l)=true) xs/\∃ zs,H' fp=some (.lst zs)/\zs.length<=i/\∀ z∈zs,HE n ws hs fp H' z) ⟨⟨_,_,rfl⟩,fu,NM,zj,[],s2 _ _ e1,Qi _,λz hz=>by cases hz⟩ (λ_ _ _ _ h=>ai.of h.2.2.1) ?_ ?_⟩
  ·rintro i y σ H3 hy ⟨⟨v3,v4,rfl⟩,s3,Hr,Ex,zs,ez,lz,hz⟩
   have hi:=(Qd.mp hy).1
   obtain ⟨l,⟨tp,rfl,lj⟩,hd⟩:=Ex y (Qg hy)
   dsimp only [cU]
   have TF:fp≠dl:=λz=>by
    have:=s1.free fe; rw [<- z] at fe; rw [e1] at fe; cases fe
   have hll:l.length<=3:=by rw [(bQ hd).1]; exact u6
   have hn:=bB bz
   refine jN ⟨_,rfl,l_ _,λop zt=>⟨_,rfl,tp,_,rfl,.inr ((aD.new zt).ag (ah.of lj)),op,_,_,rfl,rfl,ah.of aB,by rw [Qa]; omega,by decide,λwp H4 s4 om=>?_⟩⟩
   rw [Qa,aDc] at om
   have og:=(aD.new (o:=.tup [.int 1]) zt).trans s4
   refine ⟨_,rfl,x,.ref tp,wp,n,ws,l,rfl,⟨(s3.trans og).den _ _ hx,bz,aS.mpr ⟨tp,rfl,og.ag (ah.of lj)⟩,hd⟩,om,λq H5 s5 nq eq=>?_⟩
   have i6:=og.trans s5
   have L6:(aV n l).length<=6:=by rw [cC]; omega
   refine ⟨_,rfl,q,aV n l,rfl,.inl (ai.of eq),by omega,λsp pk ie zr Gs=>⟨1,rfl,rfl,sp,_,rfl,ai.of aB,λrp jn=>?_⟩⟩
   rw [<- List.map_reverse]
   have t1:=aD.new (o:=.lst (pk.map V.int)) ie
   have t2:=aD.new (o:=.lst (pk.reverse.map V.int)) jn
   refine ⟨_,rfl,dp,_,rfl,.inl (ai.of ((t1.trans t2) _ _ (i6 _ _ (s3 _ _ Cz)))),λlp di=>?_⟩
   have t3:=aD.new (o:=.lst (ms.map V.int)) di
   have s6:=i6.trans ((t1.trans t2).trans t3)
   have NJ:=((t1.trans t2).trans t3) _ _ eq
   have NH:=t3 _ _ (show upd (upd H5 sp (.lst (pk.map V.int))) rp (.lst (pk.reverse.map V.int)) rp=_ from aB)
   have NK:upd (upd (upd H5 sp (.lst (pk.map V.int))) rp (.lst (pk.reverse.map V.int))) lp (.lst (ms.map V.int)) lp=some (.lst (ms.map V.int)):=aB
   generalize upd (upd (upd H5 sp (.lst (pk.map V.int))) rp (.lst (pk.reverse.map V.int))) lp (.lst (ms.map V.int))=H6 at s6 NJ NH NK ⊢
   have EO:=s6 _ _ ez
   have Cd:∀ z∈zs,HE n ws hs fp H6 z:=λz h=>let ⟨q,hs',a,e,b,c⟩:=hz z h; ⟨q,hs',a,e,s6 _ _ b,c⟩
   refine ⟨.list (pk.reverse.map .int),.list (ms.map .int),gR.mpr ⟨rp,_,rfl,ai.of NH,eK.mpr rfl⟩,gR.mpr ⟨lp,_,rfl,ai.of NK,eK.mpr rfl⟩,jS _,jS _,jT _,jT _,_,rfl,?_⟩
   rw [wB]
   refine gC (λc=>?_) (λ_=>⟨⟨_,_,rfl⟩,s3.trans s6,s6 _ _ Hr,Ex.same s6,zs,EO,by omega,Cd⟩)
   have ee:pk.reverse=ms:=of_decide_eq_true c
   have lr:(aV n l).Perm (aV n hs):=(zr.symm.trans ((List.reverse_perm pk).symm.trans (by rw [ee]))).trans U4
   refine ⟨_,rfl,.inl ⟨rfl,_,ai.of EO⟩,_,rfl,fp,zs,.ref q,rfl,rfl,EO,by have:=lg; rw [Rf]; omega,?_⟩
   have Bk:q≠fp:=λz=>by rw [z] at nq; rw [og _ _ ez] at nq; cases nq
   have s7:aD H (upd H6 fp (.lst (zs++[.ref q]))):=(s3.trans s6).wr jd
   refine ⟨⟨_,_,rfl⟩,s7,by rw [aI (Ne.symm TF)]; exact s6 _ _ Hr,λz h=>?_,zs++[.ref q],aB,by rw [Qr]; exact Zp lz,λz h=>?_⟩
   ·obtain ⟨l',⟨p',r1,r2⟩,r3⟩:=Ex.same s6 z h
    exact ⟨l',⟨p',r1,by rw [aI (λz=>by rw [z,EO] at r2; cases r2)]; exact r2⟩,r3⟩
   ·rcases Jo.mp h with h | h
    ·obtain ⟨q',hs',a,e,b,c⟩:=Cd z h
     exact ⟨q',hs',a,e,by rw [aI e]; exact b,c⟩
    ·exact ⟨q,l,Qs.mp h,Bk,by rw [aI Bk]; exact NJ,hd,lr⟩
  ·rintro σ H3 ⟨⟨v3,v4,rfl⟩,s3,Hr,Ex,zs,ez,lz,hz⟩
   exact ⟨_,rfl,k fp zs H3 s3 jd ez hz⟩
end Ab
namespace L2
open PySem PySem.Spec PyProof.Rows
theorem aBr (hK:X.K=K) (hc:X.calm=true):dQ X (.builtin "min") (λxs H Q=>∃ (p:Addr) (ns:List Int),xs = [.ref p]/\ah K H p (ns.map V.int)/\0 < ns.length/\∀ M,M∈ns->(∀ a∈ns,M<=a)->Q (.int M) H):=by
 subst hK
 intro aa s σ H xs us Q I r h
 obtain ⟨p,ns,rfl,hx,br,q⟩:=h
 obtain ⟨u,rfl,rx⟩:=fO r
 cases rx
 obtain ⟨its,rv,pl,hz⟩:=I.tuple hx
 have hi:IntsAre its ns:=fQ rv
 obtain ⟨xs,e⟩:=hi.allInts.items
 have fw:ns=xs.toList.map (·.1):=by
  rw [<- hi.numsOf,<- Mb,<- e]
 have hsz:0 < xs.size:=by
  have h3:=br; rw [fw,Qa,Array.length_toList] at h3; exact h3
 rw [e] at pl
 have ax:p < s.heap.objs.size:=by obtain ⟨o,e,_⟩:=pl; exact Qm e
 refine call_min_walk (Uj pl ?_)
 refine ⟨s.heap.objs.size,_,_,_,_,_,_,rfl,Walks.tuple (A:=X.A.in1) (I.ok.hd hc) s.heap.objs.size p (Jc ax) (intItems xs),⟨⟨_,Qh _ rfl,rfl,rfl⟩,pl.push _⟩,?_,by simpa [intItems] using hsz,CmpOf.ints_lt (numAt xs) (λ_ _=>Vl),λv h' tk hv hk=>?_⟩
 ·intro b l8
  rw [Jk]
  rcases Qk.mp l8 with e | e
  ·rw [e]; exact Xw _
  ·have e':b=p:=by simpa using e
   rw [e']; exact Xd ax
 have hv:(intItems xs)[argBest (λi j=>decide (numAt xs i < numAt xs j)) (xs.size - 1)]?=some v:=by simpa [intItems] using hv
 obtain ⟨t,rfl⟩:=Vl hv
 obtain ⟨h1,h2⟩:=Iy (numAt xs) (xs.size - 1)
 have zv:∀ b o,s.heap.get? b=some o->h'.get? b=some o:=λb o e=>by
  refine hk b o (λhm=>?_) (Qb _ e)
  rcases Qk.mp hm with e1 | hm
  ·exact absurd (e1 ▸ Qm e) (Js _)
  ·cases hm
 refine ⟨.int _,H,I.kept zv,⟨_,rfl⟩,q _ ?_ λa ha=>?_⟩
 ·rw [fw,Ic]; exact getD_mem (by rw [Qa,Array.length_toList]; omega)
 ·rw [fw] at ha
  obtain ⟨j,hj,rfl⟩:=mem_getD ha
  rw [Qa,Array.length_toList] at hj
  rw [<- Ic]; exact h2 j (by omega)
end L2
namespace Ab
open PySem L2
theorem ZL {n:Int} {bs:bT} (hb:bN (bI n ws)=true) (bl:dX (aQ n.toNat) (ws.zip (jX ws)) bs):(PyData.list ((dt n bs).map kn)).canLay0=true/\(PyData.list ((dt n bs).map kn)).showable=true/\(PyData.list ((dt n bs).map kn)).depth<=60/\(PyData.list ((dt n bs).map kn)).shown.length<=sizeLine:=by
 obtain ⟨_,h6,_,_⟩:=bB hb
 have hx:∀ x∈dt n bs,∀ i∈[x.1 / x.2,(x.1+x.2 - 1) / x.2],(PyData.int i).showable=true/\(PyData.int i).shown.length<=40:=λx hx i hi=>by
  obtain ⟨_,S⟩:=yK hb bl hx
  obtain ⟨f,a0,a1,_⟩:=O' bl hb (jY ws) x hx
  have b1:=S.b1
  have b6:=S.b6
  have:i.natAbs < 200000:=by
   have:x.2=1∨x.2=2∨x.2=3∨x.2=4∨x.2=5∨x.2=6:=by omega
   simp only [Qk,Qn,or_false] at hi
   rcases this with e | e | e | e | e | e <;> rw [e] at hi <;> omega
  exact X! (Qq this (by decide))
 have hl:(dt n bs).length<=6:=by rw [mS]; omega
 have hd:∀ l:List (Int×Int),PyData.depthAll (l.map kn)<=1:=λl=>by
  induction l with
  | nil=>decide
  | cons x l ih =>
   rw [Jh,PyData.depthAll]
   have:(kn x).depth<=1:=aAf [x.1 / x.2,(x.1+x.2 - 1) / x.2]
   omega
 have hc:∀ l:List (Int×Int),PyData.canLayAll0 (l.map kn)=true:=λl=>by
  induction l with
  | nil=>rfl
  | cons x l ih =>
   rw [Jh,PyData.canLayAll0,ih]
   have:(kn x).canLay0=true:=xR [x.1 / x.2,(x.1+x.2 - 1) / x.2]
   rw [this]; rfl
 refine ⟨by rw [PyData.canLay0]; exact hc _,?_,by rw [PyData.depth]; have:=hd (dt n bs); omega,?_⟩
 ·rw [PyData.showable]
  exact lG _ _ λx h=>by
   show (PyData.tuple ([x.1 / x.2,(x.1+x.2 - 1) / x.2].map .int)).showable=true
   rw [PyData.showable]
   exact lG _ _ λi hi=>(hx x h i hi).1
 ·rw [PyData.shown,lF,Rf]
  have h1:=aEk ((dt n bs).map λx=>(kn x).shown)
  have h2:=pP (λx=>(kn x).shown) 90 (dt n bs) λx h=>by
   show (PyData.tuple ([x.1 / x.2,(x.1+x.2 - 1) / x.2].map .int)).shown.length<=90
   rw [PyData.shown,lF]
   have h1:=aCU ([x.1 / x.2,(x.1+x.2 - 1) / x.2].map λx=>(PyData.int x).shown)
   have h2:=pP (λx:Int=>(PyData.int x).shown) 40 _ (λy hy=>(hx x h y hy).2)
   simp only [Jr,Wi] at h2
   omega
  omega
section
variable {n:Int} {bs:bT} {M:Int} {c:Nat}
theorem dj.A8 (T:dj n ws hs lv bs) (hM:M∈aV n hs) (hA:∀ a∈aV n hs,a<=M) (m0:0<=m) (c0:0 < c) (c6:c<=6) (e:∃ h∈aQ n.toNat,bD bs h=m*60 / (c:Int)) (g:∀ h∈aQ n.toNat,bD bs h<=m*60 / (c:Int)):M=((fE (m,(c:Int))).1+(fE (m,(c:Int))).2 - 1) / (fE (m,(c:Int))).2:=by
 obtain ⟨h,hh,rfl⟩:=Jg.mp hM
 obtain ⟨h',gh,e'⟩:=e
 refine (pX m0 c0 c6).ceil ?_ ?_
 ·exact Int.lt_of_lt_of_le (T.near hh).1 (g h hh)
 ·rw [<- e']; exact T.most (λx hx=>hA _ (Jg.mpr ⟨x,hx,rfl⟩)) gh
theorem dj.A7 (T:dj n ws hs lv bs) (hM:M∈aV n hs) (hA:∀ a∈aV n hs,M<=a) (m0:0<=m) (c0:0 < c) (c6:c<=6) (e:∃ h∈aQ n.toNat,bD bs h=m*60 / (c:Int)) (g:∀ h∈aQ n.toNat,m*60 / (c:Int)<=bD bs h):M=(fE (m,(c:Int))).1 / (fE (m,(c:Int))).2:=by
 obtain ⟨h,hh,rfl⟩:=Jg.mp hM
 obtain ⟨h',gh,e'⟩:=e
 refine (pX m0 c0 c6).floor ?_ ?_
 ·rw [<- e']; exact T.least (λx hx=>hA _ (Jg.mpr ⟨x,hx,rfl⟩)) gh
 ·exact Zg (g h hh) (T.near hh).2
theorem dj.w_ {us:List V} (T:dj n ws hs lv bs) (D:aP K H ((dt n bs).map kn) us):us.length=(aV n hs).length/\(aV n hs).length<=6/\∀ (i:Nat) h,(aV n hs)[i]?=some h->∃ u a b,us[i]?=some (.ref u)/\ah K H u [.int a,.int b]/\(h=a∨h=b):=by
 have hl:us.length=n.toNat:=by rw [aH D,Qa,mS]
 have h6:=T.n6.2
 refine ⟨by rw [cC]; exact hl,by rw [cC]; omega,λi h hi=>?_⟩
 have ax:i < n.toNat:=by rw [<- cC n hs]; exact (Qd.mp hi).1
 rw [gL ax] at hi
 cases hi
 obtain ⟨u,hu⟩:∃ u,us[i]?=some u:=⟨_,Qc (by omega)⟩
 obtain ⟨y,hy,Cg⟩:=cI D hu
 have F_:=hy
 unfold dt at F_
 rw [Qe,iP ax] at F_
 cases F_
 obtain ⟨q,rfl,hq⟩:=aS (ns:=[_,_]).mp Cg
 have hh:(i:Int)∈aQ n.toNat:=(pM (by have:=T.n6.1; omega)).mpr ⟨by omega,by omega⟩
 have S:=T.sx hh
 refine ⟨q,_,_,hu,hq,?_⟩
 rcases S.near (T.near hh).1 (T.near hh).2 with z | z
 ·exact .inl z
 ·rw [S.up] at z; exact .inr z
end
theorem uO:∀ {ds es:List PyData} {xs:List V},aP K H (ds++es) xs->∃ ys zs,xs=ys++zs/\aP K H ds ys/\aP K H es zs
 | [],es,xs,h=>⟨[],xs,rfl,aN.mpr rfl,h⟩
 | d::ds,es,xs,h=>by
  obtain ⟨v,vs,rfl,h1,h2⟩:=aL.mp h
  obtain ⟨ys,zs,rfl,a,b⟩:=uO h2
  exact ⟨v::ys,zs,rfl,aL.mpr ⟨v,ys,rfl,h1,a⟩,b⟩
theorem wO {b:List Int×Int} (h:Den K H (tX b) v):∃ p r u,v=.ref p/\ah K H p [u,.ref r]/\ah K H r [.int (fE (b.2,(b.1.length:Int))).1,.int (fE (b.2,(b.1.length:Int))).2]:=by
 obtain ⟨p,xs,rfl,g,D⟩:=bL.mp h
 obtain ⟨u,vs,rfl,_,D⟩:=aL.mp D
 obtain ⟨w,ws,rfl,d,D⟩:=aL.mp D
 cases aN.mp D
 obtain ⟨r,rfl,hr⟩:=hJ.mp d
 exact ⟨p,r,u,rfl,g,hr⟩
noncomputable def uP (K:Rb) (Pt:Addr):Sp:=λvs H Q _=>∃ (x:V) (pp:Addr) (n:Int) (ws:List (List Int)) (us:List V) (bs:bT),vs = [x,.ref pp]/\Den K H (bI n ws) x/\bN (bI n ws)=true/\H Pt=some (.tab xY)/\H pp=some (.lst us)/\aP K (Vw [pp] H) ((dt n bs).map kn) us/\dX (aQ n.toNat) (ws.zip (jX ws)) bs/\∀ H',aD H H'->Q (.bl true) H'
theorem eU:ae ["book", "pairs", "ones", "due", "a", "b", "deal", "heaps", "found", "first", "last", "other"] ["book", "pairs"] (aF qR):=⟨rfl,rfl,rfl,by decide +kernel,rfl,by decide +kernel,by decide +kernel⟩
set_option maxHeartbeats 4000000 in
theorem aDd {Nv Ny Nz Nx NC CP:Addr} {NS NV NX NU NZ CW:FuncData} (G:Fn K mg "_law_aright" qR ["book", "pairs"] f fd) (B:Bl mg) (R:Pr K mg fW fH fK fB i9 fD jr fL dW dH dK dB i_ dD jt dL) (GIp:Fn K mg "in_parts" gF ["book", "weights"] Nv NS) (OIp:ab P w K mg base ao 9 Nv NS ["book", "weights"] (pW K)) (GEv:Fn K mg "evenest" lZ ["book"] Ny NV) (OEv:ab P w K mg base ao 11 Ny NV ["book"] (pT K Pt)) (JE:Fn K mg "blocks" iK ["book", "weights"] Nz NX) (IZ:ab P w K mg base ao 7 Nz NX ["book", "weights"] (oY K)) (GFa:Fn K mg "falling" oH ["book", "deal"] Nx NU) (OFa:ab P w K mg base ao 8 Nx NU ["book", "deal"] (pS K)) (GAe:Fn K mg "_law_all_even" xN ["book", "due"] NC NZ) (OAe:ab P w K mg base ao 2 NC NZ ["book", "due"] (yM K)) (Fy:Fn K mg "_law_abetween" sR ["pairs", "heaps"] CP CW) (Ft:ab P w K mg base ao 1 CP CW ["pairs", "heaps"] (rF K)):ab P w K mg base ao 12 f fd ["book", "pairs"] (uP K Pt):=by
 have OL:ab P w K mg base ao 7 fL dL ["book", "deal"] (qX K):=sU B R
 obtain ⟨Eb,Ey⟩:=B.un
 refine G.fn.oK eU λa_ A outer s H vs Q E hr h=>?_
 ·obtain ⟨x,pp,n,ws,us,bs,rfl,hx,bz,hT,lr,tu,bl,k⟩:=h
  have SN:au 11 _:=hr
  have r9:au 9 _:=hr.mono (by decide)
  have r8:au 8 _:=hr.mono (by decide)
  have r7:au 7 _:=hr.mono (by decide)
  have r2:au 2 _:=hr.mono (by decide)
  have r1:au 1 _:=hr.mono (by decide)
  refine gy.ex (bM (gT (i:=2) eU.nd rfl (Or.inl rfl) ⟨(bC (xJ (K:=K) rfl) (cV (aA aM aC)) (aO (eW (K:=K) rfl) rfl B.len eF (aA (aY (cH (K:=K) rfl) (pv 0) aM (λ_ _=>rfl)) aC)))⟩)
   (bM (gT (i:=3) eU.nd rfl (Or.inl rfl) (PY PZ))
   (bM (yJ PassesOwn.never rfl (eY (aY (cH (K:=K) rfl) (bA GIp OIp r9 rfl (aA (pv 0) (aA (pv 2) aC))) aM (λ_ _=>rfl))) (iC rfl (aR (aJ (i:=4) eU.nd rfl (Or.inl rfl)) (aR (aJ (i:=5) eU.nd rfl (Or.inl rfl)) cJ))) (eP ⟨(dO (lK Ro Rq Rr gB (pv 3) (aA (cV (aA (bC hG (pv 4) (pv 5)) (aA (bC iD (bC hG (pv 4) (pv 5)) (bU aCm rfl B.int OM (aA (gQ qA (bC nI (pv 4) (pv 5)) aM (bJ _)) aC))) aC))) aC)))⟩) (λ_=>rfl))
   (bM (pY (PW.pt (lJ (dJ (cT (aO mY rfl B.isinstance nE (aA (pv 1) (aA (iI (v:=.ty "list") rfl B.list sH rfl) aC))))) (jB (bG mW (aO (OQ (K:=K) rfl hr.gd hr.BZ) rfl B.repr Ph (aA (pv 1) aC)) (aO (OQ (K:=K) rfl hr.gd hr.BZ) rfl B.repr Ph (aA (pv 3) aC)) (bJ _))))) (eP (jQ pH)) kQ)
   (bM (gT (i:=6) eU.nd rfl (Or.inl rfl) ⟨(aY (cH (K:=K) rfl) (bA GEv OEv SN rfl (aA (pv 0) aC)) aM (λ_ _=>rfl))⟩)
   (bM (gT (i:=7) eU.nd rfl (Or.inl rfl) ⟨(bA R.L OL r7 rfl (aA (pv 0) (aA (pv 6) aC)))⟩)
   (bM (gT (i:=8) eU.nd rfl (Or.inl rfl) ⟨(bA JE IZ r7 rfl (aA (pv 0) (aA (pv 2) aC)))⟩)
   (bM (gT (i:=9) eU.nd rfl (Or.inl rfl) ⟨(aY (cH (K:=K) rfl) (aY cQ (pv 8) aM (λ_ _=>rfl)) aM (λ_ _=>rfl))⟩)
   (bM (gT (i:=10) eU.nd rfl (Or.inl rfl) ⟨(aY (cH (K:=K) rfl) (aY cQ (pv 8) (E9 wS aM) (λ_ _=>rfl)) aM (λ_ _=>rfl))⟩)
   (bM (pY (PW.pt (lJ (bG mW (aO (aA3 (K:=K) rfl rfl) rfl B.max OO (aA (pv 7) aC)) (bC hG (bC wR (bC iD (aY (cH (K:=K) rfl) (pv 9) aM (λ_ _=>rfl)) (aY (cH (K:=K) rfl) (pv 9) aM (λ_ _=>rfl))) aM) (aY (cH (K:=K) rfl) (pv 9) aM (λ_ _=>rfl))) (bJ _)) (jB (bG mW (aO (aBr (K:=K) rfl rfl) rfl B.min HX (aA (pv 7) aC)) (bC hG (aY (cH (K:=K) rfl) (pv 10) aM (λ_ _=>rfl)) (aY (cH (K:=K) rfl) (pv 10) aM (λ_ _=>rfl))) (bJ _))))) (eP (jQ pH)) kQ)
   (bM (pY (dJ (cT (bA Fy Ft r1 rfl (aA (pv 1) (aA (pv 7) aC))))) (eP (jQ pH)) kQ)
   (bM (pY (bG qA (aO (eW (K:=K) rfl) rfl B.len eF (aA (aY (cH (K:=K) rfl) (pv 0) aM (λ_ _=>rfl)) aC)) aM (bJ _)) (eP (jQ pH)) kQ)
   (bM (gT (i:=3) eU.nd rfl (Or.inl rfl) ⟨(bA GFa OFa r8 rfl (aA (pv 0) (aA (pv 6) aC)))⟩)
   (bM (yJ PassesOwn.never rfl (cK (bA GAe OAe r2 rfl (aA (pv 0) (aA (pv 3) aC)))) (aJ (i:=11) eU.nd rfl (Or.inl rfl)) (eP (pY (dJ (cT (bA Fy Ft r1 rfl (aA (pv 1) (aA (pv 11) aC))))) (eP (jQ pH)) kQ)) (λ_=>rfl))
   (eP (jQ pH)))))))))))))))) ?_
  obtain ⟨a,b,ys,rfl,ha,hb,fi⟩:=cW hx
  have m7:ys.length=ws.length:=by rw [aH fi,Qa]
  obtain ⟨md,gu,qr,Bo⟩:=bB bz
  refine jN ⟨l_ _,λp hp=>⟨_,rfl,a,_,1,.ref b,rfl,rfl,(aD.new hp).ag ha,rfl,b,_,rfl,.inr ((aD.new hp).ag hb),?_⟩⟩
  have s1:=aD.new (o:=.tup [.int 1]) hp
  rw [m7]
  refine ⟨p,_,_,rfl,rfl,ah.of aB,by omega,by decide,λq H2 s2 hq=>?_⟩
  rw [QW] at hq
  have fu:=s1.trans s2
  refine jN ⟨bP (Jl _),λfp jd=>?_⟩
  have s3:=aD.new (o:=.lst []) jd
  have e3:upd H2 fp (.lst []) fp=some (.lst []):=aB
  generalize upd H2 fp (.lst [])=H3 at s3 e3 ⊢
  have g_:=fu.trans s3
  dsimp only [cU]
  refine mF ?_
  refine ⟨_,rfl,_,rfl,.ref a,n,ws,q,jX ws,rfl,g_.den _ _ hx,bz,s3.ag hq,jY ws,λip lp FF sp zs bs2 Cs H4 s4 VD di Dt FW hzs hzd N6 pts=>?_⟩
  cases uI (iR bz (jY ws)).1 N6 bl
  have Lr:FF.length=(dt n bs).length:=by rw [aH Dt,Qa]
  have e4:=s4 _ _ e3
  have l6:(dt n bs).length<=6:=by rw [mS]; omega
  refine ⟨ip,_,0,.ref lp,rfl,rfl,VD,rfl,lp,rfl,⟨_,di⟩,qL (K:=K) (a:=lp) (xs:=FF) (λi σ H5=>(∃ v4 v5,σ = [some (.ref a),some (.ref pp),some (.ref q),some (.ref fp),v4,v5,none,none,none,none,none,none])/\bo fp H4 H5/\∃ vs,H5 fp=some (.lst vs)/\aP K (Vw [fp] H5) (((dt n bs).take i).map kn) vs) ⟨⟨_,_,rfl⟩,bo.refl _ _,[],e4,aN.mpr rfl⟩ (λi σ H5 _ h=>h.2.1.ag e4 di) ?_ ?_⟩
  ·rintro i u σ H5 hu ⟨⟨v4,v5,rfl⟩,b5,vs,e5,D⟩
   obtain ⟨y,hy,Cg⟩:=cI Dt hu
   obtain ⟨yp,rfl,hyp⟩:=hJ.mp Cg
   obtain ⟨_,S⟩:=yK bz bl (Qg hy)
   have y1:=S.b1
   have y6:=S.b6
   have cd:∀ i:Int,C1 i y.2:=λi=>⟨by omega,Xg (show y.2.natAbs<=6 by omega) (by decide +kernel)⟩
   refine ⟨yp,_,rfl,b5.ag e4 hyp,rfl,_,_,rfl,_,_,rfl,rfl,?_⟩
   dsimp only [cU]
   refine ⟨_,rfl,.inl ⟨rfl,_,ai.of e5⟩,_,rfl,_,rfl,y.1,y.2,rfl,rfl,cd _,_,rfl,_,rfl,y.1,y.2,rfl,rfl,cd _,_,rfl,_,rfl,y.1,y.2,rfl,rfl,by omega,_,0,rfl,rfl,.inr ⟨_,rfl,_,_,rfl,rfl,uq _ _,λnp qc=>?_⟩⟩
   have Ld:np≠fp:=λz=>by rw [z,e5] at qc; cases qc
   have lv:vs.length<=6:=by rw [aH D,Qa,Qy]; omega
   refine ⟨fp,vs,.ref np,rfl,rfl,(aD.new qc) _ _ e5,by rw [Rf]; omega,⟨_,_,rfl⟩,b5.trans ((bo.of (aD.new qc)).trans bo.at),vs++[.ref np],aB,?_⟩
   rw [Xj,hy,Qp]
   refine bH ((Vw.keep λb o n q=>((bo.of (aD.new qc)).trans bo.at) b o (by simpa using n) q).af _ _ D) (aL.mpr ⟨_,_,rfl,aS (ns:=[y.1 / y.2,(y.1+y.2 - 1) / y.2]).mpr ⟨np,rfl,ah.of ?_⟩,aN.mpr rfl⟩)
   rw [Vw.out (by simpa using Ld),aI Ld,aB,<- S.up]
   by_cases z:0 < y.1 % y.2 <;> simp [z]
  ·rintro σ H5 ⟨⟨v4,v5,rfl⟩,b5,vs,e5,D⟩
   rw [show (dt n bs).take FF.length=dt n bs from Jn (by omega)] at D
   have K4:aD H2 H5:=λb o h=>((bo.of (s3.trans s4)).trans b5) b o (λz=>by rw [z,jd] at h; cases h) h
   have B3:=fu.trans K4
   obtain ⟨c1,c2,c3,c4⟩:=ZL bz bl
   have DQ:Den K H5 (.list ((dt n bs).map kn)) (.ref pp):=gR.mpr ⟨pp,us,rfl,ai.of (B3 _ _ lr),B3.af _ _ (Vw.sub.af _ _ tu)⟩
   have KA:Den K H5 (.list ((dt n bs).map kn)) (.ref fp):=gR.mpr ⟨fp,vs,rfl,ai.of e5,Vw.sub.af _ _ D⟩
   have c5:=wI _ c1
   have c6:=PyData.hasDict_of_canLay _ c1
   dsimp only
   refine mF ⟨_,rfl,_,_,rfl,DQ.kd,_,rfl,rZ rfl ⟨_,rfl,_,pp,rfl,DQ,c5,c6,c2,c3,c4,_,rfl,_,fp,rfl,KA,c5,c6,c2,c3,c4,rfl,_,rfl,rZ (by simp) ?_⟩⟩
   dsimp only [vI]
   refine jN ⟨_,rfl,.ref a,n,ws,rfl,B3.den _ _ hx,bz,B3 _ _ hT,λep dp lp' hs lv H6 s6 VN Cz hd aak L=>⟨ep,_,0,.ref dp,rfl,rfl,ah.of VN,rfl,?_⟩⟩
   have T:dj n ws hs lv bs:=⟨bz,hd,ZY L (jM bz hd) (λl hl h hh=>(cE (Bo l hl)).2.1 h hh),bl⟩
   have K8:=B3.trans s6
   have good:gD K H6 (.ref a) (.ref dp) n ws hs:=⟨K8.den _ _ hx,bz,aS.mpr ⟨dp,rfl,ah.of Cz⟩,hd⟩
   dsimp only [cU]
   refine jN ⟨_,rfl,_,rfl,.ref a,.ref dp,n,ws,hs,rfl,good,λtp H7 s7 lj=>?_⟩
   have K7:=K8.trans s7
   refine jN ⟨_,rfl,_,rfl,.ref a,n,ws,q,jX ws,rfl,K7.den _ _ hx,bz,(K4.trans (s6.trans s7)).ag hq,jY ws,λbp us3 bs3 H8 s8 nbp MA Ds YZ l63=>?_⟩
   cases uI (iR bz (jY ws)).1 YZ bl
   obtain ⟨b1,z1,BM,XU,D',x1,x2,x3,b0,N4,N3,z0,KJ,KI⟩:=T.ends
   have e8:=Ds
   rw [XU] at e8
   obtain ⟨v1,vs1,XJ,d1,D1⟩:=aL.mp e8
   obtain ⟨p1,oz,u1,rfl,g1,Hi⟩:=wO d1
   obtain ⟨bs0,Ky⟩:=List.getLast?_eq_some_iff.mp D'
   have e9:=Ds
   rw [Ky,Qp] at e9
   obtain ⟨vs2,KR,XI,D2,D3⟩:=uO e9
   obtain ⟨v2,vs4,rfl,d2,D4⟩:=aL.mp D3
   cases aN.mp D4
   obtain ⟨p2,ur,u2,rfl,g2,Nm⟩:=wO d2
   refine jN ⟨_,rfl,bp,_,_,_,rfl,rfl,ai.of MA,by rw [XJ]; exact cM (j:=0) rfl,p1,_,1,.ref oz,rfl,rfl,g1,rfl,?_⟩
   refine jN ⟨_,rfl,1,rfl,bp,_,_,_,rfl,rfl,ai.of MA,by rw [XI]; exact aDm _ _,p2,_,1,.ref ur,rfl,rfl,g2,rfl,?_⟩
   dsimp only [cU]
   have AJ:=s8 _ _ lj
   have ll:0 < (aV n hs).length:=by rw [cC]; omega
   have pb:=oT b1.2 (show (0:Int) < (b1.1.length:Int) by omega)
   have pz:=oT z1.2 (show (0:Int) < (z1.1.length:Int) by omega)
   have YS:∀ i:Int,C1 i (fE (b1.2,(b1.1.length:Int))).2:=λi=>by
    have S:=pX b0 N4 N3
    exact ⟨by have:=S.b1; omega,Xg (show (fE (b1.2,(b1.1.length:Int))).2.natAbs<=6 by have:=S.b1; have:=S.b6; omega) (by decide +kernel)⟩
   have YR:∀ i:Int,C1 i (fE (z1.2,(z1.1.length:Int))).2:=λi=>by
    have S:=pX z0 KJ KI
    exact ⟨by have:=S.b1; omega,Xg (show (fE (z1.2,(z1.1.length:Int))).2.natAbs<=6 by have:=S.b1; have:=S.b6; omega) (by decide +kernel)⟩
   refine mF ⟨_,rfl,tp,_,rfl,ah.of AJ,ll,λM hM hA=>⟨_,rfl,oz,_,0,_,rfl,rfl,Hi,rfl,_,rfl,oz,_,1,_,rfl,rfl,Hi,rfl,_,_,rfl,rfl,_,_,rfl,rfl,_,rfl,oz,_,1,_,rfl,rfl,Hi,rfl,_,_,rfl,rfl,YS _,rfl,_,rfl,rZ ?_ ⟨_,rfl,tp,_,rfl,ah.of AJ,ll,λm hm hB=>⟨_,rfl,ur,_,0,_,rfl,rfl,Nm,rfl,_,rfl,ur,_,1,_,rfl,rfl,Nm,rfl,_,_,rfl,rfl,YR _,rfl,_,rfl,rZ ?_ ?_⟩⟩⟩⟩
   ·rw [T.A8 hM hA b0 N4 N3 x1 λh hh=>(x3 h hh).1]; simp
   ·rw [T.A7 hm hB z0 KJ KI x2 λh hh=>(x3 h hh).2]; simp
   dsimp only [vI]
   have K6:=K7.trans s8
   have w_:∀ {hs':List Int} {H':Hp} {qp:Addr} {R:V->Hp->Prop},ko n ws hs' lv->eI ws (eG hs')=true->aD H H'->(ai K H' qp ((aV n hs').map V.int)∨ah K H' qp ((aV n hs').map V.int))->(∀ H2,aD H' H2->R (.bl true) H2)->rF K [.ref pp,.ref qp] H' R E0:=λ{hs' H' qp R} F3 gj s' Cp k'=>by
    obtain ⟨t1,t2,t3⟩:=dj.w_ ⟨bz,gj,F3,bl⟩ (s'.af _ _ (Vw.sub.af _ _ tu))
    exact ⟨pp,qp,us,aV n hs',rfl,ai.of (s' _ _ lr),Cp,t1,t2,t3,k'⟩
   refine mF ⟨_,rfl,_,rfl,w_ T.lv hd K6 (.inr (ah.of AJ)) λH9 s9=>⟨_,rfl,rZ rfl ?_⟩⟩
   have B2:=K6.trans s9
   dsimp only [vI]
   refine mF ⟨_,rfl,a,_,1,.ref b,rfl,rfl,B2.ag ha,rfl,b,_,rfl,.inr (B2.ag hb),_,_,rfl,rfl,_,rfl,gC (λ_=>k _ B2) λh3=>?_⟩
   have WE:ws.length<=3:=by
    rcases Qae 3 ws.length with z | z
    ·exact (h3 (decide_eq_true (by omega))).elim
    ·exact z
   dsimp only [vI]
   have Ek:=(s7.trans s8).trans s9
   have D8:gD K H9 (.ref a) (.ref dp) n ws hs:=⟨B2.den _ _ hx,bz,Ek.den _ _ good.2.2.1,hd⟩
   refine jN ⟨_,rfl,_,rfl,.ref a,.ref dp,n,ws,hs,rfl,D8,λgp HA ms sA ngp VH zr Gs=>?_⟩
   have FQ:=B2.trans sA
   refine mF ⟨_,rfl,_,rfl,.ref a,gp,n,ws,hs,ms,rfl,FQ.den _ _ hx,bz,WE,VH,zr,λop os HB sB nop zt uy=>⟨op,rfl,⟨_,ai.of zt⟩,gO (K:=K) (a:=op) (xs:=os) (λi σ H'=>(∃ v0 v2 v3 v4 v5 v6 v7 v8 v9 v10 v,σ = [v0,some (.ref pp),v2,v3,v4,v5,v6,v7,v8,v9,v10,v])/\aD HB H') ⟨⟨_,_,_,_,_,_,_,_,_,_,_,rfl⟩,aD.refl _⟩ (λ_ _ _ _ h=>h.2.b_ (ai.of zt)) ?_ ?_⟩⟩
   ·rintro i y σ HC hy ⟨⟨v0,v2,v3,v4,v5,v6,v7,v8,v9,v10,v,rfl⟩,sC⟩
    obtain ⟨qp,hs',rfl,_,Co,gj,JY⟩:=uy y (Qg hy)
    have F3:=(T.lv.iff bz hd gj).mp JY
    dsimp only [cU]
    refine ⟨_,rfl,_,rfl,w_ F3 gj (FQ.trans (sB.trans sC)) (.inl (ai.of (sC _ _ Co))) λHD sD=>⟨_,rfl,rZ rfl ⟨⟨_,_,_,_,_,_,_,_,_,_,_,rfl⟩,sC.trans sD⟩⟩⟩
   ·rintro σ HC ⟨⟨v0,v2,v3,v4,v5,v6,v7,v8,v9,v10,v,rfl⟩,sC⟩
    exact k _ (FQ.trans (sB.trans sC))
theorem aDe (ht:H t=none) (b:bo t H H') (h:ai K H a xs):ai K H' a xs:=by
 rcases h with (h | ⟨o,h⟩) | h
 ·exact .inl (.inl (b _ _ (λz=>by rw [z,ht] at h; cases h) h))
 ·exact .inl (.inr ⟨o,b _ _ (λz=>by rw [z,ht] at h; cases h) h⟩)
 ·exact .inr h
theorem aEK {n:Int} (h:bN (bI n ws)=true):bN (bI n (ws.map λl=>l.take 1))=true:=by
 obtain ⟨h1,h2,h3,h4⟩:=bB h
 refine PH h1 h2 (by rw [Qa]; exact h3) λl hl=>?_
 obtain ⟨m,hm,rfl⟩:=Jg.mp hl
 obtain ⟨a,b,c⟩:=cE (h4 m hm)
 exact xT (λz=>a (by cases m with | nil=>rfl | cons x r=>cases z)) (λx hx=>b x (Yh hx)) (c.sublist (List.take_sublist 1 m))
noncomputable def E3 (K:Rb) (Pt:Addr):Sp:=λvs H Q _=>∃ (a:Addr) (ns:List Int),vs = [.ref a]/\ai K H a (ns.map V.int)/\H Pt=some (.tab xY)/\∀ H',H' Pt=some (.tab xY)->Q (.bl true) H'
theorem wP:ae ["script", "start", "tape", "book", "some", "pairs"] ["script"] (aF EX):=⟨rfl,rfl,rfl,by decide +kernel,rfl,by decide +kernel,by decide +kernel⟩
set_option maxHeartbeats 4000000 in
theorem ZX {fT NA:Addr} {dT NY:FuncData} (G:Fn K mg "law" EX ["script"] f fd) (B:Bl mg) (GTp:Fn K mg "_law_atape" Fc ["script", "k"] fT dT) (OTp:ab P w K mg base ao 2 fT dT ["script", "k"] (Pm K)) (GB:Fn K mg "_law_abook" sN ["tape", "hands", "works"] NA NY) (OB:ab P w K mg base ao 2 NA NY ["tape", "hands", "works"] (QH K)) (GBs:Fn K mg "beside" oJ ["book"] fS dS) (OBs:ab P w K mg base ao 9 fS dS ["book"] (uL K)) (GRi:Fn K mg "_law_aright" qR ["book", "pairs"] fI dI) (ORi:ab P w K mg base ao 12 fI dI ["book", "pairs"] (uP K Pt)):ab P w K mg base ao 13 f fd ["script"] (E3 K Pt):=by
 refine G.fn.oK wP λa_ A outer s H vs Q E hr h=>?_
 ·obtain ⟨a,ns,rfl,fw,BH,k⟩:=h
  have r2:au 2 _:=hr.mono (by decide)
  have r9:au 9 _:=hr.mono (by decide)
  have SM:au 12 _:=hr
  refine ⟨_,(aE (eC PassesOwn.never rfl (aCj rfl B.range (aA aM (aA (aO (aCk rfl) rfl B.max OO (aA aM (aA (aO (aCl rfl) rfl B.min HX (aA aM (aA (aO (eW (K:=K) rfl) rfl B.len eF (aA (pv 0) aC)) aC))) aC))) aC))) (aJ (i:=1) wP.nd rfl (Or.inl rfl))
   (aE (aU (i:=2) wP.nd rfl (Or.inl rfl) (bA GTp OTp r2 rfl (aA (pv 0) (aA (pv 1) aC))))
  (aE (aU (i:=3) wP.nd rfl (Or.inl rfl) (bA GB OB r2 rfl (aA (pv 2) (aA aM (aA (aY cQ (dY (aA aM (aA aM (aA aM aC)))) (pv 1) (λ_ _=>rfl)) aC)))))
  (aK (eC PassesOwn.never rfl (cK (dY (aA (pv 3) (aA (cV (aA (aY (cH (K:=K) rfl) (pv 3) aM (λ_ _=>rfl)) (aA (bU (jH (K:=K) rfl) rfl B.tuple dU (aA (bK (own:=["able"]) (fr:=[]) (a9:=[]) (aT (aF EX) ["script", "start", "tape", "book", "some", "pairs"] rfl rfl (by decide +kernel)) rfl (eY (aY (cH (K:=K) rfl) (pv 3) aM (λ_ _=>rfl)))
    (λ_ _ _ _=>(aJ (i:=0) (show (["able"]:List Str).Nodup by decide +kernel) rfl (Or.inl rfl))) (λ_ _ _ _=>bZ)
    (λ_ _ _ _=>(yW (aDF (K:=K) rfl) (pv 0) P' (P9 aM)))) aC)) aC))) (aA (pv 3) aC))))) (aJ (i:=4) wP.nd rfl (Or.inl rfl))
   (aE (aU (i:=5) wP.nd rfl (Or.inl rfl) (bA GBs OBs r9 rfl (aA (pv 4) aC)))
  (aE (eJ (dJ (cT (bA GRi ORi SM rfl (aA (pv 4) (aA (pv 5) aC)))))
   (aK (aW iN))
   bR)
  (aK (dO (lK Ro Rq Rr gB (pv 5) (aA aM aC)))))))))))
  (aK (aW iN))),?_⟩
  have hM:∀ m:Int,0<=m->0<=(if (if m < 2 then m else 2) > 1 then (if m < 2 then m else 2) else 1)/\(if (if m < 2 then m else 2) > 1 then (if m < 2 then m else 2) else 1)<=2:=λm hm=>by split <;> split <;> omega
  have hM':=hM ((ns.map V.int).length:Int) (by omega)
  refine ⟨_,rfl,a,_,rfl,.inl fw,_,_,rfl,_,_,rfl,0,_,rfl,⟨by decide,by decide,by omega,by omega⟩,kE (lo:=0) (λi σ H1=>(∃ v1 v2 v3 v4 v5,σ = [some (.ref a),v1,v2,v3,v4,v5])/\ai K H1 a (ns.map V.int)/\H1 Pt=some (.tab xY)) ⟨⟨_,_,_,_,_,rfl⟩,fw,BH⟩ ?_ ?_⟩
  ·rintro i σ H1 hi ⟨⟨v1,v2,v3,v4,v5,rfl⟩,xt,p1⟩
   refine ⟨_,rfl,_,rfl,a,ns,i,by rw [Zj]; rfl,xt,λt n0 ht=>?_⟩
   have Lo:Pt≠t:=λz=>by rw [z,ht] at p1; cases p1
   have b2:bo t H1 (upd H1 t (.lst [.int n0])):=bo.at
   have T2:kY K (upd H1 t (.lst [.int n0])) t a ns:=⟨_,aB⟩
   generalize upd H1 t (.lst [.int n0])=H2 at b2 T2 ⊢
   have u_:i < 2:=by omega
   obtain ⟨wm,T_,Ly,Bp⟩:∃ wm:Int,g9 [V.int 12,V.int 3,V.int 12] (0+(i:Int))=some (.int wm)/\0<=wm/\wm<=12:=by
    match i,u_ with
    | 0,_=>exact ⟨12,rfl,by decide,by decide⟩
    | 1,_=>exact ⟨3,rfl,by decide,by decide⟩
   refine ⟨_,rfl,bP (show 3<=1000 by decide),λl3 u6=>?_⟩
   have s3:=aD.new (o:=.lst [.int 12,.int 3,.int 12]) u6
   refine ⟨_,rfl,l3,_,_,_,rfl,rfl,ai.of aB,T_,t,a,ns,6,wm,rfl,T2.same s3,by decide,by decide,Ly,Bp,λn ws bp H3 bz zk b3 T3 EF=>?_⟩
   have Hy:=b2.trans ((bo.of s3).trans b3)
   have p3:=Hy _ _ Lo p1
   obtain ⟨ba,bb,ys,XW,ha,jy,fi⟩:=cW EF
   obtain rfl:bp=ba:=by injection XW
   obtain ⟨md,gu,qr,Bo⟩:=bB bz
   have m7:ys.length=ws.length:=by rw [aH fi,Qa]
   have Kq:=aEK bz
   refine ⟨_,rfl,_,rfl,bp,_,0,.int n,rfl,rfl,ha,rfl,_,rfl,bp,_,1,.ref bb,rfl,rfl,ha,rfl,bb,rfl,⟨_,jy⟩,gS (K:=K) (a:=bb) (xs:=ys) (λσ=>∃ u,σ = [u]) (λi zs H'=>aD H3 H'/\aP K H' (((ws.map λl=>l.take 1).take i).map cO) zs) (bP (by omega)) ⟨_,rfl⟩ ⟨aD.refl _,aN.mpr rfl⟩ (λi zs H' h=>by rw [aH h.2,Qa,Qy]; omega) (λi zs H' h=>h.1.ag jy) ?_ ?_⟩
   ·rintro i zs σ x H' my ⟨u,rfl⟩ ⟨s',D⟩ hz
    obtain ⟨l,hl,GF⟩:=cI fi my
    obtain ⟨lp,rfl,di⟩:=aS.mp GF
    dsimp only [cU,pF]
    refine iE ?_
    refine ⟨_,rfl,1,rfl,lp,_,rfl,s'.ag di,λr H5 s5 LG=>⟨hz,⟨_,rfl⟩,s'.trans s5,?_⟩⟩
    rw [show ((1:Int))=((1:Nat):Int) from rfl,aE2,<- List.map_take] at LG
    rw [Xj,Qe,hl,Qp]
    exact bH (s5.af _ _ D) (aL.mpr ⟨_,_,rfl,aS.mpr ⟨r,rfl,LG⟩,aN.mpr rfl⟩)
   ·rintro zs H4 ⟨s4,D⟩ lp di
    rw [show (ws.map λl=>l.take 1).take ys.length=ws.map λl=>l.take 1 from Jn (by rw [Qa]; omega)] at D
    refine ⟨lp,zs,rfl,.inl ⟨ai.of aB,λrv UM=>⟨uq _ _,λtb UH=>⟨_,rfl,bP (show 3<=1000 by decide),λpl jo=>?_⟩⟩⟩⟩
    have sl:=aD.new (o:=.lst zs) di
    have sr:=aD.new (o:=.tup zs) UM
    have st:=aD.new (o:=.tup [.int n,.ref rv]) UH
    have sp:=aD.new (o:=.lst [.ref bp,.ref tb,.ref bp]) jo
    have er:=(st.trans sp) _ _ (show upd (upd H4 lp (.lst zs)) rv (.tup zs) rv=_ from aB)
    have et:=sp _ _ (show upd (upd (upd H4 lp (.lst zs)) rv (.tup zs)) tb (.tup [.int n,.ref rv]) tb=_ from aB)
    have ep:upd (upd (upd (upd H4 lp (.lst zs)) rv (.tup zs)) tb (.tup [.int n,.ref rv])) pl (.lst [.ref bp,.ref tb,.ref bp]) pl=_:=aB
    have FL:=sl.trans (sr.trans (st.trans sp))
    generalize upd (upd (upd (upd H4 lp (.lst zs)) rv (.tup zs)) tb (.tup [.int n,.ref rv])) pl (.lst [.ref bp,.ref tb,.ref bp])=H9 at er et ep FL ⊢
    have Em:=s4.trans FL
    have p9:=Em _ _ p3
    have all:∀ y∈[V.ref bp,.ref tb,.ref bp],∃ BW,Den K H9 (bI n BW) y/\bN (bI n BW)=true:=λy hy=>by
     simp only [Qk,Qn,or_false] at hy
     rcases hy with rfl | rfl | rfl
     ·exact ⟨ws,Em.den _ _ EF,bz⟩
     ·exact ⟨_,wC (ah.of et) (ah.of er) (FL.af _ _ D),Kq⟩
     ·exact ⟨ws,Em.den _ _ EF,bz⟩
    refine ⟨pl,rfl,⟨_,ai.of ep⟩,gO (K:=K) (a:=pl) (xs:=[.ref bp,.ref tb,.ref bp]) (λ_ σ H'=>(∃ v1 v2 v3 v4 v5,σ = [some (.ref a),v1,v2,v3,v4,v5])/\aD H9 H') ⟨⟨_,_,_,_,_,rfl⟩,aD.refl _⟩ (λ_ _ _ _ z=>ai.of (z.2 _ _ ep)) ?_ ?_⟩
    ·rintro j y σ H' hy ⟨⟨v1,v2,v3,v4,v5,rfl⟩,s'⟩
     obtain ⟨BW,d',DH⟩:=all y (Qg hy)
     refine ⟨_,rfl,y,n,BW,rfl,s'.den _ _ d',DH,λpp us bs HA sA S_ lr tu bl=>?_⟩
     have Lr:us.length<=6:=by rw [aH tu,Qa,mS]; omega
     refine ⟨_,rfl,_,rfl,y,pp,n,BW,us,bs,rfl,(s'.trans sA).den _ _ d',DH,(s'.trans sA) _ _ p9,lr,tu,bl,λHB sB=>⟨_,rfl,rZ rfl ?_⟩⟩
     exact ⟨_,rfl,.inl ⟨rfl,_,ai.of (sB _ _ lr)⟩,pp,us,.int 0,rfl,rfl,sB _ _ lr,by rw [Rf]; omega,⟨_,_,_,_,_,rfl⟩,(s'.trans (sA.trans sB)).wr (s'.free S_)⟩
    ·rintro σ H' ⟨⟨v1,v2,v3,v4,v5,rfl⟩,s'⟩
     have bf:=Hy.trans (bo.of (Em.trans s'))
     exact ⟨⟨_,_,_,_,_,rfl⟩,aDe ht bf xt,bf _ _ Lo p1⟩
  ·rintro σ H1 ⟨_,_,p1⟩
   exact k _ p1
end Ab
namespace Ab
open PySem L2 PyProof.Rows
theorem ZK (X:K.In h) (G:h.Ns mainGlobals mg) {kV:Value} (hb:∀ (kV doc pm:Value) (an:Option Addr) (a_ ct:Value) (us:List Value),us.length=ps.length->bindArgs (Td x x (jO st) (fF st) (aF st) .none kV doc pm an a_ ct) ⟨us,[]⟩=pure (ps.zip us)) (a:Rk K mainGlobals x=some (some (.ref f))) (l:K.lookup f=some ⟨oc,od,.func (Td x x (jO st) (fF st) (aF st) .none kV doc pm an a_ ct),pj⟩) (c:Uo K a_ x=true) (k:Ud K (.ref f)=true) :
  ∃ f fd,Fn K mg x st ps f fd:=by
 have F:=Pc (st:=st) l c k
 exact ⟨f,_,F,Uk X G a,k,F.binds hb⟩
theorem ZW (X:K.In h) (G:h.Ns mainGlobals mg) {kV:Value} (hb:∀ (kV doc pm:Value) (an:Option Addr) (a_ ct:Value) (us:List Value),us.length=ps.length->bindArgs (Td x x (jO st) (fF st) (aF st) .none kV doc pm an a_ ct) ⟨us,[]⟩=pure (ps.zip us)) (a:Rk K mainGlobals x=some (some (.ref f))) (l:K.lookup f=some ⟨oc,od,.func (Td x x (jO st) (fF st) (aF st) .none kV doc pm an a_ ct),pj⟩) (c:Uo K a_ x=true) (k:Ud K (.ref f)=true) :
  ∃ f fd,Fn K mg x st ps f fd/\fd.code=a_:=by
 have F:=Pc (st:=st) l c k
 exact ⟨f,_,⟨F,Uk X G a,k,F.binds hb⟩,rfl⟩
theorem aId (X:K.In h) (G:h.Ns mainGlobals mg) {t6 FH Sr Sq:Tok} (z0:Rk K mainGlobals "isinstance" = some none) (z1:Rk K mainGlobals "int" = some none) (z2:Rk K mainGlobals "bool" = some none) (z3:Rk K mainGlobals "tuple" = some none) (z4:Rk K mainGlobals "list" = some none) (z5:Rk K mainGlobals "len" = some none) (z6:Rk K mainGlobals "all" = some none) (z7:Rk K mainGlobals "zip" = some none) (z8:Rk K mainGlobals "range" = some none) (z9:Rk K mainGlobals "sorted" = some none) (R9:Rk K mainGlobals "set" = some none) (R1:Rk K mainGlobals "sum" = some none) (R0:Rk K mainGlobals "repr" = some none) (RZ:Rk K mainGlobals "enumerate" = some none) (RY:Rk K mainGlobals "min" = some none) (RX:Rk K mainGlobals "any" = some none) (RW:Rk K mainGlobals "max" = some none) (zA:Rk K mainGlobals "MOST_HANDS" = some (some (.int 6 t6))) (zB:Rk K mainGlobals "MOST_WORKS" = some (some (.int 12 FH))) (RU:Rk K mainGlobals "MOST_WEIGHT" = some (some (.int 99 Sr))) (RT:Rk K mainGlobals "UNITS" = some (some (.int 60 Sq))):Bl mg :=
 ⟨Rh X G z0,Rh X G z1,Rh X G z2,Rh X G z3,Rh X G z4,Rh X G z5,Rh X G z6,Rh X G z7,Rh X G z8,Rh X G z9,Rh X G R9,Rh X G R1,Rh X G R0,Rh X G RZ,Rh X G RY,Rh X G RX,Rh X G RW,⟨_,Uk X G RU⟩,⟨_,Uk X G RT⟩,⟨_,Uk X G zA⟩,⟨_,Uk X G zB⟩⟩
theorem M? {l:Vo} {fa:Addr} (VJ:mg "law" = some (.ref fa)) (B:Bl mg) (Hc:∃ f fd,Fn K mg "levels_or_way" C0 ["book", "deal"] f fd/\fd.code=.ref c) (hZ:∀ base:Heap,base.BuiltinsAt mg Pt->Lm K mg base c Pt) (hW:∃ f fd,Fn K mg "is_whole" nM ["thing"] f fd) (hH:∃ f fd,Fn K mg "are_hands" sJ ["thing"] f fd) (MW:∃ f fd,Fn K mg "is_work" sK ["hands", "thing"] f fd) (Nc:∃ f fd,Fn K mg "is_book" sL ["thing"] f fd) (M8:∃ f fd,Fn K mg "is_deal" xL ["book", "thing"] f fd) (MR:∃ f fd,Fn K mg "need_book" IH ["book"] f fd) (MQ:∃ f fd,Fn K mg "need_deal" IG ["book", "deal"] f fd) (hC:∃ f fd,Fn K mg "counted" lW ["hands", "deal"] f fd) (hL:∃ f fd,Fn K mg "loads" IF ["book", "deal"] f fd) (M6:∃ f fd,Fn K mg "falling" oH ["book", "deal"] f fd) (Ae:∃ f fd,Fn K mg "handing" lX ["book", "deal"] f fd) (MK:∃ f fd,Fn K mg "reached" lY ["rows", "first"] f fd) (MD:∃ f fd,Fn K mg "way_to" sM ["found", "last"] f fd) (MH:∃ f fd,Fn K mg "is_step" vY ["book", "deal", "step"] f fd) (MC:∃ f fd,Fn K mg "is_way" An ["book", "deal", "some"] f fd) (MO:∃ f fd,Fn K mg "need_way" xM ["book", "deal", "some"] f fd) (M5:∃ f fd,Fn K mg "gone" Fe ["book", "deal", "some"] f fd) (Na:∃ f fd,Fn K mg "bettered" kK ["book", "deal"] f fd) (M7:∃ f fd,Fn K mg "evenest" lZ ["book"] f fd) (M':∃ f fd,Fn K mg "common" qT ["a", "b"] f fd) (MU:∃ f fd,Fn K mg "lowest" oI ["a", "b"] f fd) (M0:∃ f fd,Fn K mg "is_less" Fb ["one", "other"] f fd) (Ng:∃ f fd,Fn K mg "are_weights" sO ["book", "thing"] f fd) (MP:∃ f fd,Fn K mg "need_weights" qU ["book", "weights"] f fd) (ME:∃ f fd,Fn K mg "is_within" mK ["able", "some"] f fd) (MG:∃ f fd,Fn K mg "sets_of" C4 ["hands"] f fd) (M1:∃ f fd,Fn K mg "heaviest" kL ["hands", "rows"] f fd) (Nd:∃ f fd,Fn K mg "blocks" iK ["book", "weights"] f fd) (M4:∃ f fd,Fn K mg "handing_parts" sP ["takers", "held", "many"] f fd) (MI:∃ f fd,Fn K mg "spread" jR ["takers", "amounts", "rooms"] f fd) (MV:∃ f fd,Fn K mg "least_loaded" kX ["able", "loads"] f fd) (MN:∃ f fd,Fn K mg "part_loads" nN ["book", "weights"] f fd) (MZ:∃ f fd,Fn K mg "in_parts" gF ["book", "weights"] f fd) (Nb:∃ f fd,Fn K mg "beside" oJ ["book"] f fd) (M_:∃ f fd,Fn K mg "_law_acell" Fd ["script", "k"] f fd) (MF:∃ f fd,Fn K mg "_law_atape" Fc ["script", "k"] f fd) (M9:∃ f fd,Fn K mg "_law_adigit" qP ["tape", "many"] f fd) (Nk:∃ f fd,Fn K mg "_law_abook" sN ["tape", "hands", "works"] f fd) (Nh:∃ f fd,Fn K mg "_law_aheaps" qQ ["book", "weights", "deal"] f fd) (Nj:∃ f fd,Fn K mg "_law_aall_deals" sQ ["book"] f fd) (Nf:∃ f fd,Fn K mg "_law_abetween" sR ["pairs", "heaps"] f fd) (Ni:∃ f fd,Fn K mg "_law_all_even" xN ["book", "due"] f fd) (MJ:∃ f fd,Fn K mg "_law_aright" qR ["book", "pairs"] f fd) (MT:∃ f fd,Fn K mg "law" EX ["script"] f fd)
  : ∃ fd:FuncData,(∀ (s:Shared) (v:Value),BindsTo s fd ⟨[v],[]⟩ [("script",v)])/\∀ base:Heap,K.In base->base.Ns mainGlobals mg->base.BuiltinsAt mg Pt->ab l.prog w K mg base ao 13 fa fd ["script"] (E3 K Pt):=by
 obtain ⟨WZ,X8,LO,hc⟩:=Hc
 obtain ⟨fW,dW,W⟩:=hW
 obtain ⟨fH,dH,H⟩:=hH
 obtain ⟨W3,X',Kw⟩:=MW
 obtain ⟨XB,YI,BP⟩:=Nc
 obtain ⟨W',YF,DP⟩:=M8
 obtain ⟨i9,i_,NB⟩:=MR
 obtain ⟨jr,jt,ND⟩:=MQ
 obtain ⟨fC,dC,C⟩:=hC
 obtain ⟨fL,dL,L⟩:=hL
 obtain ⟨W8,YD,FA⟩:=M6
 obtain ⟨fHD,dHD,HD⟩:=Ae
 obtain ⟨WU,X3,RC⟩:=MK
 obtain ⟨WN,XY,WT⟩:=MD
 obtain ⟨fSP,dSP,SP⟩:=MH
 obtain ⟨fWY,dWY,WY⟩:=MC
 obtain ⟨fNW,dNW,NW⟩:=MO
 obtain ⟨fGO,dGO,GO⟩:=M5
 obtain ⟨fBT,dBT,BT⟩:=Na
 obtain ⟨W9,YE,EV⟩:=M7
 obtain ⟨fCM,dCM,CM⟩:=M'
 obtain ⟨WX,X7,LS⟩:=MU
 obtain ⟨W5,YA,IL⟩:=M0
 obtain ⟨XE,YL,AW⟩:=Ng
 obtain ⟨WW,X5,NE⟩:=MP
 obtain ⟨WO,XZ,WI⟩:=ME
 obtain ⟨WQ,X0,ST⟩:=MG
 obtain ⟨W6,YB,HV⟩:=M1
 obtain ⟨XC,YJ,BK⟩:=Nd
 obtain ⟨W7,YC,HA⟩:=M4
 obtain ⟨WR,X1,SD⟩:=MI
 obtain ⟨W2,X9,LL⟩:=MV
 obtain ⟨WV,X4,PA⟩:=MN
 obtain ⟨W4,X_,IP⟩:=MZ
 obtain ⟨XA,YH,BS⟩:=Nb
 obtain ⟨fCE,dCE,CE⟩:=M_
 obtain ⟨fTA,dTA,TA⟩:=MF
 obtain ⟨W_,YG,DG⟩:=M9
 obtain ⟨fAB,dAB,AB⟩:=Nk
 obtain ⟨XF,YM,AH⟩:=Nh
 obtain ⟨XH,YO,AD⟩:=Nj
 obtain ⟨XD,YK,BE⟩:=Nf
 obtain ⟨XG,YN,AE⟩:=Ni
 obtain ⟨WS,X2,RI⟩:=MJ
 obtain ⟨fLW,X6,LW⟩:=MT
 have e:=VJ.symm.trans LW.Lq
 cases e
 have R:Pr K mg fW fH W3 XB i9 W' jr fL dW dH X' YI i_ YF jt dL:=⟨W,H,Kw,BP,NB,DP,ND,⟨fC,dC,C⟩,L⟩
 refine ⟨X6,λs v=>?_,λbase _ _ Hg=>?_⟩
 ·obtain ⟨oc,od,kV,doc,pm,an,a_,ct,pj,rfl,lk,j7⟩:=LW.fn.ex
  exact .of_eq rfl
 ·have Z:=hZ base Hg
  have ODG:ab l.prog w K mg base ao 1 W_ YG ["tape", "many"] (xS K):=aD8 DG B
  have RA:ab l.prog w K mg base ao 2 WX X7 ["a", "b"] (oW):=aCZ LS B CM
  have OIL:ab l.prog w K mg base ao 1 W5 YA ["one", "other"] (H_ K):=U! IL
  have I_:ab l.prog w K mg base ao 5 XE YL ["book", "thing"] (yC K):=aEu AW B R
  have ONE:ab l.prog w K mg base ao 6 WW X5 ["book", "weights"] (tW K):=aC0 NE AW I_
  have Q9:ab l.prog w K mg base ao 1 WO XZ ["able", "some"] (oX K):=aC1 WI B
  have OST:ab l.prog w K mg base ao 1 WQ X0 ["hands"] (HZ K):=S! ST B
  have OHV:ab l.prog w K mg base ao 2 W6 YB ["hands", "rows"] (HY K):=R? HV B ST OST WI Q9
  have RD:ab l.prog w K mg base ao 7 XC YJ ["book", "weights"] (oY K):=aC2 BK B NE ONE HV OHV LS RA WI Q9
  have ORC:ab l.prog w K mg base ao 1 WU X3 ["rows", "first"] (mO K):=tK RC B
  have OWT:ab l.prog w K mg base ao 1 WN XY ["found", "last"] (rC K):=QP WT B
  have OHA:ab l.prog w K mg base ao 1 W7 YC ["takers", "held", "many"] (yF K):=aEA HA B
  have OSD:ab l.prog w K mg base ao 2 WR X1 ["takers", "amounts", "rooms"] (uA K):=aC3 SD B RC ORC WT OWT HA OHA
  have OLL:ab l.prog w K mg base ao 2 W2 X9 ["able", "loads"] (uC K):=aC5 LL B IL OIL
  have Q_:ab l.prog w K mg base ao 8 WV X4 ["book", "weights"] (rE K):=aED PA B BK RD
  have OIP:ab l.prog w K mg base ao 9 W4 X_ ["book", "weights"] (pW K):=aBq IP B PA Q_ LL OLL SD OSD LS RA
  have OBS:ab l.prog w K mg base ao 9 XA YH ["book"] (uL K):=aDa BS B R PA Q_
  have RB:ab l.prog w K mg base ao 8 WZ X8 ["book", "deal"] (Fi K Pt):=z! LO hc Z B R HD RC WT
  have OEV:ab l.prog w K mg base ao 11 W9 YE ["book"] (pT K Pt):=aBm EV B R BT (aAt BT B LO RB GO (W! GO B NW (aEl NW B R WY SP))) LO RB
  have OFA:ab l.prog w K mg base ao 8 W8 YD ["book", "deal"] (pS K):=aBi FA B R
  have OAD:ab l.prog w K mg base ao 1 XH YO ["book"] (yL K):=aEI AD B
  have OAH:ab l.prog w K mg base ao 1 XF YM ["book", "weights", "deal"] (uM K):=aDb AH B
  have OAE:ab l.prog w K mg base ao 2 XG YN ["book", "due"] (yM K):=aEJ AE B AD OAD AH OAH
  have OBE:ab l.prog w K mg base ao 1 XD YK ["pairs", "heaps"] (rF K):=N! BE B
  have ORI:ab l.prog w K mg base ao 12 WS X2 ["book", "pairs"] (uP K Pt):=aDd RI B R IP OIP EV OEV BK RD FA OFA AE OAE BE OBE
  exact ZX LW B TA (C! TA B CE) AB (aD9 AB B DG ODG) BS OBS RI ORI
theorem walk {l:Vo} {q:Program} {d:DefRec} {K:Params->Rb} (hn:l.most=some 63) (CB:d.params.defaults = []) (hq:importsNone q=true) (hY:∀ (w:World) (h:Heap),YP w h->(K w.params).In h) (hT:∀ (w:World) (h:Heap),YP w h->h.get? Pt=some (Rw #[])) (F:(∀ w:World,Vm (K w.params) c Pt=true)->∀ (w:World) (mg:Str->Option Value) (fa:Addr) (h:Heap),(K w.params).In h->h.Ns mainGlobals mg->mg d.name=some (.ref fa) ->
   ∃ fd:FuncData,(∀ (s:Shared) (u:Value),BindsTo s fd ⟨[u],[]⟩ [("script",u)])/\∀ base:Heap,(K w.params).In base->base.Ns mainGlobals mg->base.BuiltinsAt mg Pt->ab l.prog w (K w.params) mg base ao 13 fa fd ["script"] (E3 (K w.params) Pt)) (V_:∀ w:World,(K w.params).lookup Pt=none) (hC:∀ w:World,Vm (K w.params) c Pt=true) :
  Mi q loose XP YP l.row.toRowW d [] (λf vs=>Mc f vs) :=
 L2.aDS (n:=63) (k:=13) (x := "script") (CX:=λ_=>ao) (sp:=λw=>E3 (K w.params) Pt) (ts:=[(Pt,xY)]) hn (by decide) CB ⟨rfl,by decide,by decide,rfl⟩ hq hY
  (λw h Y p hp=>by rw [Qs.mp hp]; exact ⟨hT w h Y,V_ w,c,Iv (hY w h Y) (hC w)⟩) (by simp) (λw mg fa h a b d=>let ⟨fd,h1,h2⟩:=F hC w mg fa h a b d; ⟨fd,h1,λbase k1 k2 k3=>h2 base k1 k2 (k3 _ (Ql ..))⟩)
  (λ_ _ a ns _ hO hS=>⟨a,ns,rfl,hS,hO.2 _ (Ql ..),λH' h=>⟨rfl,λp hp=>by rw [Qs.mp hp]; exact h⟩⟩) λ_ _ _ _ _ z=>z
end Ab
open PySem PySem.W PyProof.Rows
set_option maxRecDepth 100000 in
set_option maxHeartbeats 0 in
theorem PySem.Challenge.cw_ablehands_k25_beside_the_parts_holds : PySem.Challenge.rw_ablehands_k25_beside_the_parts.Holds := by
 w_on; o_law; k_head; (case hw=>w_witness2)
 k_fill
 refine' Ab.walk (l:=PySem.Challenge.rw_ablehands_k25_beside_the_parts) rfl rfl (by decide +kernel) (λw h Y=>PySem.W.km_in_of Y) (λw h Y=>PySem.W.km_tabs_of Y _ (Ql ..)) ?F ?KP ?HC
 case F =>
  intro hC w mg fa h KX G Cr
  refine' Ab.M? Cr ?B ?Hc ?Z ?hW ?hH ?MW ?Nc ?M8 ?MR ?MQ ?hC ?hL ?M6 ?Ae ?MK ?MD ?MH ?MC ?MO ?M5 ?Na ?M7 ?M' ?MU ?M0 ?Ng ?MP ?ME ?MG ?M1 ?Nd ?M4 ?MI ?MV ?MN ?MZ ?Nb ?M_ ?MF ?M9 ?Nk ?Nh ?Nj ?Nf ?Ni ?MJ ?MT
  case Z =>
   intro base hb
   exact ⟨hC w,by decide,hb⟩
  case Hc =>
   refine' Ab.ZW KX G (λ_ _ _ _ _ _ us hl=>match us,hl with | [_,_],_=>rfl) ?a ?l ?c ?k
   (case a=>k_is); (case l=>k_is); (case c=>k_is); (case k=>k_is)
  case B =>
   apply Ab.aId KX G <;> k_is
  all_goals (refine' Ab.ZK KX G ?b ?a ?l ?c ?k; (case a=>k_is); (case l=>k_is); (case c=>k_is); (case k=>k_is); (case b=>(intro _ _ _ _ _ _ us hl; first | exact (match us,hl with | [_],_=>rfl) | exact (match us,hl with | [_,_],_=>rfl) | exact (match us,hl with | [_,_,_],_=>rfl))))
 case KP=>intro w; first | k_is | kernel_rfl
 case HC=>intro w; kernel_rfl
end
