import PyProof.Rows.All
import Wide.All
import OpenK.AllK
import Wide.FinOn
import PyProof.EqAt
import PyProof.EqKinds
import PyProof.TupleCall
import PyProof.Rows.TupDisplay
import PyProof.DictCompW
import PyProof.WalksMore
import PyProof.MinMaxWalk
import PyProof.DictDisplay
import PyProof.DictWalks
import Lean
import PySem.Challenge.RW_ablehands_k13_no_ways
open PySem.Heap renaming get?_push_of_some -> Qa,get?_push_size -> Qg,lt_size -> Qo,get?_update_other -> Je,size_push -> Jj,get?_update_self -> Jx
open List renaming getElem?_eq_getElem -> Qb,length_map -> Qc,getElem?_eq_some_iff -> Qd,getElem?_map -> Qh,mem_of_getElem? -> Qi,mem_cons -> Qj,mem_cons_self -> Qk,mem_cons_of_mem -> Ql,size_toArray -> Qm,length_append -> Qn,not_mem_nil -> Qp,mem_singleton -> Qq,length_take -> Qu,map_cons -> Qv,mem_append -> Qw,mem_map -> Qx,map_append -> Qy,getElem?_append_left -> Qz,mem_append_right -> Ja,mem_iff_getElem? -> Jd,length_cons -> Jg,getElem?_zip_eq_some -> Jh,getD_eq_getElem?_getD -> Jk,all_eq_true -> Jm,take_of_length_le -> Jn,length_drop -> Jp,take_length -> Jq,getElem?_append_right -> Jr,take_succ -> Js,getElem_mem -> Jt,lookup_cons -> Ju,nodup_cons -> Jw,mem_append_left -> Jy,length_eq_zero_iff -> Jz,mem_of_mem_take -> Xa,mem_filter -> Xc,filterMap_cons -> Xd,mem_range -> Xe,mem_singleton_self -> Xg,replicate_succ -> Xi,length_replicate -> Xk,find?_cons -> Xm,map_map -> Xp,flatten_cons -> Xq,append_assoc -> Xr,length_range -> Xs,pairwise_cons -> Xv,pairwise_iff_getElem -> Xw,append_nil -> Xx,getElem?_replicate -> Xz,any_cons -> Za,map_congr_left -> Zd,length_reverse -> Ze,length_pos_iff -> Zf,forIn_nil -> Zh,getElem?_set_self -> Zi,filter_append -> Zj,nil_append -> Zk,forIn_cons -> Zl,all_map -> Zn,length_filter_le -> Zo,getElem?_set_ne -> Zp,nodup_nil -> Zq,any_eq_true -> Zs,getElem?_take_of_lt -> Zu,eq_of_mem_replicate -> Zw,length_set -> Zx,count_cons -> Zz,getElem?_set -> Ya,foldl_append -> Yb,take_append_drop -> Yd,isEmpty_nil -> Yf,filter_cons -> Yg,mem_of_mem_drop -> Yh,of_mem_zip -> Yi,length -> Yj,length_nil -> Yk,contains_cons -> Yl,take_zero -> Ym,drop_zero -> Yn,drop_eq_getElem_cons -> Yo,length_erase_of_mem -> Yq,getElem?_inj -> Yr,nodup_append -> Ys,getElem?_cons_zero -> Yt,getElem?_cons_succ -> Yu,map_take -> Yv,map_drop -> Yw,cons_append -> Yx,drop_of_length_le -> Yy,map_nil -> Yz,singleton_append -> Wd,any_map -> We,length_zip -> Wf,pairwise_append -> Wg,toList_toArray -> Wj,reverse_append -> Wk,flatten_append -> Wl,filter_sublist -> Wm,mem_filterMap -> Wn,filterMap_map -> Wo,all_cons -> Wp,getElem?_drop -> Wr
open Nat renaming le_refl -> Qe,lt_of_lt_of_le -> Qr,ne_of_lt -> Qt,zero_le -> Jb,le_trans -> Jl,lt_irrefl -> Jo,lt_succ_of_lt -> Jv,ne_of_gt -> Xh,le_add_right -> Xn,lt_succ_self -> Xu,le_succ_of_le -> Xy,not_lt_zero -> Zm,lt_trans -> Zv,lt_of_le_of_lt -> Zy,le_of_lt -> Yc,succ_le_succ -> Ye,min_eq_left -> Wb,lt_or_ge -> Wc,mul_le_mul -> Wh,le_succ -> Wi,sub_zero -> Wx,min_self -> Wy,sub_self -> Wz
open Bool renaming false_ne_true -> Qs,and_eq_true -> Jc,false_eq_true -> Ji,eq_iff_iff -> Xj,true_and -> Xo,false_and -> Zg,and_false -> Zr,not_eq_true -> Zt,not_true -> Wt
open Int renaming toNat_natCast -> Jf,emod_lt_of_pos -> Xb,emod_nonneg -> Xf,toNat_of_nonneg -> Xt,le_refl -> Zb,natCast_add -> Wa,ediv_one -> Wv,zero_add -> Ww
open Option renaming map_some -> Xl,isSome_iff_exists -> Yp,isSome_some -> Wq,isSome_map -> Wu,getD_none -> Qaa
open PySem renaming wpAny_bind -> Ra,wpAny_pure -> Rb,sizeLine_eq -> Rg,wpAny_callSpecial?_slot -> Rh,wpAny_newObj_type -> Ri,wpAny_call_entry -> Rj,wpAny_setField_rec -> Rl,wpAny_field -> Rm,wpAny_holding -> Rn,wpAny_mono -> Rp,wpAny_loadPart' -> Rq,wpAny_loadPart_at -> Rt,wpAny_truthy_bool -> Ry,wpAny_standAt -> Th,call_meets -> Ti,wpAny_attempt -> Tj,wpAny_seqItems -> Tn,codeAny_builtin -> To,wpAny_Call_Name_kw -> Tq,wpAny_fieldsOf -> Tr,wpAny_setState_of -> Ts,wpAny_ite_split -> Tx,plainId_quiet -> Ub,wpAny_rule -> Uc,wpAny_isInstance -> Ue,wpAny_typeNameOfWhole_keyiter -> Ug,wpAny_typeNameOfWhole_valiter -> Uh,codeAny_mono -> Ui,wpAny_passesOwn -> Uj,size_of_entries -> Uk,wpAny_pyIter_list -> Ul,wpAny_dictEntries -> Um,mem_of_lookup -> Uo,wpAny_letGo -> Uq,wpAny_askSetting -> Uu,wpAny_binaryOp_repeat_ref -> Uv,wpAny_typeNameOf_keyiter -> Uz,wpAny_typeNameOf_valiter -> Va,wpAny_execs_nil -> Vb,wpAny_ite_false -> Vc,wpAny_dictEpoch -> Vd,typeIs_int -> Ve,wpAny_typeOf -> Vf,wpAny_setField -> Vh,isSubtype_stop -> Vi,wpAny_tryCatch -> Vj,wpAny_isOneOf_valiter -> Vl,wpAny_pyIter_zip -> Vm,evalPart_none -> Vp,wpAny_of_eq -> Vq,codeAny_call_builtin -> Vr,wpAny_updateSeq -> Vs,tupleKind_room_in1 -> Vu,wpAny_pyIter_enum -> Vy,wpAny_pyIter_slot -> Vz,noFill_tuple_add -> Ib,callType_new -> Ig,codeAny_of_tree -> Ii,builtinLookup_eq_fast -> Ik,wpAny_isOneOf_keyiter -> Il,wpAny_updateSeq_pair -> Io,wpAny_newTuple -> Ip,seq_tuple_add -> Iw,wpAny_handled -> Iy,wpAny_onRaise -> Iz,wpAny_Name -> Mc,wpAny_pyIter_tuple -> Md,wpAny_call -> Me,concat_meets -> Mi,wpAny_sequenceKey -> Mj,wpAny_execs_cons -> Ms,wpAny_Dict_empty -> Mt,wpAny_throw -> Mw,typeLookup_type -> Rac,isSubtype_type -> Rae,wpAny_letOwnedTupleGo_enum -> Raf,intKind_is -> Rag,evalPart_some -> Rak,wpAny_getItem_list_slice -> Ral,call -> Ram,seqIndex_neg -> Ran,codeAny_compStart_list -> Rao,seqSlot_of -> Rap,wpAny_isTrue_Compare1 -> Raq,wpAny_notOrdered_dict -> Rar,wpAny_loadName_local -> Rau,wpAny_Slice -> Rav,seqIndex_of -> Rax,wpAny_newFunctionEnv -> Ray,wpAny_alloc -> Raz,wpAny_pyIter_keyiter -> RaA,wpAny_loadName_free -> RaB,argBest_lt -> RaC,wpAny_dictSet_heap -> RaD,wpAny_assign_Name -> RaE,wpAny_collect_seq -> RaF,wpAny_pyIter_dict -> RaG,lookupAlong_cons -> RaH,wpAny_stack_any -> RaR,wpAny_specialOf -> RaS
open PySem.W renaming Frag -> Rc,nsIn -> Rk,mg_none_of -> Ro,hideAll_none -> Ru,hideAll -> Rw,mg_of -> Rx,tabObj -> Tc,keepIn -> Tt,fnOf -> Tv,of_hideAll -> Ur,kla_fn -> Uy,codeIn -> Vn,CodeHd -> Ia,hideAll_get -> Ic,methodObj -> Im,codeHdIn -> Iq,OpenLaw -> Iv,cellsFrom_some -> Mu,codeHd_of_K -> Rad,callWith_K -> Rah,WalkO -> Ras
open PySem.F renaming plainAttrs_list -> Rr,slot_enumerate_next -> Rv,slot_zip_next -> Rz,args_tuple_mul_2 -> Ta,slot_list_append -> Td,type_list_append -> Tf,entry_tuple_mul -> Tg,slot_int_rmul -> Tu,slot_tuple_iterator_next -> Tw,args_enumerate_next_1 -> Ua,entry_enumerate_next -> Ud,args_tuple_add_2 -> Up,entry_tuple_add -> Us,args_zip_next_1 -> Ut,slot_tuple_add -> Uw,entry_zip_next -> Ux,typeOf_object_class -> Vk,args_object_init_2 -> Vo,args_int_rmul_2 -> Vt,entry_int_rmul -> Vv,fills_int_mul -> Vx,args_tuple_iterator_next_1 -> Ih,entry_tuple_iterator_next -> Ij,typeCall_enumerate_1 -> Iu,newCall_enumerate_1 -> Ma,entry_enumerate_new -> Mb,args_object_init_3 -> Mg,plain_extend_loop -> Mh,slot_tuple_count -> Mk,called_enumerate -> Ml,slot_dict_values -> Mm,plain_list_iadd -> Mn,slot_list_count -> Mp,slot_list_index -> Mq,plainAttrs_dict -> Mr,typeCall_zip_2 -> Mv,plain_set_new -> Mx,newCall_zip_2 -> My,entry_zip_new -> Mz,slot_set_iter -> Raa,slot_dict_get -> Rab,called_zip -> Rai
open PyProof.Rows renaming subscriptTail_builtinR -> Vg,Subscript_ -> Ie,entry_tuple_getitem -> Ir,args_tuple_getitem -> Mf,tupleItemsOf_ -> Raj,entry_list_sort -> RaQ
open PySem.EqMixed renaming eq_bool_str -> RaI,eq_int_str -> RaJ,eq_str_bool -> RaK,eq_str_int -> RaL,ne_bool_str -> RaM,ne_int_str -> RaN,ne_str_bool -> RaO,ne_str_int -> RaP
open PySem.EqNone renaming eq_none_none -> RaT,eq_none_bool -> RaU,eq_none_int -> RaV,eq_none_str -> RaW,eq_bool_none -> RaX,eq_int_none -> RaY,eq_str_none -> RaZ,ne_none_none -> Ra0,ne_none_bool -> Ra1,ne_none_int -> Ra2,ne_none_str -> Ra3,ne_bool_none -> Ra4,ne_int_none -> Ra5,ne_str_none -> Ra6
open PySem
variable {XP:(Str->Option Value)->Heap->Prop} {a b it f c C dx sl I i1 i2 l1 l2 C' fW fH fK fB gk fD f' fL fS Pt BQ BR fE cE:Addr} {params:Arguments} {A:Around} {ql:Array (Option Value)} {items:Array Value} {L f1:Bool} {op:CmpOp} {bd:Env->Addr->Sem Unit} {e tg iter value elt k7 bt kx vx:Expr} {fd C4 dW dH dK dB gm dD f_ dL qx dS BV BW dE:FuncData} {h h' base:Heap} {way:Int} {aa:List (Addr×Obj)} {ks:List (Int×Tok)} {Ws:List (List (Nat×Int×Int))} {m:List (List Int×Int)} {ws:List (List Int)} {ss:List (Nat×Int×Int)} {cl:List (Str×Addr)} {ch fp S Z qs:List Addr} {es ifs:List Expr} {l ns U hs lv:List Int} {fr:List Nat} {ds:List PyData} {body:List Stmt} {N ps loose own bc:List Str} {us ni bm:List Value} {M:Model} {t' i j n ep n2 x1:Nat} {mi fh:Nat->Heap->Prop} {P1 P2:Nat->Value->Prop} {o ob:Obj} {an od:Option Addr} {lo hi:Option Int} {z:Option Str} {os:OsState} {pos pos' p xc apos xf p2 dc p1 p3:Pos} {P prog q:Program} {B:Prop} {d:PyData} {K:Rc} {R:Result->Shared->Prop} {scope:Scope} {s s':Shared} {st:Stmt} {x name qual vn xn:Str} {kindOf:Str->Option NameKind} {mg:Str->Option Value} {T:String} {κ α β:Type} {u doc pm bj ct oc vl vu f0:Value} {E Q:Value->Shared->Prop} {w:World} {YP:World->Heap->Prop}
namespace PySem.W.Fast
def tw7849921910848743646:=0
def tw8353820167510886625:=0
def tw4485155623307141846:=0
def tw6075060094554421965:=0
def tw4612179800050025884:=0
def tw10598961276724174894:=0
def tw17019767531208447363:=0
def tw6568246234411191659:=0
def tw17566937447446186406:=0
def tw8794896909110505553:=0
def tw4783443461162585637:=0
def tw11052730987334791099:=0
def tw2765812521859438490:=0
def tw394255766840911068:=0
def tw14976316224340008843:=0
def tw11896647249598937542:=0
def tw12868997540530001815:=0
def tw10195692023685879585:=0
def tw2154302735159435591:=0
def tw9058752006235308305:=0
def tw16062996423291736757:=0
def tw13144981766802675807:=0
def tw7328369376843627190:=0
def tw5321510407701913847:=0
def tw11051243147044111506:=0
def tw18117563020639621993:=0
def tw4441367320786907117:=0
def tw15115732081916766395:=0
def tw3639858946769985980:=0
def tw15326429109837514370:=0
def tw8078103471980475997:=0
def tw14713600115772659308:=0
def tw10838887518515776323:=0
def tw14088982440019030579:=0
def tw3915857655474304514:=0
def tw14700641335126487920:=0
def tw4242849498382017522:=0
def tw18063768583445865741:=0
def tw497590726386517916:=0
def tw8939827272967563588:=0
def tw1839223720095879421:=0
def tw15436101579587382930:=0
def tw4281971374205482611:=0
def tw4060752173385799138:=0
def tw14299577485164311244:=0
def tw15657944611187680309:=0
def tw13602259107237991391:=0
def tw1111138142904654167:=0
def tw16569183957787162689:=0
def tw14987537083282384571:=0
def tw16991805239549228634:=0
def tw1259472929383671743:=0
def tw14110312389514620099:=0
def tw17322398214473119939:=0
def tw15565206732054936352:=0
def tw2666871880434029467:=0
def tw15763319004493313241:=0
def tw5840363028266910817:=0
def tw16672157806504467608:=0
def tw6300564375146781915:=0
def tw16608987059584891997:=0
def tw6909008999545981209:=0
def tw1030227945142562344:=0
def tw4363273814981089839:=0
def tw9314925319873243524:=0
def tw9175479511404892536:=0
def tw10584667180320593976:=0
def tw8133324022934442450:=0
def tw13657395255634737406:=0
def tw5223791204592910496:=0
def tw4937022357223659026:=0
def tw9313775496905769248:=0
def tw6430287864101179811:=0
def tw11045634786907862299:=0
def tw18127795969611813033:=0
def tw7897037284606190073:=0
def tw10558798167328438673:=0
def tw1108323518618347331:=0
def tw8624959972325149463:=0
def tw16582359197993311593:=0
def tw15694514744503521948:=0
def tw16543108813881813432:=0
def tw2750037927433980097:=0
def tw7608033003529500984:=0
def tw8397001913531320354:=0
def tw17146531268911177300:=0
def tw3013105815122161576:=0
def tw9847577705380403582:=0
def tw14083180639105601651:=0
def tw8772225158075534693:=0
def tw8746237289176194084:=0
def tw7667540394549804754:=0
def tw748544097943262550:=0
def tw14381530886354684092:=0
def tw7531920626788048849:=0
def tw9056196697481966647:=0
def tw1509236434733204882:=0
def tw17681783060911383165:=0
def tw8274959234527552054:=0
def tw12664120608575852202:=0
def tw7287444180792280530:=0
def tw15934244259462363837:=0
def tw4205842021011396108:=0
def tw3038795795350746068:=0
def tw4776645104270565953:=0
def tw4609891403978309108:=0
def tw11273679210502464358:=0
def tw1242324705554604332:=0
def tw18194355336055523845:=0
def tw12777682274501193906:=0
def tw5989580518944940202:=0
def tw2600183608081898630:=0
def tw2430703272311289124:=0
def tw3891512880102332485:=0
def tw2837802361681375224:=0
def tw16205882195495049601:=0
def tw5183739093884753894:=0
def tw17517583156032813118:=0
def tw7920079872418767675:=0
def tw16748694845269014517:=0
def tw14739579706788143439:=0
def tw4193854588431433347:=0
def tw5270458390853609884:=0
def tw8616168659463993264:=0
def tw4797874474122128985:=0
def tw3737520295045779510:=0
def tw884620177247007245:=0
def tw13238905716880477107:=0
def tw11287850964344587173:=0
def tw4958958343918311618:=0
def tw17549514123095648976:=0
def tw5712240139307770617:=0
def tw14767946900720436430:=0
def tw12740034455935889901:=0
def tw16100681008260009706:=0
def tw9564284227718943544:=0
def tw10841619104757966828:=0
def tw2289283270554908545:=0
def tw7894827574015094828:=0
def tw12646421946840875100:=0
def tw14215024534666555727:=0
def tw1852499785289186472:=0
def tw628054727435251985:=0
def tw4401957907043032439:=0
def tw10238908297918511345:=0
def tw9193965065664662196:=0
def tw17199211319570054143:=0
def tw17880969905481408249:=0
def tw10774950088404267614:=0
def tw12447189216937785188:=0
def tw14405099133563625378:=0
def tw2130883761912722909:=0
def tw11751687438230649457:=0
def tw11871819205525994958:=0
def tw4460859816240368962:=0
def tw11842042476221482982:=0
def tw3073527474375690509:=0
def tw9730466872680152850:=0
def tw6370042046452673835:=0
def tw9643318315078775796:=0
def tw7953214420682429948:=0
def tw7585204225582954816:=0
def tw8145121440950296791:=0
def tw3496789086756822356:=0
def tw5161781695881251340:=0
def tw12617728023365278913:=0
def tw5216665504821377016:=0
def tw11442199080047105574:=0
def tw10669068513743762891:=0
def tw9101649812351162059:=0
def tw13020412382421679122:=0
def tw9344567270793652898:=0
def tw2493444303074303586:=0
def tw10910648861002830451:=0
def tw15010927186446520741:=0
def tw18388891961918553393:=0
def tw13322815618850791044:=0
def tw8568693578663079771:=0
def tw7486438243077400876:=0
def tw13312315434682884690:=0
def tw1160272164975108422:=0
def tw3775189957620335205:=0
def tw35274702260213623:=0
def tw6658372851457772620:=0
def tw13836641081277881758:=0
def tw8542465163272472030:=0
def tw4123662058297449173:=0
end PySem.W.Fast
set_option Elab.async false
set_option linter.all false
set_option maxRecDepth 100000
namespace L2
open PySem PySem.Spec PyProof.Rows
abbrev Key:=Sum Int Str
end L2
open L2
variable {ae:List (List Key×Addr×Value)}
namespace L2
open PySem PySem.Spec PyProof.Rows
def vJ:Key->Value->Bool
 | .inl k,v=>Value.isInt k v
 | .inr x,v=>Value.isStrOf x v
def YR (w:World):Key->Int
 | .inl k=>hashInt k
 | .inr x=>hashStr w x
theorem cY:∀ {k:Key} {v:Value},vJ k v=true->(∃ i t,k=Sum.inl i/\v=Value.int i t)∨(∃ x t,k=Sum.inr x/\v=Value.str x t)
 | .inl i,v,h=>by
  obtain ⟨t,e⟩:=Value.isInt_shape (k:=i) (v:=v) h
  exact .inl ⟨i,t,rfl,e⟩
 | .inr x,v,h=>by
  obtain ⟨t,e⟩:=Value.isStrOf_shape (x:=x) (v:=v) h
  exact .inr ⟨x,t,rfl,e⟩
theorem aCM (i:Int) (t:Tok):vJ (.inl i) (.int i t)=true:=by simp [vJ,Value.isInt]
theorem aCN (x:Str) (t:Tok):vJ (.inr x) (.str x t)=true:=by simp [vJ,Value.isStrOf]
theorem Ψ (a b:Int):decide ((Sum.inl a:Key)=Sum.inl b)=(a==b):=by
 by_cases e:a=b
 ·subst e; simp
 ·have h:¬ (Sum.inl a:Key)=Sum.inl b:=λq=>e (Sum.inl.inj q)
  rw [decide_eq_false h]
  exact (beq_eq_false_iff_ne.mpr e).symm
theorem Φ (a b:Str):decide ((Sum.inr a:Key)=Sum.inr b)=decide (a=b):=by
 by_cases e:a=b
 ·subst e; simp
 ·have h:¬ (Sum.inr a:Key)=Sum.inr b:=λq=>e (Sum.inr.inj q)
  rw [decide_eq_false h,decide_eq_false e]
theorem Ξ (a:Int) (b:Str):decide ((Sum.inl a:Key)=Sum.inr b)=false:=decide_eq_false (λq=>nomatch q)
theorem Θ (a:Str) (b:Int):decide ((Sum.inr a:Key)=Sum.inl b)=false:=decide_eq_false (λq=>nomatch q)
def cH (prog:Program) (w:World):PySem.KeyKind prog w Key where
 is:=vJ
 hash:=YR w
 inj:=λv a b ha hb=>by
  rcases cY ha with ⟨i,t,rfl,rfl⟩ | ⟨x,t,rfl,rfl⟩
  ·rcases cY hb with ⟨j,u,rfl,e⟩ | ⟨y,u,rfl,e⟩
   ·injection e with e1 _; rw [e1]
   ·exact nomatch e
  ·rcases cY hb with ⟨j,u,rfl,e⟩ | ⟨y,u,rfl,e⟩
   ·exact nomatch e
   ·injection e with e1 _; rw [e1]
 byValue:=λk v h=>by
  rcases cY h with ⟨i,t,rfl,rfl⟩ | ⟨x,t,rfl,rfl⟩ <;> rfl
 pyHash:=λhv h=>by
  rcases cY hv with ⟨i,t,rfl,rfl⟩ | ⟨x,t,rfl,rfl⟩
  ·exact wpAny_pyHash_int h
  ·exact wpAny_pyHash_str h
 eqBool:=λhu hv h=>by
  rcases cY hu with ⟨i,t,rfl,rfl⟩ | ⟨x,t,rfl,rfl⟩
  ·rcases cY hv with ⟨j,u,rfl,rfl⟩ | ⟨y,u,rfl,rfl⟩
   ·rw [Ψ] at h; exact wpAny_eqBool_int h
   ·rw [Ξ] at h; exact SeqAt.EqAt.int_str i t y u _ _ _ _ h
  ·rcases cY hv with ⟨j,u,rfl,rfl⟩ | ⟨y,u,rfl,rfl⟩
   ·rw [Θ] at h; exact SeqAt.EqAt.str_int x t j u _ _ _ _ h
   ·rw [Φ] at h; exact wpAny_eqBool_str h
 «strs»:=λk x t v h=>by
  rcases cY h with ⟨i,u,rfl,e⟩ | ⟨y,u,rfl,e⟩
  ·exact nomatch e
  ·injection e with e1 _
   subst e1
   cases v <;> rfl
theorem yR (prog:Program) (w:World) (i:Int) (t:Tok):(cH prog w).is (.inl i) (.int i t)=true:=aCM i t
theorem yS (prog:Program) (w:World) (x:Str) (t:Tok):(cH prog w).is (.inr x) (.str x t)=true:=aCN x t
inductive V where
 | bw | bl (b:Bool) | int (i:Int) | str (x:Str) | oy (b:Array UInt8) | wg (b:UInt64) | ref (a:Addr) | ty (n:String)
 deriving DecidableEq
end L2
variable {kvs:List (List Key×V)} {f9:List (List V)} {xs ys vs zs:List V} {v y:V}
namespace L2
open PySem PySem.Spec PyProof.Rows
def bY:V->Value->Prop
 | .bw,u=>u=Value.none
 | .bl b,u=>u=Value.bool b
 | .int i,u=>∃ t,u=Value.int i t
 | .str x,u=>∃ t,u=Value.str x t
 | .oy b,u=>∃ t,u=Value.bytes b t
 | .wg b,u=>∃ t,u=Value.float b t
 | .ref a,u=>u=Value.ref a
 | .ty n,u=>u=Value.type n
abbrev bR:List V->List Value->Prop:=Paired bY
theorem bR.length (r:bR xs us):xs.length=us.length:=Paired.length r
theorem bR.get:∀ {xs:List V} {us:List Value} {i:Nat} {x:V},bR xs us->xs[i]?=some x->∃ u,us[i]?=some u/\bY x u
 | _,_,_,_,.nil,e=>by simp at e
 | _,_,0,_,.cons r _,e=>by simp at e; subst e; exact ⟨_,rfl,r⟩
 | _,_,i+1,x,.cons _ t,e=>by
  obtain ⟨u,h1,h2⟩:=bR.get (i:=i) (x:=x) t (by simpa using e)
  exact ⟨u,by simpa using h1,h2⟩
theorem bR.set {x:V} (r:bY x u):∀ {xs:List V} {us:List Value} (i:Nat),bR xs us->bR (xs.set i x) (us.set i u)
 | _,_,_,.nil=>.nil
 | _,_,0,.cons _ t=>.cons r t
 | _,_,i+1,.cons q t=>.cons q (bR.set r i t)
theorem bR.append:∀ {xs ys:List V} {us ws:List Value},bR xs us->bR ys ws->bR (xs++ys) (us++ws)
 := by
 intro xs ys us ws h s
 induction h with
 | nil=>exact s
 | cons r t ih=>exact .cons r ih
theorem bR.take:∀ {xs:List V} {us:List Value} (n:Nat),bR xs us->bR (xs.take n) (us.take n)
 | _,_,0,_=>.nil
 | _,_,_+1,.nil=>.nil
 | _,_,n+1,.cons r t=>.cons r (bR.take n t)
theorem bR.drop:∀ {xs:List V} {us:List Value} (n:Nat),bR xs us->bR (xs.drop n) (us.drop n)
 | _,_,0,r=>r
 | _,_,_+1,.nil=>.nil
 | _,_,n+1,.cons _ t=>bR.drop n t
def oS:Option V->Option Value->Prop
 | some v,some u=>bY v u
 | none,none=>True
 | _,_=>False
def KV:List (κ×V)->List (κ×Value)->Prop:=Paired λ(p:κ×V) (q:κ×Value)=>p.1=q.1/\bY p.2 q.2
def kV:Key->V
 | .inl i=>.int i
 | .inr x=>.str x
inductive HO where
 | lst (xs:List V)
 | tup (xs:List V)
 | dK (kvs:List (Key×V)) | dT (kvs:List (List Key×V))
 | set (S:Int->Bool) (n:Nat)
 | ins (C dx:Addr) (fs:List (Str×V))
 | own (x:Addr)
 | xd (fs:List (Str×V))
 | met (f x:Addr)
 | pg (lo hi:Int)
 | cq (o:Obj) (u:HO)
 | yb (ps:Array Value)
 | tab (q:Str)
 | ext (φ:Heap->Prop)
abbrev Hp:=Addr->Option HO
end L2
variable {H H' H1 H2 H0:Hp} {Qf:Hp->List V->Prop}
namespace L2
open PySem PySem.Spec PyProof.Rows
def upd (H:Hp) (a:Addr) (o:HO):Hp:=λb=>if b=a then some o else H b
theorem aB {o:HO}:upd H a o a=some o:=by unfold upd; rw [if_pos rfl]
theorem aK {o:HO} (h:b≠a):upd H a o b=H b:=by unfold upd; rw [if_neg h]
theorem aFM {o u:HO}:upd (upd H a o) a u=upd H a u:=by
 funext b; unfold upd; split <;> rfl
theorem Pc {o u:HO} (h:H a=some o) (h':H b=some u) (d:o≠u):a≠b:=by
 intro e; subst e; rw [h] at h'; exact d (Option.some.inj h')
theorem iJ {o:HO} (h:H a=some o) (h':H b=none):a≠b:=by
 intro e; subst e; rw [h] at h'; cases h'
section
variable (P:Program) (w:World)
def bM (H:Hp) (h:Heap) (a:Addr):HO->Prop
 | .lst xs=>xs.length<=sizeLine/\∃ (ae:List Value) (n:Nat),bR xs ae/\h.get? a=some { cls:=.type "list",data:=.seq ae.toArray n }
 | .tup xs=>xs.length<=sizeLine/\∃ (ae:List Value) (n:Nat),bR xs ae/\h.get? a=some { cls:=.type "tuple",data:=.seq ae.toArray n }
 | .dK kvs=>kvs.length<=sizeLine/\(a==sysModules)=false/\∃ vs,KV kvs vs/\h.DictOf (cH P w) a vs
 | .dT kvs => kvs.length <= sizeLine /\ (a == sysModules) = false /\ ∃ xs : List (List Key × Addr × Value),
     Paired (λ(p:List Key×V) (q:List Key×Addr×Value)=>p.1=q.1/\H q.2.1=some (.tup (p.1.map kV))/\bY p.2 q.2.2) kvs xs /\
     ∃ o es ep,h.get? a=some o/\o.ExactDict/\o.data=.dict es ep/\es.toList=xs.map (entryOfKey (tupleKind (cH P w)))/\(xs.map (·.1)).Nodup
 | .set S n=>h.SetOf (intKind P w) a S n
 | .ins C dx fs => H dx = some (.own a) /\ fs.length <= 1000 /\ dx ≠ a /\ h.get? a = some (PySem.W.instObj C dx) /\
     ∃ mA,h.Ns1 dx mA/\(∀ f,oS (fs.lookup f) (mA f))/\PySem.Within mA (fs.map (·.1))
 | .own _=>∃ o,h.get? a=some o
 | .xd fs=>∃ mA,h.Ns1 a mA/\∀ f,oS (fs.lookup f) (mA f)
 | .pg lo hi=>∃ t u v,h.get? a=some { cls:=.type "range",data:=.fields #[.int lo t,.int hi u,.int 1 v] }
 | .cq o u=>h.get? a=some o/\bM H h a u
 | .yb ps=>h.get? a=some { cls:=.none,data:=.fields ps }
 | .tab q=>∃ ps:Array Value,h.get? a=some { cls:=.none,data:=.fields ps }/\TriplesOk ps.toList/\∀ (pos:Pos) (cv:Value),codeAmong pos ps.toList=some cv->∃ (c:Addr) (o:Obj) (vs:Array Value) (t:Tok),cv=.ref c/\H c=some (.own a)/\h.get? c=some o/\o.data=.fields vs/\vs[1]?=some (.str q t)
 | .met f x=>h.get? a=some (Im (.ref f) (.ref x))
 | .ext φ=>φ h/\(∃ o,h.get? a=some o)/\∀ h1 h2:Heap,φ h1->(∀ o,h1.get? a=some o->h2.get? a=some o)->φ h2
def fw (H:Hp) (h:Heap):Prop:=∀ a o,H a=some o->bM P w H h a o
end
section
variable {o:HO}
theorem bM.lt (x:bM P w H h a o):a < h.objs.size:=by
 cases o with
 | lst xs=>obtain ⟨_,_,_,_,e⟩:=x; exact Qo e
 | tup xs=>obtain ⟨_,_,_,_,e⟩:=x; exact Qo e
 | dK kvs=>obtain ⟨_,_,_,_,o,_,_,e,_⟩:=x; exact Qo e
 | dT kvs=>obtain ⟨_,_,_,_,o,_,_,e,_⟩:=x; exact Qo e
 | set S n=>obtain ⟨o,_,_,_,e,_⟩:=x; exact Qo e
 | ins C dx fs=>obtain ⟨_,_,_,e,_⟩:=x; exact Qo e
 | own y=>obtain ⟨_,e⟩:=x; exact Qo e
 | xd fs=>obtain ⟨_,⟨_,_,_,e,_⟩,_⟩:=x; exact Qo e
 | pg lo hi=>obtain ⟨_,_,_,e⟩:=x; exact Qo e
 | cq ob u=>obtain ⟨e,_⟩:=x; exact Qo e
 | yb ps=>exact Qo (show h.get? a=some _ from x)
 | tab q=>obtain ⟨_,e,_⟩:=x; exact Qo e
 | met f y=>exact Qo (show h.get? a=some _ from x)
 | ext φ=>obtain ⟨_,⟨_,e⟩,_⟩:=x; exact Qo e
theorem Paired.DB {F G:α->β->Prop}:∀ {Gq:List α} {Gp:List β},Paired F Gq Gp->(∀ a b,F a b->G a b)->Paired G Gq Gp
 := by
 intro Gq Gp h f
 induction h with
 | nil=>exact .nil
 | cons r t ih=>exact .cons (f _ _ r) ih
theorem bM.cu (x:bM P w H h a o) (k:∀ b u,(b=a∨H b=some (.own a))->h.get? b=some u->h'.get? b=some u)
  (ho:∀ b,H b=some (.own a)->H' b=some (.own a)) (ht:∀ b xs,H b=some (.tup xs)->H' b=some (.tup xs)):bM P w H' h' a o:=by
 induction o with
 | lst xs=>obtain ⟨z,ae,n,r,e⟩:=x; exact ⟨z,ae,n,r,k _ _ (.inl rfl) e⟩
 | tup xs=>obtain ⟨z,ae,n,r,e⟩:=x; exact ⟨z,ae,n,r,k _ _ (.inl rfl) e⟩
 | dK kvs=>obtain ⟨z,y,vs,r,ob,es,ep,e,c⟩:=x; exact ⟨z,y,vs,r,ob,es,ep,k _ _ (.inl rfl) e,c⟩
 | dT kvs =>
  obtain ⟨z,y,xs,r,ob,es,ep,e,c⟩:=x
  exact ⟨z,y,xs,Paired.DB r λp q z=>⟨z.1,ht _ _ z.2.1,z.2.2⟩,ob,es,ep,k _ _ (.inl rfl) e,c⟩
 | set S n=>obtain ⟨ob,es,ep,t,e,c⟩:=x; exact ⟨ob,es,ep,t,k _ _ (.inl rfl) e,c⟩
 | ins C dx fs =>
  obtain ⟨d,z,ne,e,mA,⟨od,es,ep,e2,c⟩,r⟩:=x
  exact ⟨ho _ d,z,ne,k _ _ (.inl rfl) e,mA,⟨od,es,ep,k _ _ (.inr d) e2,c⟩,r⟩
 | own y=>obtain ⟨ob,e⟩:=x; exact ⟨ob,k _ _ (.inl rfl) e⟩
 | xd fs=>obtain ⟨mA,⟨od,es,ep,e,c⟩,r⟩:=x; exact ⟨mA,⟨od,es,ep,k _ _ (.inl rfl) e,c⟩,r⟩
 | pg lo hi=>obtain ⟨t,u,v,e⟩:=x; exact ⟨t,u,v,k _ _ (.inl rfl) e⟩
 | cq ob u ih=>obtain ⟨e,q⟩:=x; exact ⟨k _ _ (.inl rfl) e,ih q⟩
 | yb ps =>
  have e:h.get? a=some { cls:=.none,data:=.fields ps }:=x
  show h'.get? a=some { cls:=.none,data:=.fields ps }
  exact k a _ (.inl rfl) e
 | tab q =>
  obtain ⟨ps,e,z,r⟩:=x
  refine ⟨ps,k _ _ (.inl rfl) e,z,λpos cv q=>?_⟩
  obtain ⟨c,o,vs,t,r1,r2,r3,r4⟩:=r pos cv q
  exact ⟨c,o,vs,t,r1,ho _ r2,k _ _ (.inr r2) r3,r4⟩
 | met f y =>
  have e:h.get? a=some (Im (.ref f) (.ref y)):=x
  show h'.get? a=some (Im (.ref f) (.ref y))
  exact k a _ (.inl rfl) e
 | ext φ=>obtain ⟨p,⟨o,e⟩,st⟩:=x; exact ⟨st _ _ p λo q=>k _ _ (.inl rfl) q,⟨o,k _ _ (.inl rfl) e⟩,st⟩
theorem fw.lt (x:fw P w H h) (e:H a=some o):a < h.objs.size:=(x a o e).lt
theorem fw.fresh (x:fw P w H h) (e:h.objs.size<=a):H a=none:=by
 cases q:H a with
 | none=>rfl
 | some u=>exact absurd (Qr (x.lt q) e) (Jo _)
theorem fw.kept (x:fw P w H h) (k:∀ b u,h.get? b=some u->h'.get? b=some u):fw P w H h':=λa o e =>
 (x a o e).cu (λb u _ q=>k b u q) (λ_ q=>q) λ_ _ q=>q
theorem fw.laid (x:fw P w H h) (k:∀ b u,h.get? b=some u->h'.get? b=some u) (hp:h.objs.size<=a) (new:bM P w (upd H a o) h' a o):fw P w (upd H a o) h':=λb u e=>by
 have hn:=x.fresh hp
 by_cases hb:b=a
 ·subst hb; rw [aB] at e; cases e; exact new
 ·rw [aK hb] at e
  exact (x b u e).cu (λc v _ q=>k c v q) (λc q=>by rw [aK (iJ q hn)]; exact q) λc xs q=>by rw [aK (iJ q hn)]; exact q
end
def Rd (H:Hp) (a:Addr) (u:HO):Prop:=H a=some u∨∃ o,H a=some (.cq o u)
theorem Rd.ok {u:HO} (r:Rd H a u) (x:fw P w H h):bM P w H h a u:=by
 rcases r with r | ⟨o,r⟩
 ·exact x a u r
 ·obtain ⟨_,q⟩:=x a _ r
  exact q
def wx:Option HO->Prop
 | some (.lst _)=>True
 | some (.dK _)=>True
 | some (.dT _)=>True
 | some (.set _ _)=>True
 | some (.ins _ _ _)=>True
 | some (.ext _)=>True
 | some (.tab _)=>True
 | _=>False
section
variable {x e:Addr} {o':HO}
theorem fw.write (ok:fw P w H h) (mu:wx (H x)) (he:e=x∨H e=some (.own x)) (k:∀ b u,b≠e->h.get? b=some u->h'.get? b=some u) (BF:∃ u,h'.get? e=some u)
  (new:bM P w (upd H x o') h' x o'):fw P w (upd H x o') h':=λb u q=>by
 have Dz:∀ c y,H c=some (.own y)->c≠x:=λc y r z=>by subst z; rw [r] at mu; exact mu
 have J7:∀ c xs,H c=some (.tup xs)->c≠x:=λc xs r z=>by subst z; rw [r] at mu; exact mu
 by_cases hb:b=x
 ·subst hb; rw [aB] at q; cases q; exact new
 ·rw [aK hb] at q
  by_cases Ar:b=e
  ·have q':H b=some (.own x):=by
    rcases he with z | z
    ·exact absurd (Ar.trans z) hb
    ·rw [Ar]; exact z
   rw [q] at q'; cases q'
   obtain ⟨v,hv⟩:=BF
   exact ⟨v,by rw [Ar]; exact hv⟩
  ·refine (ok b u q).cu (λc v hc r=>k c v ?_ r) (λc r=>by rw [aK (Dz c b r)]; exact r) λc xs r=>by rw [aK (J7 c xs r)]; exact r
   rcases hc with rfl | hc
   ·exact Ar
   ·rintro rfl
    rcases he with z | z
    ·exact Dz c b hc z
    ·rw [hc] at z; cases z; exact hb rfl
end
structure Un (fs ex:List Addr) (H H':Hp) (h h':Heap):Prop where
 keep:∀ b o,h.get? b=some o->H b=none->b∉fs->b∉ex->h'.get? b=some o
 slot:∀ b o,h.get? b=some o->H b=none->b∈fs->b∉ex->∃ sl,h'.get? b=some { o with slots:=sl }
 free:∀ b o,h.get? b=some o->H b=none->b∉ex->H' b=none
 there:∀ b o,h.get? b=some o->b∉ex->∃ o',h'.get? b=some o'
 gq:∀ b xs,H b=some (.tup xs)->H' b=some (.tup xs)
 fj:∀ b o u,H b=some (.cq o u)->H' b=some (.cq o u)
 gr:∀ b ps,H b=some (.yb ps)->∃ more,H' b=some (.yb (ps++more))
section
variable {fs W2 ex ex':List Addr} {h1 h2:Heap} {x e:Addr} {o:HO}
theorem Un.any (u:Un fs ex H H1 h h1) (q:h.get? b=some ob) (n:H b=none) (hx:b∉ex):∃ sl,h1.get? b=some { ob with slots:=sl }:=by
 by_cases hb:b∈fs
 ·exact u.slot b ob q n hb hx
 ·exact ⟨ob.slots,u.keep b ob q n hb hx⟩
theorem Un.kept (k:∀ b u,h.get? b=some u->h'.get? b=some u):Un fs ex H H h h' :=
 ⟨λb ob q _ _ _=>k b ob q,λb ob q _ _ _=>⟨ob.slots,k b ob q⟩,λ_ _ _ n _=>n,λb ob q _=>⟨ob,k b ob q⟩,λ_ _ q=>q,λ_ _ _ q=>q,λ_ ps q=>⟨#[],by rw [q]; simp⟩⟩
theorem Un.refl:Un fs ex H H h h:=Un.kept λ_ _ q=>q
theorem Un.laid (k:∀ b u,h.get? b=some u->h'.get? b=some u) (hp:h.objs.size<=a) (hn:H a=none):Un fs ex H (upd H a o) h h' where
 keep:=λb u q _ _ _=>k b u q
 slot:=λb u q _ _ _=>⟨u.slots,k b u q⟩
 free:=λb u q n _=>by rw [aK (Qt (Qr (Qo q) hp))]; exact n
 there:=λb u q _=>⟨u,k b u q⟩
 gq:=λb xs q=>by rw [aK (iJ q hn)]; exact q
 fj:=λb u xs q=>by rw [aK (iJ q hn)]; exact q
 gr:=λb ps q=>⟨#[],by rw [aK (iJ q hn),q]; simp⟩
theorem Un.write (mu:wx (H x)) (he:e=x∨H e=some (.own x)) (k:∀ b u,b≠e->h.get? b=some u->h'.get? b=some u) (BF:∃ u,h'.get? e=some u):Un fs ex H (upd H x o) h h':=by
 have hx:∀ b,H b=none->b≠x:=λb n z=>by subst z; rw [n] at mu; exact mu
 have hb:∀ b,H b=none->b≠e:=λb n z=>by
  subst z
  rcases he with r | r
  ·exact hx b n r
  ·rw [n] at r; cases r
 have hm:∀ b u,H b=some u->¬ wx (some u)->b≠x:=λb u q nm z=>by subst z; rw [q] at mu; exact nm mu
 refine ⟨λb u q n _ _=>k b u (hb b n) q,λb u q n _ _=>⟨u.slots,k b u (hb b n) q⟩,λb u q n _=>by rw [aK (hx b n)]; exact n,λb u q _=>?_,
  λb xs q=>by rw [aK (hm b _ q λz=>z)]; exact q,λb u xs q=>by rw [aK (hm b _ q λz=>z)]; exact q,λb ps q=>⟨#[],by rw [aK (hm b _ q λz=>z),q]; simp⟩⟩
 by_cases Ar:b=e
 ·subst Ar; exact BF
 ·exact ⟨u,k b u Ar q⟩
end
def um (h:Heap) (H:Hp):List Addr:=(List.range h.objs.size).filter λa=>(H a).isSome
def uM (h:Heap) (H:Hp):Heap:=Rw h (um h H)
theorem aCO (h:Heap) (H:Hp):(uM h H).objs.size=h.objs.size:=PySem.W.hideAll_size _ _
theorem aDP (e:h.get? b=some o) (n:H b=none):(uM h H).get? b=some o :=
 Ic _ e λhm=>by
  have q:(H b).isSome=true:=(Xc.mp hm).2
  rw [n] at q; simp at q
theorem aFN (e:(uM h H).get? b=some o):h.get? b=some o/\H b=none:=by
 have e':h.get? b=some o:=Ur (um h H) e
 refine ⟨e',?_⟩
 cases q:H b with
 | none=>rfl
 | some x =>
  have hm:b∈um h H:=Xc.mpr ⟨Xe.mpr (Qo e'),by simp [q]⟩
  have z:(uM h H).get? b=none:=Ru (um h H) hm
  rw [z] at e; cases e
def aFO (g h:Heap) (L:Addr):List (Addr×Obj):=(List.range h.objs.size).filterMap λa=>if a=L∨(g.get? a).isSome=true then none else (h.get? a).map λo=>(a,o)
def gC (g h:Heap) (L d:Addr):List (Addr×Obj):=(aFO g h L).filter λp=>decide (p.1≠d)
structure Mod (K:Rc) (mg:Str->Option Value) (base:Heap):Prop where
 Bt:K.In base
 glob:base.Ns mainGlobals mg
 blt:∃ mb,base.Ns builtinsNs mb/\∀ x:Str,x ≠ "__name__" -> mb x=bootBuiltins x
 nolimit:base.NoLimit
 mods:∃ mm,base.Ns sysModules mm
structure Cx where
 prog:Program
 w:World
 K:Rc
 mg:Str->Option Value
 base:Heap
 A:Around
 N:List Str
 gb:Shared
 mv:Hp
 env:Env
 outer:List Env
 stack:List Env
 ex:List Addr
 fn:Str->Bool
 calm:Bool
 pn:List (Addr×Obj)
 xe:Value->Shared->Prop
end L2
variable {X Y:Cx}
namespace L2
open PySem PySem.Spec PyProof.Rows
def c_ (l:List Env):List Addr:=l.filterMap (·.frame)
abbrev Cx.fs (X:Cx):List Addr:=c_ X.outer
def FH (sc:Scope) (x:Str):Prop:=sc.names.lookup x=some .local∨sc.names.lookup x=some .cell∨sc.names.lookup x=some .free
def Loc (sc:Scope) (x:Str):Prop:=sc.names.lookup x=some .local∨sc.names.lookup x=some .cell
def Ox (env:Env) (h:Heap) (m:Str->Option Value) (x:Str) (u:Value):Prop :=
 (env.kindOf x=some .local/\m x=some u)∨((env.kindOf x=some .cell∨env.kindOf x=some .free)/\∃ c,env.cells.lookup x=some c/\h.IsCell c (some u))
structure Cx.Ok (X:Cx):Prop where
 mod:Mod X.K X.mg X.base
 kind:X.env.scope.kind=.function
 glob:X.env.globals=mainGlobals
 blt:X.env.builtins=builtinsNs
 above:X.gb.heap.objs.size<=X.env.locals
 inj:∀ x y c,X.env.cells.lookup x=some c->X.env.cells.lookup y=some c->x=y
 has:∀ x,(X.env.kindOf x=some .cell∨X.env.kindOf x=some .free)->∃ c,X.env.cells.lookup x=some c
 yw:∀ x c,X.fn x=true->X.env.cells.lookup x=some c->X.gb.heap.objs.size<=c
 hd:X.calm=true->X.A.handled=none
 frames:X.A.frames=some X.stack
 Ca:X.stack=X.outer∨(X.stack=X.env::X.outer/\X.env.frame=some X.env.locals)
 C8:∀ b∈X.ex,b≠X.env.locals/\∀ x c,X.env.cells.lookup x=some c->c≠b
 bs:∀ b o,X.base.get? b=some o->X.gb.heap.get? b=some o/\X.mv b=none
 yx:X.base.objs.size<=X.gb.heap.objs.size
 ke:∀ b o,X.base.get? b=some o->b∉X.ex
 t9:∀ b∈X.ex,b∉X.fs
 i5:X.gb.heap.FunFrames X.base X.outer
 we:∀ b∈X.fs,X.mv b=none
structure Inv (X:Cx) (aa:List (Addr×Obj)) (σ:List (Option V)) (H:Hp) (s:Shared):Prop where
 ok:X.Ok
 os:s.os=X.gb.os
 bare:AllBare s.gens
 base:Un X.fs X.ex X.mv H X.gb.heap s.heap
 loc:∃ m,s.heap.Ns X.env.locals m/\∀ (i:Nat) (x:Str) (v:V),X.N[i]?=some x->σ[i]?=some (some v)->FH X.env.scope x->∃ u,bY v u/\Ox X.env s.heap m x u
 cell:∀ x c,X.env.cells.lookup x=some c->∃ v,s.heap.IsCell c v
 free:H X.env.locals=none
 cp:∀ x c,X.env.cells.lookup x=some c->H c=none
 pin:∀ p∈X.pn++aa,s.heap.get? p.1=some p.2/\H p.1=none/\p.1≠X.env.locals/\p.1∉X.fs/\∀ v,p.2.data≠.cell v
 aq:fw X.prog X.w H s.heap
 len:σ.length=X.N.length
section
variable {σ:List (Option V)}
theorem Cx.Ok.J9 (ok:X.Ok) (e:X.base.get? b=some o):b∉X.fs:=λhb=>by
 have:=(ok.i5.mem hb).1
 rw [e] at this; cases this
theorem Inv.bs (I:Inv X aa σ H s):∀ b o,X.base.get? b=some o->s.heap.get? b=some o/\H b=none:=λb o e =>
 ⟨I.base.keep b o (I.ok.bs b o e).1 (I.ok.bs b o e).2 (I.ok.J9 e) (I.ok.ke b o e),I.base.free b o (I.ok.bs b o e).1 (I.ok.bs b o e).2 (I.ok.ke b o e)⟩
theorem Inv.bk (I:Inv X aa σ H s):∀ b o,X.base.get? b=some o->s.heap.get? b=some o:=λb o e=>(I.bs b o e).1
theorem Inv.mod (I:Inv X aa σ H s):Mod X.K X.mg X.base:=I.ok.mod
theorem Inv.oa (I:Inv X aa σ H s):X.K.In s.heap:=I.ok.mod.Bt.keeps I.bk
theorem Inv.nolimit (I:Inv X aa σ H s):s.heap.NoLimit:=I.ok.mod.nolimit.keeps I.bk
theorem Inv.lt (I:Inv X aa σ H s):X.env.locals < s.heap.objs.size:=let ⟨_,hn,_⟩:=I.loc; hn.lt
theorem Inv.sz (I:Inv X aa σ H s):X.gb.heap.objs.size<=s.heap.objs.size:=Jl I.ok.above (Yc I.lt)
theorem Inv.AR (I:Inv X aa σ H s) (h:s.heap.objs.size<=a):a∉X.fs:=λhb=>by
 obtain ⟨_,o,ho,_⟩:=I.ok.i5.mem hb
 exact absurd (Qr (Qo ho) (Jl I.sz h)) (Jo _)
theorem Inv.sk (I:Inv X aa σ H s):∀ x c,X.env.cells.lookup x=some c->c≠X.env.locals:=λx c e z=>by
 obtain ⟨v,o,ho,hd⟩:=I.cell x c e
 obtain ⟨m,⟨o',es,ep,gn,sd,_⟩,_⟩:=I.loc
 rw [z,gn] at ho; cases ho; rw [sd] at hd; cases hd
theorem Inv.i5 (I:Inv X aa σ H s):s.heap.FunFrames X.base X.outer:=by
 have all:∀ (l:List Env),(∀ b∈c_ l,b∈X.fs)->X.gb.heap.FunFrames X.base l->s.heap.FunFrames X.base l:=by
  intro l
  induction l with
  | nil=>intro _ _; trivial
  | cons env r ih =>
   intro hs hl
   obtain ⟨hk,⟨L,o,hf,hn,ho,hd⟩,hr⟩:=hl
   have hL:L∈X.fs:=hs L (by unfold c_; rw [Xd,hf]; exact Qk)
   obtain ⟨sl,e⟩:=I.base.slot L o ho (I.ok.we L hL) hL λz=>I.ok.t9 L z hL
   exact ⟨hk,⟨L,_,hf,hn,e,hd⟩,ih (λb hb=>hs b (by unfold c_; rw [Xd,hf]; exact Ql _ hb)) hr⟩
 exact all X.outer (λ_ hb=>hb) I.ok.i5
theorem Inv.stack (I:Inv X aa σ H s):s.heap.FunFrames X.base X.stack:=by
 rcases I.ok.Ca with e | ⟨e,hf⟩
 ·rw [e]; exact I.i5
 ·rw [e]
  obtain ⟨m,hn,_⟩:=I.loc
  refine .cons (by rw [I.ok.kind]; decide) hf hn ?_ I.i5
  exact Heap.get?_none_of_le (Jl I.ok.yx I.ok.above)
theorem Inv.ig (I:Inv X aa σ H s):∀ b∈c_ X.stack,b∈X.env.locals::X.fs:=λb hb=>by
 rcases I.ok.Ca with e | ⟨e,hf⟩
 ·rw [e] at hb; exact Ql _ hb
 ·rw [e] at hb
  unfold c_ at hb
  rw [Xd,hf] at hb
  exact hb
theorem Inv.gy (I:Inv X aa σ H s):∀ b∈c_ X.stack,H b=none:=λb hb=>by
 rcases Qj.mp (I.ig b hb) with e | hb
 ·rw [e]; exact I.free
 ·obtain ⟨_,o,ho,_⟩:=I.ok.i5.mem hb
  exact I.base.free b o ho (I.ok.we b hb) λz=>I.ok.t9 b z hb
theorem Inv.step {g':Array GenState} {d':Drawn} (I:Inv X aa σ H s) (mr:∀ b∈ch,(b∈X.ex∨X.gb.heap.objs.size<=b)/\b≠X.env.locals/\(∀ x c,X.env.cells.lookup x=some c->c≠b)/\∀ p∈X.pn++aa,p.1≠b) (keep:∀ b o,b≠X.env.locals->b∉X.fs->b∉ch->s.heap.get? b=some o->H b=none->h'.get? b=some o) (slot:∀ b o,b≠X.env.locals->b∈X.fs->b∉ch->s.heap.get? b=some o->H b=none->∃ sl,h'.get? b=some { o with slots:=sl }) (free:∀ b o,b∉ch->s.heap.get? b=some o->H b=none->H' b=none) (there:∀ b o,b∉ch->s.heap.get? b=some o->∃ o',h'.get? b=some o') (gq:∀ b xs,H b=some (.tup xs)->H' b=some (.tup xs)) (fj:∀ b o u,H b=some (.cq o u)->H' b=some (.cq o u)) (gr:∀ b ps,H b=some (.yb ps)->∃ more,H' b=some (.yb (ps++more))) (ns:∀ m,s.heap.Ns X.env.locals m->h'.Ns X.env.locals m) (aq:fw X.prog X.w H' h') (hg:AllBare g') :
  Inv X aa σ H' { s with heap:=h',gens:=g',drawn:=d',toks:=t' }:=by
 have LB:∀ b o,X.gb.heap.get? b=some o->b≠X.env.locals:=λb o e=>Qt (Qr (Qo e) I.ok.above)
 have Ex:∀ b o,X.gb.heap.get? b=some o->b∉X.ex->b∉ch:=λb o e hx hb=>by
  rcases (mr b hb).1 with z | z
  ·exact hx z
  ·exact absurd (Qr (Qo e) z) (Jo _)
 have cellK:∀ x c,X.env.cells.lookup x=some c->∀ v,s.heap.IsCell c v->h'.IsCell c v:=λx c e v ⟨o,ho,hd⟩=>by
  have Co:c∉ch:=λz=>(mr c z).2.2.1 x c e rfl
  by_cases hc:c∈X.fs
  ·obtain ⟨sl,q⟩:=slot c o (I.sk x c e) hc Co ho (I.cp x c e)
   exact ⟨_,q,hd⟩
  ·exact ⟨o,keep c o (I.sk x c e) hc Co ho (I.cp x c e),hd⟩
 refine ⟨I.ok,I.os,hg,⟨λb o e n hb hx=>?_,λb o e n hb hx=>?_,λb o e n hx=>?_,λb o e hx=>?_,λb xs e=>gq b xs (I.base.gq b xs e),λb o xs e=>fj b o xs (I.base.fj b o xs e),λb ps e=>?_⟩,?_,λx c e=>?_,?_,λx c e=>?_,λp hp=>?_,aq,I.len⟩
 ·exact keep b o (LB b o e) hb (Ex b o e hx) (I.base.keep b o e n hb hx) (I.base.free b o e n hx)
 ·obtain ⟨sl,e1⟩:=I.base.slot b o e n hb hx
  obtain ⟨zt,e2⟩:=slot b _ (LB b o e) hb (Ex b o e hx) e1 (I.base.free b o e n hx)
  exact ⟨zt,e2⟩
 ·obtain ⟨o',e1⟩:=I.base.there b o e hx
  exact free b o' (Ex b o e hx) e1 (I.base.free b o e n hx)
 ·obtain ⟨o',e1⟩:=I.base.there b o e hx
  exact there b o' (Ex b o e hx) e1
 ·obtain ⟨m1,e1⟩:=I.base.gr b ps e
  obtain ⟨m2,e2⟩:=gr b _ e1
  exact ⟨m1++m2,by rw [e2,Array.append_assoc]⟩
 ·obtain ⟨m,hn,hl⟩:=I.loc
  refine ⟨m,ns m hn,λi x v e1 e2 e3=>?_⟩
  obtain ⟨u,r,l⟩:=hl i x v e1 e2 e3
  refine ⟨u,r,?_⟩
  rcases l with l | ⟨k,c,e,z⟩
  ·exact .inl l
  ·exact .inr ⟨k,c,e,cellK x c e _ z⟩
 ·obtain ⟨v,z⟩:=I.cell x c e
  exact ⟨v,cellK x c e v z⟩
 ·obtain ⟨m,⟨o,_,_,ho,_⟩,_⟩:=I.loc
  exact free _ o (λz=>(mr _ z).2.1 rfl) ho I.free
 ·obtain ⟨v,o,ho,hd⟩:=I.cell x c e
  exact free c o (λz=>(mr c z).2.2.1 x c e rfl) ho (I.cp x c e)
 ·obtain ⟨e,n,ne,nf,d⟩:=I.pin p hp
  have Co:p.1∉ch:=λz=>(mr p.1 z).2.2.2 p hp rfl
  exact ⟨keep p.1 p.2 ne nf Co e n,free p.1 p.2 Co e n,ne,nf,d⟩
theorem Inv.un (I:Inv X aa σ H s) (u:Un X.fs [] H H' s.heap h') (aq:fw X.prog X.w H' h'):Inv X aa σ H' { s with heap:=h',toks:=t' }:=by
 obtain ⟨m,⟨o,es,ep,ho,r⟩,_⟩:=id I.loc
 obtain ⟨sl,hL⟩:=u.any ho I.free (by simp)
 exact I.step (g':=s.gens) (d':=s.drawn) (ch:=[]) (λ_ z=>nomatch z) (λb o _ hb _ e n=>u.keep b o e n hb (by simp)) (λb o _ hb _ e n=>u.slot b o e n hb (by simp)) (λb o _ e n=>u.free b o e n (by simp)) (λb o _ e=>u.there b o e (by simp)) u.gq u.fj u.gr (λm' hm=>by
  obtain ⟨o',qy,wj,gn,r'⟩:=hm
  rw [ho] at gn; cases gn
  exact ⟨_,qy,wj,hL,r'⟩) aq I.bare
theorem Inv.call {g':Array GenState} {d':Drawn} (I:Inv X aa σ H s) (u:Un (c_ X.stack) ch H H' s.heap h') (aq:fw X.prog X.w H' h') (hg:AllBare g') (mr:∀ b∈ch,(b∈X.ex∨X.gb.heap.objs.size<=b)/\b≠X.env.locals/\(∀ x c,X.env.cells.lookup x=some c->c≠b)/\∀ p∈X.pn++aa,p.1≠b) :
  Inv X aa σ H' { s with heap:=h',gens:=g',drawn:=d',toks:=t' }:=by
 obtain ⟨m,⟨o,es,ep,ho,r⟩,_⟩:=id I.loc
 obtain ⟨sl,hL⟩:=u.any ho I.free λz=>(mr _ z).2.1 rfl
 exact I.step (ch:=ch) mr (λb o hL hb hc e n=>u.keep b o e n (λz=>(Qj.mp (I.ig b z)).elim hL hb) hc) (λb o _ _ hc e n=>u.any e n hc) (λb o hc e n=>u.free b o e n hc) (λb o hc e=>u.there b o e hc) u.gq u.fj u.gr (λm' hm=>by
  obtain ⟨o',qy,wj,gn,r'⟩:=hm
  rw [ho] at gn; cases gn
  exact ⟨_,qy,wj,hL,r'⟩) aq hg
theorem Inv.turned (I:Inv X aa σ H s) (k:∀ b o,b≠it->s.heap.get? b=some o->h'.get? b=some o) (hn:H it=none) (hL:it≠X.env.locals) (h1:it∈X.ex∨X.gb.heap.objs.size<=it) (h2:∀ x c,X.env.cells.lookup x=some c->c≠it) (h3:∀ p∈X.pn++aa,p.1≠it):Inv X aa σ H { s with heap:=h',toks:=t' }:=by
 have Cm:∀ b u,H b=some u->b≠it:=λb u e z=>by rw [z,hn] at e; cases e
 refine I.step (g':=s.gens) (d':=s.drawn) (ch:=[it]) (λb hb=>?_) (λb o _ _ hc e _=>k b o (λz=>hc (by simp [z])) e) (λb o _ _ hc e _=>⟨o.slots,k b o (λz=>hc (by simp [z])) e⟩) (λ_ _ _ _ n=>n)
  (λb o hc e=>⟨o,k b o (λz=>hc (by simp [z])) e⟩) (λ_ _ e=>e) (λ_ _ _ e=>e) (λb ps e=>⟨#[],by rw [e]; simp⟩) (λm hm=>?_) (λb u e=>?_) I.bare
 ·have e:b=it:=by simpa using hb
  subst e
  exact ⟨h1,hL,h2,h3⟩
 ·obtain ⟨o,es,ep,ho,r⟩:=hm
  exact ⟨o,es,ep,k _ o (Ne.symm hL) ho,r⟩
 ·refine (I.aq b u e).cu (λc v hc q=>k c v ?_ q) (λ_ q=>q) λ_ _ q=>q
  rcases hc with z | z
  ·rw [z]; exact Cm b u e
  ·exact Cm c _ z
theorem Inv.tok (I:Inv X aa σ H s) (t:Nat):Inv X aa σ H { s with toks:=t }:=I.un (h':=s.heap) (t':=t) Un.refl I.aq
theorem Inv.kept (I:Inv X aa σ H s) (k:∀ b u,s.heap.get? b=some u->h'.get? b=some u):Inv X aa σ H { s with heap:=h',toks:=t' }:=I.un (Un.kept k) (I.aq.kept k)
theorem Inv.laid {o:HO} (I:Inv X aa σ H s) (k:∀ b u,s.heap.get? b=some u->h'.get? b=some u) (hp:s.heap.objs.size<=a) (new:bM X.prog X.w (upd H a o) h' a o) :
  Inv X aa σ (upd H a o) { s with heap:=h',toks:=t' }:=I.un (Un.laid k hp (I.aq.fresh hp)) (I.aq.laid k hp new)
theorem Inv.write {x e:Addr} {o:HO} (I:Inv X aa σ H s) (mu:wx (H x)) (he:e=x∨H e=some (.own x)) (k:∀ b u,b≠e->s.heap.get? b=some u->h'.get? b=some u) (BF:∃ u,h'.get? e=some u) (new:bM X.prog X.w (upd H x o) h' x o):Inv X aa σ (upd H x o) { s with heap:=h',toks:=t' }:=I.un (Un.write mu he k BF) (I.aq.write mu he k BF new)
theorem Inv.gz {zd:List (Addr×Obj)} (I:Inv X aa σ H s) (h:∀ p∈zd,s.heap.get? p.1=some p.2/\H p.1=none/\p.1≠X.env.locals/\p.1∉X.fs/\∀ v,p.2.data≠.cell v):Inv X zd σ H s :=
 ⟨I.ok,I.os,I.bare,I.base,I.loc,I.cell,I.free,I.cp,λp hp=>(Qw.mp hp).elim (λz=>I.pin p (Jy _ z)) (h p),I.aq,I.len⟩
theorem sH (hN:N.Nodup) (a:N[i]?=some x) (b:N[j]?=some x):i=j:=by
 obtain ⟨h1,e1⟩:=Qd.mp a
 obtain ⟨h2,e2⟩:=Qd.mp b
 exact (List.getElem_inj hN).mp (e1.trans e2.symm)
theorem pX {Q:Unit->Shared->Prop} (I:Inv X aa σ H s) (hN:X.N.Nodup) (hi:X.N[i]?=some x) (hx:Loc X.env.scope x) (r:bY v u) (h:∀ s',Inv X aa (σ.set i (some v)) H s'->(∃ a,Heap.SameBut a s.heap s'.heap/\(a=X.env.locals∨X.env.cells.lookup x=some a))->Q () s') (hf:X.fn x=true∨X.env.scope.names.lookup x=some .local:=by first | exact .inl rfl | exact .inr rfl | assumption):wpAny M A (storeName X.env x u) Q E s:=by
 obtain ⟨m,hn,hl⟩:=id I.loc
 have A6:(X.env.scope.kind==.class || (X.env.scope.kind==.module && X.env.locals !=X.env.globals))=false:=by rw [I.ok.kind]; rfl
 have xp:i < σ.length:=by rw [I.len]; exact (Qd.mp hi).1
 have sk:=I.sk
 have tracked:∀ {a:Addr} {h':Heap},(∃ o,s.heap.get? a=some o/\H a=none)->Heap.SameBut a s.heap h'->fw X.prog X.w H h':=λ{a h'} ha hs b ob e=>by
  obtain ⟨_,_,ly⟩:=ha
  refine (I.aq b ob e).cu (λc w' hc q=>(hs.2 c ?_).trans q) (λ_ q=>q) λ_ _ q=>q
  rintro rfl
  rcases hc with rfl | hc
  ·rw [ly] at e; cases e
  ·rw [ly] at hc; cases hc
 rcases hx with hk | hk
 ·refine wpAny_storeName_local hk hn (λh' G2 hs=>?_) A6
  obtain ⟨oL,_,_,jv,_⟩:=id hn
  refine h _ ⟨I.ok,I.os,I.bare,⟨λb o e n hb hx=>?_,λb o e n hb hx=>?_,I.base.free,λb o e hx=>?_,I.base.gq,I.base.fj,I.base.gr⟩,⟨_,G2,λj y v' e1 e2 e3=>?_⟩,λy c e=>?_,I.free,I.cp,λp hp=>?_,tracked ⟨oL,jv,I.free⟩ hs,by simpa using I.len⟩ ⟨_,hs,.inl rfl⟩
  ·exact (hs.2 b (Qt (Qr (Qo e) I.ok.above))).trans (I.base.keep b o e n hb hx)
  ·obtain ⟨sl,e1⟩:=I.base.slot b o e n hb hx
   exact ⟨sl,(hs.2 b (Qt (Qr (Qo e) I.ok.above))).trans e1⟩
  ·obtain ⟨o',e1⟩:=I.base.there b o e hx
   exact ⟨o',(hs.2 b (Qt (Qr (Qo e) I.ok.above))).trans e1⟩
  ·by_cases hj:j=i
   ·subst hj
    rw [hi] at e1; cases e1
    rw [Zi xp] at e2
    cases e2
    exact ⟨u,r,.inl ⟨hk,by simp⟩⟩
   ·rw [Zp (Ne.symm hj)] at e2
    obtain ⟨u',r',q⟩:=hl j y v' e1 e2 e3
    refine ⟨u',r',?_⟩
    rcases q with ⟨k,e⟩ | ⟨k,c,e,z⟩
    ·refine .inl ⟨k,?_⟩
     have:y≠x:=λe=>hj (sH hN e1 (e ▸ hi))
     simp [this,e]
    ·exact .inr ⟨k,c,e,z.sameBut hs (sk y c e)⟩
  ·obtain ⟨w',z⟩:=I.cell y c e
   exact ⟨w',z.sameBut hs (sk y c e)⟩
  ·obtain ⟨e,n,ne,nf,d⟩:=I.pin p hp
   exact ⟨(hs.2 p.1 ne).trans e,n,ne,nf,d⟩
 ·have Hg:X.fn x=true:=by
   rcases hf with z | z
   ·exact z
   ·rw [z] at hk; cases hk
  obtain ⟨c,hc⟩:=I.ok.has x (.inl hk)
  obtain ⟨w',z⟩:=I.cell x c hc
  refine wpAny_storeName_cell I.ok.kind hk hc z (λh' bq hs=>?_)
  obtain ⟨oc,om,Kn⟩:=id z
  refine h { s with heap:=h' } ⟨I.ok,I.os,I.bare,⟨λb o e n hb hx=>?_,λb o e n hb hx=>?_,I.base.free,λb o e hx=>?_,I.base.gq,I.base.fj,I.base.gr⟩,⟨m,hn.sameBut hs (Ne.symm (sk x c hc)),λj y v' e1 e2 e3=>?_⟩,λy c' e=>?_,I.free,I.cp,λp hp=>?_,tracked ⟨oc,om,I.cp x c hc⟩ hs,by simpa using I.len⟩ ⟨c,hs,.inr hc⟩
  ·exact (hs.2 b (Qt (Qr (Qo e) (I.ok.yw x c Hg hc)))).trans (I.base.keep b o e n hb hx)
  ·obtain ⟨sl,e1⟩:=I.base.slot b o e n hb hx
   exact ⟨sl,(hs.2 b (Qt (Qr (Qo e) (I.ok.yw x c Hg hc)))).trans e1⟩
  ·obtain ⟨o',e1⟩:=I.base.there b o e hx
   exact ⟨o',(hs.2 b (Qt (Qr (Qo e) (I.ok.yw x c Hg hc)))).trans e1⟩
  ·by_cases hj:j=i
   ·subst hj
    rw [hi] at e1; cases e1
    rw [Zi xp] at e2
    cases e2
    exact ⟨u,r,.inr ⟨.inl hk,c,hc,bq⟩⟩
   ·rw [Zp (Ne.symm hj)] at e2
    obtain ⟨u',r',q⟩:=hl j y v' e1 e2 e3
    refine ⟨u',r',?_⟩
    rcases q with q | ⟨k,c',e,z'⟩
    ·exact .inl q
    ·refine .inr ⟨k,c',e,z'.sameBut hs ?_⟩
     rintro rfl
     exact hj (sH hN e1 (I.ok.inj _ _ _ e hc ▸ hi))
  ·by_cases Aq:c'=c
   ·subst Aq; exact ⟨_,bq⟩
   ·obtain ⟨w2,z2⟩:=I.cell y c' e
    exact ⟨w2,z2.sameBut hs Aq⟩
  ·obtain ⟨e,n,ne,nf,d⟩:=I.pin p hp
   refine ⟨(hs.2 p.1 ?_).trans e,n,ne,nf,d⟩
   intro q
   rw [q,om] at e
   have q':oc=p.2:=Option.some.inj e
   exact d w' (by rw [<- q']; exact Kn)
theorem yT {Q:Unit->Shared->Prop} (I:Inv X aa σ H s) (hN:X.N.Nodup) (hi:X.N[i]?=some x) (hx:Loc X.env.scope x) (r:bY v u) (h:∀ s',Inv X aa (σ.set i (some v)) H s'->Q () s') (hf:X.fn x=true∨X.env.scope.names.lookup x=some .local:=by first | exact .inl rfl | exact .inr rfl | assumption):wpAny M A (storeName X.env x u) Q E s :=
 pX I hN hi hx r (λs' I' _=>h s' I') hf
theorem Inv.l_ (I:Inv X aa σ H s) (ho:s'.os=s.os) (u:Un (c_ X.stack) ch H H' s.heap s'.heap) (aq:fw X.prog X.w H' s'.heap) (hg:AllBare s'.gens) (mr:∀ b∈ch,(b∈X.ex∨X.gb.heap.objs.size<=b)/\b≠X.env.locals/\(∀ x c,X.env.cells.lookup x=some c->c≠b)/\∀ p∈X.pn++aa,p.1≠b):Inv X aa σ H' s':=by
 obtain ⟨h',g',d',t',o'⟩:=s'
 have e:o'=s.os:=ho
 subst e
 exact I.call (g':=g') (t':=t') (d':=d') u aq hg mr
end
abbrev XK:=Value->Option Addr->Hp->Prop
abbrev St:=List (Option V)
abbrev VK:=V->Hp->Prop
abbrev TE:=St->Hp->VK->Prop
end L2
variable {ta te to tl tk tv tx ts td:TE}
namespace L2
open PySem PySem.Spec PyProof.Rows
abbrev TT:=St->Hp->(Bool->Hp->Prop)->Prop
end L2
variable {tt:TT}
namespace L2
open PySem PySem.Spec PyProof.Rows
abbrev TA:=St->Hp->(List V->Hp->Prop)->Prop
end L2
variable {tr:TA}
namespace L2
open PySem PySem.Spec PyProof.Rows
structure Ends where
 nx:St->Hp->Prop
 rt:VK
 bk:St->Hp->Prop:=λ_ _=>False
 ct:St->Hp->Prop:=λ_ _=>False
end L2
variable {D:Ends}
namespace L2
open PySem PySem.Spec PyProof.Rows
abbrev TS:=Ends->St->Hp->Prop
end L2
variable {tb:TS}
namespace L2
open PySem PySem.Spec PyProof.Rows
def EP (X:Cx) (aa:List (Addr×Obj)) (σ:St) (Q:VK) (u:Value) (s':Shared):Prop:=∃ v H',Inv X aa σ H' s'/\bY v u/\Q v H'
def TP (X:Cx) (aa:List (Addr×Obj)) (σ:St) (Q:Bool->Hp->Prop) (b:Bool) (s':Shared):Prop:=∃ H',Inv X aa σ H' s'/\Q b H'
def AP (X:Cx) (aa:List (Addr×Obj)) (σ:St) (Q:List V->Hp->Prop) (us:List Value) (s':Shared):Prop:=∃ vs H',Inv X aa σ H' s'/\bR vs us/\Q vs H'
def SP (X:Cx) (aa:List (Addr×Obj)) (D:Ends) (f:Flow) (s':Shared):Prop :=
 match f with
 | .next=>∃ ao H',Inv X aa ao H' s'/\D.nx ao H'
 | .brk=>∃ ao H',Inv X aa ao H' s'/\D.bk ao H'
 | .cont=>∃ ao H',Inv X aa ao H' s'/\D.ct ao H'
 | .ret u=>∃ v ao H',Inv X aa ao H' s'/\bY v u/\D.rt v H'
def PE (X:Cx) (e:Expr) (t:TE):Prop :=
 ∀ (aa:List (Addr×Obj)) (s:Shared) (σ:St) (H:Hp) (Q:VK),Inv X aa σ H s->t σ H Q->wpAny (model X.prog X.w) X.A (eval e X.env) (EP X aa σ Q) X.xe s
def PT (X:Cx) (e:Expr) (t:TT):Prop :=
 ∀ (aa:List (Addr×Obj)) (s:Shared) (σ:St) (H:Hp) (Q:Bool->Hp->Prop),Inv X aa σ H s->t σ H Q->wpAny (model X.prog X.w) X.A (isTrue e X.env (eval e X.env)) (TP X aa σ Q) X.xe s
def PW (X:Cx) (e:Expr) (t:TT):Prop :=
 ∀ (whole:Sem Value) (aa:List (Addr×Obj)) (s:Shared) (σ:St) (H:Hp) (Q:Bool->Hp->Prop),Inv X aa σ H s->t σ H Q->wpAny (model X.prog X.w) X.A (isTrue e X.env whole) (TP X aa σ Q) X.xe s
theorem PW.pt {t:TT} (h:PW X e t):PT X e t:=h _
def PA (X:Cx) (es:List Expr) (t:TA):Prop :=
 ∀ (pos:Pos) (aa:List (Addr×Obj)) (s:Shared) (σ:St) (H:Hp) (Q:List V->Hp->Prop),Inv X aa σ H s->t σ H Q->wpAny (model X.prog X.w) X.A (spliced (backTo pos (starEach es X.env))) (AP X aa σ Q) X.xe s
def PS (X:Cx) (st:Stmt) (t:TS):Prop :=
 ∀ (aa:List (Addr×Obj)) (s:Shared) (σ:St) (H:Hp) (D:Ends),Inv X aa σ H s->t D σ H->wpAny (model X.prog X.w) X.A (exec st X.env) (SP X aa D) X.xe s
def kc (X:Cx) (st:List Stmt) (t:TS):Prop :=
 ∀ (aa:List (Addr×Obj)) (s:Shared) (σ:St) (H:Hp) (D:Ends),Inv X aa σ H s->t D σ H->wpAny (model X.prog X.w) X.A (execs st X.env) (SP X aa D) X.xe s
theorem bf {t:Sem α} {Q Q':α->Shared->Prop} (h:wpAny M A t Q E s) (hQ:∀ a s,Q a s->Q' a s):wpAny M A t Q' E s:=Rp h hQ λ_ _ x=>x
section
def jB (i:Nat):TE:=λσ H Q=>∃ v,σ[i]?=some (some v)/\Q v H
abbrev tC (v:V):TE:=λ_ H Q=>Q v H
theorem PR (hN:X.N[i]?=some x) (hv:FH X.env.scope x) (hd:(x==("__debug__" : Str))=false:=by decide) (jm:(x==("__classdict__" : Str))=false:=by decide):PE X (.Name x pos) (jB i):=by
 intro aa s σ H Q I h
 obtain ⟨v,e,h⟩:=h
 obtain ⟨m,hn,hl⟩:=I.loc
 obtain ⟨u,r,l⟩:=hl i x v hN e hv
 have fin:EP X aa σ Q u s:=⟨v,H,I,r,h⟩
 rcases l with ⟨hk,hm⟩ | ⟨hk,c,hc,fc⟩
 ·exact Mc (Rau I.ok.kind hk hn hm fin) hd
 ·rcases hk with hk | hk
  ·exact Mc (wpAny_loadName_cell I.ok.kind hk hc fc fin) hd
  ·exact Mc (RaB I.ok.kind hk hc fc fin jm) hd
theorem aI {i j pos}:PE X (.Constant (.int i) j pos) (tC (.int i)):=λ_ _ _ H _ I h=>wpAny_Constant_int ⟨.int i,H,I.tok _,⟨_,rfl⟩,h⟩
theorem eX {b j pos}:PE X (.Constant (.bool b) j pos) (tC (.bl b)):=λ_ _ _ H _ I h=>Constant_bool ⟨.bl b,H,I,rfl,h⟩
theorem oC {j pos}:PE X (.Constant .none j pos) (tC .bw):=λ_ _ _ H _ I h=>Constant_none ⟨.bw,H,I,rfl,h⟩
theorem gD {x j pos}:PE X (.Constant (.str x) j pos) (tC (.str x)):=λ_ _ _ H _ I h=>Calls.Constant_str ⟨.str x,H,I.tok _,⟨_,rfl⟩,h⟩
def Gl (X:Cx) (x:Str):Prop:=X.env.kindOf x=some .globalImplicit
theorem mZ {σ:St} (I:Inv X aa σ H s) (hg:Gl X x) (hm:X.mg x=some u) (h:Q u s) (hd:(x==("__debug__" : Str))=false:=by decide):wpAny (model X.prog X.w) X.A (eval (.Name x pos) X.env) Q E s :=
 Calls.Name_function_global I.ok.kind hg (Calls.loadGlobal_global (by rw [I.ok.glob]; exact I.mod.glob.keeps I.bk) hm h) hd
theorem jI {σ:St} (I:Inv X aa σ H s) (hg:Gl X x) (hm:X.mg x=none) (hv:bootBuiltins x=some u) (h:Q u s) (hn:x ≠ "__name__" := by decide) (hd:(x==("__debug__" : Str))=false:=by decide):wpAny (model X.prog X.w) X.A (eval (.Name x pos) X.env) Q E s:=by
 obtain ⟨mb,h1,h2⟩:=I.mod.blt
 exact Calls.Name_function_global I.ok.kind hg (Calls.loadGlobal_builtin (by rw [I.ok.glob]; exact I.mod.glob.keeps I.bk) hm (by rw [I.ok.blt]; exact h1.keeps I.bk) ((h2 x hn).trans hv) h) hd
theorem wY (hg:Gl X x) (hm:X.mg x=some u) (r:bY v u) (hd:(x==("__debug__" : Str))=false:=by decide):PE X (.Name x pos) (tC v) :=
 λ_ _ _ H _ I h=>mZ I hg hm ⟨v,H,I,r,h⟩ hd
theorem iT (hg:Gl X x) (hm:X.mg x=none) (hv:bootBuiltins x=some u) (r:bY v u) (hn:x ≠ "__name__" := by decide) (hd:(x==("__debug__" : Str))=false:=by decide):PE X (.Name x pos) (tC v) :=
 λ_ _ _ H _ I h=>jI I hg hm hv ⟨v,H,I,r,h⟩ hn hd
variable {a b:Expr} {tb:TE}
def PC (X:Cx) (op:CmpOp) (a b:Expr) (t:TE):Prop :=
 ∀ (aa:List (Addr×Obj)) (s:Shared) (σ:St) (H:Hp) (Q:VK),Inv X aa σ H s->t σ H Q ->
  wpAny (model X.prog X.w) X.A (eval a X.env) (λv b_=>wpAny (model X.prog X.w) X.A (eval b X.env) (λu ip=>wpAny (model X.prog X.w) X.A (compareOp op v u) (EP X aa σ Q) X.xe ip) X.xe b_) X.xe s
theorem aDR (b:Expr) (h:op≠.In) (h2:op≠.NotIn):behindInMarks op b=false:=by
 have e1:(op==CmpOp.In)=false:=by cases op <;> first | rfl | exact absurd rfl h
 have e2:(op==CmpOp.NotIn)=false:=by cases op <;> first | rfl | exact absurd rfl h2
 cases b <;> simp [behindInMarks,e1,e2]
def ZE (ta:TE):TE:=λσ H Q=>ta σ H λx H1=>Q (.bl (!decide (x=.bw))) H1
theorem bY.ui {x:V} {v:Value} (r:bY x v):(v==Value.none)=decide (x=.bw):=by
 cases x with
 | bw=>cases r; rfl
 | bl _=>cases r; rfl
 | int _=>obtain ⟨t,rfl⟩:=r; rfl
 | str _=>obtain ⟨t,rfl⟩:=r; rfl
 | oy _=>obtain ⟨t,rfl⟩:=r; rfl
 | wg _=>obtain ⟨t,rfl⟩:=r; rfl
 | ref _=>cases r; rfl
 | ty _=>cases r; rfl
theorem aFP {j pos'} (ha:PE X a ta):PC X .IsNot a (.Constant .none j pos') (ZE ta):=by
 intro aa s σ H Q I h
 refine bf (ha aa s σ H _ I h) λv s1 au=>?_
 obtain ⟨x,H1,I1,r1,q1⟩:=au
 exact Constant_none (isnot_none_gen ⟨.bl _,H1,I1,by rw [r1.ui]; rfl,q1⟩)
def tB (t:TE):TT:=λσ H Q=>t σ H λx H1=>∃ c,x=.bl c/\Q c H1
theorem PQ {t:TE} (h:PC X op a b t) (h1:behindInMarks op b=false:=by first | exact aDR _ (by decide) (by decide) | rfl):PT X (.Compare a [op] [b] pos) (tB t):=by
 intro aa s σ H Q I hw
 refine Raq (bf (h aa s σ H _ I hw) λv s1 h1=>bf h1 λu s2 h2=>bf h2 λc s3 au=>?_) h1
 obtain ⟨x,H1,I1,r1,q1⟩:=au
 obtain ⟨d,rfl,q⟩:=q1
 cases r1
 exact Ry ⟨H1,I1,q⟩
theorem eJ {t:TE} (h:PE X e t) (he:∀ whole,isTrue e X.env whole=(do let v<-whole; standAt e.pos; holding [v] (truthy v)):=by intro _; rfl):PT X e (tB t):=by
 intro aa s σ H Q I hw
 refine isTrue_plain (bf (h aa s σ H _ I hw) λv s1 au=>?_) (he _)
 obtain ⟨x,H1,I1,r1,q1⟩:=au
 obtain ⟨d,rfl,q⟩:=q1
 cases r1
 exact Ry ⟨H1,I1,q⟩
variable {tA Ek:TT} {gC:List Expr}
def Ow (t u:TT):TT:=λσ H Q=>t σ H λc H1=>if c=true then u σ H1 Q else Q false H1
def SN (t u:TT):TT:=λσ H Q=>t σ H λc H1=>if c=true then Q true H1 else u σ H1 Q
def YQ (t:TT):TT:=λσ H Q=>t σ H λc H1=>Q (!c) H1
theorem QV (ha:PT X a tA):PW X (.BoolOp .And [a] pos) tA:=by
 intro wh aa s σ H Q I h
 refine isTrue_and (bf (ha aa s σ H Q I h) λc s1 e=>?_)
 cases c with
 | true=>exact isTrue_and_nil e
 | false=>exact e
theorem jC (ha:PT X a tA):PW X (.BoolOp .Or [a] pos) tA:=by
 intro wh aa s σ H Q I h
 refine isTrue_or (bf (ha aa s σ H Q I h) λc s1 e=>?_)
 cases c with
 | false=>exact isTrue_or_nil e
 | true=>exact e
theorem PN (ha:PT X a tA) (hb:PW X (.BoolOp .And (b::gC) pos) Ek):PW X (.BoolOp .And (a::b::gC) pos) (Ow tA Ek):=by
 intro wh aa s σ H Q I h
 refine isTrue_and (bf (ha aa s σ H _ I h) λc s1 au=>?_)
 obtain ⟨H1,I1,q1⟩:=au
 cases c with
 | true=>exact hb wh aa s1 σ H1 Q I1 q1
 | false=>exact ⟨H1,I1,q1⟩
theorem kL (ha:PT X a tA) (hb:PW X (.BoolOp .Or (b::gC) pos) Ek):PW X (.BoolOp .Or (a::b::gC) pos) (SN tA Ek):=by
 intro wh aa s σ H Q I h
 refine isTrue_or (bf (ha aa s σ H _ I h) λc s1 au=>?_)
 obtain ⟨H1,I1,q1⟩:=au
 cases c with
 | true=>exact ⟨H1,I1,q1⟩
 | false=>exact hb wh aa s1 σ H1 Q I1 q1
theorem eM (ha:PT X a tA):PT X (.UnaryOp .Not a pos) (YQ tA):=by
 intro aa s σ H Q I h
 exact isTrue_not (ha aa s σ H (λc H1=>Q (!c) H1) I h)
def ZD (ta tb:TE):TE:=λσ H Q=>ta σ H λx H1=>∃ c,x=.bl c/\if c=true then tb σ H1 Q else Q (.bl false) H1
def ZC (ta:TE):TE:=λσ H Q=>ta σ H λx H1=>∃ c,x=.bl c/\Q (.bl (!c)) H1
theorem sI {op} {t:TE} (h:PE X a t):PE X (.BoolOp op [a] pos) t:=λaa s σ H Q I hw=>BoolOp_one (h aa s σ H Q I hw)
theorem pY (ha:PE X a ta) (hb:PE X (.BoolOp .And (b::gC) pos) tb):PE X (.BoolOp .And (a::b::gC) pos) (ZD ta tb):=by
 intro aa s σ H Q I h
 refine BoolOp_and (bf (ha aa s σ H _ I h) λv s1 au=>?_)
 obtain ⟨x,H1,I1,r1,q1⟩:=au
 obtain ⟨c,rfl,q1⟩:=q1
 cases r1
 refine Ry ?_
 cases c with
 | true=>exact hb aa s1 σ H1 Q I1 q1
 | false=>exact ⟨.bl false,H1,I1,rfl,q1⟩
theorem Δ (ha:PE X a ta):PE X (.UnaryOp .Not a pos) (ZC ta):=by
 intro aa s σ H Q I h
 refine UnaryOp_ (bf (ha aa s σ H _ I h) λv s1 au=>?_)
 obtain ⟨x,H1,I1,r1,q1⟩:=au
 obtain ⟨c,rfl,q1⟩:=q1
 cases r1
 exact not_of (Ry ⟨.bl (!c),H1,I1,rfl,q1⟩)
end
def ak (K:Rc) (H:Hp) (a:Addr) (xs:List V):Prop :=
 Rd H a (.lst xs) ∨
  ∃ (o:Obj) (ae:Array Value) (n:Nat),K.lookup a=some o/\o.cls=.type "list" /\ o.dict=none/\o.data=.seq ae n/\ae.size<=sizeLine/\bR xs ae.toList
def aj (K:Rc) (H:Hp) (a:Addr) (xs:List V):Prop :=
 Rd H a (.tup xs) ∨
  ∃ (o:Obj) (ae:Array Value) (n:Nat),K.lookup a=some o/\o.cls=.type "tuple" /\ o.dict=none/\o.data=.seq ae n/\ae.size<=sizeLine/\bR xs ae.toList
def YO:Value->Option V
 | .none=>some .bw
 | .bool b=>some (.bl b)
 | .int i _=>some (.int i)
 | .str x _=>some (.str x)
 | .bytes b _=>some (.oy b)
 | .float b _=>some (.wg b)
 | .ref a=>some (.ref a)
 | .type n=>some (.ty n)
 | _=>none
theorem bY.abs {x:V} (r:bY x u):YO u=some x:=by
 cases x with
 | bw=>cases r; rfl
 | bl _=>cases r; rfl
 | int _=>obtain ⟨t,rfl⟩:=r; rfl
 | str _=>obtain ⟨t,rfl⟩:=r; rfl
 | oy _=>obtain ⟨t,rfl⟩:=r; rfl
 | wg _=>obtain ⟨t,rfl⟩:=r; rfl
 | ref _=>cases r; rfl
 | ty _=>cases r; rfl
theorem bY.inj {x:V} (r:bY x u) (q:bY y u):x=y:=Option.some.inj (r.abs.symm.trans q.abs)
theorem bR.inj:∀ {xs ys:List V} {us:List Value},bR xs us->bR ys us->xs=ys
 := by
 intro xs ys us h
 induction h generalizing ys with
 | nil=>intro q; cases q; rfl
 | cons r t ih=>intro q; cases q with | cons r' t'=>rw [r.inj r',ih t']
section
variable {σ:St}
theorem ak.of (h:H a=some (.lst xs)):ak K H a xs:=.inl (.inl h)
theorem aj.of (h:H a=some (.tup xs)):aj K H a xs:=.inl (.inl h)
theorem Inv.list (I:Inv X aa σ H s) (h:ak X.K H a xs):∃ ae:List Value,bR xs ae/\PlainL s.heap a ae.toArray/\xs.length<=sizeLine:=by
 rcases h with h | ⟨o,ae,n,hk,hc,hd,hs,hz,r⟩
 ·obtain ⟨z,ae,n,r,e⟩:=h.ok I.aq
  exact ⟨ae,r,⟨_,n,e,rfl,rfl,rfl⟩,z⟩
 ·refine ⟨ae.toList,r,⟨o,n,I.oa a o hk,hc,hd,by simpa using hs⟩,?_⟩
  have e:=r.length
  simp only [Array.length_toList] at e
  omega
theorem Inv.tuple (I:Inv X aa σ H s) (h:aj X.K H a xs):∃ ae:List Value,bR xs ae/\IsTup s.heap a ae.toArray/\xs.length<=sizeLine:=by
 rcases h with h | ⟨o,ae,n,hk,hc,_,hs,hz,r⟩
 ·obtain ⟨z,ae,n,r,p⟩:=h.ok I.aq
  exact ⟨ae,r,⟨_,p,rfl,n,rfl⟩,z⟩
 ·refine ⟨ae.toList,r,⟨o,I.oa a o hk,hc,n,by simpa using hs⟩,?_⟩
  have e:=r.length
  simp only [Array.length_toList] at e
  omega
theorem Inv.me (I:Inv X aa σ H s) (h:ak X.K H a xs) (h':ak X.K H a ys):xs=ys:=by
 obtain ⟨ae,r,⟨o,n,e,_,_,d⟩,_⟩:=I.list h
 obtain ⟨its',r',⟨o',n',e',_,_,d'⟩,_⟩:=I.list h'
 rw [e] at e'; cases e'
 rw [d] at d'
 injection d' with d1 _
 have:ae=its':=by simpa using congrArg Array.toList d1
 subst this
 exact r.inj r'
theorem Inv.j7 (I:Inv X aa σ H s) (h:aj X.K H a xs) (h':aj X.K H a ys):xs=ys:=by
 obtain ⟨ae,r,⟨o,e,_,n,d⟩,_⟩:=I.tuple h
 obtain ⟨its',r',⟨o',e',_,n',d'⟩,_⟩:=I.tuple h'
 rw [e] at e'; cases e'
 rw [d] at d'
 injection d' with d1 _
 have:ae=its':=by simpa using congrArg Array.toList d1
 subst this
 exact r.inj r'
abbrev Cx.jc (X:Cx) (E:Value->Shared->Prop):Cx:={ X with xe:=E }
abbrev Cx.vd (X:Cx):Cx:=X.jc λ_ _=>False
theorem Cx.Ok.jc (ok:X.Ok) (E:Value->Shared->Prop):(X.jc E).Ok :=
 ⟨ok.mod,ok.kind,ok.glob,ok.blt,ok.above,ok.inj,ok.has,ok.yw,ok.hd,ok.frames,ok.Ca,ok.C8,ok.bs,ok.yx,ok.ke,ok.t9,ok.i5,ok.we⟩
theorem Cx.Ok.d_ (ok:(X.jc E).Ok):X.Ok :=
 ⟨ok.mod,ok.kind,ok.glob,ok.blt,ok.above,ok.inj,ok.has,ok.yw,ok.hd,ok.frames,ok.Ca,ok.C8,ok.bs,ok.yx,ok.ke,ok.t9,ok.i5,ok.we⟩
theorem Inv.jc (I:Inv X aa σ H s) (E:Value->Shared->Prop):Inv (X.jc E) aa σ H s:=⟨I.ok.jc E,I.os,I.bare,I.base,I.loc,I.cell,I.free,I.cp,I.pin,I.aq,I.len⟩
theorem Inv.d_ (I:Inv (X.jc E) aa σ H s):Inv X aa σ H s:=⟨I.ok.d_,I.os,I.bare,I.base,I.loc,I.cell,I.free,I.cp,I.pin,I.aq,I.len⟩
theorem SP.d_ {f:Flow} (h:SP (X.jc E) aa D f s'):SP X aa D f s':=by
 cases f with
 | next=>obtain ⟨ao,H',I,q⟩:=h; exact ⟨ao,H',I.d_,q⟩
 | brk=>obtain ⟨ao,H',I,q⟩:=h; exact ⟨ao,H',I.d_,q⟩
 | cont=>obtain ⟨ao,H',I,q⟩:=h; exact ⟨ao,H',I.d_,q⟩
 | ret u=>obtain ⟨v,ao,H',I,r,q⟩:=h; exact ⟨v,ao,H',I.d_,r,q⟩
theorem kc.vd {st:List Stmt} {t:TS} (h:kc X.vd st t):kc X st t:=λaa s σ H D I hw =>
 Rp (h aa s σ H D (I.jc _) hw) (λ_ _ q=>q.d_) λ_ _ z=>False.elim z
end
section
variable {gC:List Stmt} {t u:TS}
def ZA:TS:=λD σ H=>D.nx σ H
def yU (t u:TS):TS:=λD σ H=>t { D with nx:=u D } σ H
theorem bG:kc X [] ZA:=λ_ _ σ H _ I h=>Vb ⟨σ,H,I,h⟩
theorem aG (h1:PS X st t) (h2:kc X gC u):kc X (st::gC) (yU t u):=by
 intro aa s σ H D I h
 refine Ms (bf (h1 aa s σ H { D with nx:=u D } I h) λf s1 q=>?_)
 cases f with
 | next =>
  obtain ⟨ao,H',I',q⟩:=q
  exact h2 aa s1 ao H' D I' q
 | ret v=>exact q
 | brk=>exact q
 | cont=>exact q
theorem aJ (h1:PS X st t):kc X [st] t:=by
 intro aa s σ H D I h
 refine Ms (bf (h1 aa s σ H D I h) λf s1 q=>?_)
 cases f with
 | next=>exact Vb q
 | ret v=>exact q
 | brk=>exact q
 | cont=>exact q
def ω:TS:=λD σ H=>D.bk σ H
theorem aDU:PS X (.Break pos) ω:=λ_ _ σ H _ I h=>wpAny_Break ⟨σ,H,I,h⟩
theorem Inv.quiet {σ:St} (I:Inv X aa σ H s):interactive X.env=false:=by simp [interactive,I.ok.kind]
def Y_ (te:TE):TS:=λD σ H=>te σ H λ_ H1=>D.nx σ H1
theorem bX (he:PE X e te) (hs:swapsWith e none pos.line X.env=pure false:=by rfl):PS X (.Expr e pos) (Y_ te):=by
 intro aa s σ H D I h
 refine wpAny_Expr_any (bf (he aa s σ H _ I h) λv s1 au=>?_) I.quiet hs
 obtain ⟨x,H1,I1,r1,q1⟩:=au
 exact ⟨σ,H1,I1,q1⟩
def Fp (te:TE):TS:=λD σ H=>te σ H D.rt
theorem aY (he:PE X e te):PS X (.Return (some e) pos) (Fp te):=by
 intro aa s σ H D I h
 refine wpAny_Return_some (bf (he aa s σ H _ I h) λv s1 au=>?_)
 obtain ⟨x,H1,I1,r1,q1⟩:=au
 exact ⟨x,σ,H1,I1,r1,q1⟩
def YN (c:TT) (t u:TS):TS:=λD σ H=>c σ H λb H1=>if b=true then t D σ H1 else u D σ H1
theorem bT {c:Expr} {a b:List Stmt} {tc:TT} (hc:PT X c tc) (ha:kc X a t) (hb:kc X b u):PS X (.If c a b pos) (YN tc t u):=by
 intro aa s σ H D I h
 refine wpAny_If (bf (hc aa s σ H _ I h) λd s1 au=>?_)
 obtain ⟨H1,I1,q1⟩:=au
 cases d with
 | true=>exact ha aa s1 σ H1 D I1 q1
 | false=>exact hb aa s1 σ H1 D I1 q1
def ψ:TS:=λ_ _ _=>False
theorem cO {Bj:List Stmt}:kc X Bj ψ:=λ_ _ _ _ _ _ h=>h.elim
end
abbrev TG:=V->St->Hp->(St->Hp->Prop)->Prop
end L2
variable {g g2:TG}
namespace L2
open PySem PySem.Spec PyProof.Rows
abbrev y8:=List V->St->Hp->(St->Hp->Prop)->Prop
def PG (X:Cx) (target:Expr) (t:TG):Prop :=
 ∀ (aa:List (Addr×Obj)) (s:Shared) (σ:St) (H:Hp) (v:V) (u:Value) (Q:St->Hp->Prop),Inv X aa σ H s->bY v u->t v σ H Q ->
  wpAny (model X.prog X.w) X.A (assign target X.env u) (λ_ s'=>∃ ao H',Inv X aa ao H' s'/\Q ao H') X.xe s
def Dk (X:Cx) (ts:List Expr) (t:y8):Prop :=
 ∀ (aa:List (Addr×Obj)) (s:Shared) (σ:St) (H:Hp) (vs:List V) (us:List Value) (Q:St->Hp->Prop),Inv X aa σ H s->bR vs us->t vs σ H Q ->
  wpAny (model X.prog X.w) X.A (assignInOrder ((assignEach ts X.env).map (·.2)) us) (λ_ s'=>∃ ao H',Inv X aa ao H' s'/\Q ao H') X.xe s
abbrev IG:=V->V->V->Hp->(Hp->Prop)->Prop
def Ov (X:Cx) (t:IG):Prop :=
 ∀ (aa:List (Addr×Obj)) (s:Shared) (σ:St) (H:Hp) (o i v:V) (ov iv u:Value) (Q:Hp->Prop),Inv X aa σ H s->bY o ov->bY i iv->bY v u->t o i v H Q ->
  wpAny (model X.prog X.w) X.A (setItem ov iv u) (λ_ s'=>∃ H',Inv X aa σ H' s'/\Q H') X.xe s
def eY (i:Nat):TG:=λv σ H Q=>Q (σ.set i (some v)) H
theorem aQ (hN:X.N.Nodup) (hi:X.N[i]?=some x) (hx:Loc X.env.scope x) (hf:X.fn x=true∨X.env.scope.names.lookup x=some .local:=by first | exact .inl rfl | exact .inr rfl | assumption):PG X (.Name x pos) (eY i):=by
 intro aa s σ H v u Q I r h
 exact RaE (yT I hN hi hx r (λs' I'=>⟨_,H,I',h⟩) hf)
def YM:y8:=λvs σ H Q=>vs = []/\Q σ H
def Y' (t:TG) (u:y8):y8:=λvs σ H Q=>∃ v r,vs=v::r/\t v σ H λao H'=>u r ao H' Q
theorem cU:Dk X [] YM:=by
 intro aa s σ H vs us Q I r h
 obtain ⟨e,h⟩:=h
 subst e
 cases r
 exact assignInOrder_nil ⟨σ,H,I,h⟩
theorem aX {t:TG} {u:y8} (h1:PG X e t) (h2:Dk X es u) (hs:(assignEach (e::es) X.env).map (·.2)=assign e X.env::(assignEach es X.env).map (·.2):=by rfl):Dk X (e::es) (Y' t u):=by
 intro aa s σ H vs us Q I r h
 obtain ⟨v,vr,e1,h⟩:=h
 subst e1
 cases r with
 | cons r rr =>
  rw [hs]
  refine assignInOrder_cons (bf (h1 aa s σ H _ _ _ I r h) λ_ s1 au=>?_)
  obtain ⟨Bf,H1,I1,q1⟩:=au
  exact h2 aa s1 Bf H1 _ _ Q I1 rr q1
def Ou (K:Rc) (n:Nat) (t:y8):TG:=λv σ H Q=>∃ a xs,v=.ref a/\aj K H a xs/\xs.length=n/\t xs σ H Q
theorem gE {k:Nat} {t:y8} (hc:X.calm=true) (h:Dk X es t) (hn:(assignEach es X.env).length=n:=by rfl) (gh:(assignEach es X.env).findIdx? (·.1)=none:=by rfl):PG X (.Tuple es k pos) (Ou X.K n t):=by
 intro aa s σ H v u Q I r hw
 obtain ⟨a,xs,e1,hq,hl,hw⟩:=hw
 subst e1
 cases r
 obtain ⟨ae,rv,ht,hz⟩:=I.tuple hq
 refine assign_Tuple_tuple (I.ok.hd hc) ht (by simp [hn,<- hl,rv.length]) gh λh' hx=>?_
 have I1:Inv X aa σ H { s with heap:=h' }:=I.kept (t':=s.toks) λb o e=>hx b o (Qt (Qo e)) e
 exact h aa _ σ H xs _ Q I1 (by simpa using rv) hw
def YL (to ti:TE) (t:IG):TG:=λv σ H Q=>to σ H λo H1=>ti σ H1 λi H2=>t o i v H2 λH3=>Q σ H3
theorem wZ {o i:Expr} {ti:TE} {t:IG} (ho:PE X o to) (hi:PE X i ti) (hs:Ov X t) (ha:∀ v,assign (.Subscript o i pos) X.env v=(do
   let ov<-holding [v] (eval o X.env)
   let iv<-holding [v,ov] (eval i X.env)
   standAt pos
   holding [v,ov,iv] (setItem ov iv v)
   release [v,ov,iv] []):=by intro _; rfl):PG X (.Subscript o i pos) (YL to ti t):=by
 intro aa s σ H v u Q I r h
 rw [ha]
 refine Ra (Rn (bf (ho aa s σ H _ I h) λov s1 au=>?_))
 obtain ⟨x,H1,I1,r1,q1⟩:=au
 refine Ra (Rn (bf (hi aa s1 σ H1 _ I1 q1) λiv s2 au=>?_))
 obtain ⟨y,H2,I2,r2,q2⟩:=au
 refine Ra (Th (Ra (Rn (bf (hs aa s2 σ H2 x y v ov iv u _ I2 r1 r2 r q2) λ_ s3 au=>?_))))
 obtain ⟨H3,I3,q3⟩:=au
 exact wpAny_release ⟨σ,H3,I3,q3⟩
def lT (te:TE) (g:TG):TS:=λD σ H=>te σ H λx H1=>g x σ H1 D.nx
theorem gU (he:PE X e te) (hg:PG X tg g) (hs:swapsWithSole [tg] e pos.line X.env=pure false:=by rfl) (hw:swappedStores [tg] e X.env=pure none:=by rfl) (h1:(assignEach [tg] X.env).map (·.2) = [assign tg X.env]:=by rfl):PS X (.Assign [tg] e pos) (lT te g):=by
 intro aa s σ H D I h
 refine wpAny_Assign_stores (bf (he aa s σ H _ I h) λv s1 au=>?_) hs hw
 obtain ⟨x,H1,I1,r1,q1⟩:=au
 rw [h1]
 exact bf (hg aa s1 σ H1 x v _ I1 r1 q1) λ_ s2 q=>q
theorem aT (hN:X.N.Nodup) (hi:X.N[i]?=some x) (hx:Loc X.env.scope x) (he:PE X e te) (hs:swapsWith e (some (.Name x pos')) pos.line X.env=pure false:=by rfl) (hf:X.fn x=true∨X.env.scope.names.lookup x=some .local:=by first | exact .inl rfl | exact .inr rfl | assumption) :
  PS X (.Assign [.Name x pos'] e pos) (lT te (eY i)):=by
 intro aa s σ H D I h
 refine wpAny_Assign_Name (bf (he aa s σ H _ I h) λv s1 au=>?_) hs
 obtain ⟨y,H1,I1,r1,q1⟩:=au
 exact yT I1 hN hi hx r1 (λs2 I2=>⟨_,H1,I2,q1⟩) hf
def χ (c:TT) (tb:TS):TS:=λD σ H=>∃ W:Nat->St->Hp->Prop,(∃ m,W m σ H)/\∀ m σ H,W m σ H ->
 c σ H λb H1=>if b=true then ∃ N:St->Hp->Prop,(∀ ao H',N ao H'->∃ m',m' < m/\W m' ao H')/\tb { D with nx:=N,ct:=N,bk:=D.nx } σ H1 else D.nx σ H1
theorem sJ {c:Expr} {tc:TT} (hp:PassesOwn (model X.prog X.w) X.A X.env X.xe) (hc:PT X c tc) (hb:kc X body tb):PS X (.While c body [] pos) (χ tc tb):=by
 intro aa s σ H D I h
 obtain ⟨W,⟨m0,w0⟩,turn⟩:=h
 refine wpAny_While (codeAny_whileLoop (λn s'=>∃ ao H',Inv X aa ao H' s'/\W n ao H') ?_ m0 ⟨σ,H,I,w0⟩)
 rintro n s1 ⟨Bf,H1,I1,w1⟩
 refine Uj hp (bf (hc aa s1 Bf H1 _ I1 (turn n Bf H1 w1)) λb s2 au=>?_)
 obtain ⟨H2,I2,q2⟩:=au
 cases b with
 | true =>
  obtain ⟨N,hN,q2⟩:=q2
  rw [if_pos rfl]
  refine Uj hp (bf (hb aa s2 Bf H2 _ I2 q2) λf s3 q3=>?_)
  cases f with
  | next =>
   obtain ⟨ik,H3,I3,n3⟩:=q3
   obtain ⟨m',hm,w3⟩:=hN ik H3 n3
   exact ⟨m',hm,ik,H3,I3,w3⟩
  | cont =>
   obtain ⟨ik,H3,I3,n3⟩:=q3
   obtain ⟨m',hm,w3⟩:=hN ik H3 n3
   exact ⟨m',hm,ik,H3,I3,w3⟩
  | brk=>exact q3
  | ret v=>exact q3
 | false =>
  rw [if_neg Qs]
  exact Vb ⟨Bf,H2,I2,q2⟩
structure It where
 go:Nat->Hp->Prop
 kz:Nat->Hp->V->Hp->Prop
 stop:Nat->Hp->Prop
end L2
variable {J:It}
namespace L2
open PySem PySem.Spec PyProof.Rows
def rJ (X:Cx) (aa:List (Addr×Obj)) (H:Hp) (b:Addr):Prop :=
 H b=none/\b≠X.env.locals/\b∉X.fs/\(b∈X.ex∨X.gb.heap.objs.size<=b)/\(∀ x c,X.env.cells.lookup x=some c->c≠b)/\∀ p∈X.pn++aa,p.1≠b
theorem Inv.i6 {σ:St} (I:Inv X aa σ H s) (hb:s.heap.objs.size<=b) (hn:H' b=none):rJ X aa H' b:=by
 refine ⟨hn,Xh (Qr I.lt hb),I.AR hb,.inr (Jl I.sz hb),λx c e z=>?_,λp hp z=>?_⟩
 ·obtain ⟨v,q⟩:=I.cell x c e
  exact absurd (Qr q.lt (by rw [z]; exact hb)) (Jo _)
 ·exact absurd (Qr (Qo (I.pin p hp).1) (by rw [z]; exact hb)) (Jo _)
structure Turn (P:Program) (w:World) (K:Rc) (tg:Expr) (J:It) (fp:List Addr) (it:Addr) (tn:Nat->Heap->Prop):Prop where
 mem:it∈fp
 obj:∀ i h,tn i h->∀ b∈fp,∃ o,h.get? b=some o/\∀ v,o.data≠.cell v
 keep:∀ i h h',tn i h->(∀ b∈fp,∀ o,h.get? b=some o->h'.get? b=some o)->tn i h'
 item:∀ (X:Cx),X.prog=P->X.w=w->X.K=K->X.calm=true->∀ (i:Nat) (aa:List (Addr×Obj)) (s:Shared) (σ:St) (H:Hp) (E:Value->Shared->Prop),Inv X aa σ H s->(∀ b∈fp,rJ X aa H b)->tn i s.heap->J.go i H ->
  wpAny (model P w) X.A (pyNext (.ref it)) (λr s1=>∃ u,r=some u /\
   wpAny (model P w) X.A (letOwnedTupleGo tg (.ref it) u) (λ_ s2=>∃ x H',Inv X aa σ H' s2/\bY x u/\J.kz i H x H'/\tn (i+1) s2.heap/\∀ b∈fp,H' b=none) E s1) E s
 done:∀ (X:Cx),X.prog=P->X.w=w->X.K=K->X.calm=true->∀ (i:Nat) (aa:List (Addr×Obj)) (s:Shared) (σ:St) (H:Hp) (E:Value->Shared->Prop),Inv X aa σ H s->(∀ b∈fp,rJ X aa H b)->tn i s.heap->J.stop i H ->
  wpAny (model P w) X.A (pyNext (.ref it)) (λr s1=>r=none/\Inv X aa σ H s1) E s
 self:∀ (A:Around) (i:Nat) (s:Shared) (Q:Value->Shared->Prop) (E:Value->Shared->Prop),tn i s.heap->Q (.ref it) s->wpAny (model P w) A (pyIter (.ref it)) Q E s
abbrev TI:=St->Hp->(It->Hp->Prop)->Prop
def RY (X:Cx) (aa:List (Addr×Obj)) (σ:St) (tg:Expr) (R:It->Hp->Prop) (EH:Value) (s2:Shared):Prop :=
 ∃ (it:Addr) (fp:List Addr) (tn:Nat->Heap->Prop) (J:It) (H':Hp),EH=.ref it/\Inv X aa σ H' s2/\Turn X.prog X.w X.K tg J fp it tn/\tn 0 s2.heap/\(∀ b∈fp,rJ X aa H' b)/\R J H'
def PI (X:Cx) (tg iter:Expr) (wi:TI):Prop :=
 ∀ (aa:List (Addr×Obj)) (s:Shared) (σ:St) (H:Hp) (R:It->Hp->Prop),Inv X aa σ H s->wi σ H R ->
  wpAny (model X.prog X.w) X.A (eval iter X.env) (λv s1=>wpAny (model X.prog X.w) X.A (pyIter v) (RY X aa σ tg R) X.xe s1) X.xe s
theorem yV {n:String} {vs:Array Value} {Q:Unit->Shared->Prop} (ho:s.heap.get? it=some o) (hc:o.cls=.type n) (hd:o.data=.fields vs) (hn : ["enumerate", "zip", "dict_itemiterator", "dict_reverseitemiterator", "odict_iterator", "itertools.zip_longest", "itertools.pairwise"].contains n=false) (hQ:Q () s):wpAny M A (letOwnedTupleGo tg (.ref it) u) Q E s:=by
 unfold letOwnedTupleGo
 cases tg <;> first
  | exact Rb hQ
  | (cases u <;> first
    | exact Rb hQ
    | (refine Ra (wpAny_load ho ?_)
       rw [hc,hd]
       show wpAny M A (if (["enumerate", "zip", "dict_itemiterator", "dict_reverseitemiterator", "odict_iterator", "itertools.zip_longest", "itertools.pairwise"].contains n && vs[0]?==some (rawInt _))=true then _ else _) Q E s
       rw [if_neg (by intro h; rw [hn,Zg] at h; cases h)]
       exact Rb hQ))
def u7 (K:Rc) (a:Addr):It :=
 ⟨λi H=>∃ xs x,ak K H a xs/\xs[i]?=some x,λi H x H'=>H'=H/\∀ xs,ak K H a xs->xs[i]?=some x,λi H=>∃ xs,ak K H a xs/\xs.length<=i⟩
def AG (K:Rc) (a:Addr):It :=
 ⟨λi H=>∃ xs x,aj K H a xs/\xs[i]?=some x,λi H x H'=>H'=H/\∀ xs,aj K H a xs->xs[i]?=some x,λi H=>∃ xs,aj K H a xs/\xs.length<=i⟩
def AH (lo:Int) (n:Nat):It:=⟨λi _=>i < n,λi H x H'=>H'=H/\x=.int (lo+i),λi _=>n<=i⟩
theorem aCP (a it:Addr):Turn P w K tg (u7 K a) [it] it (λi h=>h.IsListIter it a i) where
 mem:=by simp
 obj:=λi h st b hb=>by
  have e:b=it:=by simpa using hb
  subst e
  obtain ⟨o,e,c,d⟩:=st
  exact ⟨o,e,λv z=>by rw [d] at z; cases z⟩
 keep:=λi h h' st k=>st.at λo e=>k it (by simp) o e
 item:=by
  intro X hP hw hK hc i aa s σ H E I hf st hg
  subst hP hw hK
  obtain ⟨xs,x,hq,hx⟩:=hg
  obtain ⟨ae,rv,p,hz⟩:=I.list hq
  obtain ⟨u,hu,ru⟩:=rv.get hx
  obtain ⟨f0,f1,f2,f3,f4,f5⟩:=hf it (by simp)
  refine wpAny_pyNext_list_item st p.isList (x:=u) (by simpa using hu) λh' kr sb=>?_
  have I1:Inv X aa σ H { s with heap:=h' }:=I.turned (t':=s.toks) (λb o hb e=>(sb.2 b hb).trans e) f0 f1 f3 f4 f5
  obtain ⟨o,e,c,d⟩:=id kr
  exact ⟨u,rfl,yV (s:={ s with heap:=h' }) e c d (by decide) ⟨x,H,I1,ru,⟨rfl,λys hy=>by rw [I.me hy hq]; exact hx⟩,kr,λb hb=>(hf b hb).1⟩⟩
 done:=by
  intro X hP hw hK hc i aa s σ H E I hf st hg
  subst hP hw hK
  obtain ⟨xs,hq,hx⟩:=hg
  obtain ⟨ae,rv,p,hz⟩:=I.list hq
  obtain ⟨f0,f1,f2,f3,f4,f5⟩:=hf it (by simp)
  have hl:=rv.length
  exact wpAny_pyNext_list_end (I.ok.hd hc) st p.isList (by simp; omega) λh' eb=>⟨rfl,I.turned (t':=s.toks) (λb o hb e=>eb b o hb e) f0 f1 f3 f4 f5⟩
 self:=λ_ _ _ _ _ st h=>wpAny_pyIter_listiter st h
theorem aAV (a it:Addr):Turn P w K tg (AG K a) [it] it (λi h=>h.IsTupleIter it a i) where
 mem:=by simp
 obj:=λi h st b hb=>by
  have e:b=it:=by simpa using hb
  subst e
  obtain ⟨o,e,c,d⟩:=st
  exact ⟨o,e,λv z=>by rw [d] at z; cases z⟩
 keep:=λi h h' st k=>st.at λo e=>k it (by simp) o e
 item:=by
  intro X hP hw hK hc i aa s σ H E I hf st hg
  subst hP hw hK
  obtain ⟨xs,x,hq,hx⟩:=hg
  obtain ⟨ae,rv,p,hz⟩:=I.tuple hq
  obtain ⟨u,hu,ru⟩:=rv.get hx
  obtain ⟨f0,f1,f2,f3,f4,f5⟩:=hf it (by simp)
  refine wpAny_pyNext_tuple_item st (show s.heap.IsTuple a ae.toArray from p) (x:=u) (by simpa using hu) λh' kr sb=>?_
  have I1:Inv X aa σ H { s with heap:=h' }:=I.turned (t':=s.toks) (λb o hb e=>(sb.2 b hb).trans e) f0 f1 f3 f4 f5
  obtain ⟨o,e,c,d⟩:=id kr
  exact ⟨u,rfl,yV (s:={ s with heap:=h' }) e c d (by decide) ⟨x,H,I1,ru,⟨rfl,λys hy=>by rw [I.j7 hy hq]; exact hx⟩,kr,λb hb=>(hf b hb).1⟩⟩
 done:=by
  intro X hP hw hK hc i aa s σ H E I hf st hg
  subst hP hw hK
  obtain ⟨xs,hq,hx⟩:=hg
  obtain ⟨ae,rv,p,hz⟩:=I.tuple hq
  obtain ⟨f0,f1,f2,f3,f4,f5⟩:=hf it (by simp)
  have hl:=rv.length
  exact wpAny_pyNext_tuple_end (I.ok.hd hc) st (show s.heap.IsTuple a ae.toArray from p) (by simp; omega) λh' eb=>⟨rfl,I.turned (t':=s.toks) (λb o hb e=>eb b o hb e) f0 f1 f3 f4 f5⟩
 self:=λ_ _ _ _ _ st h=>wpAny_pyIter_tupleiter st h
theorem aAW (it:Addr) (lo:Int) (n:Nat):Turn P w K tg (AH lo n) [it] it (λi h=>IsRangeIter h it (lo+(i:Nat)*1) ((n:Int) - (i:Nat)) 1) where
 mem:=by simp
 obj:=λi h st b hb=>by
  have e:b=it:=by simpa using hb
  subst e
  exact ⟨_,st,λv z=>by
   have z':Data.fields _=Data.cell v:=z
   cases z'⟩
 keep:=λi h h' st k=>k it (by simp) _ st
 item:=by
  intro X hP hw hK hc i aa s σ H E I hf st hg
  subst hP hw hK
  obtain ⟨f0,f1,f2,f3,f4,f5⟩:=hf it (by simp)
  have W:=Walks.range (prog:=X.prog) (w:=X.w) (I.ok.hd hc) it lo 1 n
  refine W.item i s _ _ hg st λv h' tk hv kr kk=>?_
  obtain ⟨t,rfl⟩:=hv
  have I1:Inv X aa σ H { s with heap:=h',toks:=tk }:=I.turned (λb o hb e=>kk b o (by simpa using hb) e) f0 f1 f3 f4 f5
  refine ⟨_,rfl,yV (s:={ s with heap:=h',toks:=tk }) (n := "range_iterator") kr rfl rfl (by decide) ⟨.int (lo+i),H,I1,⟨t,?_⟩,⟨rfl,rfl⟩,kr,λb hb=>(hf b hb).1⟩⟩
  rw [Int.mul_one]
 done:=by
  intro X hP hw hK hc i aa s σ H E I hf st hg
  subst hP hw hK
  obtain ⟨f0,f1,f2,f3,f4,f5⟩:=hf it (by simp)
  exact wpAny_pyNext_range_end (I.ok.hd hc) st (by have:n<=i:=hg; omega) λh' eb=>⟨rfl,I.turned (t':=s.toks) (λb o hb e=>eb b o hb e) f0 f1 f3 f4 f5⟩
 self:=λ_ _ _ _ _ st h=>wpAny_pyIter_rangeiter st h
def I_ (K:Rc) (tl:TE):TI:=λσ H R=>tl σ H λx H1=>∃ a,x=.ref a/\(∃ xs,ak K H1 a xs)/\R (u7 K a) H1
def Ot (K:Rc) (tl:TE):TI:=λσ H R=>tl σ H λx H1=>∃ a,x=.ref a/\(∃ xs,aj K H1 a xs)/\R (AG K a) H1
theorem hJ {l:Expr} (hl:PE X l tl):PI X tg l (I_ X.K tl):=by
 intro aa s σ H R I h
 refine bf (hl aa s σ H _ I h) λv s1 au=>?_
 obtain ⟨x,H1,I1,r1,q1⟩:=au
 obtain ⟨a,e,⟨xs,hq⟩,q⟩:=q1
 subst e
 cases r1
 obtain ⟨ae,rv,p,hz⟩:=I1.list hq
 refine Ul p.isList ?_
 refine ⟨s1.heap.objs.size,[s1.heap.objs.size],_,_,H1,rfl,I1.kept (t':=s1.toks) λb o e=>Qa _ e,aCP a _,⟨_,Qg _ rfl,rfl,rfl⟩,λb hb=>?_,q⟩
 have e:b=s1.heap.objs.size:=by simpa using hb
 subst e
 exact I1.i6 (Qe _) (I1.aq.fresh (Qe _))
theorem iK {l:Expr} (hl:PE X l tl):PI X tg l (Ot X.K tl):=by
 intro aa s σ H R I h
 refine bf (hl aa s σ H _ I h) λv s1 au=>?_
 obtain ⟨x,H1,I1,r1,q1⟩:=au
 obtain ⟨a,e,⟨xs,hq⟩,q⟩:=q1
 subst e
 cases r1
 obtain ⟨ae,rv,p,hz⟩:=I1.tuple hq
 refine Md (show s1.heap.IsTuple a ae.toArray from p) ?_
 refine ⟨s1.heap.objs.size,[s1.heap.objs.size],_,_,H1,rfl,I1.kept (t':=s1.toks) λb o e=>Qa _ e,aAV a _,⟨_,Qg _ rfl,rfl,rfl⟩,λb hb=>?_,q⟩
 have e:b=s1.heap.objs.size:=by simpa using hb
 subst e
 exact I1.i6 (Qe _) (I1.aq.fresh (Qe _))
theorem aDW {σ:St} {R:It->Hp->Prop} {lo hi:Int} {t u v:Tok} {tk:Nat} (I:Inv X aa σ H s) (h1:-(2^62)<=lo) (h2:lo < 2^62) (h3:-(2^62)<=hi) (h4:hi < 2^62) (q:R (AH lo (hi - lo).toNat) H):wpAny (model X.prog X.w) X.A (pyIter (.ref s.heap.objs.size)) (RY X aa σ tg R) E { s with heap:=s.heap.push { cls:=.type "range",data:=.fields #[.int lo t,.int hi u,.int 1 v] },toks:=tk }:=by
 refine wpAny_pyIter_range (IsRange.new ..) (small_one h1 h2 h3 h4) ?_
 have I1:Inv X aa σ H { s with heap:=s.heap.push { cls:=.type "range",data:=.fields #[.int lo t,.int hi u,.int 1 v] },toks:=tk }:=I.kept λb o e=>Qa _ e
 refine ⟨(s.heap.push { cls:=.type "range",data:=.fields #[.int lo t,.int hi u,.int 1 v] }).objs.size,[(s.heap.push { cls:=.type "range",data:=.fields #[.int lo t,.int hi u,.int 1 v] }).objs.size],_,_,H,rfl,
  I1.kept (t':=tk) λb o e=>Qa _ e,aAW _ lo (hi - lo).toNat,?_,λb hb=>?_,q⟩
 ·have e1:lo+((0:Nat):Int)*1=lo:=by simp
  have e2:(((hi - lo).toNat:Nat):Int) - ((0:Nat):Int)=Builtin.Range.rangeSize lo hi 1:=by rw [rangeSize_one]; split <;> omega
  show IsRangeIter _ _ (lo+((0:Nat):Int)*1) ((((hi - lo).toNat:Nat):Int) - ((0:Nat):Int)) 1
  rw [e1,e2]
  exact Qg _ rfl
 ·have e:b=(s.heap.push { cls:=.type "range",data:=.fields #[.int lo t,.int hi u,.int 1 v] }).objs.size:=by simpa using hb
  subst e
  exact I1.i6 (Qe _) (I1.aq.fresh (Qe _))
def Z7 (ta:TA):TI:=λσ H R=>ta σ H λvs H1=>∃ j:Int,vs = [.int j]/\-(2^62)<=j/\j < 2^62/\R (AH 0 j.toNat) H1
theorem fT {a:Expr} {ta:TA} (hg:Gl X "range") (hm:X.mg "range" = none) (ha:PA X [a] ta) (hs:starEach [a] X.env = [(false,eval a X.env)]:=by rfl):PI X tg (.Call (.Name "range" p) [a] [] pos) (Z7 ta):=by
 intro aa s σ H R I h
 refine Call_ (jI I hg hm boot_range (PyProof.Rows.callWith_type1 (bf (ha pos aa s σ H _ I h) λus s1 au=>?_) hs rfl))
 obtain ⟨vs,H1,I1,r1,q1⟩:=au
 obtain ⟨j,e,q1,q2,q⟩:=q1
 subst e
 cases r1 with
 | cons r rr =>
  cases rr
  obtain ⟨t,rfl⟩:=r
  exact call_range_1 (aDW I1 (by omega) (by omega) q1 q2 (by simpa using q))
def IF (wi:TI) (g:TG) (tb:TS):TS:=λD σ H=>wi σ H λJ H1=>∃ W:Nat->Nat->St->Hp->Prop,(∃ m,W 0 m σ H1)/\∀ i m σ H,W i m σ H ->
 (J.stop i H/\D.nx σ H)∨(J.go i H/\∃ N:St->Hp->Prop,(∀ ao H',N ao H'->∃ m',m' < m/\W (i+1) m' ao H')/\∀ x H',J.kz i H x H'->g x σ H' λar H2=>tb { D with nx:=N,ct:=N,bk:=D.nx } ar H2)
def pZ (fp:List Addr) (h:Heap):List (Addr×Obj):=fp.filterMap λb=>(h.get? b).map λo=>(b,o)
theorem oE (hb:b∈fp) (e:h.get? b=some o):(b,o)∈pZ fp h:=Wn.mpr ⟨b,hb,by rw [e]; rfl⟩
theorem vK {p:Addr×Obj} (hp:p∈pZ fp h):p.1∈fp/\h.get? p.1=some p.2:=by
 obtain ⟨b,hb,e⟩:=Wn.mp hp
 cases q:h.get? b with
 | none=>rw [q] at e; cases e
 | some o =>
  rw [q] at e
  have e':(b,o)=p:=Option.some.inj e
  subst e'
  exact ⟨hb,q⟩
theorem Inv.pinned {σ:St} (I:Inv X aa σ H s) (hf:∀ b∈fp,rJ X aa H b) (ho:∀ b∈fp,∃ o,s.heap.get? b=some o/\∀ v,o.data≠.cell v):Inv X (aa++pZ fp s.heap) σ H s :=
 I.gz λp hp=>(Qw.mp hp).elim (λz=>I.pin p (Ja _ z)) λz=>by
  obtain ⟨hb,e⟩:=vK z
  obtain ⟨f0,f1,f2,_⟩:=hf p.1 hb
  obtain ⟨o,e',d⟩:=ho p.1 hb
  rw [e] at e'; cases e'
  exact ⟨e,f0,f1,f2,d⟩
theorem Inv.g9 {pl:List (Addr×Obj)} {σ:St} (I:Inv X (aa++pl) σ H s):Inv X aa σ H s:=I.gz λp hp=>I.pin p (Ja _ (Jy _ hp))
theorem eS {wi:TI} (hp:PassesOwn (model X.prog X.w) X.A X.env X.xe) (hc:X.calm=true) (hi:PI X tg iter wi) (hg:PG X tg g) (hb:kc X body tb) (hs:∀ x,foldedSetIterable iter X.env x=pure x:=by intro _; rfl):PS X (.For tg iter body [] pos) (IF wi g tb):=by
 intro aa s σ H D I h
 refine wpAny_For (bf (hi aa s σ H _ I h) λv s1 h1=>bf h1 λEH s2 h2=>?_) hs
 obtain ⟨it,fp,tn,J,H2,e,I2,T,fh,f2,W,⟨m0,w0⟩,turn⟩:=h2
 subst e
 -- what stays true of the iterator's objects through the loop
 have nj:∀ {H':Hp},(∀ b∈fp,H' b=none)->∀ b∈fp,rJ X aa H' b:=λhn b hb=>⟨hn b hb,(f2 b hb).2⟩
 refine codeAny_forLoop_any (λn s'=>∃ i ao H',Inv X aa ao H' s'/\tn i s'.heap/\(∀ b∈fp,H' b=none)/\W i n ao H') ?_ m0 ⟨0,σ,H2,I2,fh,λb hb=>(f2 b hb).1,w0⟩
 rintro n s3 ⟨i,ik,H3,I3,Cb,Ny,w3⟩
 rcases turn i n ik H3 w3 with ⟨stop,qn⟩ | ⟨go,N,hN,step⟩
 ·refine Uj hp (bf (T.done X rfl rfl rfl hc i aa s3 ik H3 X.xe I3 (nj Ny) Cb stop) λr s4 au=>?_)
  obtain ⟨hr,I4⟩:=au
  subst hr
  exact Vb ⟨ik,H3,I4,qn⟩
 ·refine Uj hp (bf (T.item X rfl rfl rfl hc i aa s3 ik H3 X.xe I3 (nj Ny) Cb go) λr s4 au=>?_)
  obtain ⟨u,hr,h4⟩:=au
  subst hr
  refine Uj hp (bf h4 λ_ s5 au=>?_)
  obtain ⟨x,H5,I5,r5,y5,Bk,Fe⟩:=au
  have I5':=I5.pinned (nj Fe) (T.obj _ _ Bk)
  refine Uj hp (bf (hg _ s5 ik H5 x u _ I5' r5 (step x H5 y5)) λ_ s6 au=>?_)
  obtain ⟨K3,H6,I6,q6⟩:=au
  refine Uj hp (bf (hb _ s6 K3 H6 _ I6 q6) λf s7 q7=>?_)
  have again:∀ {rg:St} {H7:Hp},Inv X (aa++pZ fp s5.heap) rg H7 s7->N rg H7->∃ m,m < n/\∃ i ao H',Inv X aa ao H' s7/\tn i s7.heap/\(∀ b∈fp,H' b=none)/\W i m ao H':=λ{rg H7} I7 n7=>by
   obtain ⟨m',hm,w7⟩:=hN rg H7 n7
   refine ⟨m',hm,i+1,rg,H7,I7.g9,T.keep _ _ _ Bk λb hb o e=>(I7.pin (b,o) (Ja _ (Ja _ (oE hb e)))).1,λb hb=>?_,w7⟩
   obtain ⟨o,e,d⟩:=T.obj _ _ Bk b hb
   exact (I7.pin (b,o) (Ja _ (Ja _ (oE hb e)))).2.1
  cases f with
  | next=>obtain ⟨rg,H7,I7,n7⟩:=q7; exact again I7 n7
  | cont=>obtain ⟨rg,H7,I7,n7⟩:=q7; exact again I7 n7
  | brk=>obtain ⟨rg,H7,I7,q7⟩:=q7; exact ⟨rg,H7,I7.g9,q7⟩
  | ret v=>obtain ⟨x7,rg,H7,I7,r7,q7⟩:=q7; exact ⟨x7,rg,H7,I7.g9,r7,q7⟩
theorem jJ {σ:St} (Pv:Nat->St->Hp->Prop) (h0:Pv 0 σ H) (hl:∀ i σ H,i<=xs.length->Pv i σ H->ak K H a xs) (hs:∀ i x σ H,xs[i]?=some x->Pv i σ H->g x σ H λar H2=>tb { D with nx:=Pv (i+1),ct:=Pv (i+1),bk:=D.nx } ar H2) (hd:∀ σ H,Pv xs.length σ H->D.nx σ H) :
  ∃ W:Nat->Nat->St->Hp->Prop,(∃ m,W 0 m σ H)/\∀ i m σ H,W i m σ H ->
   ((u7 K a).stop i H/\D.nx σ H)∨((u7 K a).go i H/\∃ N:St->Hp->Prop,(∀ ao H',N ao H'->∃ m',m' < m/\W (i+1) m' ao H')/\∀ x H',(u7 K a).kz i H x H'->g x σ H' λar H2=>tb { D with nx:=N,ct:=N,bk:=D.nx } ar H2):=by
 refine ⟨λi m σ H=>m=xs.length - i/\i<=xs.length/\Pv i σ H,⟨xs.length,by simp,Jb _,h0⟩,?_⟩
 rintro i m σ H ⟨rfl,hi,p⟩
 have q:=hl i σ H hi p
 by_cases ax:i < xs.length
 ·refine .inr ⟨⟨xs,xs[i],q,by simp [ax]⟩,Pv (i+1),λao H' p'=>⟨xs.length - (i+1),by omega,rfl,ax,p'⟩,λx H' y=>?_⟩
  obtain ⟨e,y⟩:=y
  subst e
  exact hs i x σ _ (y xs q) p
 ·have e:i=xs.length:=by omega
  subst e
  exact .inl ⟨⟨xs,q,Qe _⟩,hd σ H p⟩
theorem xA {σ:St} (Pv:Nat->St->Hp->Prop) (h0:Pv 0 σ H) (hl:∀ i σ H,i<=xs.length->Pv i σ H->aj K H a xs) (hs:∀ i x σ H,xs[i]?=some x->Pv i σ H->g x σ H λar H2=>tb { D with nx:=Pv (i+1),ct:=Pv (i+1),bk:=D.nx } ar H2) (hd:∀ σ H,Pv xs.length σ H->D.nx σ H) :
  ∃ W:Nat->Nat->St->Hp->Prop,(∃ m,W 0 m σ H)/\∀ i m σ H,W i m σ H ->
   ((AG K a).stop i H/\D.nx σ H)∨((AG K a).go i H/\∃ N:St->Hp->Prop,(∀ ao H',N ao H'->∃ m',m' < m/\W (i+1) m' ao H')/\∀ x H',(AG K a).kz i H x H'->g x σ H' λar H2=>tb { D with nx:=N,ct:=N,bk:=D.nx } ar H2):=by
 refine ⟨λi m σ H=>m=xs.length - i/\i<=xs.length/\Pv i σ H,⟨xs.length,by simp,Jb _,h0⟩,?_⟩
 rintro i m σ H ⟨rfl,hi,p⟩
 have q:=hl i σ H hi p
 by_cases ax:i < xs.length
 ·refine .inr ⟨⟨xs,xs[i],q,by simp [ax]⟩,Pv (i+1),λao H' p'=>⟨xs.length - (i+1),by omega,rfl,ax,p'⟩,λx H' y=>?_⟩
  obtain ⟨e,y⟩:=y
  subst e
  exact hs i x σ _ (y xs q) p
 ·have e:i=xs.length:=by omega
  subst e
  exact .inl ⟨⟨xs,q,Qe _⟩,hd σ H p⟩
theorem kM {lo:Int} {σ:St} (Pv:Nat->St->Hp->Prop) (h0:Pv 0 σ H) (hs:∀ i σ H,i < n->Pv i σ H->g (.int (lo+i)) σ H λar H2=>tb { D with nx:=Pv (i+1),ct:=Pv (i+1),bk:=D.nx } ar H2) (hd:∀ σ H,Pv n σ H->D.nx σ H) :
  ∃ W:Nat->Nat->St->Hp->Prop,(∃ m,W 0 m σ H)/\∀ i m σ H,W i m σ H ->
   ((AH lo n).stop i H/\D.nx σ H)∨((AH lo n).go i H/\∃ N:St->Hp->Prop,(∀ ao H',N ao H'->∃ m',m' < m/\W (i+1) m' ao H')/\∀ x H',(AH lo n).kz i H x H'->g x σ H' λar H2=>tb { D with nx:=N,ct:=N,bk:=D.nx } ar H2):=by
 refine ⟨λi m σ H=>m=n - i/\i<=n/\Pv i σ H,⟨n,by simp,Jb _,h0⟩,?_⟩
 rintro i m σ H ⟨rfl,hi,p⟩
 by_cases ax:i < n
 ·refine .inr ⟨ax,Pv (i+1),λao H' p'=>⟨n - (i+1),by omega,rfl,ax,p'⟩,λx H' y=>?_⟩
  obtain ⟨e,y⟩:=y
  subst e y
  exact hs i σ _ ax p
 ·have e:i=n:=by omega
  subst e
  exact .inl ⟨Qe _,hd σ H p⟩
abbrev R2:=V->V->Hp->VK->Prop
end L2
variable {r:R2}
namespace L2
open PySem PySem.Spec PyProof.Rows
def dr (X:Cx) (f:Value->Value->Sem Value) (r:R2):Prop :=
 ∀ (aa:List (Addr×Obj)) (s:Shared) (σ:St) (H:Hp) (x y:V) (v u:Value) (Q:VK),Inv X aa σ H s->bY x v->bY y u->r x y H Q ->
  wpAny (model X.prog X.w) X.A (f v u) (EP X aa σ Q) X.xe s
def JP (X:Cx) (f:Value->Sem Value) (r:V->Hp->VK->Prop):Prop :=
 ∀ (aa:List (Addr×Obj)) (s:Shared) (σ:St) (H:Hp) (x:V) (v:Value) (Q:VK),Inv X aa σ H s->bY x v->r x H Q ->
  wpAny (model X.prog X.w) X.A (f v) (EP X aa σ Q) X.xe s
def eN (X:Cx) (f:Value) (r:List V->Hp->VK->Prop):Prop :=
 ∀ (aa:List (Addr×Obj)) (s:Shared) (σ:St) (H:Hp) (xs:List V) (us:List Value) (Q:VK),Inv X aa σ H s->bR xs us->r xs H Q ->
  wpAny (model X.prog X.w) X.A (call f us) (EP X aa σ Q) X.xe s
def YK (X:Cx) (r:V->Hp->(Bool->Hp->Prop)->Prop):Prop :=
 ∀ (aa:List (Addr×Obj)) (s:Shared) (σ:St) (H:Hp) (x:V) (v:Value) (Q:Bool->Hp->Prop),Inv X aa σ H s->bY x v->r x H Q ->
  wpAny (model X.prog X.w) X.A (truthy v) (TP X aa σ Q) X.xe s
def iy (r:R2) (ta tb:TE):TE:=λσ H Q=>ta σ H λx H1=>tb σ H1 λy H2=>r x y H2 Q
def Ld (r:V->Hp->VK->Prop) (ta:TE):TE:=λσ H Q=>ta σ H λx H1=>r x H1 Q
def rI (C:Int->Int->Prop) (g:Int->Int->V):R2:=λx y H Q=>∃ i j,x=.int i/\y=.int j/\C i j/\Q (g i j) H
def ur (g:Int->Int->V):R2:=λx y H Q=>∃ i j,x=.int i/\y=.int j/\Q (g i j) H
def rU (g:Int->V):V->Hp->VK->Prop:=λx H Q=>∃ i,x=.int i/\Q (g i) H
section
variable {a b c:Expr} {tb tc:TE}
theorem IE (ha:PE X a ta) (hb:PE X b tb) {σ:St} {R:V->V->Hp->Prop} (I:Inv X aa σ H s) (h:ta σ H λx H1=>tb σ H1 λy H2=>R x y H2) {f:Value->Value->Sem Value} (hf:∀ v u s2 x y H2,Inv X aa σ H2 s2->bY x v->bY y u->R x y H2->wpAny (model X.prog X.w) X.A (f v u) Q X.xe s2) :
  wpAny (model X.prog X.w) X.A (eval a X.env) (λv b_=>wpAny (model X.prog X.w) X.A (eval b X.env) (λu ip=>wpAny (model X.prog X.w) X.A (f v u) Q X.xe ip) X.xe b_) X.xe s:=by
 refine bf (ha aa s σ H _ I h) λv s1 au=>?_
 obtain ⟨x,H1,I1,r1,q1⟩:=au
 refine bf (hb aa s1 σ H1 _ I1 q1) λu s2 au=>?_
 obtain ⟨y,H2,I2,r2,q2⟩:=au
 exact hf v u s2 x y H2 I2 r1 r2 q2
theorem bE {op:Operator} (ho:dr X (binaryOp op) r) (ha:PE X a ta) (hb:PE X b tb):PE X (.BinOp a op b pos) (iy r ta tb):=by
 intro aa s σ H Q I h
 exact wpAny_BinOp (IE ha hb I h λv u s2 x y H2 I2 rx ry q=>ho aa s2 σ H2 x y v u Q I2 rx ry q)
theorem sK {op:UnaryOp} {r:V->Hp->VK->Prop} (ho:JP X (unaryOp op) r) (ha:PE X a ta):PE X (.UnaryOp op a pos) (Ld r ta):=by
 intro aa s σ H Q I h
 refine UnaryOp_ (bf (ha aa s σ H _ I h) λv s1 au=>?_)
 obtain ⟨x,H1,I1,r1,q1⟩:=au
 exact ho aa s1 σ H1 x v Q I1 r1 q1
theorem Eu {f:Value->Value->Sem Value} {C:Int->Int->Prop} {g:Int->Int->Int}
  (rule:∀ (i j:Int) (t u:Tok) (s:Shared) (Q:Value->Shared->Prop) (E:Value->Shared->Prop),C i j->Q (.int (g i j) s.toks) { s with toks:=s.toks+1 }->wpAny (model X.prog X.w) X.A (f (.int i t) (.int j u)) Q E s) :
  dr X f (rI C λi j=>.int (g i j)):=by
 intro aa s σ H x y v u Q I rx ry h
 obtain ⟨i,j,rfl,rfl,hc,q⟩:=h
 obtain ⟨t,rfl⟩:=rx
 obtain ⟨t',rfl⟩:=ry
 exact rule i j t t' s _ _ hc ⟨.int (g i j),H,I.tok _,⟨_,rfl⟩,q⟩
theorem OU {f:Value->Value->Sem Value} {g:Int->Int->Int}
  (rule:∀ (i j:Int) (t u:Tok) (s:Shared) (Q:Value->Shared->Prop) (E:Value->Shared->Prop),Q (.int (g i j) s.toks) { s with toks:=s.toks+1 }->wpAny (model X.prog X.w) X.A (f (.int i t) (.int j u)) Q E s) :
  dr X f (ur λi j=>.int (g i j)):=by
 intro aa s σ H x y v u Q I rx ry h
 obtain ⟨i,j,rfl,rfl,q⟩:=h
 obtain ⟨t,rfl⟩:=rx
 obtain ⟨t',rfl⟩:=ry
 exact rule i j t t' s _ _ ⟨.int (g i j),H,I.tok _,⟨_,rfl⟩,q⟩
theorem Fo {f:Value->Value->Sem Value} {g:Int->Int->Bool}
  (rule:∀ (i j:Int) (t u:Tok) (s:Shared) (Q:Value->Shared->Prop) (E:Value->Shared->Prop),Q (.bool (g i j)) s->wpAny (model X.prog X.w) X.A (f (.int i t) (.int j u)) Q E s) :
  dr X f (ur λi j=>.bl (g i j)):=by
 intro aa s σ H x y v u Q I rx ry h
 obtain ⟨i,j,rfl,rfl,q⟩:=h
 obtain ⟨t,rfl⟩:=rx
 obtain ⟨t',rfl⟩:=ry
 exact rule i j t t' s _ _ ⟨.bl (g i j),H,I,rfl,q⟩
def OT (i j:Int):Prop:=0<=j/\j<=1000000/\i.natAbs < 2^64
def ID (i j:Int):Prop:=(-(2^64) < i/\i < 2^64)∨(-(2^64) < j/\j < 2^64)
theorem ID.ok {i j:Int} (h:ID i j):IntMulOk i j:=by
 rcases h with ⟨h1,h2⟩ | ⟨h1,h2⟩
 ·exact .of_left (intBits_le_64 h1 h2)
 ·exact .of_right (intBits_le_64 h1 h2)
theorem eA:dr X (binaryOp .Add) (ur λi j=>.int (i+j)):=OU λ_ _ _ _ _ _ _ q=>add_int q
theorem PM:dr X (binaryOp .Sub) (ur λi j=>.int (i - j)):=OU λ_ _ _ _ _ _ _ q=>sub_int q
theorem kD:dr X (binaryOp .Mult) (rI ID λi j=>.int (i*j)):=Eu λ_ _ _ _ _ _ _ hc q=>mul_int q hc.ok
theorem lU:dr X (binaryOp .Mod) (rI (λ_ j=>0 < j) λi j=>.int (i % j)):=Eu λi j _ _ _ _ _ hc q=>by
 have h1:(0:Int) < j:=hc
 exact mod_int' (by omega) (by rw [Int.fmod_eq_emod_of_nonneg i (by omega)]; exact q)
theorem JM:dr X (binaryOp .Pow) (rI OT λi j=>.int (i^j.toNat)):=Eu λ_ _ _ _ _ _ _ hc q=>pow_int_small hc.1 hc.2.1 hc.2.2 q
theorem SA {f:Value->Sem Value} {g:Int->Int}
  (rule:∀ (i:Int) (t:Tok) (s:Shared) (Q:Value->Shared->Prop) (E:Value->Shared->Prop),Q (.int (g i) s.toks) { s with toks:=s.toks+1 }->wpAny (model X.prog X.w) X.A (f (.int i t)) Q E s) :
  JP X f (rU λi=>.int (g i)):=by
 intro aa s σ H x v Q I rx h
 obtain ⟨i,rfl,q⟩:=h
 obtain ⟨t,rfl⟩:=rx
 exact rule i t s _ _ ⟨.int (g i),H,I.tok _,⟨_,rfl⟩,q⟩
theorem oF:JP X (unaryOp .USub) (rU λi=>.int (-i)):=SA λ_ _ _ _ _ q=>neg_int q
def OQ:V->V->Bool
 | .bw,.bw=>true | .bw,.int _=>true | .int _,.bw=>true | .bw,.bl _=>true | .bl _,.bw=>true | .bw,.str _=>true | .str _,.bw=>true
 | .int _,.int _=>true | .bl _,.bl _=>true | .str _,.str _=>true | .oy _,.oy _=>true
 | .int _,.str _=>true | .str _,.int _=>true | .bl _,.str _=>true | .str _,.bl _=>true
 | _,_=>false
def S6:R2:=λx y H Q=>OQ x y=true/\Q (.bl (decide (x=y))) H
def S5:R2:=λx y H Q=>OQ x y=true/\Q (.bl (!decide (x=y))) H
theorem QU {i j:Int}:decide (V.int i=V.int j)=(i==j):=by
 rw [Xj]
 simp
theorem PL {i j:Bool}:decide (V.bl i=V.bl j)=(i==j):=by
 rw [Xj]
 simp
theorem QT {i j:Str}:decide (V.str i=V.str j)=(i==j):=by
 rw [Xj]
 simp
theorem QS {i j:Array UInt8}:decide (V.oy i=V.oy j)=(i.toList==j.toList):=by
 rw [Xj]
 cases i
 cases j
 simp
theorem cF {σ:St} {Q:VK} {k k':Bool} (I:Inv X aa σ H s) (q:Q (.bl k) H) (e:k=k'):EP X aa σ Q (.bool k') s:=by
 subst e
 exact ⟨.bl k,H,I,rfl,q⟩
theorem gL:dr X (compareOp .Eq) S6:=by
 intro aa s σ H x y v u Q I rx ry h
 obtain ⟨hs,q⟩:=h
 cases x with
 | bw =>
  cases rx
  cases y with
  | bw=>cases ry; exact RaT (cF I q (by simp))
  | bl j=>cases ry; exact RaU (cF I q (by simp))
  | int j=>obtain ⟨t',rfl⟩:=ry; exact RaV (cF I q (by simp))
  | str j=>obtain ⟨t',rfl⟩:=ry; exact RaW (cF I q (by simp))
  | _=>exact absurd (show false=true from hs) Qs
 | bl i =>
  cases rx
  cases y with
  | bw=>cases ry; exact RaX (cF I q (by simp))
  | bl j=>cases ry; exact eq_bool (cF I q PL)
  | str j=>obtain ⟨t',rfl⟩:=ry; exact RaI (cF I q (by simp))
  | _=>exact absurd (show false=true from hs) Qs
 | int i =>
  obtain ⟨t,rfl⟩:=rx
  cases y with
  | bw=>cases ry; exact RaY (cF I q (by simp))
  | int j=>obtain ⟨t',rfl⟩:=ry; exact eq_int (cF I q QU)
  | str j=>obtain ⟨t',rfl⟩:=ry; exact RaJ (cF I q (by simp))
  | _=>exact absurd (show false=true from hs) Qs
 | str i =>
  obtain ⟨t,rfl⟩:=rx
  cases y with
  | bw=>cases ry; exact RaZ (cF I q (by simp))
  | bl j=>cases ry; exact RaK (cF I q (by simp))
  | int j=>obtain ⟨t',rfl⟩:=ry; exact RaL (cF I q (by simp))
  | str j=>obtain ⟨t',rfl⟩:=ry; exact eq_str (cF I q QT)
  | _=>exact absurd (show false=true from hs) Qs
 | oy i =>
  obtain ⟨t,rfl⟩:=rx
  cases y with
  | oy j=>obtain ⟨t',rfl⟩:=ry; exact PySem.W.eq_bytes (cF I q QS)
  | _=>exact absurd (show false=true from hs) Qs
 | _=>cases y <;> exact absurd (show false=true from hs) Qs
theorem lV:dr X (compareOp .NotEq) S5:=by
 intro aa s σ H x y v u Q I rx ry h
 obtain ⟨hs,q⟩:=h
 cases x with
 | bw =>
  cases rx
  cases y with
  | bw=>cases ry; exact Ra0 (cF I q (by simp))
  | bl j=>cases ry; exact Ra1 (cF I q (by simp))
  | int j=>obtain ⟨t',rfl⟩:=ry; exact Ra2 (cF I q (by simp))
  | str j=>obtain ⟨t',rfl⟩:=ry; exact Ra3 (cF I q (by simp))
  | _=>exact absurd (show false=true from hs) Qs
 | bl i =>
  cases rx
  cases y with
  | bw=>cases ry; exact Ra4 (cF I q (by simp))
  | bl j=>cases ry; exact ne_bool (cF I q (congrArg not PL))
  | str j=>obtain ⟨t',rfl⟩:=ry; exact RaM (cF I q (by simp))
  | _=>exact absurd (show false=true from hs) Qs
 | int i =>
  obtain ⟨t,rfl⟩:=rx
  cases y with
  | bw=>cases ry; exact Ra5 (cF I q (by simp))
  | int j=>obtain ⟨t',rfl⟩:=ry; exact ne_int (cF I q (congrArg not QU))
  | str j=>obtain ⟨t',rfl⟩:=ry; exact RaN (cF I q (by simp))
  | _=>exact absurd (show false=true from hs) Qs
 | str i =>
  obtain ⟨t,rfl⟩:=rx
  cases y with
  | bw=>cases ry; exact Ra6 (cF I q (by simp))
  | bl j=>cases ry; exact RaO (cF I q (by simp))
  | int j=>obtain ⟨t',rfl⟩:=ry; exact RaP (cF I q (by simp))
  | str j=>obtain ⟨t',rfl⟩:=ry; exact ne_str (cF I q (congrArg not QT))
  | _=>exact absurd (show false=true from hs) Qs
 | oy i =>
  obtain ⟨t,rfl⟩:=rx
  cases y with
  | oy j=>obtain ⟨t',rfl⟩:=ry; exact PySem.W.ne_bytes (cF I q (congrArg not QS))
  | _=>exact absurd (show false=true from hs) Qs
 | _=>cases y <;> exact absurd (show false=true from hs) Qs
theorem yW:dr X (compareOp .Lt) (ur λi j=>.bl (decide (i < j))):=Fo λ_ _ _ _ _ _ _ q=>lt_int q
theorem vL:dr X (compareOp .LtE) (ur λi j=>.bl (decide (i<=j))):=Fo λ_ _ _ _ _ _ _ q=>le_int q
theorem FF:dr X (compareOp .Gt) (ur λi j=>.bl (decide (j < i))):=Fo λ_ _ _ _ _ _ _ q=>gt_int q
theorem yX:dr X (compareOp .GtE) (ur λi j=>.bl (decide (j<=i))):=Fo λ_ _ _ _ _ _ _ q=>ge_int q
theorem υ:dr X (compareOp .Is) (λx y H Q=>y=.bw/\Q (.bl (decide (x=.bw))) H):=by
 intro aa s σ H x y v u Q I rx ry h
 obtain ⟨rfl,q⟩:=h
 cases ry
 refine is_none_gen (cF I q ?_)
 cases x <;> first
  | (cases rx; rfl)
  | (obtain ⟨t,rfl⟩:=rx; rfl)
theorem bD (b:Expr) (h:op≠.In:=by decide) (h2:op≠.NotIn:=by decide):behindInMarks op b=false:=by
 have e1:(op==CmpOp.In)=false:=by cases op <;> first | rfl | exact absurd rfl h
 have e2:(op==CmpOp.NotIn)=false:=by cases op <;> first | rfl | exact absurd rfl h2
 cases b <;> simp [behindInMarks,e1,e2]
theorem iU (ho:dr X (compareOp op) r) (ha:PE X a ta) (hb:PE X b tb) (hm:behindInMarks op b=false):PE X (.Compare a [op] [b] pos) (iy r ta tb):=by
 intro aa s σ H Q I h
 exact wpAny_Compare1 (IE ha hb I h λv u s2 x y H2 I2 rx ry q=>ho aa s2 σ H2 x y v u Q I2 rx ry q) hm
def Pb (t:TE):TT:=λσ H Q=>t σ H λx H'=>∃ k,x=.bl k/\Q k H'
theorem bB (ho:dr X (compareOp op) r) (ha:PE X a ta) (hb:PE X b tb) (hm:behindInMarks op b=false):PT X (.Compare a [op] [b] pos) (Pb (iy r ta tb)):=by
 intro aa s σ H Q I h
 refine Raq (bf (ha aa s σ H _ I h) λv s1 ⟨x,H1,I1,r1,q1⟩=>bf (hb aa s1 σ H1 _ I1 q1) λu s2 ⟨y,H2,I2,r2,q2⟩ =>
  bf (ho aa s2 σ H2 x y v u _ I2 r1 r2 q2) λc s3 ⟨z,H3,I3,r3,k,e,q3⟩=>?_) hm
 subst e
 cases r3
 exact Ry ⟨H3,I3,q3⟩
def PJ (r r':R2) (ta tb tc:TE):TE:=λσ H Q=>ta σ H λx H1=>tb σ H1 λy H2=>r x y H2 λz H3=>∃ k,z=.bl k /\
 (if k=true then tc σ H3 λw' H4=>r' y w' H4 Q else Q (.bl false) H3)
theorem aD0 {z_:CmpOp} {r':R2} (ho:dr X (compareOp op) r) (gn:dr X (compareOp z_) r') (ha:PE X a ta) (hb:PE X b tb) (hc:PE X c tc) (hm:lastMarks [op,z_] [b,c]=false:=by with_unfolding_all rfl):PE X (.Compare a [op,z_] [b,c] pos) (PJ r r' ta tb tc):=by
 intro aa s σ H Q I h
 refine Compare_chain (bf (ha aa s σ H _ I h) λv s1 ⟨x,H1,I1,r1,q1⟩=>chain_link (bf (hb aa s1 σ H1 _ I1 q1) λu s2 ⟨y,H2,I2,r2,q2⟩ =>
  bf (ho aa s2 σ H2 x y v u _ I2 r1 r2 q2) λd s3 ⟨z,H3,I3,r3,k,e,q3⟩=>?_)) hm
 subst e
 cases r3
 refine Ry ?_
 cases k with
 | false=>exact ite_ff ⟨.bl false,H3,I3,rfl,q3⟩
 | true=>exact ite_tt (chain_last (bf (hc aa s3 σ H3 _ I3 q3) λw' s4 ⟨z',H4,I4,r4,q4⟩=>gn aa s4 σ H4 y z' u w' Q I4 r2 r4 q4))
theorem aD1 {z_:CmpOp} {r':R2} (ho:dr X (compareOp op) r) (gn:dr X (compareOp z_) r') (ha:PE X a ta) (hb:PE X b tb) (hc:PE X c tc) (hm:lastMarks [op,z_] [b,c]=false:=by with_unfolding_all rfl):PT X (.Compare a [op,z_] [b,c] pos) (Pb (PJ r r' ta tb tc)):=by
 intro aa s σ H Q I h
 refine isTrue_chain (bf (ha aa s σ H _ I h) λv s1 ⟨x,H1,I1,r1,q1⟩=>test_link (bf (hb aa s1 σ H1 _ I1 q1) λu s2 ⟨y,H2,I2,r2,q2⟩ =>
  bf (ho aa s2 σ H2 x y v u _ I2 r1 r2 q2) λd s3 ⟨z,H3,I3,r3,k,e,q3⟩=>?_)) hm
 subst e
 cases r3
 refine Ry ?_
 cases k with
 | false =>
  obtain ⟨k',e',q'⟩:=q3
  cases e'
  exact ite_ff ⟨H3,I3,q'⟩
 | true =>
  refine ite_tt (test_last (bf (hc aa s3 σ H3 _ I3 q3) λw' s4 ⟨z',H4,I4,r4,q4⟩=>bf (gn aa s4 σ H4 y z' u w' _ I4 r2 r4 q4) λd' s5 au=>?_))
  obtain ⟨z2,H5,I5,r5,k2,e2,q5⟩:=au
  subst e2
  cases r5
  exact Ry ⟨H5,I5,q5⟩
def OP (K:Rc) (x:V) (H:Hp) (k:Bool):Prop :=
 match x with
 | .bw=>k=false
 | .bl b=>k=b
 | .int i=>k=(i !=0)
 | .str y=>y.length<=sizeLine/\k=((y.length:Int) !=0)
 | .oy y=>y.size<=sizeLine/\k=((y.size:Int) !=0)
 | .ref p=>(∃ xs,ak K H p xs/\k=!xs.isEmpty)∨(∃ xs,aj K H p xs/\k=!xs.isEmpty)∨∃ kvs,H p=some (.dK kvs)/\k=!kvs.isEmpty
 | _=>False
theorem aAY {kvs:List (κ×V)} {vs:List (κ×Value)} (r:KV kvs vs):(!vs.isEmpty)=!kvs.isEmpty:=by
 cases r <;> rfl
theorem sL {ae:List Value} (r:bR xs ae):(!ae.toArray.isEmpty)=!xs.isEmpty:=by
 cases r <;> simp
theorem sM:(sizeLine:Nat) < 2^63:=by rw [Rg]; decide
theorem τ:YK X (λx H Q=>∃ k,OP X.K x H k/\Q k H):=by
 intro aa s σ H x v Q I rx h
 obtain ⟨k,e,q⟩:=h
 have hl:=sM
 have hs:sizeLine=16777216:=Rg
 cases x with
 | bw =>
  cases rx
  have e':k=false:=e
  subst e'
  exact truthy_none ⟨H,I,q⟩
 | bl b =>
  cases rx
  have e':k=b:=e
  subst e'
  exact Ry ⟨H,I,q⟩
 | int i =>
  obtain ⟨t,rfl⟩:=rx
  have e':k=(i !=0):=e
  subst e'
  exact PySem.P.truthy_int ⟨H,I,q⟩
 | str y =>
  obtain ⟨t,rfl⟩:=rx
  obtain ⟨hy,e'⟩:y.length<=sizeLine/\k=((y.length:Int) !=0):=e
  subst e'
  exact PySem.P.truthy_str (by omega) ⟨H,I.tok _,q⟩
 | oy y =>
  obtain ⟨t,rfl⟩:=rx
  obtain ⟨hy,e'⟩:y.size<=sizeLine/\k=((y.size:Int) !=0):=e
  subst e'
  exact PySem.W.truthy_bytes (by omega) ⟨H,I.tok _,q⟩
 | ref p =>
  cases rx
  have e':(∃ xs,ak X.K H p xs/\k=!xs.isEmpty)∨(∃ xs,aj X.K H p xs/\k=!xs.isEmpty)∨∃ kvs,H p=some (.dK kvs)/\k=!kvs.isEmpty:=e
  rcases e' with ⟨xs,hx,e'⟩ | ⟨xs,hx,e'⟩ | ⟨kvs,hx,e'⟩
  ·subst e'
   obtain ⟨ae,r,pl,hz⟩:=I.list hx
   have hlen:=r.length
   exact wpAny_truthy_list pl.isList (by simp only [Qm]; omega) ⟨H,I.tok _,by rw [sL r]; exact q⟩
  ·subst e'
   obtain ⟨ae,r,pl,hz⟩:=I.tuple hx
   have hlen:=r.length
   exact truthy_tuple pl (by simp only [Qm]; omega) ⟨H,I.tok _,by rw [sL r]; exact q⟩
  ·subst e'
   obtain ⟨hz,hS,vs,r,m⟩:kvs.length<=sizeLine/\(p==sysModules)=false/\∃ vs,KV kvs vs/\s.heap.DictOf (cH X.prog X.w) p vs:=I.aq p _ hx
   have hlen:kvs.length=vs.length:=Paired.length r
   exact wpAny_truthy_dict hS m (by omega) ⟨H,I.tok _,by rw [aAY r]; exact q⟩
 | _=>exact (show False from e).elim
theorem aD2 (ha:PE X a ta) (he:∀ whole,isTrue a X.env whole=(do let v<-whole; standAt a.pos; holding [v] (truthy v))) :
  PT X a (λσ H Q=>ta σ H λx H'=>∃ k,OP X.K x H' k/\Q k H'):=by
 intro aa s σ H Q I h
 refine isTrue_plain (bf (ha aa s σ H _ I h) λv s1 au=>?_) (he _)
 obtain ⟨x,H1,I1,r1,q1⟩:=au
 exact τ aa s1 σ H1 x v Q I1 r1 q1
theorem gM {x:V} (r:bR [x] us):∃ u,us = [u]/\bY x u:=by
 cases r with
 | cons r1 r2=>cases r2; exact ⟨_,rfl,r1⟩
theorem nR {x:V} (r:bR [x,y] us):∃ u w',us = [u,w']/\bY x u/\bY y w':=by
 cases r with
 | cons r1 r2 =>
  cases r2 with
  | cons r3 r4=>cases r4; exact ⟨_,_,rfl,r1,r3⟩
theorem aCQ (hc:X.calm=true):eN X (.builtin "min") (λxs H Q=>∃ i j,xs = [.int i,.int j]/\Q (.int (if j < i then j else i)) H):=by
 intro aa s σ H xs us Q I r h
 obtain ⟨i,j,rfl,q⟩:=h
 obtain ⟨u,w',rfl,⟨t,rfl⟩,⟨t',rfl⟩⟩:=nR r
 refine min_two_ints (I.ok.hd hc) λh' tk k=>⟨_,H,I.kept k,?_,q⟩
 by_cases hj:j < i
 ·rw [if_pos hj,if_pos hj]; exact ⟨_,rfl⟩
 ·rw [if_neg hj,if_neg hj]; exact ⟨_,rfl⟩
theorem aCR:eN X (.type "int") (λxs H Q=>(∃ i,xs = [.int i]/\Q (.int i) H)∨∃ k,xs = [.bl k]/\Q (.int (if k then 1 else 0)) H):=by
 intro aa s σ H xs us Q I r h
 rcases h with ⟨i,rfl,q⟩ | ⟨k,rfl,q⟩
 ·obtain ⟨u,rfl,t,rfl⟩:=gM r
  exact call_int_int ⟨.int i,H,I,⟨_,rfl⟩,q⟩
 ·obtain ⟨u,rfl,r1⟩:=gM r
  cases r1
  exact call_int_bool ⟨.int (if k then 1 else 0),H,I.tok _,⟨_,rfl⟩,q⟩
end
section
variable {x:Addr} {mA:Str->Option Value} {v:Value}
end
theorem oS.some_of {o:Option Value} (r:oS (some v) o):∃ u,o=some u/\bY v u:=by
 cases o with
 | none=>exact (show False from r).elim
 | some u=>exact ⟨u,rfl,r⟩
theorem oS.none_of {o:Option Value} (r:oS none o):o=none:=by
 cases o with
 | none=>rfl
 | some u=>exact (show False from r).elim
section
variable {fs W2:List (Str×V)}
end
section
variable {σ:St} {fs:List (Str×V)} {f:Str}
end
section
variable {o:Expr} {f:Str}
end
section
variable {σ:St} {c:Value} {b:Bool}
end
structure ay (k:Nat) (A:Around):Prop where
 hd:A.handled=none
 dp:A.depth+3*k+5 < recursionLimit
 un:A.units+16*k+200 < cLine
 gd:A.guards=some []
theorem ay.mono {k:Nat} (r:ay k A) (h:j<=k):ay j A:=⟨r.hd,by have:=r.dp; omega,by have:=r.un; omega,r.gd⟩
theorem ay.deeper {k:Nat} (r:ay (k+1) A) (env:Env):ay k (A.deeper env) :=
 ⟨r.hd,by have:=r.dp; show A.depth+1+3*k+5 < _; omega,by have:=r.un; show A.units+3+16*k+200 < _; omega,r.gd⟩
theorem ay.in1 {k:Nat} (r:ay (k+1) A):ay k A.in1 :=
 ⟨r.hd,by have:=r.dp; show A.depth+3*k+5 < _; omega,by have:=r.un; show A.units+1+16*k+200 < _; omega,r.gd⟩
theorem ay.depth {k:Nat} (r:ay k A):A.depth < recursionLimit:=by have:=r.dp; omega
theorem ay.units {k:Nat} (r:ay k A):A.units+64 < cLine:=by have:=r.un; omega
abbrev rK:TA:=λ_ H Q=>Q [] H
abbrev lW (ta:TE) (tr:TA):TA:=λσ H Q=>ta σ H λx H1=>tr σ H1 λxs H2=>Q (x::xs) H2
section
variable {t:TA}
theorem aD:PA X [] rK:=λ_ _ _ _ H Q I h=>Calls.spliced_nil ⟨[],H,I,.nil,h⟩
theorem aA (ha:PE X e te) (hr:PA X es t) (hs:starEach (e::es) X.env=(false,eval e X.env)::starEach es X.env:=by rfl):PA X (e::es) (lW te t):=by
 intro pos aa s σ H Q I h
 rw [hs]
 show wpAny _ _ (spliced ((false,eval e X.env)::backTo pos (starEach es X.env))) _ _ s
 refine Calls.spliced_cons (bf (ha aa s σ H _ I h) λu s1 au=>?_)
 obtain ⟨x,H1,I1,r1,q1⟩:=au
 refine bf (hr pos aa s1 σ H1 _ I1 q1) λus s2 au=>?_
 obtain ⟨xs,H2,I2,r2,q2⟩:=au
 exact ⟨x::xs,H2,I2,.cons r1 r2,q2⟩
def Df (t:TA):TE:=λσ H Q=>t σ H λxs H1=>xs.length<=sizeLine/\∀ p,H1 p=none->Q (.ref p) (upd H1 p (.tup xs))
def AB (t:TA):TE:=λσ H Q=>t σ H λxs H1=>xs.length<=sizeLine/\∀ p,H1 p=none->Q (.ref p) (upd H1 p (.lst xs))
theorem cL {x1} (h:PA X es t):PE X (.Tuple es x1 pos) (Df t):=by
 intro aa s σ H Q I hq
 refine wpAny_Tuple_spliced (bf (h pos aa s σ H _ I hq) λus s1 ⟨xs,H1,I1,r,z,q⟩=>⟨by rw [<- r.length]; exact z,?_⟩)
 have hf:H1 s1.heap.objs.size=none:=I1.aq.fresh (Qe _)
 refine ⟨.ref s1.heap.objs.size,upd H1 s1.heap.objs.size (.tup xs),I1.laid (t':=s1.toks) (λb u e=>Qa _ e) (Qe _) ?_,rfl,q _ hf⟩
 exact ⟨z,us,0,r,Qg _ rfl⟩
theorem cP (h:PA X es t):PE X (.List es pos) (AB t):=by
 intro aa s σ H Q I hq
 refine wpAny_List_spliced (bf (h pos aa s σ H _ I hq) λus s1 ⟨xs,H1,I1,r,z,q⟩=>⟨by rw [<- r.length]; exact z,?_⟩)
 have hf:H1 s1.heap.objs.size=none:=I1.aq.fresh (Qe _)
 refine ⟨.ref s1.heap.objs.size,upd H1 s1.heap.objs.size (.lst xs),I1.laid (t':=s1.toks) (λb u e=>Qa _ e) (Qe _) ?_,rfl,q _ hf⟩
 exact ⟨z,us,0,r,Qg _ rfl⟩
end
abbrev Sp:=List V->Hp->VK->XK->Prop
end L2
variable {sp:Sp}
namespace L2
open PySem PySem.Spec PyProof.Rows
abbrev y9:=List Env->Hp->Shared->XK->Value->Shared->Prop
end L2
variable {CX:y9}
namespace L2
open PySem PySem.Spec PyProof.Rows
structure x3 (P:Program) (w:World) (K:Rc) (mg:Str->Option Value) (base:Heap) (A:Around) (outer:List Env) (s:Shared) (H:Hp):Prop where
 frames:A.frames=some outer
 mod:Mod K mg base
 bs:∀ b o,base.get? b=some o->s.heap.get? b=some o/\H b=none
 yx:base.objs.size<=s.heap.objs.size
 i5:s.heap.FunFrames base outer
 we:∀ b∈c_ outer,H b=none
 aq:fw P w H s.heap
 bare:AllBare s.gens
def CE (outer:List Env) (P:Program) (w:World) (H:Hp) (s:Shared) (Q:VK) (u:Value) (s':Shared):Prop :=
 ∃ v H',s'.os=s.os/\AllBare s'.gens/\Un (c_ outer) [] H H' s.heap s'.heap/\fw P w H' s'.heap/\bY v u/\Q v H'
def CR (CX:y9) (outer:List Env) (P:Program) (w:World) (H:Hp) (s:Shared) (Q:VK) (E:XK) (r:Result) (s':Shared):Prop :=
 match r with
 | .ok (.ret u)=>CE outer P w H s Q u s'
 | .ok _=>False
 | .error e=>CX outer H s E e s'
structure af (P:Program) (w:World) (K:Rc) (mg:Str->Option Value) (base:Heap) (CX:y9) (k:Nat) (f:Addr) (fd:FuncData) (ps:List Str) (sp:Sp):Prop where
 len:∀ vs H Q E,sp vs H Q E->vs.length=ps.length
 run:∀ (A:Around) (outer:List Env) (s:Shared) (H:Hp) (args:Args) (us:List Value) (vs:List V) (Q:VK) (E:XK),ay k A->x3 P w K mg base A outer s H->BindsTo s fd args (ps.zip us)->bR vs us->sp vs H Q E ->
  codeAny (model P w) A (.call (.ref f) args) (CR CX outer P w H s Q E) s
section
variable {σ:St}
theorem Inv.DZ (I:Inv X aa σ H s):x3 X.prog X.w X.K X.mg X.base X.A X.stack s H :=
 ⟨I.ok.frames,I.ok.mod,I.bs,Jl I.ok.yx I.sz,I.stack,I.gy,I.aq,I.bare⟩
theorem Inv.after {Q:VK} (I:Inv X aa σ H s) (h:CE X.stack X.prog X.w H s Q u s'):EP X aa σ Q u s':=by
 obtain ⟨v,H',os,bare,un,aq,r,q⟩:=h
 obtain ⟨hh,g,d,t,Bq⟩:=s'
 obtain rfl:Bq=s.os:=os
 exact ⟨v,H',I.call (h':=hh) (g':=g) (d':=d) (t':=t) (ch:=[]) un aq bare (λb z=>absurd z (by simp)),r,q⟩
end
def vM (sp:Sp) (j_:List V) (E:XK) (t:TA):TE:=λσ H Q=>t σ H λvs H1=>sp (vs++j_) H1 Q E
def oU (K:Rc) (fd:FuncData) (ps:List Str) (ds:List Value):Prop :=
 ∀ (s:Shared) (us:List Value),K.In s.heap->(us++ds).length=ps.length->BindsTo s fd ⟨us,[]⟩ (ps.zip (us++ds))
theorem oU.all (h:∀ us:List Value,us.length=ps.length->bindArgs fd ⟨us,[]⟩=pure (ps.zip us)):oU K fd ps []:=λs us _ hl=>by
 rw [Xx] at hl ⊢
 exact .of_eq (h us hl)
def qA (CX:y9) (X:Cx) (E:XK):Prop:=∀ (aa:List (Addr×Obj)) (σ:St) (H:Hp) (s:Shared) (e:Value) (s':Shared),Inv X aa σ H s->CX X.stack H s E e s'->X.xe e s'
section
variable {k:Nat} {j_:List V} {ds:List Value} {E:XK} {m:Str} {o:Expr} {t:TA}
theorem PX {σ:St} {Q:VK} (F:af X.prog X.w X.K X.mg X.base CX k f fd ps sp) (hr:ay k X.A) (hb:oU X.K fd ps ds) (hd:bR j_ ds) (hx:qA CX X E) (I:Inv X aa σ H s) (r:bR vs us) (h:sp (vs++j_) H Q E):wpAny (model X.prog X.w) X.A (call (.ref f) us) (EP X aa σ Q) X.xe s:=by
 have r2:bR (vs++j_) (us++ds):=r.append hd
 have hl:(us++ds).length=ps.length:=by rw [<- r2.length]; exact F.len _ _ _ _ h
 refine Me (Ui (F.run X.A X.stack s H ⟨us,[]⟩ (us++ds) (vs++j_) Q E hr I.DZ (hb s us I.oa hl) r2 h) λr s' hq=>?_)
 cases r with
 | error e=>exact hx aa σ H s e s' I hq
 | ok fl =>
  cases fl with
  | ret u=>exact I.after hq
  | next=>exact False.elim hq
  | brk=>exact False.elim hq
  | cont=>exact False.elim hq
theorem Q6 (F:af X.prog X.w X.K X.mg X.base CX k f fd ps sp) (hr:ay k X.A) (hg:Gl X x) (hm:X.mg x=some (.ref f)) (hk:Tt X.K (.ref f)=true) (hb:oU X.K fd ps ds) (hd:bR j_ ds) (hx:qA CX X E)
  (ha:PA X (e::es) t) (j9:(x==("__debug__" : Str))=false:=by decide) (he:starEach (e::es) X.env=(false,eval e X.env)::starEach es X.env:=by rfl) (iq:(backTo pos (starEach es X.env)).any (·.1)=false:=by rfl) :
  PE X (.Call (.Name x p) (e::es) [] pos) (vM sp j_ E t):=by
 intro aa s σ H Q I h
 refine Tq (mZ I hg hm ?_ j9)
 refine Rah (h₀:=X.base) I.ok.mod.Bt hk (bf (ha pos aa s σ H _ I h) λus s1 ⟨vs,H1,I1,r,q⟩=>⟨I1.oa,?_⟩) he iq
 exact PX F hr hb hd hx I1 r q
theorem aD5 (F:af X.prog X.w X.K X.mg X.base CX k f fd ps sp) (hr:ay k X.A) (hg:Gl X x) (hm:X.mg x=some (.ref f)) (hk:Tt X.K (.ref f)=true) (hb:oU X.K fd ps ds) (hd:bR j_ ds) (hx:qA CX X E)
  (j9:(x==("__debug__" : Str))=false:=by decide):PE X (.Call (.Name x p) [] [] pos) (vM sp j_ E rK):=by
 intro aa s σ H Q I h
 refine Tq (mZ I hg hm ?_ j9)
 exact PySem.W.callWith_K0 I.oa hk (PX (us:=[]) F hr hb hd hx I .nil h)
end
def PK (X:Cx) (Cq:List Keyword) (t:TA):Prop :=
 ∀ (pos:Pos) (aa:List (Addr×Obj)) (s:Shared) (σ:St) (H:Hp) (Q:List V->Hp->Prop),Inv X aa σ H s->t σ H Q->wpAny (model X.prog X.w) X.A (evalAll ((backToKw pos (keywordEach Cq X.env)).map (·.2))) (AP X aa σ Q) X.xe s
section
variable {k:Nat} {ks:List Str} {E:XK} {m:Str} {o:Expr} {Cq:List Keyword} {t tk:TA} {nm:Option Str}
theorem ρ:PK X [] rK:=λ_ _ _ _ H Q I h=>wpAny_evalAll_nil ⟨[],H,I,.nil,h⟩
theorem aFS (ha:PE X e te) (hr:PK X Cq t):PK X (⟨nm,e,xf⟩::Cq) (lW te t):=by
 intro pos aa s σ H Q I h
 show wpAny _ _ (evalAll ((do let v<-eval e X.env; standAt pos; pure v)::(backToKw pos (keywordEach Cq X.env)).map (·.2))) _ _ s
 refine wpAny_evalAll_cons (Ra (bf (ha aa s σ H _ I h) λu s1 ⟨x,H1,I1,r1,q1⟩=>Ra (Th (Rb ?_))))
 refine bf (hr pos aa s1 σ H1 _ I1 q1) λus s2 au=>?_
 obtain ⟨xs,H2,I2,r2,q2⟩:=au
 exact ⟨x::xs,H2,I2,.cons r1 r2,q2⟩
variable {g:List Value->List Value->List Value} {gV:List V->List V->List V}
end
structure ah (N P:List Str) (sc:Scope):Prop where
 kind:sc.kind=.function
 co:sc.isCoroutine=false
 gen:sc.isGenerator=false
 nd:N.Nodup
 pre:N.take P.length=P
 par:∀ x∈P,sc.names.lookup x=some .local∨sc.names.lookup x=some .cell
 A_:∀ y∈sc.names,y.2≠.free
theorem vN:∀ {binds:List (Str×Value)} {m:Str->Option Value},(∀ v,(x,v)∉binds)->bindL kindOf binds m x=m x
 | [],_,_=>rfl
 | (n,v)::r,m,h=>by
  unfold bindL
  rw [vN λw hw=>h w (Ql _ hw)]
  split
  ·have:x≠n:=by rintro rfl; exact h v Qk
   simp [this]
  ·rfl
theorem vO:∀ {binds:List (Str×Value)} {m:Str->Option Value},(∀ v,(x,v)∉binds)->bindC kindOf binds m x=m x
 | [],_,_=>rfl
 | (n,v)::r,m,h=>by
  unfold bindC
  rw [vO λw hw=>h w (Ql _ hw)]
  split
  ·rfl
  ·have:x≠n:=by rintro rfl; exact h v Qk
   simp [this]
theorem vP {v:Value}:∀ {P:List Str} {vs:List Value} {i:Nat} {m:Str->Option Value},P.Nodup->P[i]?=some x->vs[i]?=some v->kindOf x=some .local ->
  bindL kindOf (P.zip vs) m x=some v
 | [],_,_,_,_,h,_,_=>by simp at h
 | _::_,[],_,_,_,_,h,_=>by simp at h
 | p::P,w::vs,0,m,nd,h1,h2,hk=>by
  simp at h1 h2; subst h1; subst h2
  show bindL kindOf ((p,w)::P.zip vs) m p=_
  unfold bindL
  rw [vN λv hv=>(Jw.mp nd).1 (Yi hv).1,if_pos hk]
  simp
 | p::P,w::vs,i+1,m,nd,h1,h2,hk=>by
  show bindL kindOf ((p,w)::P.zip vs) m x=_
  unfold bindL
  exact vP (i:=i) (Jw.mp nd).2 (by simpa using h1) (by simpa using h2) hk
theorem vQ {v:Value}:∀ {P:List Str} {vs:List Value} {i:Nat} {m:Str->Option Value},P.Nodup->P[i]?=some x->vs[i]?=some v->kindOf x≠some .local ->
  bindC kindOf (P.zip vs) m x=some v
 | [],_,_,_,_,h,_,_=>by simp at h
 | _::_,[],_,_,_,_,h,_=>by simp at h
 | p::P,w::vs,0,m,nd,h1,h2,hk=>by
  simp at h1 h2; subst h1; subst h2
  show bindC kindOf ((p,w)::P.zip vs) m p=_
  unfold bindC
  rw [vO λv hv=>(Jw.mp nd).1 (Yi hv).1,if_neg hk]
  simp
 | p::P,w::vs,i+1,m,nd,h1,h2,hk=>by
  show bindC kindOf ((p,w)::P.zip vs) m x=_
  unfold bindC
  exact vQ (i:=i) (Jw.mp nd).2 (by simpa using h1) (by simpa using h2) hk
def start (N:List Str) (vs:List V):St:=vs.map some++List.replicate (N.length - vs.length) none
def oG (CX:y9) (P:Program) (w:World) (K:Rc) (mg:Str->Option Value) (base:Heap) (N:List Str) (qual:Str) (scope:Scope) (f:Addr) (cd:Value) (A:Around) (outer:List Env) (s:Shared) (H:Hp) (E:XK):Cx where
 prog:=P
 w:=w
 K:=K
 mg:=mg
 base:=base
 A:=A.deeper (envOfC qual scope s.heap.objs.size f cd)
 N:=N
 gb:=s
 mv:=H
 env:=envOfC qual scope s.heap.objs.size f cd
 outer:=outer
 stack:=envOfC qual scope s.heap.objs.size f cd::outer
 ex:=[]
 calm:=true
 fn:=λ_=>true
 pn:=[]
 xe:=λe s'=>wpAny (model P w) (A.deeper (envOfC qual scope s.heap.objs.size f cd)) (leaving (envOfC qual scope s.heap.objs.size f cd) e) (λ_ zy=>CX outer H s E e zy) (λe' zy=>CX outer H s E e' zy) s'
theorem yY {sc:Scope} (h:sc.names.lookup x=some .cell):∃ c,(cellsFrom n sc.names []).lookup x=some c:=by
 have q:=Mu sc.names n [] (.inl h)
 exact Yp.mp q
theorem aCS {cd:Value} {outer:List Env} {s1:Shared} {E:XK} (S:ah N ps scope) (hd:A.handled=none) (e0:x3 P w K mg base A outer s H) (hl:vs.length=ps.length) (r:bR vs us) (x:InCallC s s.heap.objs.size (bindL (envOfC qual scope s.heap.objs.size f cd).kindOf (ps.zip us) λ_=>none) (cellsFrom (s.heap.objs.size+1) scope.names []) (bindC (envOfC qual scope s.heap.objs.size f cd).kindOf (ps.zip us) λ_=>none) s1) :
  Inv (oG CX P w K mg base N qual scope f cd A outer s H E) [] (start N vs) H s1:=by
 have iq:ps.length<=N.length:=by have:=congrArg Yj S.pre; rw [Qu] at this; omega
 obtain ⟨h1,tk,rfl,hk⟩:=x.done
 have Ck:∀ b:Addr,b∉(oG CX P w K mg base N qual scope f cd A outer s H E).ex:=λb z=>absurd (show b∈([]:List Addr) from z) (by simp)
 refine ⟨⟨e0.mod,S.kind,rfl,rfl,Qe _,λy z c h1 h2=>?_,λy hy=>?_,λy c _ h=>?_,λ_=>hd,Around.frames_deeper e0.frames,.inr ⟨rfl,rfl⟩,λb z=>absurd z (Ck b),e0.bs,e0.yx,λb _ _=>Ck b,λb z=>absurd z (Ck b),e0.i5,e0.we⟩,
  rfl,e0.bare,Un.kept hk,⟨_,x.toInCall.ns,λi y v h1 h2 h3=>?_⟩,λy c h=>⟨_,x.cell y c h⟩,e0.aq.fresh (Qe _),λy c h=>?_,λp hp=>absurd (show p∈([]:List (Addr×Obj)) from hp) (by simp),e0.aq.kept hk,?_⟩
 ·exact name_of_addr x.apart (Uo h1) (Uo h2)
 ·have hy:scope.names.lookup y=some .cell∨scope.names.lookup y=some .free:=hy
  rcases hy with hy | hy
  ·exact yY hy
  ·exact absurd rfl (S.A_ _ (Uo hy))
 ·exact Yc (x.above y c (Uo h))
 ·have hi:i < vs.length:=by
   unfold start at h2
   by_cases hi:i < vs.length
   ·exact hi
   ·rw [Jr (by simpa using hi)] at h2
    rw [Xz] at h2
    split at h2 <;> cases h2
  have ha:vs[i]?=some v:=by
   unfold start at h2
   rw [Qz (by simpa using hi),Qh] at h2
   cases e:vs[i]? with
   | none=>rw [e] at h2; cases h2
   | some a=>rw [e] at h2; cases h2; rfl
  obtain ⟨u,hu,rv⟩:=r.get ha
  have hp:ps[i]?=some y:=by
   rw [<- S.pre,Zu (by omega)]; exact h1
  have LC:ps.Nodup:=by rw [<- S.pre]; exact S.nd.sublist (List.take_sublist _ _)
  refine ⟨u,rv,?_⟩
  rcases S.par y (Qi hp) with k | k
  ·exact .inl ⟨k,vP LC hp hu k⟩
  ·obtain ⟨c,e⟩:=yY (n:=s.heap.objs.size+1) k
   refine .inr ⟨.inl k,c,e,?_⟩
   have q:=x.cell y c e
   rw [vQ LC hp hu (by show scope.names.lookup y≠_; rw [k]; decide)] at q
   exact q
 ·exact e0.aq.fresh (Yc (x.above y c (Uo h)))
 ·unfold start
  show _=N.length
  rw [Qn,Qc,Xk]
  omega
theorem JA {k:Nat} {dV kV:Value} (lk:K.lookup f=some ⟨oc,od,.func (Tv name qual params body scope dV kV doc pm an bj ct),ql⟩) (jm:Vn K bj qual=true) (S:ah N ps scope) (len:∀ vs H Q E,sp vs H Q E->vs.length=ps.length) (jg:∀ (A:Around) (outer:List Env) (s:Shared) (H:Hp) (vs:List V) (Q:VK) (E:XK),ay k (A.deeper (envOfC qual scope s.heap.objs.size f bj))->sp vs H Q E ->
   ∃ t,kc (oG CX P w K mg base N qual scope f bj A outer s H E) body t/\t { nx:=λ_ H'=>Q .bw H',rt:=Q } (start N vs) H) :
  af P w K mg base CX (k+1) f (Tv name qual params body scope dV kV doc pm an bj ct) ps sp:=by
 refine ⟨len,λA outer s H args us vs Q E hr e0 hb r oh=>?_⟩
 have hl:=len _ _ _ _ oh
 have KX:K.In s.heap:=e0.mod.Bt.keeps λb o e=>(e0.bs b o e).1
 have lim:s.heap.NoLimit:=e0.mod.nolimit.keeps λb o e=>(e0.bs b o e).1
 have Ee:∀ y∈ps.zip us,scope.names.lookup y.1=some .local∨(scope.names.lookup y.1=some .cell/\((cellsFrom (s.heap.objs.size+1) scope.names []).lookup y.1).isSome=true):=λ⟨n,v⟩ hy=>by
  rcases S.par n (Yi hy).1 with q | q
  ·exact .inl q
  ·exact .inr ⟨q,Mu _ _ _ (.inl q)⟩
 refine codeAny_call_function hr.depth (KX _ _ lk) rfl S.co S.gen rfl (PySem.W.codeRec_of KX jm) (hb _ _ _ _ ?_)
 refine wpAny_newFunctionEnv_cells S.kind Ee λenv he s1 x=>?_
 subst he
 refine ⟨lim.keeps x.toInCall.keep,codeAny_func ?_⟩
 obtain ⟨t,ht,hq⟩:=jg A outer s H vs Q E (hr.deeper _) oh
 have I:Inv (oG CX P w K mg base N qual scope f bj A outer s H E) [] (start N vs) H s1:=aCS S hr.hd e0 hl r x
 refine Rp (ht [] s1 (start N vs) H _ I hq) (λfl s' hs=>?_) λe s' hs=>hs
 have fin:∀ {ao:St} {H':Hp} {v:V} {u:Value},Inv (oG CX P w K mg base N qual scope f bj A outer s H E) [] ao H' s'->bY v u->Q v H'->CE outer P w H s Q u s' :=
  λ{ao H' v u} J rv q=>⟨v,H',J.os,J.bare,J.base,J.aq,rv,q⟩
 cases fl with
 | ret u =>
  obtain ⟨v,ao,H',J,rv,q⟩:=hs
  exact fin J rv q
 | next =>
  obtain ⟨ao,H',J,q⟩:=hs
  exact fin (v:=V.bw) (u:=Value.none) J rfl q
 | brk =>
  obtain ⟨_,_,_,q⟩:=hs
  exact False.elim q
 | cont =>
  obtain ⟨_,_,_,q⟩:=hs
  exact False.elim q
section
variable {t:TA} {id:String} {r:List V->Hp->VK->Prop}
def F2 (r:List V->Hp->VK->Prop) (t:TA):TE:=λσ H Q=>t σ H λvs H1=>r vs H1 Q
theorem aV (hc:eN X (.builtin id) r) (hg:Gl X x) (hm:X.mg x=none) (hv:bootBuiltins x=some (.builtin id)) (ha:PA X (e::es) t) (hn:x ≠ "__name__" := by decide) (j9:(x==("__debug__" : Str))=false:=by decide)
  (he:starEach (e::es) X.env=(false,eval e X.env)::starEach es X.env:=by rfl) (iq:(backTo pos (starEach es X.env)).any (·.1)=false:=by rfl):PE X (.Call (.Name x p) (e::es) [] pos) (F2 r t):=by
 intro aa s σ H Q I h
 refine Tq (jI I hg hm hv ?_ hn j9)
 refine PyProof.Rows.callWith_builtin1 (bf (ha pos aa s σ H _ I h) λus s1 au=>?_) he iq
 obtain ⟨vs,H1,I1,r1,q1⟩:=au
 exact hc aa s1 σ H1 vs us Q I1 r1 q1
theorem cB (hc:eN X (.type T) r) (hg:Gl X x) (hm:X.mg x=none) (hv:bootBuiltins x=some (.type T)) (ha:PA X (e::es) t) (hn:x ≠ "__name__" := by decide) (j9:(x==("__debug__" : Str))=false:=by decide)
  (he:starEach (e::es) X.env=(false,eval e X.env)::starEach es X.env:=by rfl) (iq:(backTo pos (starEach es X.env)).any (·.1)=false:=by rfl):PE X (.Call (.Name x p) (e::es) [] pos) (F2 r t):=by
 intro aa s σ H Q I h
 refine Tq (jI I hg hm hv ?_ hn j9)
 refine PyProof.Rows.callWith_type1 (bf (ha pos aa s σ H _ I h) λus s1 au=>?_) he iq
 obtain ⟨vs,H1,I1,r1,q1⟩:=au
 exact hc aa s1 σ H1 vs us Q I1 r1 q1
end
end L2
namespace HT
open PySem PyProof.Rows
section
open PySem.SeqAt
open PySem.AutoSeq1 (wpAny_loadPart')
open PySem.MeetsSeq PySem.MeetsSeq2 PySem.MeetsSeq3
end
theorem x8 {t:Addr} {vs ws:List Value} (ht:IsTup s.heap t vs.toArray) (hb:IsTup s.heap b ws.toArray) (hv:vs≠[]) (h1:ws = []->Q (.ref t) s) (h2:ws≠[]->Q (.ref s.heap.objs.size) { s with heap:=s.heap.push { cls:=.type "tuple",data:=.seq (vs++ws).toArray } }) (hsz:vs.length+ws.length<=sizeLine):wpAny (model prog w) A (binaryOp .Add (.ref t) (.ref b)) Q E s:=by
 obtain ⟨⟨cls,dd,data,sl⟩,ho,hc,n,hd⟩:=id ht
 obtain ⟨⟨D4,yu,data2,yc⟩,mz,se,n2,hd2⟩:=id hb
 simp only at hc hd se hd2
 subst hc hd se hd2
 have e:vs.toArray++ws.toArray=(vs++ws).toArray:=by simp
 by_cases hw:ws = []
 ·exact Mi ⟨_,ho,rfl⟩ ⟨_,mz,rfl⟩ Ib Iw Uw Us (Up _ _)
   (tuple_addW1 t b vs.toArray ws.toArray n n2 dd yu sl yc (by simpa using hv) (by simp [hw])) ⟨ho,mz,h1 hw⟩
 ·refine Mi ⟨_,ho,rfl⟩ ⟨_,mz,rfl⟩ Ib Iw Uw Us (Up _ _)
   (tuple_addW2 t b vs.toArray ws.toArray n n2 dd yu sl yc (by simpa using hv) (by simpa using hw) (by rw [Qm,Qm]; exact hsz)) ⟨ho,mz,?_⟩
  rw [e]
  exact h2 hw
def cg (n d:Nat):Option Int->Nat
 | none=>d
 | some v=>if v < 0 then (v+(n:Int)).toNat else min v.toNat n
theorem ma (n d:Nat):cg n d none=d:=rfl
theorem o_ (n d k:Nat):cg n d (some (k:Int))=min k n:=by
 show (if (k:Int) < 0 then ((k:Int)+(n:Int)).toNat else min (k:Int).toNat n)=min k n
 rw [if_neg (by omega),Jf]
theorem π (n d:Nat) (hd:d<=n) (o:Option Int):cg n d o<=n:=by
 cases o with
 | none=>exact hd
 | some v =>
  show (if v < 0 then (v+(n:Int)).toNat else min v.toNat n)<=n
  by_cases hv:v < 0
  ·rw [if_pos hv]; omega
  ·rw [if_neg hv]; exact Nat.min_le_right _ _
theorem Q5 (v:Int) (n d:Nat):(if v < 0 then max (v+(n:Int)) 0 else min v (n:Int))=((cg n d (some v):Nat):Int):=by
 show (if v < 0 then max (v+(n:Int)) 0 else min v (n:Int))=(((if v < 0 then (v+(n:Int)).toNat else min v.toNat n):Nat):Int)
 by_cases hv:v < 0
 ·simp only [if_pos hv]; omega
 ·simp only [if_neg hv]; omega
theorem aA0 (lo hi:Option Int) (n:Nat):Builtin.Slice.sliceAdjust lo hi 1 (n:Int)=(((cg n 0 lo:Nat):Int),((cg n n hi:Nat):Int)):=by
 have h1:¬ ((1:Int) < 0):=by omega
 unfold Builtin.Slice.sliceAdjust
 simp only [h1,if_false]
 refine Prod.ext ?_ ?_
 ·cases lo with
  | none=>rfl
  | some v=>exact Q5 v n 0
 ·cases hi with
  | none=>rfl
  | some v=>exact Q5 v n n
theorem aA1 (i j:Nat):Builtin.Slice.slicePlaces (i:Int) (j:Int) 1=j - i:=by
 unfold Builtin.Slice.slicePlaces
 have h1:(1:Int) > 0:=by omega
 simp only [h1,if_true,Wv]
 split <;> omega
theorem c9 {v:Value} {o:Option Int} {Q:Option Int->Shared->Prop} (p:IsPart v o) (h:Q o s):wpAny (model prog w) A (Builtin.Slice.slicePartIndex v) Q E s:=by
 cases p with
 | none=>exact slicePart_none h
 | int i t=>exact slicePart_int h
theorem dz {Q:Int×Int×Nat->Shared->Prop} (hs:s.heap.IsSliceOf sl vl vu .none) (pl:IsPart vl lo) (pu:IsPart vu hi) (h:Q (((cg n 0 lo:Nat):Int),1,cg n n hi - cg n 0 lo) s):wpAny (model prog w) A (Builtin.Slice.sliceApplied (.ref sl) (pure (n:Int))) Q E s:=by
 obtain ⟨os,pz,uy,fq⟩:=id hs
 unfold Builtin.Slice.sliceApplied Builtin.Slice.sliceFields
 refine Ra (Ra (Rm pz fq (x:=vl) rfl (Ra (Rm pz fq (x:=vu) rfl (Ra (Rm pz fq (x:=.none) rfl (Rb ?_)))))))
 refine Ra (slicePart_none ?_)
 show wpAny _ _ (if ((1:Int)==0)=true then _ else _) _ _ s
 rw [if_neg (by decide)]
 refine Ra (c9 pl (Ra (c9 pu (Ra (Rb ?_)))))
 show wpAny _ _ (match Builtin.Slice.sliceAdjust lo hi 1 (n:Int) with | (lo,hi)=>pure (lo,(1:Int),Builtin.Slice.slicePlaces lo hi 1)) _ _ s
 rw [aA0 lo hi n]
 show wpAny _ _ (pure (((cg n 0 lo:Nat):Int),(1:Int),Builtin.Slice.slicePlaces ((cg n 0 lo:Nat):Int) ((cg n n hi:Nat):Int) 1)) _ _ s
 rw [aA1]
 exact Rb h
theorem md (xs:Array Value) (i k:Nat):((List.range k).filterMap λ(m:Nat)=>xs[((i:Int)+(m:Int)*1).toNat]?).toArray=((xs.toList.drop i).take k).toArray:=by
 have e:(λ(m:Nat)=>xs[((i:Int)+(m:Int)*1).toNat]?)=λm=>xs[i+m]?:=by
  funext m
  have:((i:Int)+(m:Int)*1).toNat=i+m:=by omega
  rw [this]
 rw [e]
 have:=pick_run xs i k
 rw [Wo] at this
 have e2:((λx=>xs[x]?) ∘ λx=>i+x)=λm=>xs[i+m]?:=rfl
 rw [e2] at this
 rw [this]
theorem g_ {t:Addr} (ht:IsTup s.heap t items) (hs:s.heap.IsSliceOf sl vl vu .none) (pl:IsPart vl lo) (pu:IsPart vu hi) (hw:¬ (cg items.size 0 lo=0/\cg items.size items.size hi=items.size)) (h:Q (.ref s.heap.objs.size) { s with heap:=s.heap.push { cls:=.type "tuple",data:=.seq ((items.toList.drop (cg items.size 0 lo)).take (cg items.size items.size hi - cg items.size 0 lo)).toArray } }) (hsz:items.size<=sizeLine):wpAny (model prog w) A (getItem (.ref t) (.ref sl)) Q E s:=by
 have gw:sizeOk (.seq ((items.toList.drop (cg items.size 0 lo)).take (cg items.size items.size hi - cg items.size 0 lo)).toArray):=by
  show ((items.toList.drop (cg items.size 0 lo)).take (cg items.size items.size hi - cg items.size 0 lo)).toArray.size<=sizeLine
  rw [Qm,Qu,Jp,Array.length_toList]
  omega
 have hj:cg items.size items.size hi<=items.size:=π _ _ (Qe _) hi
 obtain ⟨os,pz,uy,fq⟩:=id hs
 have CY:s.TypeIs (.ref sl) "slice" := ⟨os,pz,uy⟩
 unfold getItem
 try with_reducible refine Rn ?_
 first | refine Ra (Rb ?_) | skip
 refine Ra (Mj ht.typeIs (by decide) ?_)
 refine Ra (Rh (name:=Str.ofString "__getitem__") ht.typeIs PyProof.Rows.slot_tuple_getitem
  (Rj PyProof.Rows.slot_tuple_getitem ht.typeIs Ir ?_ (Mf _ _)))
 show wpAny _ _ (Builtin.Tuple.tupleItemsOf (.ref t) >>= _) _ _ s
 refine Ra (Raj ht ?_)
 refine Ra (Vf CY ?_)
 rw [if_pos (by decide)]
 refine Ra (dz hs pl pu ?_)
 have h_:¬ ((((cg items.size 0 lo:Nat):Int)==0 && (1:Int)==1 && (cg items.size items.size hi - cg items.size 0 lo)==items.size)=true):=by
  intro q
  rw [Jc,Jc] at q
  have q1:((cg items.size 0 lo:Nat):Int)=0:=eq_of_beq q.1.1
  have q2:cg items.size items.size hi - cg items.size 0 lo=items.size:=eq_of_beq q.2
  exact hw ⟨by omega,by omega⟩
 show wpAny _ _ (if (((cg items.size 0 lo:Nat):Int)==0 && (1:Int)==1 && (cg items.size items.size hi - cg items.size 0 lo)==items.size)=true then _ else _) _ _ s
 rw [if_neg h_,md]
 first
  | exact Ra (m:=Builtin.Tuple.tupleExact _) (Ri (Rb ⟨_,rfl,Rb h⟩) gw)
  | exact Ra (m:=Builtin.Tuple.tupleExact _) (Ri (Ra (Rb (Rb ⟨_,rfl,Rb h⟩))) gw)
  | exact Ra (Ra (m:=Builtin.Tuple.tupleExact _) (Ri (Rb (Rb ⟨_,rfl,Rb h⟩)) gw))
  | exact Ra (Ra (m:=Builtin.Tuple.tupleExact _) (Ri (Rb ⟨_,rfl,Rb h⟩) gw))
end HT
namespace L2
open PySem PySem.Spec PyProof.Rows
abbrev TO:=St->Hp->(Option Int->Hp->Prop)->Prop
def PO (X:Cx) (e:Option Expr) (t:TO):Prop :=
 ∀ (aa:List (Addr×Obj)) (s:Shared) (σ:St) (H:Hp) (Q:Option Int->Hp->Prop),Inv X aa σ H s->t σ H Q ->
  wpAny (model X.prog X.w) X.A (evalPart e X.env) (λu s'=>∃ o H',Inv X aa σ H' s'/\IsPart u o/\Q o H') X.xe s
def nB:TO:=λ_ H Q=>Q none H
def vR (t:TE):TO:=λσ H Q=>t σ H λx H1=>∃ i,x=.int i/\Q (some i) H1
theorem kZ:∀ {us:List Value},bR (ns.map V.int) us->IntsAre us ns:=by
 induction ns with
 | nil=>intro us r; rw [Yz] at r; cases r; exact .nil
 | cons n ns ih =>
  intro us r
  rw [Qv] at r
  cases r with
  | cons r1 r2 =>
   obtain ⟨t,e⟩:=r1
   subst e
   exact .cons n t (ih r2)
section
variable {lo hi:Option Expr} {tl th:TO}
theorem hV:PO X none nB:=by
 intro aa s σ H Q I h
 rw [Vp]
 exact Rb ⟨none,H,I,.none,h⟩
theorem gK (h:PE X e te):PO X (some e) (vR te):=by
 intro aa s σ H Q I hw
 rw [Rak]
 refine bf (h aa s σ H _ I hw) λu s1 au=>?_
 obtain ⟨x,H1,I1,r1,q1⟩:=au
 obtain ⟨i,rfl,q⟩:=q1
 obtain ⟨t,rfl⟩:=r1
 exact ⟨some i,H1,I1,.int i t,q⟩
def B2 (X:Cx) (r:V->Option Int->Option Int->Hp->VK->Prop):Prop :=
 ∀ (aa:List (Addr×Obj)) (s:Shared) (σ:St) (H:Hp) (x:V) (v vl vu:Value) (lo hi:Option Int) (sl:Addr) (Q:VK),Inv X aa σ H s->bY x v->s.heap.IsSliceOf sl vl vu .none->IsPart vl lo->IsPart vu hi->r x lo hi H Q ->
  ∃ T id,typeLookup (.type T) "__getitem__" = pure (some (.builtin id))/\s.TypeIs v T/\wpAny (model X.prog X.w) X.A (getItem v (.ref sl)) (EP X aa σ Q) X.xe s
def Bi (r:V->Option Int->Option Int->Hp->VK->Prop) (te:TE) (tl th:TO):TE:=λσ H Q=>te σ H λx H1=>tl σ H1 λl H2=>th σ H2 λu H3=>r x l u H3 Q
theorem eZ {r:V->Option Int->Option Int->Hp->VK->Prop} (hr:B2 X r) (he:PE X e te) (hl:PO X lo tl) (hu:PO X hi th):PE X (.Subscript e (.Slice lo hi none p2) pos) (Bi r te tl th):=by
 intro aa s σ H Q I h
 refine Ie (bf (he aa s σ H _ I h) λv s1 au=>?_)
 obtain ⟨x,H1,I1,r1,q1⟩:=au
 refine Rav (bf (hl aa s1 σ H1 _ I1 q1) λvl s2 ⟨l,H2,I2,pl,q2⟩=>bf (hu aa s2 σ H2 _ I2 q2) λvu s3 au=>?_)
 obtain ⟨u,H3,I3,pu,q3⟩:=au
 rw [Vp]
 refine Rb ?_
 have I4:Inv X aa σ H3 { s3 with heap:=s3.heap.push { cls:=.type "slice",data:=.fields #[vl,vu,.none] } }:=I3.kept (t':=s3.toks) λb ob q=>Qa _ q
 obtain ⟨T,id,hT,ht,hg⟩:=hr aa { s3 with heap:=s3.heap.push { cls:=.type "slice",data:=.fields #[vl,vu,.none] } } σ H3 x v vl vu l u s3.heap.objs.size Q I4 r1 (Heap.IsSliceOf.new ..) pl pu q3
 show wpAny (model X.prog X.w) X.A (subscriptTail e (.Slice lo hi none p2) v (.ref s3.heap.objs.size)) (EP X aa σ Q) X.xe { s3 with heap:=s3.heap.push { cls:=.type "slice",data:=.fields #[vl,vu,.none] } }
 exact tail_any (ops:=[.ref s3.heap.objs.size,v]) ht hT hg (by with_unfolding_all rfl)
def kE (xs:List V) (lo hi:Option Int):List V:=(xs.drop (HT.cg xs.length 0 lo)).take (HT.cg xs.length xs.length hi - HT.cg xs.length 0 lo)
theorem qY (xs:List V) (lo hi:Option Int):(kE xs lo hi).length<=xs.length:=by
 unfold kE
 rw [Qu,Jp]
 exact Jl (Nat.min_le_right _ _) (Nat.sub_le _ _)
def YJ (K:Rc):V->Option Int->Option Int->Hp->VK->Prop:=λx lo hi H Q=>∃ a xs,x=.ref a/\aj K H a xs /\
 ¬ (HT.cg xs.length 0 lo=0/\HT.cg xs.length xs.length hi=xs.length)/\∀ p,H p=none->Q (.ref p) (upd H p (.tup (kE xs lo hi)))
theorem n?:B2 X (YJ X.K):=by
 intro aa s σ H x v vl vu lo hi sl Q I rx hs pl pu h
 obtain ⟨a,xs,rfl,hx,hw,q⟩:=h
 cases rx
 obtain ⟨ae,r,ht,hz⟩:=I.tuple hx
 have hlen:ae.toArray.size=xs.length:=by rw [Qm]; exact r.length.symm
 refine ⟨"tuple",_,PyProof.Rows.slot_tuple_getitem.lookup,ht.typeIs,?_⟩
 refine HT.g_ ht hs pl pu (by rw [hlen]; exact hw) ?_ (by rw [hlen]; exact hz)
 rw [hlen]
 refine ⟨.ref s.heap.objs.size,_,I.laid (t':=s.toks) (o:=.tup (kE xs lo hi)) (λb ob q=>Qa _ q) (Qe _) ?_,rfl,q _ (I.aq.fresh (Qe _))⟩
 exact ⟨Jl (qY xs lo hi) hz,_,0,(r.drop (HT.cg xs.length 0 lo)).take (HT.cg xs.length xs.length hi - HT.cg xs.length 0 lo),Qg _ rfl⟩
def Z6 (K:Rc):R2:=λx y H Q=>∃ a b xs ys,x=.ref a/\y=.ref b/\aj K H a xs/\aj K H b ys/\xs≠[]/\xs.length+ys.length<=sizeLine /\
 (ys = []->Q (.ref a) H)/\(ys≠[]->∀ p,H p=none->Q (.ref p) (upd H p (.tup (xs++ys))))
theorem bR.km (r:bR xs us):us = []↔xs = []:=by
 cases r with
 | nil=>simp
 | cons _ _=>simp
theorem Q3:dr X (binaryOp .Add) (Z6 X.K):=by
 intro aa s σ H x y v u Q I rx ry h
 obtain ⟨a,b,xs,ys,rfl,rfl,ha,hb,hx,hz,q1,q2⟩:=h
 cases rx
 cases ry
 obtain ⟨ae,r1,p1,_⟩:=I.tuple ha
 obtain ⟨tj,r2,p2,_⟩:=I.tuple hb
 refine HT.x8 p1 p2 (λz=>hx (r1.km.mp z)) (λz=>⟨.ref a,H,I,rfl,q1 (r2.km.mp z)⟩) (λz=>?_) (by rw [<- r1.length,<- r2.length]; exact hz)
 refine ⟨.ref s.heap.objs.size,_,I.laid (t':=s.toks) (o:=.tup (xs++ys)) (λb ob q=>Qa _ q) (Qe _) ?_,rfl,q2 (λw=>z (r2.km.mpr w)) _ (I.aq.fresh (Qe _))⟩
 exact ⟨by rw [Qn]; exact hz,_,0,r1.append r2,Qg _ rfl⟩
end
def vh (n:Nat) (i:Int):Option Nat:=if 0<=i then (if i < n then some i.toNat else none) else if -(n:Int)<=i then some (i+n).toNat else none
def ka (xs:List α) (i:Int):Option α:=(vh xs.length i).bind λj=>xs[j]?
theorem Q2 {i:Int} (h:vh n i=some j):seqIndex? i n=some j/\j < n/\-(n:Int)<=i/\i < n:=by
 unfold vh at h
 by_cases h0:0<=i
 ·rw [if_pos h0] at h
  by_cases h1:i < n
  ·rw [if_pos h1] at h
   have e:i.toNat=j:=Option.some.inj h
   exact ⟨by rw [Rax h0 h1,e],by omega,by omega,h1⟩
  ·rw [if_neg h1] at h; cases h
 ·rw [if_neg h0] at h
  by_cases h1:-(n:Int)<=i
  ·rw [if_pos h1] at h
   have e:(i+n).toNat=j:=Option.some.inj h
   exact ⟨by rw [Ran (by omega) h1,e],by omega,h1,by omega⟩
  ·rw [if_neg h1] at h; cases h
theorem Q0 {xs:List α} {i:Int} {v:α} (h:ka xs i=some v):∃ j,seqIndex? i xs.length=some j/\xs[j]?=some v/\j < xs.length/\-(xs.length:Int)<=i/\i < xs.length:=by
 unfold ka at h
 cases e:vh xs.length i with
 | none=>rw [e] at h; cases h
 | some j =>
  rw [e] at h
  obtain ⟨h1,h2,h3,h4⟩:=Q2 e
  exact ⟨j,h1,h,h2,h3,h4⟩
theorem cW {xs:List α} {v:α} (h:xs[j]?=some v):ka xs (j:Int)=some v:=by
 have hj:j < xs.length:=(Qd.mp h).1
 have e:vh xs.length (j:Int)=some j:=by
  unfold vh
  rw [if_pos (by omega),if_pos (by omega)]; simp
 unfold ka; rw [e]; exact h
def aFT (b:Expr):Prop:=∀ o i,subscripted b false o i=operate [o,i] (getItem o i)
def FN (X:Cx) (r:R2):Prop :=
 ∀ (value slice:Expr) (aa:List (Addr×Obj)) (s:Shared) (σ:St) (H:Hp) (x y:V) (v u:Value) (Q:VK),Inv X aa σ H s->bY x v->bY y u->r x y H Q ->
  subscripted slice false v u=operate [v,u] (getItem v u)->wpAny (model X.prog X.w) X.A (subscriptTail value slice v u) (EP X aa σ Q) X.xe s
def AF (X:Cx) (id:String) (r:V->List V->Hp->VK->Prop):Prop :=
 ∀ (aa:List (Addr×Obj)) (s:Shared) (σ:St) (H:Hp) (x:V) (xs:List V) (v:Value) (us:List Value) (Q:VK),Inv X aa σ H s->bY x v->bR xs us->r x xs H Q ->
  wpAny (model X.prog X.w) X.A (call (.builtin id) (v::us)) (EP X aa σ Q) X.xe s
section
variable {a b:Expr} {tb:TE}
theorem bK (hr:FN X r) (ha:PE X a ta) (hb:PE X b tb) (hs:aFT b):PE X (.Subscript a b pos) (iy r ta tb):=by
 intro aa s σ H Q I h
 exact Ie (IE ha hb I h λv u s2 x y H2 I2 rx ry q=>hr a b aa s2 σ H2 x y v u Q I2 rx ry q (hs _ _))
def YI (K:Rc):R2:=λx y H Q=>∃ p xs i v,x=.ref p/\y=.int i/\ak K H p xs/\ka xs i=some v/\Q v H
def OM (K:Rc):R2:=λx y H Q=>∃ p xs i v,x=.ref p/\y=.int i/\aj K H p xs/\ka xs i=some v/\Q v H
theorem cX:FN X (YI X.K):=by
 intro value slice aa s σ H x y v u Q I rx ry h hs
 obtain ⟨p,xs,i,z,rfl,rfl,hq,he,q⟩:=h
 cases rx
 obtain ⟨t,rfl⟩:=ry
 obtain ⟨ae,r,pl,hz⟩:=I.list hq
 obtain ⟨j,h1,h2,h3,h4,h5⟩:=Q0 he
 obtain ⟨w,ew,gc⟩:=r.get h2
 have hl:=r.length
 have hn:=sM
 have fin:EP X aa σ Q w s:=⟨z,H,I,gc,q⟩
 by_cases h0:0<=i
 ·have hj:i.toNat=j:=by
   rw [Rax h0 h5] at h1
   exact Option.some.inj h1
  exact item_listR pl.isList h0 (by omega) (by rw [hj]; simpa using ew) fin hs
 ·have hj:(i+(ae.toArray.size:Int)).toNat=j:=by
   rw [Ran (by omega) h4] at h1
   rw [Qm,<- hl]
   exact Option.some.inj h1
  exact Vg (x:=w) pl.isList.typeIs slot_list_getitem.lookup
   (wpAny_getItem_list_neg (Q:=λr s'=>r=w/\EP X aa σ Q r s') pl.isList (by omega) (by rw [Qm] <;> omega) (by omega) (by rw [hj]; simpa using ew) ⟨rfl,fin⟩) hs
theorem fU:FN X (OM X.K):=by
 intro value slice aa s σ H x y v u Q I rx ry h hs
 obtain ⟨p,xs,i,z,rfl,rfl,hq,he,q⟩:=h
 cases rx
 obtain ⟨t,rfl⟩:=ry
 obtain ⟨ae,r,pl,hz⟩:=I.tuple hq
 obtain ⟨j,h1,h2,h3,h4,h5⟩:=Q0 he
 obtain ⟨w,ew,gc⟩:=r.get h2
 have hl:=r.length
 have hn:=sM
 have fin:EP X aa σ Q w s:=⟨z,H,I,gc,q⟩
 exact Vg (x:=w) pl.typeIs slot_tuple_getitem.lookup
  (getItem_tuple (j:=j) (Q:=λr s'=>r=w/\EP X aa σ Q r s') pl (by omega) (by omega) (by rw [Qm,<- hl]; exact h1) (by simpa using ew) ⟨rfl,fin⟩) hs
theorem aA2 (ae:List Value) (n j:Nat) (u:Value):Obj.mapSeq (·.setIfInBounds j u) { cls:=.type "list",data:=.seq ae.toArray n }={ cls:=.type "list",data:=.seq (ae.set j u).toArray n }:=by
 simp [Obj.mapSeq]
theorem Inv.lst {σ:St} {p:Addr} (I:Inv X aa σ H s) (h:H p=some (.lst xs)) :
  ∃ (ae:List Value) (n:Nat),bR xs ae/\s.heap.get? p=some { cls:=.type "list",data:=.seq ae.toArray n }/\xs.length<=sizeLine:=by
 obtain ⟨z,ae,n,r,e⟩:=I.aq p _ h
 exact ⟨ae,n,r,e,z⟩
theorem Inv.Ba {σ:St} {p:Addr} {ae its':List Value} {n':Nat} {f:Obj->Obj} (I:Inv X aa σ H s) (h:H p=some (.lst xs)) (ho:s.heap.get? p=some { cls:=.type "list",data:=.seq ae.toArray n }) (hf:f { cls:=.type "list",data:=.seq ae.toArray n }={ cls:=.type "list",data:=.seq its'.toArray n' }) (r:bR ys its') (hz:ys.length<=sizeLine) (t:Nat) :
  Inv X aa σ (upd H p (.lst ys)) { s with heap:=s.heap.update p f,toks:=t }:=by
 have e:(s.heap.update p f).get? p=some { cls:=.type "list",data:=.seq its'.toArray n' }:=by
  rw [Jx f ho (by rw [hf] <;> rfl),hf]
 refine I.write (x:=p) (e:=p) (by rw [h]; trivial) (.inl rfl) (λb u hb q=>(Je _ _ (Ne.symm hb)).trans q) ⟨_,e⟩ ?_
 exact ⟨hz,its',n',r,e⟩
def Z5:V->V->V->Hp->(Hp->Prop)->Prop:=λo i v H Q=>∃ p xs k j,o=.ref p/\i=.int k/\H p=some (.lst xs)/\vh xs.length k=some j/\Q (upd H p (.lst (xs.set j v)))
theorem oV:Ov X Z5:=by
 intro aa s σ H o i v ov iv u Q I ro ri rv h
 obtain ⟨p,xs,k,j,rfl,rfl,hp,hj,q⟩:=h
 cases ro
 obtain ⟨t,rfl⟩:=ri
 obtain ⟨ae,n,r,ho,hz⟩:=I.lst hp
 obtain ⟨h1,h2,h3,h4⟩:=Q2 hj
 have hl:=r.length
 have hn:=sM
 have I':Inv X aa σ (upd H p (.lst (xs.set j v))) { s with heap:=s.heap.update p (Obj.mapSeq (·.setIfInBounds j u)) } :=
  I.Ba hp ho (aA2 ae n j u) (r.set rv j) (by rw [Zx]; exact hz) s.toks
 by_cases h0:0<=k
 ·have hk:k.toNat=j:=by
   rw [Rax h0 h4] at h1
   exact Option.some.inj h1
  exact PySem.W.ki_setAt ho h0 (by omega) (by rw [Qm,<- hl]; exact h4) (by rw [hk]; exact ⟨_,I',q⟩)
 ·have hk:(k+(ae.toArray.size:Int)).toNat=j:=by
   rw [Ran (by omega) h3] at h1
   rw [Qm,<- hl]
   exact Option.some.inj h1
  exact PySem.W.ki_setBack ho (by omega) (by rw [Qm,<- hl]; exact h3) (by omega) (by rw [hk]; exact ⟨_,I',q⟩)
theorem xB (lo hi:Option Int) (n:Nat):(sliceBounds lo hi none n).1=((HT.cg n 0 lo:Nat):Int)/\(sliceBounds lo hi none n).2.1=((HT.cg n n hi:Nat):Int)/\(sliceBounds lo hi none n).2.2=1:=by
 refine ⟨?_,?_,rfl⟩
 ·cases lo with
  | none=>simp [sliceBounds,HT.cg]
  | some i =>
   simp only [sliceBounds,HT.cg,Qaa,show (1:Int) > 0 by decide,if_true]
   by_cases h:i < 0
   ·simp only [h,if_true] <;> omega
   ·simp only [h,if_false] <;> omega
 ·cases hi with
  | none=>simp [sliceBounds,HT.cg]
  | some i =>
   simp only [sliceBounds,HT.cg,Qaa,show (1:Int) > 0 by decide,if_true]
   by_cases h:i < 0
   ·simp only [h,if_true] <;> omega
   ·simp only [h,if_false] <;> omega
theorem uN (ae:List Value) (lo hi:Option Int):slicePick ae.toArray lo hi none=((ae.drop (HT.cg ae.length 0 lo)).take (HT.cg ae.length ae.length hi - HT.cg ae.length 0 lo)).toArray:=by
 obtain ⟨h1,h2,h3⟩:=xB lo hi ae.toArray.size
 unfold slicePick
 rw [h1,h2,h3]
 simp only [sliceRange_one,pick_run,Qm] <;> rfl
def OJ (K:Rc):V->Option Int->Option Int->Hp->VK->Prop:=λx lo hi H Q=>∃ a xs,x=.ref a/\ak K H a xs/\∀ p,H p=none->Q (.ref p) (upd H p (.lst (kE xs lo hi)))
theorem aFU:B2 X (OJ X.K):=by
 intro aa s σ H x v vl vu lo hi sl Q I rx hs pl pu h
 obtain ⟨a,xs,rfl,hx,q⟩:=h
 cases rx
 obtain ⟨ae,r,ht,hz⟩:=I.list hx
 have hlen:=r.length
 refine ⟨"list",_,slot_list_getitem.lookup,ht.isList.typeIs,?_⟩
 refine Ral ht.isList hs pl pu .none (by simp) ?_ (by rw [Qm] <;> omega)
 rw [uN,<- hlen]
 refine ⟨.ref s.heap.objs.size,_,I.laid (t':=s.toks) (o:=.lst (kE xs lo hi)) (λb ob q=>Qa _ q) (Qe _) ?_,rfl,q _ (I.aq.fresh (Qe _))⟩
 exact ⟨Jl (qY xs lo hi) hz,_,0,(r.drop (HT.cg xs.length 0 lo)).take (HT.cg xs.length xs.length hi - HT.cg xs.length 0 lo),Qg _ rfl⟩
def oW:V->Bool
 | .bw=>true
 | .bl _=>true
 | .int _=>true
 | .str _=>true
 | _=>false
def yt:V->V->Bool
 | .bw,.bw=>true
 | .bl a,.bl b=>a==b
 | .bl a,.int b=>(if a then 1 else 0)==b
 | .int a,.bl b=>a==(if b then 1 else 0)
 | .int a,.int b=>a==b
 | .str a,.str b=>a==b
 | _,_=>false
theorem n! {x:V} {v:Value} (ry:bY y u) (rx:bY x v) (fy:oW y=true) (fx:oW x=true):SeqAt.EqAt A s u v (yt y x):=by
 cases y with
 | bw =>
  cases ry
  cases x with
  | bw=>cases rx; exact SeqAt.EqAt.same _
  | bl b=>cases rx; exact SeqAt.EqAt.none_bool b
  | int b=>obtain ⟨t,rfl⟩:=rx; exact SeqAt.EqAt.none_int b t
  | str b=>obtain ⟨t,rfl⟩:=rx; exact SeqAt.EqAt.none_str b t
  | _=>exact absurd (show false=true from fx) Qs
 | bl a =>
  cases ry
  cases x with
  | bw=>cases rx; exact SeqAt.EqAt.bool_none a
  | bl b=>cases rx; exact SeqAt.EqAt.bool_bool a b
  | int b=>obtain ⟨t,rfl⟩:=rx; exact SeqAt.EqAt.bool_int a b t
  | str b=>obtain ⟨t,rfl⟩:=rx; exact SeqAt.EqAt.bool_str a b t
  | _=>exact absurd (show false=true from fx) Qs
 | int a =>
  obtain ⟨t',rfl⟩:=ry
  cases x with
  | bw=>cases rx; exact SeqAt.EqAt.int_none a t'
  | bl b=>cases rx; exact SeqAt.EqAt.int_bool a t' b
  | int b=>obtain ⟨t,rfl⟩:=rx; exact SeqAt.EqAt.int_int a t' b t
  | str b=>obtain ⟨t,rfl⟩:=rx; exact SeqAt.EqAt.int_str a t' b t
  | _=>exact absurd (show false=true from fx) Qs
 | str a =>
  obtain ⟨t',rfl⟩:=ry
  cases x with
  | bw=>cases rx; exact SeqAt.EqAt.str_none a t'
  | bl b=>cases rx; exact SeqAt.EqAt.str_bool a t' b
  | int b=>obtain ⟨t,rfl⟩:=rx; exact SeqAt.EqAt.str_int a t' b t
  | str b=>obtain ⟨t,rfl⟩:=rx; exact SeqAt.EqAt.str_str a t' b t
  | _=>exact absurd (show false=true from fx) Qs
 | _=>exact absurd (show false=true from fy) Qs
def nc (x:V) (u:Value):Bool:=match u with
 | .none=>yt .bw x
 | .bool b=>yt (.bl b) x
 | .int i _=>yt (.int i) x
 | .str z _=>yt (.str z) x
 | _=>false
theorem PV {x:V} (r:bY y u) (f:oW y=true):nc x u=yt y x:=by
 cases y with
 | bw=>cases r; rfl
 | bl b=>cases r; rfl
 | int i=>obtain ⟨t,rfl⟩:=r; rfl
 | str z=>obtain ⟨t,rfl⟩:=r; rfl
 | _=>exact absurd (show false=true from f) Qs
theorem rQ {x:V}:∀ {xs:List V} {us:List Value},bR xs us->xs.all oW=true->us.any (nc x)=xs.any λy=>yt y x
 := by
 intro xs us h
 induction h with
 | nil=>intro _; rfl
 | cons r t ih =>
  intro f
  rw [Wp,Jc] at f
  rw [Za,Za,PV r f.1,ih f.2]
theorem lX {x:V} {v:Value} (rx:bY x v) (fx:oW x=true):∀ {xs:List V} {us:List Value},bR xs us->xs.all oW=true->∀ u∈us,SeqAt.EqAt A s u v (nc x u)
 | _,_,.nil,_=>λu hu=>by cases hu
 | y::xs,u::us,.cons r t,f=>λu' hu=>by
  rw [Wp,Jc] at f
  rcases Qj.mp hu with rfl | hu
  ·rw [PV r f.1]; exact n! r rx f.1 fx
  ·exact lX rx fx t f.2 u' hu
def uu (x:V) (xs:List V):Bool:=xs.any λy=>yt y x
def Ce (K:Rc) (neg:Bool):R2:=λx y H Q=>∃ p xs,y=.ref p/\(ak K H p xs∨aj K H p xs)/\oW x=true/\xs.all oW=true/\Q (.bl (if neg then !uu x xs else uu x xs)) H
theorem vS:dr X (compareOp .In) (Ce X.K false):=by
 intro aa s σ H x y v u Q I rx ry h
 obtain ⟨p,xs,rfl,hq,fx,fs,q⟩:=h
 cases ry
 rcases hq with hq | hq
 ·obtain ⟨ae,r,pl,hz⟩:=I.list hq
  refine SeqAt.in_listAt (nc x) pl.isList (λw hw=>lX rx fx r fs w (by simpa using hw)) ⟨.bl _,H,I,rfl,?_⟩
  rw [show ae.toArray.any (nc x)=ae.any (nc x) by simp,rQ r fs]
  exact q
 ·obtain ⟨ae,r,pl,hz⟩:=I.tuple hq
  refine SeqAt.in_tupleAt (nc x) pl (λw hw=>lX rx fx r fs w (by simpa using hw)) ⟨.bl _,H,I,rfl,?_⟩
  rw [show ae.toArray.any (nc x)=ae.any (nc x) by simp,rQ r fs]
  exact q
theorem lA:dr X (compareOp .NotIn) (Ce X.K true):=by
 intro aa s σ H x y v u Q I rx ry h
 obtain ⟨p,xs,rfl,hq,fx,fs,q⟩:=h
 cases ry
 rcases hq with hq | hq
 ·obtain ⟨ae,r,pl,hz⟩:=I.list hq
  refine SeqAt.notIn_listAt (nc x) pl.isList (λw hw=>lX rx fx r fs w (by simpa using hw)) ⟨.bl _,H,I,rfl,?_⟩
  rw [show ae.toArray.any (nc x)=ae.any (nc x) by simp,rQ r fs]
  exact q
 ·obtain ⟨ae,r,pl,hz⟩:=I.tuple hq
  refine SeqAt.notIn_tupleAt (nc x) pl (λw hw=>lX rx fx r fs w (by simpa using hw)) ⟨.bl _,H,I,rfl,?_⟩
  rw [show ae.toArray.any (nc x)=ae.any (nc x) by simp,rQ r fs]
  exact q
theorem bL:eN X (.builtin "len") (λxs H Q=>∃ p ys,xs = [.ref p]/\(ak X.K H p ys∨aj X.K H p ys)/\Q (.int ys.length) H):=by
 intro aa s σ H xs us Q I r h
 obtain ⟨p,ys,rfl,hq,q⟩:=h
 obtain ⟨u,rfl,rx⟩:=gM r
 cases rx
 have hn:=sM
 rcases hq with hq | hq
 ·obtain ⟨ae,r',pl,hz⟩:=I.list hq
  have hlen:=r'.length
  exact Calls.call_len_list pl.isList (by simp only [Qm] <;> omega) ⟨.int ys.length,H,I.tok _,⟨s.toks+1,by rw [Qm,hlen]⟩,q⟩
 ·obtain ⟨ae,r',pl,hz⟩:=I.tuple hq
  have hlen:=r'.length
  exact len_tuple pl (by simp only [Qm] <;> omega) ⟨.int ys.length,H,I.tok _,⟨s.toks+1,by rw [Qm,hlen]⟩,q⟩
theorem oX:eN X (.type "list") (λxs H Q=>∃ p ys,xs = [.ref p]/\(ak X.K H p ys∨aj X.K H p ys)/\∀ l,H l=none->Q (.ref l) (upd H l (.lst ys))):=by
 intro aa s σ H xs us Q I r h
 obtain ⟨p,ys,rfl,hq,q⟩:=h
 obtain ⟨u,rfl,rx⟩:=gM r
 cases rx
 have fin:∀ (ae:List Value),bR ys ae->ys.length<=sizeLine->∀ (h':Heap) (c':Nat),(∀ b o',s.heap.get? b=some o'->h'.get? b=some o') ->
   h'.get? s.heap.objs.size=some { cls:=.type "list",dict:=none,data:=.seq ae.toArray c',slots:=#[] }->EP X aa σ Q (.ref s.heap.objs.size) { s with heap:=h' }:=λae r' hz h' c' kp e =>
  ⟨.ref s.heap.objs.size,_,I.laid (t':=s.toks) kp (Qe _) (show bM X.prog X.w _ h' _ (.lst ys) from ⟨hz,ae,c',r',e⟩),rfl,q _ (I.aq.fresh (Qe _))⟩
 rcases hq with hq | hq
 ·obtain ⟨ae,r',pl,hz⟩:=I.list hq
  have hlen:=r'.length
  obtain ⟨o,ho,hc,n,hd⟩:=pl.isList
  exact call_list_seq p (.inl rfl) ho hc hd (λh' c' kp e=>fin ae r' hz h' c' kp e) (by simp only [Qm] <;> omega)
 ·obtain ⟨ae,r',pl,hz⟩:=I.tuple hq
  have hlen:=r'.length
  obtain ⟨o,ho,hc,n,hd⟩:=pl
  exact call_list_seq p (.inr rfl) ho hc hd (λh' c' kp e=>fin ae r' hz h' c' kp e) (by simp only [Qm] <;> omega)
theorem cC:eN X (.type "tuple") (λxs H Q=>∃ p ys,xs = [.ref p]/\((ak X.K H p ys/\∀ l,H l=none->Q (.ref l) (upd H l (.tup ys)))∨(aj X.K H p ys/\Q (.ref p) H))):=by
 intro aa s σ H xs us Q I r h
 obtain ⟨p,ys,rfl,h⟩:=h
 obtain ⟨u,rfl,rx⟩:=gM r
 cases rx
 rcases h with ⟨hq,q⟩ | ⟨hq,q⟩
 ·obtain ⟨ae,r',pl,hz⟩:=I.list hq
  have hlen:=r'.length
  refine call_tuple_list pl.isList (λh' kp=>?_) (by simp only [Qm] <;> omega)
  have I1:Inv X aa σ H { s with heap:=h' }:=I.kept (t':=s.toks) kp
  have I2:Inv X aa σ (upd H h'.objs.size (.tup ys)) { s with heap:=h'.push { cls:=.type "tuple",data:=.seq ae.toArray } } :=
   I1.laid (t':=s.toks) (λb o e=>Qa _ e) (Qe _) (show bM X.prog X.w _ _ _ (.tup ys) from ⟨hz,ae,0,r',Qg _ rfl⟩)
  exact ⟨.ref h'.objs.size,_,I2,rfl,q _ (I1.aq.fresh (Qe _))⟩
 ·obtain ⟨ae,r',pl,hz⟩:=I.tuple hq
  exact call_tuple_same pl ⟨.ref p,H,I,rfl,q⟩
def La (K:Rc) (T:String) (x:V) (H:Hp):Prop:=match x with
 | .str _=>T = "str"
 | .int _=>T = "int"
 | .ref p => (T = "list" /\ ∃ xs, ak K H p xs) ∨ (T = "tuple" /\ ∃ xs, aj K H p xs) ∨
     (T = "dict" /\ ((∃ kvs,H p=some (.dK kvs))∨∃ kvs,H p=some (.dT kvs)))∨(T = "set" /\ ∃ S n,H p=some (.set S n))
 | _=>False
theorem PU {σ:St} {x:V} {v:Value} (I:Inv X aa σ H s) (r:bY x v) (ty:La X.K T x H) :
  s.TypeIs v T/\∀ a,v=.ref a->∃ ob,s.heap.get? a=some ob/\ob.dict=none:=by
 cases x with
 | str z =>
  obtain ⟨t,rfl⟩:=r
  cases (show T = "str" from ty)
  exact ⟨typeIs_str s z t,λ_ e=>nomatch e⟩
 | int i =>
  obtain ⟨t,rfl⟩:=r
  cases (show T = "int" from ty)
  exact ⟨Ve s i t,λ_ e=>nomatch e⟩
 | ref p =>
  cases r
  rcases ty with ⟨rfl,xs,hq⟩ | ⟨rfl,xs,hq⟩ | ⟨rfl,hk⟩ | ⟨rfl,S,n,hk⟩
  ·obtain ⟨ae,_,pl,_⟩:=I.list hq
   refine ⟨pl.isList.typeIs,λa e=>?_⟩
   cases e
   obtain ⟨o,n,e,c,hd,_⟩:=pl
   exact ⟨o,e,hd⟩
  ·obtain ⟨o,e,hc,hd⟩:∃ o,s.heap.get? p=some o/\o.cls=.type "tuple" /\ o.dict=none:=by
    rcases hq with hq | ⟨o,_,_,hk,hc,hd,_⟩
    ·obtain ⟨_,ae,n,_,e⟩:=hq.ok I.aq
     exact ⟨_,e,rfl,rfl⟩
    ·exact ⟨o,I.oa p o hk,hc,hd⟩
   refine ⟨⟨o,e,hc⟩,λa e2=>?_⟩
   cases e2
   exact ⟨o,e,hd⟩
  ·have z:∃ o,s.heap.get? p=some o/\o.ExactDict:=by
    rcases hk with ⟨kvs,hk⟩ | ⟨kvs,hk⟩
    ·obtain ⟨_,_,_,_,o,_,_,e,ex,_⟩:=I.aq p _ hk
     exact ⟨o,e,ex⟩
    ·obtain ⟨_,_,_,_,o,_,_,e,ex,_⟩:=I.aq p _ hk
     exact ⟨o,e,ex⟩
   obtain ⟨o,e,ex⟩:=z
   refine ⟨⟨o,e,ex.1⟩,λa e2=>?_⟩
   cases e2
   exact ⟨o,e,ex.2.1⟩
  ·obtain ⟨o,_,_,_,e,ex,_⟩:=I.aq p _ hk
   refine ⟨⟨o,e,ex.1⟩,λa e2=>?_⟩
   cases e2
   exact ⟨o,e,ex.2.1⟩
 | _=>exact False.elim ty
def Le (K:Rc) (T:String) (r:V->List V->Hp->VK->Prop) (to:TE) (t:TA):TE:=λσ H Q=>to σ H λx H1=>La K T x H1/\t σ H1 λxs H2=>r x xs H2 Q
variable {o:Expr} {t:TA} {id:String} {r:V->List V->Hp->VK->Prop}
theorem nS (pa:PlainAttrs T) (slot:Slot T name id) (EN:typeOf (.builtin id)=pure (.type "method_descriptor")) (hm:AF X id r) (ho:PE X o to) (ha:PA X (e::es) t)
  (l9:attributeBase o name X.env (eval o X.env)=eval o X.env:=by rfl)
  (A4:((backTo dc (starEach (e::es) X.env)).all (λx=>!x.1) && (backToKw dc (keywordEach [] X.env)).all (λx=>x.1.isSome)
   && decide ((e::es).length+([]:List Keyword).length+(if ([]:List Keyword).isEmpty then 0 else 1) < 30))=true:=by rfl)
  (lx:(apos.endLine==dc.line)=true:=by rfl) (hs:starEach (e::es) X.env=(false,eval e X.env)::starEach es X.env:=by rfl) (n8:(backTo dc (starEach es X.env)).any (·.1)=false:=by rfl) :
  PE X (.Call (.Attribute o name apos) (e::es) [] dc) (Le X.K T r to t):=by
 intro aa s σ H Q I h
 refine wpAny_Call_method_late l9 A4 lx rfl (bf (ho aa s σ H _ I h) λv s1 au=>?_)
 obtain ⟨x,H1,I1,r1,ty,q1⟩:=au
 obtain ⟨h1,h2⟩:=PU I1 r1 ty
 refine ⟨T,id,pa,slot,EN,h1,h2,?_⟩
 have hA:=ha dc aa s1 σ H1 _ I1 q1
 rw [hs] at hA ⊢
 refine Calls.callWith_builtin (by show (false || (backTo dc (starEach es X.env)).any (·.1))=false; rw [n8] <;> rfl) (Calls.evalArgs_plain ?_)
 refine bf hA λus s2 au=>?_
 obtain ⟨vs,H2,I2,r2,q2⟩:=au
 exact hm aa s2 σ H2 x vs v us Q I2 r1 r2 q2
end
def R8 (X:Cx) (id:String) (r:V->List V->Hp->VK->Prop):Prop :=
 ∀ (aa:List (Addr×Obj)) (s:Shared) (σ:St) (H:Hp) (x:V) (xs:List V) (v:Value) (us:List Value) (Q:VK),Inv X aa σ H s->bY x v->bR xs us->r x xs H Q ->
  wpAny (model X.prog X.w) X.A (call (.builtin id) (v::us)) (EP X aa σ Q) X.xe s
theorem bR.one {x:V} (r:bR [x] us):∃ u,us = [u]/\bY x u:=gM r
theorem bR.eraseIdx:∀ {xs:List V} {us:List Value} (i:Nat),bR xs us->bR (xs.eraseIdx i) (us.eraseIdx i)
 | _,_,_,.nil=>.nil
 | _,_,0,.cons _ t=>t
 | _,_,i+1,.cons r t=>.cons r (bR.eraseIdx i t)
theorem bR.reverse (h:bR xs us):bR xs.reverse us.reverse:=by
 induction h with
 | nil=>exact .nil
 | cons r t ih=>rw [List.reverse_cons,List.reverse_cons]; exact bR.append ih (.cons r .nil)
theorem bR.rep (h:bR xs us):∀ k:Nat,bR (List.replicate k xs).flatten (List.replicate k us).flatten
 | 0=>.nil
 | k+1=>by
  rw [Xi,Xi,Xq,Xq]
  exact bR.append h (bR.rep h k)
theorem vT:∀ (l:List α) (i:Nat),(l.eraseIdx i).length<=l.length
 | [],_=>Qe _
 | _::_,0=>Wi _
 | _::r,i+1=>Ye (vT r i)
theorem kN (ae:List Value):∀ (k:Nat) (acc:List Value),
  List.foldl (λx1 x2=>x1++x2) acc.toArray (List.replicate k ae.toArray)=(acc++(List.replicate k ae).flatten).toArray
 | 0,acc=>by simp
 | k+1,acc=>by
  have e:acc.toArray++ae.toArray=(acc++ae).toArray:=by simp
  have e2:(acc++ae)++(List.replicate k ae).flatten=acc++(List.replicate (k+1) ae).flatten:=by
   rw [Xi,Xq,Xr]
  rw [<- e2,<- kN ae k (acc++ae),<- e,Xi,List.foldl_cons]
section
variable {σ:St} {l:Addr}
theorem Inv.DC {ae its':List Value} {f:Array Value->Array Value} (I:Inv X aa σ H s) (hH:H l=some (.lst xs)) (e:s.heap.get? l=some { cls:=.type "list",data:=.seq ae.toArray n }) (hf:f ae.toArray=its'.toArray) (hv:bR ys its') (hz:ys.length<=sizeLine) :
  Inv X aa σ (upd H l (.lst ys)) { s with heap:=s.heap.update l (Obj.mapSeq f),toks:=t' }:=by
 have q:=PySem.IsL.update e f
 rw [hf] at q
 refine I.write (x:=l) (e:=l) (by rw [hH]; exact trivial) (.inl rfl) (λb' u hb hu=>(Je s.heap (Obj.mapSeq f) (Ne.symm hb)).trans hu) ⟨_,q⟩ ?_
 exact ⟨hz,its',_,hv,q⟩
theorem Inv.DE {ae:List Value} (I:Inv X aa σ H s) (hv:bR ys ae) (hz:ys.length<=sizeLine) :
  Inv X aa σ (upd H s.heap.objs.size (.lst ys)) { s with heap:=s.heap.push { cls:=.type "list",data:=.seq ae.toArray },toks:=t' } :=
 I.laid (λ_ _ q=>Qa _ q) (Qe _) ⟨hz,ae,0,hv,Qg _ rfl⟩
theorem Inv.fresh (I:Inv X aa σ H s):H s.heap.objs.size=none:=I.aq.fresh (Qe _)
theorem Inv.tf (I:Inv X aa σ H s) (hH:H l=some (.lst xs)):xs.length<=sizeLine/\∃ (ae:List Value) (n:Nat),bR xs ae/\xs.length=ae.length/\s.heap.get? l=some { cls:=.type "list",data:=.seq ae.toArray n }:=by
 obtain ⟨z,ae,n,r,e⟩:=I.aq l _ hH
 exact ⟨z,ae,n,r,r.length,e⟩
theorem aD9 (h:n<=sizeLine):Builtin.List.listTooLong n=false:=by
 unfold Builtin.List.listTooLong
 exact decide_eq_false (by omega)
end
def aFV:V->List V->Hp->VK->Prop:=λx vs H Q=>∃ l xs y,x=.ref l/\vs = [y]/\H l=some (.lst xs)/\xs.length < sizeLine/\Q .bw (upd H l (.lst (xs++[y])))
theorem iL:R8 X "list.append" aFV:=by
 intro aa s σ H x vs v us Q I rx rv h
 obtain ⟨l,xs,y,rfl,rfl,hH,hz,q⟩:=h
 cases rx
 obtain ⟨u,rfl,ru⟩:=rv.one
 obtain ⟨z,ae,n,r,hl,e⟩:=I.tf hH
 refine Ti F.slot_list_append ⟨_,e,rfl⟩ F.entry_list_append (F.args_list_append_2 _ _) (PySem.list_append l ae.toArray n u (by rw [Qm]; omega)) ⟨e,?_⟩
 refine ⟨.bw,_,I.DC (its':=ae++[u]) hH e (by simp) (r.append (.cons ru .nil)) ?_,rfl,q⟩
 rw [Qn,List.length_singleton]
 omega
def m?:V->List V->Hp->VK->Prop:=λx vs H Q=>∃ l xs i k y,x=.ref l/\vs = [.int i]/\H l=some (.lst xs)/\-(2^63)<=i/\i < 2^63/\seqIndex? i xs.length=some k/\xs[k]?=some y/\Q y (upd H l (.lst (xs.eraseIdx k)))
theorem aEa:R8 X "list.pop" m?:=by
 intro aa s σ H x vs v us Q I rx rv h
 obtain ⟨l,xs,i,k,y,rfl,rfl,hH,h1,h2,hk,hy,q⟩:=h
 cases rx
 obtain ⟨u,rfl,ru⟩:=rv.one
 obtain ⟨t,rfl⟩:=ru
 obtain ⟨z,ae,n,r,hl,e⟩:=I.tf hH
 obtain ⟨w,hw,gc⟩:=r.get hy
 refine Ti F.slot_list_pop ⟨_,e,rfl⟩ F.entry_list_pop (F.args_list_pop_2 _ _)
  (MeetsSeq.list_pop_at l ae.toArray n i t k w (fitsIndex_both h1 h2) (by rw [Qm,<- hl]; exact hk) (by rw [<- Array.getElem?_toList]; exact hw) (by rw [Qm]; omega)) ⟨e,?_⟩
 refine ⟨y,_,I.DC (its':=ae.eraseIdx k) hH e ?_ (r.eraseIdx k) ?_,gc,q⟩
 ·show ae.toArray.eraseIdxIfInBounds k=(ae.eraseIdx k).toArray
  rw [List.eraseIdxIfInBounds_toArray]
 ·have:=vT xs k
  omega
def sN:R2:=λx y H Q=>∃ l b xs zs,x=.ref l/\y=.ref b/\H l=some (.lst xs)/\H b=some (.lst zs)/\xs.length+zs.length<=sizeLine/\∀ p,H p=none->Q (.ref p) (upd H p (.lst (xs++zs)))
theorem iM:dr X (binaryOp .Add) sN:=by
 intro aa s σ H x y v u Q I rx ry h
 obtain ⟨l,b,xs,zs,rfl,rfl,hH,hB,hz,q⟩:=h
 cases rx
 cases ry
 obtain ⟨z,ae,n,r,hl,e⟩:=I.tf hH
 obtain ⟨z2,tj,n2,r2,oq,e2⟩:=I.tf hB
 refine PySem.P.add_list e e2 ?_ (by rw [Qm,Qm]; omega)
 have ea:ae.toArray++tj.toArray=(ae++tj).toArray:=by simp
 rw [ea]
 exact ⟨.ref _,_,I.DE (t':=s.toks) (r.append r2) (by rw [Qn]; omega),rfl,q _ I.fresh⟩
def OI:R2:=λx y H Q=>∃ l k xs,x=.ref l/\y=.int k/\H l=some (.lst xs)/\-(2^63)<=k/\k < 2^63/\xs.length*k.toNat<=sizeLine /\
 ∀ p,H p=none->Q (.ref p) (upd H p (.lst (List.replicate k.toNat xs).flatten))
theorem rR (xs:List α) (k:Nat):(List.replicate k xs).flatten.length=k*xs.length:=by
 induction k with
 | zero=>simp
 | succ k ih=>rw [Xi,Xq,Qn,ih,Nat.succ_mul,Nat.add_comm]
theorem Px:dr X (binaryOp .Mult) OI:=by
 intro aa s σ H x y v u Q I rx ry h
 obtain ⟨l,k,xs,rfl,rfl,hH,h1,h2,hz,q⟩:=h
 cases rx
 obtain ⟨t,rfl⟩:=ry
 obtain ⟨z,ae,n,r,hl,e⟩:=I.tf hH
 have hlen:ae.toArray.size*k.toNat<=sizeLine:=by rw [Qm,<- hl]; exact hz
 have KG:¬ ae.toArray.size*k.toNat > (2^63 - 1) / 8:=by
  have:(sizeLine:Nat)<=(2^63 - 1) / 8:=by decide
  omega
 have nv:¬ (!Builtin.List.listFitsIndex k)=true:=by
  rw [fitsIndex_both h1 h2]
  exact Qs
 have Ed:¬ Builtin.List.listTooLong (ae.toArray.size*k.toNat)=true:=by
  rw [aD9 hlen]
  exact Qs
 have tu:List.foldl (λx1 x2=>x1++x2) #[] (List.replicate (if ae.toArray.isEmpty=true then 0 else k.toNat) ae.toArray)=(List.replicate k.toNat ae).flatten.toArray:=by
  have f0:∀ m:Nat,List.foldl (λx1 x2=>x1++x2) #[] (List.replicate m ae.toArray)=(List.replicate m ae).flatten.toArray:=λm=>by
   have:=kN ae m []
   rw [Zk] at this
   exact this
  rw [f0]
  cases ae with
  | nil=>simp
  | cons a r'=>rw [if_neg (by simp)]
 refine Uv (T := "list") (U := "int") (by decide) ⟨_,e,rfl⟩ (λs'=>Ve s' k t) noFill_list_mul F.fills_int_mul F.slot_int_rmul repeat_list F.slot_int_index.lookup
  (Ti F.slot_int_rmul (Ve s k t) F.entry_int_rmul (F.args_int_rmul_2 _ _) (int___rmul___int_list k t l ae.toArray n)
   ⟨e,rfl,⟨_,e,rfl⟩,Ti F.slot_list_mul ⟨_,e,rfl⟩ F.entry_list_mul (F.args_list_mul_2 _ _) (AutoListH.list___mul___list_int_3 l ae.toArray n k t nv KG Ed) ⟨e,?_⟩⟩)
 rw [tu]
 exact ⟨.ref _,_,I.DE (t':=s.toks) (r.rep k.toNat) (by rw [rR,Nat.mul_comm]; exact hz),rfl,q _ I.fresh⟩
end L2
namespace Se
open PySem PySem.W PySem.Calls PyProof.Rows
theorem rM {P:Params}:∀ (ns:List Int) (vs:List Value),WellAll P h vs (ns.map WData.int)->IntsAre vs ns:=by
 intro ns
 induction ns with
 | nil =>
  intro vs w
  rw [Yz] at w
  cases w
  exact .nil
 | cons n ns ih =>
  intro vs w
  rw [Qv] at w
  cases w with
  | cons a b =>
   cases a
   exact .cons _ _ (ih _ b)
theorem aCT {l:OpenLaw} (hn:l.most=some n) {P:Params} {args:List WData} {vals:List Value} (xk:l.row.toRowW.claim.pre args=true) (vj:WellAll P h vals args) :
  ∃ a vs ns,vals = [Value.ref a]/\args = [WData.list (ns.map WData.int)]/\h.get? a=some { cls:=.type "list",data:=.seq vs.toArray }/\IntsAre vs ns/\ns.length<=n:=by
 have LN:WShape.hasAll [] args [.list .int]=true:=(pre_splitW xk).1
 have hc:l.pre.holds [] { args:=args }=true:=(pre_splitW xk).2
 obtain ⟨d,r,rfl,h1,h2⟩:=hasAllW_cons LN
 obtain rfl:=hasAllW_nil h2
 obtain ⟨xs,rfl,h3⟩:=hasW_list h1
 obtain ⟨ns,rfl⟩:=items_int h3
 have hlen:ns.length<=n:=by
  unfold OpenLaw.pre at hc
  have h4:(WTm.not (.lt (.lit (.int (n:Int))) (.len (.arg 0)))).holds [] { args:=[.list (ns.map .int)] }=true:=by
   have h4:=(holds_andW hc).1
   rw [hn] at h4
   exact h4
  have h5:=condW_of h4 (w_not (w_lt w_lit (w_len_list (w_arg rfl))))
  rw [Qc] at h5
  refine Nat.le_of_not_lt λq=>?_
  have q':(n:Int) < ((ns.length:Nat):Int):=by omega
  first
   | (rw [decide_eq_true q'] at h5; exact absurd h5 (by decide))
   | (simp at h5; omega)
 cases vj with
 | cons w1 w2 =>
  cases w2
  cases w1 with
  | list ho t8=>exact ⟨_,_,ns,rfl,rfl,ho,rM ns _ t8,hlen⟩
theorem aCU (l:OpenLaw) (args:List WData):l.row.toRowW.claim.post args (.bool true) args=true :=
 postW_of (r:=l.row.toRowW) (X:=(true==true))
  (show WShape.has [] (.bool true) .bool=true by first | rfl | decide | simp [WShape.has,WShape.arms,WShape.armsAll])
  (show (WTm.eq .res (.lit (.bool true))).value [] { args:=args,res:=some (.bool true),after:=args }=some (.bool (true==true)) from w_eq_bool (w_res rfl) w_lit) rfl
theorem mf {l:OpenLaw} {d:DefRec} (hn:l.most=some n) (CN:d.params.defaults = []) (call:∀ (w:World) (gb b_:Shared) (mg mb:Str->Option Value) (fa:Addr) (o:Obj) (pm cd doc:Value) (a:Addr) (vs:List Value) (ns:List Int),
   Ground q loose [] XP w gb mg mb b_.heap->YP w b_.heap ->
   b_.heap.get? fa=some o->o.data=.func (docDef d.name d.params d.body d.scope pm cd doc)->b_.heap.CodeRec cd d.name->mg d.name=some (.ref fa) ->
   b_.heap.get? a=some { cls:=.type "list",data:=.seq vs.toArray }->IntsAre vs ns->ns.length<=n->b_.gens = #[] ->
   codeAny (model l.prog w) callerA (.call (.ref fa) ⟨[.ref a],[]⟩) (λr s'=>r=.ok (.ret (.bool true))/\OldK b_.heap s'.heap/\s'.os=b_.os/\AllBare s'.gens) b_) :
  WalkO q loose XP YP l.row.toRowW d [] (λf vs=>Ram f vs):=by
 intro w gb b_ mg mb G Y fa o pm cd doc dV kV ho hd jm hD yh hg args vals as xk aam hrd vj hlo
 obtain rfl:dV=.none:=Dflts.none hD CN
 obtain rfl:kV=.none:=Dflts.noKw hD
 obtain ⟨a,vs,ns,rfl,rfl,AY,hints,hlen⟩:=aCT hn xk vj
 refine enter_call (Ui (call w gb b_ mg mb fa o pm cd doc a vs ns G Y ho (fd_plain hd) jm yh AY hints hlen hg) λr s' hq=>?_)
 obtain ⟨rfl,h2,h3,h4⟩:=hq
 exact ⟨.inl ⟨.bool true,.bool true,[],rfl,λ_=>rfl,.bool true,aCU l _,λ_=>⟨List.Pairwise.nil,λ_ hm=>(nomatch hm)⟩⟩,h2,h3,h4⟩
section
variable {K:Frag}
end
end Se
namespace L2
open PySem PySem.Spec PyProof.Rows
theorem nC:∀ {vs:List Value} {ns:List Int},IntsAre vs ns->bR (ns.map V.int) vs
 := by
 intro vs ns h
 induction h with
 | nil=>exact .nil
 | cons n t h ih=>exact .cons ⟨t,rfl⟩ ih
def jW (s:Stmt):Arguments:=match s with
 | .FunctionDef _ a _ _ _ _ _ _ _ _=>a
 | _=>{ posonlyargs:=[],args:=[],vararg:=none,kwonlyargs:=[],kw_defaults:=[],kwarg:=none,defaults:=[] }
def dU (s:Stmt):List Stmt:=match s with
 | .FunctionDef _ _ b _ _ _ _ _ _ _=>b
 | _=>[]
def aL (s:Stmt):Scope:=match s with
 | .FunctionDef _ _ _ _ _ _ sc _ _ _=>sc
 | _=>{ kind:=.function,names:=[],isGenerator:=false,isCoroutine:=false }
abbrev a_:y9:=λ_ _ _ _ _ _=>False
abbrev E0:XK:=λ_ _ _=>False
theorem Pa:qA a_ X E0:=λ_ _ _ _ _ _ _ h=>h.elim
structure u_ (K:Rc) (x qual:Str) (st:Stmt) (f:Addr) (fd:FuncData):Prop where
 ex:∃ (oc:Value) (od:Option Addr) (kV doc pm:Value) (an:Option Addr) (bj ct:Value) (ql:Array (Option Value)),
  fd=Tv x qual (jW st) (dU st) (aL st) .none kV doc pm an bj ct/\K.lookup f=some ⟨oc,od,.func fd,ql⟩/\Vn K bj qual=true
 kp:Tt K (.ref f)=true
theorem u_.ok {k:Nat} (F:u_ K x qual st f fd) (S:ah N ps (aL st)) (len:∀ vs H Q E,sp vs H Q E->vs.length=ps.length) (jg:∀ (bj:Value) (A:Around) (outer:List Env) (s:Shared) (H:Hp) (vs:List V) (Q:VK) (E:XK),ay k (A.deeper (envOfC qual (aL st) s.heap.objs.size f bj))->sp vs H Q E ->
   ∃ t,kc (oG a_ P w K mg base N qual (aL st) f bj A outer s H E).vd (dU st) t/\t { nx:=λ_ H'=>Q .bw H',rt:=Q } (start N vs) H):af P w K mg base a_ (k+1) f fd ps sp:=by
 obtain ⟨oc,od,kV,doc,pm,an,bj,ct,ql,rfl,lk,jm⟩:=F.ex
 refine JA lk jm S len λA outer s H vs Q E hr oh=>?_
 obtain ⟨t,h,q⟩:=jg bj A outer s H vs Q E hr oh
 exact ⟨t,h.vd,q⟩
theorem u_.binds (F:u_ K x qual st f fd) (h:∀ (kV doc pm:Value) (an:Option Addr) (bj ct:Value) (us:List Value),us.length=ps.length->bindArgs (Tv x qual (jW st) (dU st) (aL st) .none kV doc pm an bj ct) ⟨us,[]⟩=pure (ps.zip us)):oU K fd ps []:=by
 obtain ⟨oc,od,kV,doc,pm,an,bj,ct,ql,rfl,lk,jm⟩:=F.ex
 exact .all (h kV doc pm an bj ct)
theorem Pw {kV:Value} (l:K.lookup f=some ⟨oc,od,.func (Tv x qual (jW st) (dU st) (aL st) .none kV doc pm an bj ct),ql⟩) (c:Vn K bj qual=true) (k:Tt K (.ref f)=true):u_ K x qual st f (Tv x qual (jW st) (dU st) (aL st) .none kV doc pm an bj ct):=⟨⟨oc,od,kV,doc,pm,an,bj,ct,ql,rfl,l,c⟩,k⟩
theorem lN {k:Nat} (hr:ay k A):A.units+1 < cLine:=Zy (Nat.add_le_add_left (by decide:1<=64) _) hr.units
theorem pv (i:Nat) (hN:X.N[i]?=some x:=by rfl) (hv:FH X.env.scope x:=by first | exact Or.inl rfl | exact Or.inr (Or.inl rfl) | exact Or.inr (Or.inr rfl)) (hd:(x==("__debug__" : Str))=false:=by decide) (jm:(x==("__classdict__" : Str))=false:=by decide):PE X (.Name x pos) (jB i):=PR hN hv hd jm
theorem iN {A:Prop} (h:B):if false=true then A else B:=by
 rw [if_neg Qs]
 exact h
theorem jD {A:Prop} (h:A):if true=true then A else B:=by
 rw [if_pos rfl]
 exact h
theorem cR {c A:Prop} [Decidable c] (h1:c->A) (h2:¬ c->B):if c then A else B:=by
 by_cases h:c
 ·rw [if_pos h]
  exact h1 h
 ·rw [if_neg h]
  exact h2 h
def aE (H H':Hp):Prop:=∀ b o,H b=some o->H' b=some o
theorem aE.refl (H:Hp):aE H H:=λ_ _ h=>h
theorem aE.trans (a:aE H H1) (b:aE H1 H2):aE H H2:=λc o h=>b c o (a c o h)
theorem aE.free (e:aE H H') {l:Addr} (h:H' l=Option.none):H l=Option.none:=by
 cases q:H l with
 | none=>rfl
 | some o =>
  rw [e l o q] at h
  cases h
def fZ (env:Env):List (Str×NameKind)->List (Str×Addr)->List (Str×Addr)
 | [],acc=>acc
 | (n,k)::r,acc=>if k==.free then (match env.cells.lookup n with | some c=>fZ env r ((n,c)::acc) | none=>fZ env r acc) else fZ env r acc
theorem yZ {env:Env}:∀ (names:List (Str×NameKind)) (acc:List (Str×Addr)),(∀ y∈names,y.2=.free->∃ c,env.cells.lookup y.1=some c) ->
  (forIn names acc λ(x:Str×NameKind) (r:List (Str×Addr))=>(match x with
   | (name,kind)=>if (kind==NameKind.free)=true then (do let a<-cellOf env name; pure (ForInStep.yield ((name,a)::r))) else pure (ForInStep.yield r):Sem (ForInStep (List (Str×Addr)))))=(pure (fZ env names acc):Sem _)
 | [],acc,_=>rfl
 | (n,k)::r,acc,h=>by
  have ih:=λacc=>yZ r acc λy hy=>h y (Ql _ hy)
  rw [Zl]
  by_cases hk:(k==NameKind.free)=true
  ·obtain ⟨c,hc⟩:=h (n,k) Qk (by simpa using hk)
   have e1:fZ env ((n,k)::r) acc=fZ env r ((n,c)::acc):=by
    show (if k==.free then _ else _)=_
    rw [if_pos hk]; simp only at hc; rw [hc]
   simp only at hc
   rw [e1,<- ih]
   simp only [hk,if_true,cellOf,hc]
   rfl
  ·have e1:fZ env ((n,k)::r) acc=fZ env r acc:=by
    show (if k==.free then _ else _)=_
    rw [if_neg hk]
   rw [e1,<- ih]
   simp only [hk,if_false]
   rfl
theorem Pu {env:Env} (h:∀ y∈scope.names,y.2=.free->∃ c,env.cells.lookup y.1=some c):closureFor scope env=pure (fZ env scope.names []):=by
 unfold closureFor
 have e:=yZ scope.names [] h
 show (forIn scope.names [] _ >>= _)=_
 exact (congrArg (λz=>z >>= λr=>pure r) e).trans rfl
theorem lY {env:Env}:∀ (names:List (Str×NameKind)) (acc:List (Str×Addr)) (n:Str) (c:Addr),(n,c)∈fZ env names acc->(n,c)∈acc∨env.cells.lookup n=some c
 | [],_,_,_,h=>.inl h
 | (m,k)::r,acc,n,c,h=>by
  by_cases hk:(k==NameKind.free)=true
  ·rw [show fZ env ((m,k)::r) acc=(match env.cells.lookup m with | some c=>fZ env r ((m,c)::acc) | none=>fZ env r acc) from if_pos hk] at h
   cases e:env.cells.lookup m with
   | none=>rw [e] at h; exact lY r acc n c h
   | some d =>
    rw [e] at h
    rcases lY r _ n c h with q | q
    ·rcases Qj.mp q with q | q
     ·cases q; exact .inr e
     ·exact .inl q
    ·exact .inr q
  ·rw [show fZ env ((m,k)::r) acc=fZ env r acc from if_neg hk] at h
   exact lY r acc n c h
theorem lZ {env:Env}:∀ (names:List (Str×NameKind)) (acc:List (Str×Addr)) (n:Str),((∃ c,(n,c)∈acc)∨((n,NameKind.free)∈names/\∃ c,env.cells.lookup n=some c))->∃ c,(n,c)∈fZ env names acc
 | [],_,_,h=>by
  rcases h with h | ⟨h,_⟩
  ·exact h
  ·cases h
 | (m,k)::r,acc,n,h=>by
  by_cases hk:(k==NameKind.free)=true
  ·rw [show fZ env ((m,k)::r) acc=(match env.cells.lookup m with | some c=>fZ env r ((m,c)::acc) | none=>fZ env r acc) from if_pos hk]
   cases e:env.cells.lookup m with
   | none =>
    refine lZ r acc n ?_
    rcases h with h | ⟨h,c,hc⟩
    ·exact .inl h
    ·rcases Qj.mp h with h | h
     ·cases h; rw [e] at hc; cases hc
     ·exact .inr ⟨h,c,hc⟩
   | some d =>
    refine lZ r _ n ?_
    rcases h with ⟨c,h⟩ | ⟨h,c,hc⟩
    ·exact .inl ⟨c,Ql _ h⟩
    ·rcases Qj.mp h with h | h
     ·cases h; exact .inl ⟨d,Qk⟩
     ·exact .inr ⟨h,c,hc⟩
  ·rw [show fZ env ((m,k)::r) acc=fZ env r acc from if_neg hk]
   refine lZ r acc n ?_
   rcases h with h | ⟨h,c,hc⟩
   ·exact .inl h
   ·rcases Qj.mp h with h | h
    ·cases h; exact absurd rfl hk
    ·exact .inr ⟨h,c,hc⟩
theorem jX:∀ {l:List (Str×β)} {a:Str} {b:β},l.lookup a=some b->(a,b)∈l:=PySem.mem_of_lookup_some
theorem mC:∀ {l:List (Str×β)} {a:Str} {b:β},(a,b)∈l->∃ c,l.lookup a=some c
 | (k,v)::l,a,b,h=>by
  rw [Ju]
  by_cases e:(a==k)=true
  ·rw [e]; exact ⟨v,rfl⟩
  ·have e':(a==k)=false:=by simpa using e
   rw [e']
   rcases Qj.mp h with h | h
   ·cases h; simp at e
   ·exact mC h
theorem jK {env:Env} (x:Str):∀ (names:List (Str×NameKind)),
  (names.map λ(n,k)=>if (k==NameKind.free && env.scope.kind==.function && env.kindOf n==some .cell) then (n,NameKind.cell) else (n,k)).lookup x =
   (names.lookup x).map λk=>if (k==NameKind.free && env.scope.kind==.function && env.kindOf x==some .cell) then NameKind.cell else k
 | []=>rfl
 | (n,k)::r=>by
  have ih:=jK (env:=env) x r
  rw [Qv]
  by_cases e:(x==n)=true
  ·have en:x=n:=by simpa using e
   subst en
   dsimp only
   by_cases c:(k==NameKind.free && env.scope.kind==.function && env.kindOf x==some .cell)=true
   ·rw [if_pos c,Ju,Ju,e]
    simp only [Xl,c,if_true]
   ·rw [if_neg c,Ju,Ju,e]
    simp only [Xl,c]
    rfl
  ·have e':(x==n)=false:=by simpa using e
   dsimp only
   by_cases c:(k==NameKind.free && env.scope.kind==.function && env.kindOf n==some .cell)=true
   ·rw [if_pos c,Ju,Ju,e']; exact ih
   ·rw [if_neg c,Ju,Ju,e']; exact ih
def zc (z:Option Str) (C:Addr):List (Str×Addr):=match z with
 | none=>[]
 | some x=>[(x,C+1)]
theorem lB (h:(zc z C++cl).lookup x=some c):(z=some x/\c=C+1)∨(z≠some x/\cl.lookup x=some c):=by
 cases z with
 | none=>exact .inr ⟨λq=>(by cases q),h⟩
 | some z0 =>
  have h:((z0,C+1)::cl).lookup x=some c:=h
  rw [Ju] at h
  cases e:x==z0 with
  | true=>rw [e] at h; exact .inl ⟨by rw [show x=z0 by simpa using e],(Option.some.inj h).symm⟩
  | false=>rw [e] at h; exact .inr ⟨λq=>(by cases q; simp at e),h⟩
theorem O_ (h:z≠some x):(zc z C++cl).lookup x=cl.lookup x:=by
 cases z with
 | none=>rfl
 | some z0 =>
  show ((z0,C+1)::cl).lookup x=_
  rw [Ju,show (x==z0)=false by simpa using λq=>h (by rw [q])]
theorem Z4:(zc (some x) C++cl).lookup x=some (C+1):=by
 show ((x,C+1)::cl).lookup x=_
 rw [Ju,show (x==x)=true by simp]
def bN (X:Cx) (scope:Scope) (z:Option Str) (N:List Str) (C:Addr) (s0:Shared) (H0:Hp) (fp:List Addr):Cx where
 prog:=X.prog
 w:=X.w
 K:=X.K
 mg:=X.mg
 base:=X.base
 A:=X.A
 N:=N
 gb:=s0
 mv:=H0
 env:={ compEnvC scope (fZ X.env scope.names []) C X.env with cells:=zc z C++fZ X.env scope.names [] }
 outer:=X.stack
 stack:=X.stack
 ex:=fp
 fn:=λy=>z==some y
 calm:=X.calm
 pn:=[]
 xe:=λ_ _=>False
def kO (sc scope:Scope) (z:Option Str) (own:List Str) (bc:List Str):Bool :=
 scope.kind==.function && scope.names.all (λy=>y.2 !=.cell || z==some y.1) && scope.names.all (λy=>y.2 !=.local || scope.names.lookup y.1==some .local) &&
 scope.names.all (λy=>y.2 !=.free || sc.names.lookup y.1==some .cell || sc.names.lookup y.1==some .free) && decide (own++bc).Nodup &&
 bc.all (λx=>scope.names.lookup x==some .free) && scope.names.all (λy=>y.2 !=.free || z !=some y.1)
def dj (own:Nat) (fr:List Nat) (σ:St):St:=List.replicate own none++fr.map λj=>(σ[j]?).join
structure br (X:Cx) (scope:Scope) (z:Option Str) (own:List Str) (fr:List Nat) (bc:List Str):Prop where
 ck:kO X.env.scope scope z own bc=true
 ix:∀ (k:Nat) (x:Str),bc[k]?=some x->∃ j:Nat,fr[k]?=some j/\X.N[j]?=some x
 len:fr.length=bc.length
 cf:∀ z0,z=some z0->(∀ (n:Nat) (cl:List (Str×Addr)),cellsFrom n scope.names cl=(z0,n)::cl)/\∀ h:Heap,pushCells h scope.names=h.push { cls:=.type "cell",data:=.cell none }
theorem br.parts (S:br X scope z own fr bc):scope.kind=.function/\(∀ y∈scope.names,y.2=.cell->z=some y.1)/\(∀ y∈scope.names,y.2=.local->scope.names.lookup y.1=some .local) /\
  (∀ y∈scope.names,y.2=.free->X.env.scope.names.lookup y.1=some .cell∨X.env.scope.names.lookup y.1=some .free)/\(own++bc).Nodup/\(∀ x∈bc,scope.names.lookup x=some .free)/\∀ y∈scope.names,y.2=.free->z≠some y.1:=by
 have h:=S.ck
 unfold kO at h
 simp only [Jc,Jm,decide_eq_true_eq,Bool.or_eq_true,bne_iff_ne,ne_eq,beq_iff_eq] at h
 obtain ⟨⟨⟨⟨⟨⟨h1,h2⟩,h3⟩,h4⟩,h5⟩,h7⟩,h9⟩:=h
 exact ⟨h1,λy hy e=>(h2 y hy).resolve_left λq=>q e,λy hy e=>(h3 y hy).resolve_left λq=>q e,λy hy e=>by
  rcases h4 y hy with (q | q) | q
  ·exact absurd e q
  ·exact .inl q
  ·exact .inr q,h5,h7,λy hy e=>(h9 y hy).resolve_left λq=>q e⟩
theorem br.env (S:br X scope z own fr bc) {Q:Env->Shared->Prop} (h:∀ jx tk,jx.Ns s.heap.objs.size (λ_=>none)->(∀ b o,s.heap.get? b=some o->jx.get? b=some o)->(z≠none->jx.IsCell (s.heap.objs.size+1) none)->Q (newEnv scope s.heap.objs.size X.env.globals (zc z s.heap.objs.size++fZ X.env scope.names []) X.env.qual none .none (some X.env) builtinsNs) { s with heap:=jx,toks:=tk }) :
  wpAny M A (newFunctionEnv scope X.env.globals (fZ X.env scope.names []) [] X.env.qual none .none (some X.env)) Q E s:=by
 obtain ⟨p1,p2,_⟩:=S.parts
 cases z with
 | none=>exact Ray (λy hy e=>by cases p2 y hy e) (by intro y hy; simp at hy) (λjx iz Bw=>h jx _ iz (λb o e=>Bw.extBut b o (Qt (Qo e)) (Qa _ e)) λq=>absurd rfl q) p1
 | some z0 =>
  obtain ⟨cf,pc⟩:=S.cf z0 rfl
  simp only [newFunctionEnv,Wq,if_true]
  refine Ra (Raz ?_)
  refine Ra (wpAny_layCells _ (λname kind cells=>by cases VO:kind==NameKind.cell <;> simp [VO]) _ _ _ _ ?_)
  rw [cf,pc,show ({ s with heap:=s.heap.push { cls:=.type "dict",data:=.dict #[] } }:Shared).heap.objs.size=s.heap.objs.size+1 from Jj ..]
  rw [Zh]
  refine Ra (Rb (Rb (h _ s.toks ((Heap.Ns.new s.heap (.type "dict")).push _) (λb o e=>Qa _ (Qa _ e)) λ_=>⟨{ cls:=.type "cell",data:=.cell none },by
   have e:=Qg (s.heap.push { cls:=.type "dict",data:=.dict #[] }) (o:={ cls:=.type "cell",data:=.cell none }) rfl
   rw [Jj] at e
   exact e,rfl⟩)))
theorem br.KZ (S:br X scope z own fr bc) (σ:St):(dj own.length fr σ).length=(own++bc).length:=by
 unfold dj
 rw [Qn,Qn,Xk,Qc,S.len]
theorem aEe {σ:St} {h1:Heap} {tk:Nat} {D:Addr} {oD:Obj} {m:Str->Option Value} (I:Inv X aa σ H s) (S:br X scope z own fr bc) (vz:∀ b∈fp,rJ X aa H b) (ax:∀ b∈fp,b < s.heap.objs.size) (hC:s.heap.objs.size<=C) (hn:h1.Ns C m) (hk:∀ b o,s.heap.get? b=some o->h1.get? b=some o) (hD:s.heap.objs.size<=D) (wd:D≠C) (VB:h1.get? D=some oD) (V5:∀ v,oD.data≠.cell v) (v9:z≠none->h1.IsCell (C+1) none) :
  Inv (bN X scope z (own++bc) C s H fp) [(D,oD)] (dj own.length fr σ) H { s with heap:=h1,toks:=tk }:=by
 obtain ⟨p1,p2,p3,p4,p5,p7,p9⟩:=S.parts
 have below:∀ b,b < s.heap.objs.size->b≠C:=λb hb z=>Jo _ (Qr (z ▸ hb) hC)
 have iu:∀ x c,(fZ X.env scope.names []).lookup x=some c->X.env.cells.lookup x=some c:=λx c e=>by
  rcases lY _ _ _ _ (jX e) with q | q
  ·cases q
  ·exact q
 have Oe:∀ x c,X.env.cells.lookup x=some c->c < s.heap.objs.size:=λx c e=>by
  obtain ⟨v,q⟩:=I.cell x c e
  exact q.lt
 have J8:∀ b∈fp,b∉c_ X.stack:=λb hb z=>by
  obtain ⟨_,f1,f2,_⟩:=vz b hb
  rcases Qj.mp (I.ig b z) with e | e
  ·exact f1 e
  ·exact f2 e
 have Dfs:D∉c_ X.stack:=λz=>by
  have q:=I.ig D z
  rcases Qj.mp q with e | e
  ·exact Jo _ (Qr (e ▸ I.lt:D < _) hD)
  ·exact I.AR hD e
 refine ⟨⟨I.ok.mod,p1,I.ok.glob,I.ok.blt,hC,λx y c e1 e2=>?inj,λx hx=>?has,λx c e e2=>?yw,I.ok.hd,I.ok.frames,.inl rfl,λb hb=>?C8,I.bs,Jl I.ok.yx I.sz,λb o e hb=>?ke,J8,I.stack,I.gy⟩,
  rfl,I.bare,Un.kept hk,⟨m,hn,λi x v e1 e2 e3=>?loc⟩,λx c e=>?cell,I.aq.fresh hC,λx c e=>?cp,λp hp=>?pin,I.aq.kept hk,S.KZ σ⟩
 case inj =>
  have Ax:(zc z C++fZ X.env scope.names []).lookup x=some c:=e1
  have jn:(zc z C++fZ X.env scope.names []).lookup y=some c:=e2
  rcases lB Ax with ⟨r1,rfl⟩ | ⟨n1,q1⟩ <;> rcases lB jn with ⟨r2,e⟩ | ⟨n2,q2⟩
  ·exact Option.some.inj (r1.symm.trans r2)
  ·exact absurd (Oe _ _ (iu _ _ q2)) (Nat.not_lt.mpr (Xy hC))
  ·subst e
   exact absurd (Oe _ _ (iu _ _ q1)) (Nat.not_lt.mpr (Xy hC))
  ·exact I.ok.inj x y c (iu x c q1) (iu y c q2)
 case has =>
  have Ag:(relabel scope X.env).names.lookup x=some .cell∨(relabel scope X.env).names.lookup x=some .free:=hx
  show ∃ c,(zc z C++fZ X.env scope.names []).lookup x=some c
  by_cases hz:z=some x
  ·rw [hz,Z4]
   exact ⟨_,rfl⟩
  ·rw [O_ hz]
   have hl:(relabel scope X.env).names.lookup x=_:=jK (env:=X.env) x scope.names
   rw [hl] at Ag
   cases e:scope.names.lookup x with
   | none =>
    rw [e] at Ag
    rcases Ag with z | z <;> cases z
   | some k =>
    have kh:=jX e
    have VN:k=.free:=by
     rw [e] at Ag
     simp only [Xl,Option.some.injEq] at Ag
     by_cases c:(k==NameKind.free && X.env.scope.kind==.function && X.env.kindOf x==some .cell)=true
     ·simp only [Jc,beq_iff_eq] at c
      exact c.1.1
     ·rw [if_neg c] at Ag
      rcases Ag with z | z
      ·exact absurd (p2 _ kh z) hz
      ·exact z
    subst VN
    obtain ⟨c,hc⟩:=I.ok.has x (p4 _ kh rfl)
    obtain ⟨c',bq⟩:=lZ (env:=X.env) scope.names [] x (.inr ⟨kh,c,hc⟩)
    exact mC bq
 case yw =>
  have e':(z==some x)=true:=e
  have jn:(zc z C++fZ X.env scope.names []).lookup x=some c:=e2
  rcases lB jn with ⟨_,rfl⟩ | ⟨n1,_⟩
  ·exact Xy hC
  ·exact absurd (by simpa using e') n1
 case C8 =>
  refine ⟨below b (ax b hb),λx c e=>?_⟩
  have e':(zc z C++fZ X.env scope.names []).lookup x=some c:=e
  rcases lB e' with ⟨_,rfl⟩ | ⟨_,q⟩
  ·exact λz=>Jo _ (Qr (ax b hb) (by rw [<- z]; exact Xy hC))
  ·exact (vz b hb).2.2.2.2.1 x c (iu x c q)
 case ke =>
  rcases (vz b hb).2.2.2.1 with z | z
  ·exact I.ok.ke b o e z
  ·exact absurd (Qr (Qo (I.ok.bs b o e).1) z) (Jo _)
 case loc =>
  show ∃ u,bY v u/\Ox _ _ _ x u
  have Ax:(own++bc)[i]?=some x:=e1
  have jn:(dj own.length fr σ)[i]?=some (some v):=e2
  unfold dj at jn
  by_cases hi:i < own.length
  ·rw [Qz (by simpa using hi),Xz] at jn
   rw [if_pos hi] at jn
   cases jn
  ·rw [Jr (by simpa using hi)] at jn
   rw [Jr (by omega)] at Ax
   rw [Xk,Qh] at jn
   obtain ⟨j,vt,CI⟩:=S.ix _ _ Ax
   rw [vt] at jn
   simp only [Xl,Option.some.injEq] at jn
   have gf:σ[j]?=some (some v):=by
    cases q:σ[j]? with
    | none=>rw [q] at jn; cases jn
    | some w=>rw [q] at jn; exact congrArg some jn
   have ly:=p7 x (Qi Ax)
   have kh:=jX ly
   have UW:z≠some x:=p9 _ kh rfl
   have kx:=p4 _ kh rfl
   have Sy:FH X.env.scope x:=by
    rcases kx with z | z
    ·exact .inr (.inl z)
    ·exact .inr (.inr z)
   obtain ⟨m0,hn0,vq⟩:=I.loc
   obtain ⟨u,ru,lk⟩:=vq j x v CI gf Sy
   refine ⟨u,ru,.inr ⟨?_,?_⟩⟩
   ·show (relabel scope X.env).names.lookup x=some .cell∨(relabel scope X.env).names.lookup x=some .free
    have hl:(relabel scope X.env).names.lookup x=_:=jK (env:=X.env) x scope.names
    rw [hl,ly]
    simp only [Xl,Option.some.injEq]
    by_cases c:(NameKind.free==NameKind.free && X.env.scope.kind==.function && X.env.kindOf x==some .cell)=true
    ·rw [if_pos c]; exact .inl rfl
    ·rw [if_neg c]; exact .inr rfl
   ·rcases lk with ⟨kl,_⟩ | ⟨_,c,hc,fc⟩
    ·have UQ:X.env.scope.names.lookup x=some .local:=kl
     rcases kx with z | z <;> (have z':X.env.scope.names.lookup x=_:=z; rw [UQ] at z'; cases z')
    ·obtain ⟨c',bq⟩:=lZ (env:=X.env) scope.names [] x (.inr ⟨kh,c,hc⟩)
     obtain ⟨c2,se⟩:=mC bq
     have ec:c2=c:=by
      have:=iu x c2 se
      rw [hc] at this
      exact (Option.some.inj this).symm
     subst ec
     obtain ⟨oc,ho,hd⟩:=fc
     exact ⟨c2,(O_ UW).trans se,oc,hk _ _ ho,hd⟩
 case cell =>
  have e':(zc z C++fZ X.env scope.names []).lookup x=some c:=e
  rcases lB e' with ⟨_,rfl⟩ | ⟨_,q⟩
  ·exact ⟨none,v9 λq=>by simp_all⟩
  ·obtain ⟨v,o,ho,hd⟩:=I.cell x c (iu x c q)
   exact ⟨v,o,hk _ _ ho,hd⟩
 case cp =>
  have e':(zc z C++fZ X.env scope.names []).lookup x=some c:=e
  rcases lB e' with ⟨_,rfl⟩ | ⟨_,q⟩
  ·exact I.aq.fresh (Xy hC)
  ·exact I.cp x c (iu x c q)
 case pin =>
  have rq:p∈([]:List (Addr×Obj))++[(D,oD)]:=hp
  simp only [Zk,Qq] at rq
  subst rq
  exact ⟨VB,I.aq.fresh hD,wd,Dfs,V5⟩
structure cz (P:Program) (w:World) (A:Around) (e:Expr) (d:Nat) (tg iter:Expr) (ifs:List Expr) (bd:Env->Addr->Sem Unit):Prop where
 zr:∀ (it:Value) (D:Addr) (env:Env),A.under (.compLoop e d it (.ref D) env)=A/\(model P w).den (.compLoop e d it (.ref D) env)=(compTurn e d it (.ref D) env).onRaise (λx=>do noteFrame x env; theTreesLotGoes x)
 turn:∀ (it:Value) (D:Addr) (env:Env),compTurn e d it (.ref D) env=(do
   standAt iter.pos
   match<-pyNext it with
   | none=>pure (.done .next)
   | some v =>
    letOwnedTupleGo tg it v
    assign tg env v
    let mut ok:=true
    for c in ifs do
     if ok then ok<-isTrue c env (eval c env)
    if ok then bd env D
    again (.compLoop e d it (.ref D) env))
 start:∀ {R:Result->Shared->Prop} {s:Shared} {it acc:Value} {env:Env},codeAny (model P w) A (.compLoop e d it acc env) R s->wpAny (model P w) A (pyIter it) (λvi s'=>codeAny (model P w) A (.compLoop e d vi acc env) R s') (notedBy (model P w) A env λx s'=>R (.error x) s') s->codeAny (model P w) A (.compStart e d it acc env) R s
structure fe {α:Type} (P:Program) (w:World) (A:Around) (na:Sem Value) (a0:α) (Ok:Addr->α->Heap->Prop):Prop where
 new:∃ o0:Obj,(∀ v,o0.data≠.cell v)/\o0.isFreed=false/\(∀ (h:Heap) D,h.get? D=some o0->Ok D a0 h)/\∀ {Q:Value->Shared->Prop} {E:Value->Shared->Prop} {s:Shared},Q (.ref s.heap.objs.size) { s with heap:=s.heap.push o0 }->wpAny (model P w) A na Q E s
 keep:∀ {D:Addr} {a:α} {h h':Heap},Ok D a h->(∀ o,h.get? D=some o->h'.get? D=some o)->Ok D a h'
 obj:∀ {D:Addr} {a:α} {h:Heap},Ok D a h->∃ o,h.get? D=some o/\∀ v,o.data≠.cell v
theorem zC {d:Nat} {D:Addr} {target:Expr} {it:Value} {env:Env} (LO:cz prog w A e d target iter ifs bd) (I:Nat->Shared->Prop) (turn:∀ n s,I n s->wpAny (model prog w) A (pyNext it) (λr b_=>match r with
   | none=>R (.ok .next) b_
   | some v=>wpAny (model prog w) A (letOwnedTupleGo target it v) (λ_ Lp=>wpAny (model prog w) A (assign target env v) (λ_ ip =>
     wpAny (model prog w) A (forIn ifs true λc r=>if r=true then do let ok<-isTrue c env (eval c env); pure (ForInStep.yield ok) else pure (ForInStep.yield r)) (λok yd =>
      if ok=true then wpAny (model prog w) A (bd env D) (λ_ Ll=>∃ m,m < n/\I m Ll) (λ_ _=>False) yd
      else ∃ m,m < n/\I m yd) (λ_ _=>False) ip) (λ_ _=>False) Lp) (λ_ _=>False) b_) (λ_ _=>False) s) (n:Nat) (h:I n s) :
  codeAny (model prog w) A (.compLoop e d it (.ref D) env) R s:=by
 refine codeAny_loop rfl I (λn s hI=>?_) n h
 rw [(LO.zr it D env).1,(LO.zr it D env).2]
 refine wpAny_noted ?_
 rw [LO.turn]
 refine Ra (Th (Ra (Rp (turn n s hI) (λr b_ jx=>?_) λ_ _ h'=>h'.elim)))
 cases r with
 | none=>exact Rb jx
 | some v =>
  refine Ra (Rp jx (λ_ Lp KO=>?_) λ_ _ h'=>h'.elim)
  refine Ra (Rp KO (λ_ ip Aw=>Ra (Rp Aw (λok yd Fc=>?_) λ_ _ h'=>h'.elim)) λ_ _ h'=>h'.elim)
  cases ok with
  | false=>exact Rb ⟨rfl,Fc⟩
  | true=>exact Ra (Rp Fc (λ_ Ll WV=>Rb ⟨rfl,WV⟩) λ_ _ h'=>h'.elim)
def PF (X:Cx) (ifs:List Expr) (t:TT):Prop :=
 ∀ (aa:List (Addr×Obj)) (s:Shared) (σ:St) (H:Hp) (Q:Bool->Hp->Prop),Inv X aa σ H s->t σ H Q ->
  wpAny (model X.prog X.w) X.A (forIn ifs true λc r=>if r=true then do let ok<-isTrue c X.env (eval c X.env); pure (ForInStep.yield ok) else pure (ForInStep.yield r)) (TP X aa σ Q) X.xe s
def rN:TT:=λ_ H Q=>Q true H
theorem eO:PF X [] rN:=λ_ _ _ H _ I h=>wpAny_tests_nil ⟨H,I,h⟩
theorem qB {c:Expr} {t:TT} (h:PT X c t):PF X [c] t:=λaa s σ H Q I hq=>wpAny_tests_one (h aa s σ H Q I hq)
def ic (J:It) (a0:α) (Ei:St) (H1:Hp) (q:α->St->Hp->Prop) (g:TG) (tt:TT) (tb:α->St->Hp->(α->St->Hp->Prop)->Prop):Prop:=∃ W:Nat->Nat->α->St->Hp->Prop,(∃ m,W 0 m a0 Ei H1)/\∀ i m a ao H,W i m a ao H->(J.stop i H/\q a ao H) ∨
 (J.go i H/\∃ N:α->St->Hp->Prop,(∀ a' ar H2,N a' ar H2->∃ m',m' < m/\W (i+1) m' a' ar H2)/\∀ x H',J.kz i H x H'->g x ao H' λar H2=>tt ar H2 λb H3=>if b=true then tb a ar H3 N else N a ar H3)
def mw (te:TE) (ys:List V) (σ:St) (H:Hp) (R:List V->St->Hp->Prop):Prop:=te σ H λy H4=>ys.length < sizeLine/\R (ys++[y]) σ H4
def O' (own:Nat) (fr:List Nat) (wi:TI) (g:TG) (tt:TT) (te:TE):TE:=λσ H Q=>wi σ H λJ H1=>ic J [] (dj own fr σ) H1 (λys _ H=>∀ p,H p=none->Q (.ref p) (upd H p (.lst ys))) g tt (mw te)
structure FT (Y:Cx) (D:Addr) (ps:List (Addr×Obj)):Prop where
 L:D≠Y.env.locals
 ex:D∈Y.ex∨Y.gb.heap.objs.size<=D
 c:∀ x c,Y.env.cells.lookup x=some c->c≠D
 pn:∀ p∈Y.pn,p.1≠D
 fs:D∉Y.fs
 ps:∀ p∈ps,p.1≠D
section
variable {d:Nat} {gs:List Comprehension} {wi:TI} {na:Sem Value} {a0:α} {Ok:Addr->α->Heap->Prop} {tb:α->St->Hp->(α->St->Hp->Prop)->Prop} {ps:List (Addr×Obj)} {σ:St} {D:Addr}
theorem Inv.uf {u:HO} (I:Inv X aa σ H s) (hn:H D=none) (hL:D≠X.env.locals)
  (h1:X.gb.heap.objs.size<=D) (h2:∀ x c,X.env.cells.lookup x=some c->c≠D) (h3:∀ p∈X.pn++aa,p.1≠D) (hu:bM X.prog X.w (upd H D u) s.heap D u):Inv X aa σ (upd H D u) s:=by
 have ne:∀ b u,H b=some u->b≠D:=λb u e z=>by rw [z,hn] at e; cases e
 refine I.step (g':=s.gens) (d':=s.drawn) (t':=s.toks) (h':=s.heap) (ch:=[D]) (λb hb=>?_) (λb o _ _ _ e _=>e) (λb o _ _ _ e _=>⟨o.slots,e⟩) (λb o hc _ n=>?_) (λb o _ e=>⟨o,e⟩)
  (λb xs e=>by rw [aK (ne b _ e)]; exact e) (λb o u e=>by rw [aK (ne b _ e)]; exact e) (λb ps e=>⟨#[],by rw [aK (ne b _ e),e]; simp⟩) (λ_ h=>h) (λb u e=>?_) I.bare
 ·have e:b=D:=by simpa using hb
  subst e
  exact ⟨.inr h1,hL,h2,h3⟩
 ·rw [aK (by simpa using hc)]; exact n
 ·by_cases hb:b=D
  ·subst hb
   rw [aB] at e; cases e
   exact hu
  ·rw [aK hb] at e
   exact (I.aq b u e).cu (λc v _ q=>q) (λc q=>by rw [aK (ne c _ q)]; exact q) λc xs q=>by rw [aK (ne c _ q)]; exact q
theorem FT.put {t:Nat} {a:α} (dn:FT Y D ps) (AO:fe Y.prog Y.w Y.A na a0 Ok) (I:Inv Y ((D,o)::ps) σ H s) (sb:Heap.SameBut D s.heap h') (ok:Ok D a h'):∃ o',Inv Y ((D,o')::ps) σ H { s with heap:=h',toks:=t }:=by
 have hD:=(I.pin (D,o) (Ja _ (Qk ..))).2.1
 have I':Inv Y [] σ H s:=I.gz λp hp=>by cases hp
 have I11:=I'.turned (t':=t) (it:=D) (λb o hb e=>(sb.2 b hb).trans e) hD dn.L dn.ex dn.c (λp hp=>by rw [Xx] at hp; exact dn.pn p hp)
 obtain ⟨o',e',c'⟩:=AO.obj ok
 refine ⟨o',I11.gz λp hp=>?_⟩
 rcases Qj.mp hp with h | h
 ·subst h
  exact ⟨e',hD,dn.L,dn.fs,c'⟩
 ·obtain ⟨a1,a2,a3,a4,a5⟩:=I.pin p (Ja _ (Ql _ h))
  exact ⟨(sb.2 p.1 (dn.ps p h)).trans a1,a2,a3,a4,a5⟩
def kF (Y:Cx) (bd:Env->Addr->Sem Unit) (Ok:Addr->α->Heap->Prop) (tb:α->St->Hp->(α->St->Hp->Prop)->Prop):Prop:=∀ ps s σ H D o a R,FT Y D ps->Inv Y ((D,o)::ps) σ H s->Ok D a s.heap->tb a σ H R->wpAny (model Y.prog Y.w) Y.A (bd Y.env D) (λ_ s'=>∃ ao H' a' o',Inv Y ((D,o')::ps) ao H' s'/\Ok D a' s'.heap/\R a' ao H') Y.xe s
theorem fe.cu {a:α} {ao:St} (AO:fe Y.prog Y.w Y.A na a0 Ok) (I:Inv Y ((D,o)::ps) σ H s) (I':Inv Y ((D,o)::ps) ao H' s') (pl:Ok D a s.heap):Ok D a s'.heap :=
 AO.keep pl λ_ e=>(I'.pin (D,o) (Ja _ (Qk ..))).1.trans ((I.pin (D,o) (Ja _ (Qk ..))).1.symm.trans e)
theorem vU {tn:Nat->Heap->Prop} {a:α} {F:α->St->Hp->Prop} (LO:cz Y.prog Y.w Y.A e d tg iter ifs bd) (AO:fe Y.prog Y.w Y.A na a0 Ok) (hx:∀ v s',¬ Y.xe v s') (hc:Y.calm=true) (T:Turn Y.prog Y.w Y.K tg J fp it tn) (hg:PG Y tg g) (ht:PF Y ifs tt) (hb:kF Y bd Ok tb) (dn:FT Y D ps) (I0:Inv Y ((D,o)::ps) σ H s) (TC:Ok D a s.heap) (El:tn 0 s.heap) (f0:∀ b∈fp,rJ Y ((D,o)::ps) H b) (w:ic J a σ H F g tt tb) (hR:∀ (s':Shared) (ao:St) (H':Hp) (a':α) (o':Obj),Inv Y ((D,o')::ps) ao H' s'->Ok D a' s'.heap->F a' ao H'->R (.ok .next) s') :
  codeAny (model Y.prog Y.w) Y.A (.compStart e d (.ref it) (.ref D) Y.env) R s:=by
 obtain ⟨W,⟨m0,w0⟩,turn⟩:=w
 have nj:∀ {H':Hp} {o':Obj},(∀ b∈fp,H' b=none)->∀ b∈fp,rJ Y ((D,o')::ps) H' b:=λ{H' o'} hn b hb=>by
  obtain ⟨_,q1,q2,q3,q4,q5⟩:=f0 b hb
  refine ⟨hn b hb,q1,q2,q3,q4,λp hp=>?_⟩
  rcases Qw.mp hp with h | h
  ·exact q5 p (Jy _ h)
  ·rcases Qj.mp h with h | h
   ·rw [h]; exact q5 (D,o) (Ja _ (Qk ..))
   ·exact q5 p (Ja _ (Ql _ h))
 have loop:codeAny (model Y.prog Y.w) Y.A (.compLoop e d (.ref it) (.ref D) Y.env) R s:=by
  refine zC LO (λn s'=>∃ i ao H' a o,Inv Y ((D,o)::ps) ao H' s'/\Ok D a s'.heap/\tn i s'.heap/\(∀ b∈fp,H' b=none)/\W i n a ao H') ?_ m0 ⟨0,σ,H,a,o,I0,TC,El,λb hb=>(f0 b hb).1,w0⟩
  rintro n s5 ⟨i,B8,H5,ys,o,I5,Lw,Bk,Fe,w5⟩
  rcases turn i n ys B8 H5 w5 with ⟨stop,qn⟩ | ⟨go,N,hN,step⟩
  ·refine Rp (T.done Y rfl rfl rfl hc i _ s5 B8 H5 (λ_ _=>False) I5 (nj Fe) Bk stop) (λr s6 au=>?_) λ_ _ z=>z
   obtain ⟨hr,I6⟩:=au
   subst hr
   exact hR s6 B8 H5 ys o I6 (AO.cu I5 I6 Lw) qn
  ·refine Rp (T.item Y rfl rfl rfl hc i _ s5 B8 H5 (λ_ _=>False) I5 (nj Fe) Bk go) (λr s6 au=>?_) λ_ _ z=>z
   obtain ⟨u,hr,h6⟩:=au
   subst hr
   refine Rp h6 (λ_ s7 au=>?_) λ_ _ z=>z
   obtain ⟨x,H7,I7,r7,y7,F5,W3⟩:=au
   have I7':=I7.pinned (nj W3) (T.obj _ _ F5)
   refine Rp (hg _ s7 B8 H7 x u _ I7' r7 (step x H7 y7)) (λ_ s8 au=>?_) λv s' z=>hx v s' z
   obtain ⟨FU,H8,I8,q8⟩:=au
   refine Rp (ht _ s8 FU H8 _ I8 q8) (λb s9 au=>?_) λv s' z=>hx v s' z
   obtain ⟨H9,I9,q9⟩:=au
   have Lv:Ok D ys s9.heap:=AO.cu I5 (I9.g9:Inv Y ((D,o)::ps) FU H9 s9) Lw
   have fin:∀ {s':Shared} {ao:St} {H':Hp} {o':Obj} {a':α},Inv Y ((D,o')::(ps++pZ fp s7.heap)) ao H' s'->Ok D a' s'.heap->N a' ao H'->∃ m,m < n/\∃ i ao H' a o,Inv Y ((D,o)::ps) ao H' s'/\Ok D a s'.heap/\tn i s'.heap/\(∀ b∈fp,H' b=none)/\W i m a ao H':=λ{s' ao H' o' a'} I' ok q=>by
    obtain ⟨m',hm,w'⟩:=hN a' ao H' q
    have pin:=λb (hb:b∈fp) o e=>I'.pin (b,o) (Ja _ (Ql _ (Ja _ (oE hb e))))
    refine ⟨m',hm,i+1,ao,H',a',o',I'.gz λp hp=>I'.pin p (Ja _ ?_),ok,T.keep _ _ _ F5 λb hb o e=>(pin b hb o e).1,λb hb=>?_,w'⟩
    ·rcases Qj.mp hp with h | h
     ·exact h ▸ Qk ..
     ·exact Ql _ (Jy _ h)
    ·obtain ⟨o,e,_⟩:=T.obj _ _ F5 b hb
     exact (pin b hb o e).2.1
   cases b with
   | false =>
    rw [if_neg Qs] at q9
    rw [if_neg Qs]
    exact fin I9 Lv q9
   | true =>
    rw [if_pos rfl] at q9
    rw [if_pos rfl]
    refine Rp (hb (ps++pZ fp s7.heap) s9 FU H9 D o ys _ ⟨dn.L,dn.ex,dn.c,dn.pn,dn.fs,λp hp=>?_⟩ I9 Lv q9) (λ_ pe au=>?_) λv s' z=>hx v s' z
    ·rcases Qw.mp hp with h | h
     ·exact dn.ps p h
     ·exact λq=>(f0 p.1 (vK h).1).2.2.2.2.2 (D,_) (Ja _ (Qk ..)) q.symm
    ·obtain ⟨ao,H',a',o',I',ok,q⟩:=au
     exact fin I' ok q
 exact LO.start loop (T.self Y.A 0 _ _ _ El loop)
theorem aA3 {s2:Shared} {tn:Nat->Heap->Prop} {RR:Value->Addr->Result->Shared->Prop} {Q:α->Hp->Prop} (S:br X scope z own fr bc) (LO:cz X.prog X.w X.A e 0 tg iter ifs bd) (AO:fe X.prog X.w X.A na a0 Ok) (hc:X.calm=true) (I2:Inv X aa σ H2 s2) (T:Turn X.prog X.w X.K tg J fp it tn) (fh:tn 0 s2.heap) (f2:∀ b∈fp,rJ X aa H2 b) (hg:∀ C s0 H0 fp,PG (bN X scope z (own++bc) C s0 H0 fp) tg g) (ht:∀ C s0 H0 fp,PF (bN X scope z (own++bc) C s0 H0 fp) ifs tt) (hb:∀ C s0 H0 fp,kF (bN X scope z (own++bc) C s0 H0 fp) bd Ok tb) (w:ic J a0 (dj own.length fr σ) H2 (λa _ H=>Q a H) g tt tb) (WA:∀ (C D:Addr) (s':Shared) (H':Hp) (ys:α) (m:Str->Option Value),s2.heap.objs.size<=C->s2.heap.objs.size<=D->D≠C->s'.heap.Ns C m->H' C=none->H' D=none->Ok D ys s'.heap->Inv X aa σ H' s'->Q ys H'->RR (.ref D) C (.ok .next) s') :
  wpAny (model X.prog X.w) X.A na (λacc yd=>wpAny (model X.prog X.w) X.A (newFunctionEnv scope X.env.globals (fZ X.env scope.names []) [] X.env.qual none .none (some X.env)) (λD5 SW =>
   codeAny (model X.prog X.w) X.A (.compStart e 0 (.ref it) acc { D5 with scope:=relabel scope X.env }) (RR acc D5.locals) SW) E yd) E s2:=by
 obtain ⟨o0,n0,f0,k0,nw⟩:=AO.new
 refine nw (S.env λjx tk uc ol fc=>?_)
 dsimp only at uc ol fc ⊢
 generalize Hz:s2.heap.push o0=HD at uc ol fc ⊢
 have hCs:HD.objs.size=s2.heap.objs.size+1:=by rw [<- Hz,Jj]
 have wd:s2.heap.objs.size≠HD.objs.size:=by omega
 have xy:s2.heap.objs.size<=HD.objs.size:=by omega
 have below:∀ b,b < s2.heap.objs.size->b≠HD.objs.size/\b≠s2.heap.objs.size:=λb hb=>⟨by omega,by omega⟩
 have old:∀ b o,s2.heap.get? b=some o->jx.get? b=some o:=λb o e=>ol b o (Hz ▸ Qa _ e)
 have xu:jx.get? s2.heap.objs.size=some o0:=ol _ _ (Hz ▸ Qg _ f0)
 have wg:∀ b∈fp,b < s2.heap.objs.size:=λb hb=>by
  obtain ⟨o,e,_⟩:=T.obj _ _ fh b hb
  exact Qo e
 generalize Av:s2.heap.objs.size=D at *
 generalize hCg:HD.objs.size=C at *
 have Cb:tn 0 jx:=T.keep _ _ _ fh λb _ o e=>old b o e
 have uy:∀ x c,(zc z C++fZ X.env scope.names []).lookup x=some c->c=C+1∨X.env.cells.lookup x=some c:=λx c e=>by
  rcases lB e with ⟨_,e⟩ | ⟨_,e⟩
  ·exact .inl e
  ·rcases lY _ _ _ _ (jX e) with q | q
   ·cases q
   ·exact .inr q
 have I3:Inv (bN X scope z (own++bc) C s2 H2 fp) [(D,_)] (dj own.length fr σ) H2 { s2 with heap:=jx,toks:=tk } :=
  aEe (m:=λ_=>none) I2 S f2 (by rw [Av]; exact wg) (by rw [Av]; exact xy) (uc:jx.Ns C _) old (by rw [Av]; exact Qe _) wd xu n0 fc
 refine vU (Y:=bN X scope z (own++bc) C s2 H2 fp) LO AO (λ_ _ z=>z) hc T (hg C s2 H2 fp) (ht C s2 H2 fp) (hb C s2 H2 fp) ⟨wd,.inr (by show s2.heap.objs.size<=D; rw [Av]; exact Qe _),λx c e q=>?_,λp hp=>(by cases hp),λz=>?_,λp hp=>(by cases hp)⟩ I3 (k0 _ _ xu) Cb (λb hb=>?_) w (λs6 K3 H6 a o I6 pl qn=>?_)
 ·rcases uy x c e with e | e
  ·exact Jo _ (Qr (Xu C) (Jl (Nat.le_of_eq (e.symm.trans q)) xy))
  obtain ⟨v,u⟩:=I2.cell x c e
  exact Jo _ (Qr u.lt (by rw [Av,q]; exact Qe _))
 ·rcases Qj.mp (I2.ig D z) with e | e
  ·exact Jo _ (Qr I2.lt (by rw [Av,e]; exact Qe _))
  ·exact I2.AR (by rw [Av]; exact Qe _) e
 ·refine ⟨(f2 b hb).1,(below b (wg b hb)).1,λz=>?_,.inl hb,λx c e=>(by
   rcases uy x c e with e | e
   ·exact λq=>Jo _ (Qr (wg b hb) (by rw [<- q,e]; exact Xy xy))
   ·exact (f2 b hb).2.2.2.2.1 x c e),λp hp=>?_⟩
  ·have z':b∈c_ X.stack:=z
   rcases Qj.mp (I2.ig b z') with e | e
   ·exact (f2 b hb).2.1 e
   ·exact (f2 b hb).2.2.1 e
  ·rw [Qq.mp (show p∈[(D,o0)] from hp)]
   exact Ne.symm (below b (wg b hb)).2
 ·obtain ⟨m6,ia,_⟩:=I6.loc
  have p6:=I6.pin (D,o) (Ja _ (Qk ..))
  have IX:Inv X aa σ H6 s6:=I2.l_ (ch:=fp) I6.os I6.base I6.aq I6.bare λb hb=>⟨(f2 b hb).2.2.2.1,(f2 b hb).2.1,(f2 b hb).2.2.2.2.1,(f2 b hb).2.2.2.2.2⟩
  exact WA C D s6 H6 a m6 xy (Qe _) wd ia I6.free p6.2.1 pl IX qn
theorem zD {R:Value->Shared->Prop} {use:Option (Value->Sem Unit)} {q:α->Hp->Prop} (S:br X scope z own fr bc) (cl:clausesOf e=⟨tg,iter,ifs,0⟩::gs) (LO:cz X.prog X.w X.A e 0 tg iter ifs bd) (AO:fe X.prog X.w X.A na a0 Ok) (hc:X.calm=true) (hi:PI X tg iter wi) (hg:∀ C s0 H0 fp,PG (bN X scope z (own++bc) C s0 H0 fp) tg g) (ht:∀ C s0 H0 fp,PF (bN X scope z (own++bc) C s0 H0 fp) ifs tt)
  (hb:∀ C s0 H0 fp,kF (bN X scope z (own++bc) C s0 H0 fp) bd Ok tb) (hs:∀ x,foldedSetIterable iter X.env x=pure x) (I:Inv X aa σ H s)
  (h:wi σ H λJ H1=>ic J a0 (dj own.length fr σ) H1 (λa _ H=>q a H) g tt tb)
  (hq:∀ (C D:Addr) (s':Shared) (H':Hp) (a:α) (m:Str->Option Value),D≠C->s'.heap.Ns C m->H' C=none->H' D=none->Ok D a s'.heap->Inv X aa σ H' s'->q a H' ->
   (∀ b,b=C∨b=D->b≠X.env.locals/\X.gb.heap.objs.size<=b/\sysModules < b/\(∀ x c,X.env.cells.lookup x=some c->c≠b)/\∀ p∈X.pn++aa,p.1≠b)->compPost (model X.prog X.w) X.A X.xe use R (.ref D) C (.ok .next) s') :
  wpAny (model X.prog X.w) X.A (comprehension e scope X.env pos na false (eval iter X.env) use) R X.xe s:=by
 obtain ⟨p1,p2,p3,p4,p5,p7,p9⟩:=S.parts
 refine wpAny_comprehension_free cl hs (Pu λy hy e=>I.ok.has y.1 (p4 y hy e)) p1 p3 (bf (hi aa s σ H _ I h) λv s1 h1=>bf h1 λEH s2 h2=>?_)
 obtain ⟨it,fp,tn,J,H2,e,I2,T,fh,f2,hw⟩:=h2
 subst e
 refine aA3 (RR:=λacc C=>compPost (model X.prog X.w) X.A X.xe use R acc C) S LO AO hc I2 T fh f2 hg ht hb hw λC D s' H' a m hC hD wd iz C0 Au pl IX z=>hq C D s' H' a m wd iz C0 Au pl IX z λb hb=>?_
 have e_:s2.heap.objs.size<=b:=by rcases hb with rfl | rfl; exact hC; exact hD
 exact ⟨λz=>Jo _ (Qr I2.lt (by rw [<- z]; exact e_)),Jl I2.sz e_,Qr (Zv (by decide) (I2.mod.glob.keeps I2.bk).lt) e_,λx c e z=>by
  obtain ⟨v,w⟩:=I2.cell x c e
  exact Jo _ (Qr w.lt (by rw [z]; exact e_)),λp hp z=>Jo _ (Qr (Qo (I2.pin p hp).1) (by rw [z]; exact e_))⟩
theorem oY {hq:(V->Hp->Prop)->α->Hp->Prop} (S:br X scope z own fr bc) (cl:clausesOf e=⟨tg,iter,ifs,0⟩::gs) (LO:cz X.prog X.w X.A e 0 tg iter ifs bd) (AO:fe X.prog X.w X.A na a0 Ok) (hc:X.calm=true) (ev:eval e X.env=comprehension e scope X.env pos na false (eval iter X.env) none) (hi:PI X tg iter wi) (hg:∀ C s0 H0 fp,PG (bN X scope z (own++bc) C s0 H0 fp) tg g) (ht:∀ C s0 H0 fp,PF (bN X scope z (own++bc) C s0 H0 fp) ifs tt)
  (hb:∀ C s0 H0 fp,kF (bN X scope z (own++bc) C s0 H0 fp) bd Ok tb) (hs:∀ x,foldedSetIterable iter X.env x=pure x)
  (tr:∀ {D:Addr} {a:α} {H:Hp} {h:Heap} {Q:V->Hp->Prop},Ok D a h->H D=none->(D==sysModules)=false->hq Q a H->∃ u,bM X.prog X.w (upd H D u) h D u/\Q (.ref D) (upd H D u)) :
  PE X e λσ H Q=>wi σ H λJ H1=>ic J a0 (dj own.length fr σ) H1 (λa _ H=>hq Q a H) g tt tb:=by
 intro aa s σ H Q I h
 rw [ev]
 refine zD (use:=none) S cl LO AO hc hi hg ht hb hs I h λC D s' H' a m wd iz C0 Au pl IX q ne=>?_
 obtain ⟨c1,c2,_,c3,c4⟩:=ne C (.inl rfl)
 obtain ⟨d1,d2,d5,d3,d4⟩:=ne D (.inr rfl)
 obtain ⟨u,ou,qu⟩:=tr pl Au (beq_eq_false_iff_ne.mpr (Ne.symm (Qt d5))) q
 refine ⟨m,iz,λh' i7=>⟨.ref D,upd H' D u,?_,rfl,qu⟩⟩
 exact (IX.uf Au d1 d2 d3 d4 ou).turned (t':=s'.toks) (it:=C) (λb o hb e=>(i7.2 b hb).trans e) (by rw [aK (Ne.symm wd)]; exact C0) c1 (.inr c2) c3 c4
def Dm (D:Addr) (ys:List V) (h:Heap):Prop:=ys.length<=sizeLine/\∃ ae:Array Value,h.PlainList D ae/\bR ys ae.toList
def H_ (elt:Expr) (env:Env) (D:Addr):Sem Unit:=do let _<-call (.builtin "list.append") [.ref D,<- eval elt env]
theorem BZ:fe P w A (newList []) [] Dm where
 new:=⟨{ cls:=.type "list",dict:=none,data:=.seq ([]:List Value).toArray },λv z=>(by cases z),rfl,λh D e=>⟨Jb _,#[],⟨_,e⟩,.nil⟩,λh=>Ri h⟩
 keep:=λ⟨hl,ae,⟨k,e⟩,v⟩ f=>⟨hl,ae,⟨k,f _ e⟩,v⟩
 obj:=λ⟨_,ae,⟨k,e⟩,_⟩=>⟨_,e,λv z=>by cases z⟩
theorem O9:cz P w A (.ListComp elt [⟨tg,iter,ifs,0⟩] scope pos) 0 tg iter ifs (H_ elt) where
 zr:=λ_ _ _=>⟨rfl,rfl⟩
 turn:=λit D env=>compTurn_list elt tg iter ifs scope pos it (.ref D) env
 start:=Rao
theorem IJ (he:PE Y elt te):kF Y (H_ elt) Dm (mw te):=by
 intro ps s σ H D o ys R dn I pl h
 refine Ra (bf (he _ s σ H _ I h) λy s1 hx=>?_)
 obtain ⟨yv,H1,I1,r1,lt,q⟩:=hx
 obtain ⟨hl,ae,S_,v⟩:=BZ.cu I I1 pl
 have hlen:=v.length
 refine Ra (wpAny_list_append_plain S_ (λC2 J0 sy=>Rb ?_) (by rw [<- Array.length_toList,<- hlen]; exact Yc lt))
 have ok:Dm D (ys++[yv]) C2:=⟨by rw [Qn]; exact lt,_,J0,by rw [Array.toList_push]; exact v.append (.cons r1 .nil)⟩
 obtain ⟨o',I'⟩:=dn.put (t:=s1.toks) BZ I1 sy ok
 exact ⟨σ,H1,_,o',I',ok,q⟩
theorem Lb {Q:V->Hp->Prop} {D:Addr} (ok:Dm D ys h) (hn:H D=none) (q:∀ p,H p=none->Q (.ref p) (upd H p (.lst ys))):∃ u,bM P w (upd H D u) h D u/\Q (.ref D) (upd H D u) :=
 let ⟨hl,ae,⟨k,e⟩,v⟩:=ok; ⟨.lst ys,⟨hl,ae.toList,k,v,by simpa using e⟩,q _ hn⟩
theorem cQ (S:br X scope z own fr bc) (hc:X.calm=true) (hi:PI X tg iter wi) (hg:∀ C s0 H0 fp,PG (bN X scope z (own++bc) C s0 H0 fp) tg g) (ht:∀ C s0 H0 fp,PF (bN X scope z (own++bc) C s0 H0 fp) ifs tt) (he:∀ C s0 H0 fp,PE (bN X scope z (own++bc) C s0 H0 fp) elt te) (hs:∀ x,foldedSetIterable iter X.env x=pure x:=by intro _; rfl) :
  PE X (.ListComp elt [⟨tg,iter,ifs,0⟩] scope pos) (O' own.length fr wi g tt te) :=
 oY S rfl O9 BZ hc (eval_ListComp ..) hi hg ht (λC s0 H0 fp=>IJ (he C s0 H0 fp)) hs λok hn _ q=>Lb ok hn q
theorem zF {tb:List V->St->Hp->(List V->St->Hp->Prop)->Prop} {y:Str} {py sx:Pos} (S:br X scope z own fr bc) (LO:cz X.prog X.w X.A (.ListComp elt (⟨tg,iter,ifs,0⟩::gs) scope pos) 0 tg iter ifs bd) (hc:X.calm=true) (hN:X.N.Nodup) (Gw:X.N[i]?=some y) (hx:X.env.scope.names.lookup y=some .local) (GN:swapsWith (.ListComp elt (⟨tg,iter,ifs,0⟩::gs) scope pos) (some (.Name y py)) sx.line X.env=pure true) (hi:PI X tg iter wi) (hg:∀ C s0 H0 fp,PG (bN X scope z (own++bc) C s0 H0 fp) tg g) (ht:∀ C s0 H0 fp,PF (bN X scope z (own++bc) C s0 H0 fp) ifs tt) (hb:∀ C s0 H0 fp,kF (bN X scope z (own++bc) C s0 H0 fp) bd Dm tb) (hs:∀ x,foldedSetIterable iter X.env x=pure x) :
  PS X (.Assign [.Name y py] (.ListComp elt (⟨tg,iter,ifs,0⟩::gs) scope pos) sx) (lT (λσ H Q=>wi σ H λJ H1=>ic J [] (dj own.length fr σ) H1 (λys _ H=>∀ p,H p=none->Q (.ref p) (upd H p (.lst ys))) g tt tb) (eY i)):=by
 intro aa s σ H D I h
 rw [exec_Assign_Name_used _ _ _ _ GN]
 refine Ra (Th (Ra ?_))
 show wpAny _ X.A (do let _<-comprehension (.ListComp elt (⟨tg,iter,ifs,0⟩::gs) scope pos) scope X.env _ (newList []) false (eval iter X.env) (some (assign (.Name y py) X.env))) _ _ s
 refine Ra (Rp (zD (use:=some (assign (.Name y py) X.env)) (R:=λ_ s'=>SP X aa D .next s') S rfl LO BZ hc hi hg ht hb hs I h λC L s' H' ys m WL iz C0 M' pl IX q ne=>?_) (λ_ s' hq=>Rb (Rb hq)) λ_ _ e=>e)
 obtain ⟨c1,c2,_,c3,c4⟩:=ne C (.inl rfl)
 obtain ⟨d1,d2,_,d3,d4⟩:=ne L (.inr rfl)
 obtain ⟨hl,ae,⟨k,e⟩,v⟩:=pl
 have IT:Inv X aa σ (upd H' L (.lst ys)) s':=IX.uf M' d1 d2 d3 d4 ⟨hl,ae.toList,k,v,by simpa using e⟩
 show wpAny _ _ (assign (.Name y py) X.env (.ref L)) _ _ s'
 refine RaE (pX IT hN Gw (.inl hx) (v:=.ref L) rfl (λzy I'' mr=>?_) (.inr hx))
 obtain ⟨a,sb,ha⟩:=mr
 have WU:C≠a:=by
  rcases ha with e | e
  ·rw [e]; exact c1
  ·exact Ne.symm (c3 y a e)
 refine ⟨m,iz.sameBut sb WU,λh' i7=>⟨σ.set i (some (.ref L)),upd H' L (.lst ys),?_,q L M'⟩⟩
 exact I''.turned (t':=zy.toks) (it:=C) (λb o hb e=>(i7.2 b hb).trans e) (by rw [aK (Ne.symm WL)]; exact C0) c1 (.inr c2) c3 c4
theorem aA4 {y:Str} {py sx:Pos} (S:br X scope z own fr bc) (hc:X.calm=true) (hN:X.N.Nodup) (Gw:X.N[i]?=some y) (hx:X.env.scope.names.lookup y=some .local) (GN:swapsWith (.ListComp elt [⟨tg,iter,ifs,0⟩] scope pos) (some (.Name y py)) sx.line X.env=pure true) (hi:PI X tg iter wi) (hg:∀ C s0 H0 fp,PG (bN X scope z (own++bc) C s0 H0 fp) tg g) (ht:∀ C s0 H0 fp,PF (bN X scope z (own++bc) C s0 H0 fp) ifs tt) (he:∀ C s0 H0 fp,PE (bN X scope z (own++bc) C s0 H0 fp) elt te) (hs:∀ x,foldedSetIterable iter X.env x=pure x:=by intro _; rfl) :
  PS X (.Assign [.Name y py] (.ListComp elt [⟨tg,iter,ifs,0⟩] scope pos) sx) (lT (O' own.length fr wi g tt te) (eY i)) :=
 zF S O9 hc hN Gw hx GN hi hg ht (λC s0 H0 fp=>IJ (he C s0 H0 fp)) hs
end
inductive Kd where
 | int | bl | bw | str | tup | lst | NZ
 deriving DecidableEq
def Dq (K:Rc) (H:Hp):V->Kd->Prop
 | .int _,k=>k=.int
 | .bl _,k=>k=.bl
 | .bw,k=>k=.bw
 | .str _,k=>k=.str
 | .ref p,k=>(k=.lst/\∃ xs,ak K H p xs)∨(k=.tup/\∃ xs,aj K H p xs)∨(k=.NZ/\∃ kvs,H p=some (.dK kvs))
 | _,_=>False
theorem xC {σ:St} {p:Addr} {kvs:List (Key×V)} (I:Inv X aa σ H s) (h:H p=some (.dK kvs)):∃ o,s.heap.get? p=some o/\o.cls=.type "dict" := by
 obtain ⟨_,_,vs,_,o,es,ep,e,ex,_⟩:=I.aq p _ h
 exact ⟨o,e,ex.1⟩
theorem xD:eN X (.builtin "isinstance") (λxs H Q=>∃ x k,xs = [x,.ty "int"]/\Dq X.K H x k/\Q (.bl (decide (k=.int∨k=.bl))) H):=by
 intro aa s σ H xs us Q I r h
 obtain ⟨x,k,rfl,hk,q⟩:=h
 obtain ⟨u,t,rfl,rx,rt⟩:=nR r
 cases rt
 cases x with
 | int i=>cases hk; obtain ⟨t,rfl⟩:=rx; exact IsiPair.int_int ⟨.bl true,H,I,rfl,q⟩
 | bl b=>cases hk; cases rx; exact IsiPair.bool_int ⟨.bl true,H,I,rfl,q⟩
 | bw=>cases hk; cases rx; exact IsiPair.NoneType_int ⟨.bl false,H,I.tok _,rfl,q⟩
 | str y=>cases hk; obtain ⟨t,rfl⟩:=rx; exact IsiPair.str_int ⟨.bl false,H,I.tok _,rfl,q⟩
 | ref p =>
  cases rx
  rcases hk with ⟨rfl,xs,hx⟩ | ⟨rfl,xs,hx⟩ | ⟨rfl,kvs,hx⟩
  ·obtain ⟨ae,r',pl,hz⟩:=I.list hx; exact IsiPair.isList_int pl.isList (λ_ _ e=>e) ⟨.bl false,H,I.tok _,rfl,q⟩
  ·obtain ⟨ae,r',pl,hz⟩:=I.tuple hx; exact IsiPair.isTuple_int pl (λ_ _ e=>e) ⟨.bl false,H,I.tok _,rfl,q⟩
  ·obtain ⟨o,e,c⟩:=xC I hx; exact IsiPair.dict_int e c ⟨.bl false,H,I.tok _,rfl,q⟩
 | _=>exact hk.elim
theorem uO:eN X (.builtin "isinstance") (λxs H Q=>∃ x k,xs = [x,.ty "bool"]/\Dq X.K H x k/\Q (.bl (decide (k=.bl))) H):=by
 intro aa s σ H xs us Q I r h
 obtain ⟨x,k,rfl,hk,q⟩:=h
 obtain ⟨u,t,rfl,rx,rt⟩:=nR r
 cases rt
 cases x with
 | int i=>cases hk; obtain ⟨t,rfl⟩:=rx; exact IsiPair.int_bool ⟨.bl false,H,I.tok _,rfl,q⟩
 | bl b=>cases hk; cases rx; exact IsiPair.bool_bool ⟨.bl true,H,I,rfl,q⟩
 | bw=>cases hk; cases rx; exact IsiPair.NoneType_bool ⟨.bl false,H,I.tok _,rfl,q⟩
 | str y=>cases hk; obtain ⟨t,rfl⟩:=rx; exact IsiPair.str_bool ⟨.bl false,H,I.tok _,rfl,q⟩
 | ref p =>
  cases rx
  rcases hk with ⟨rfl,xs,hx⟩ | ⟨rfl,xs,hx⟩ | ⟨rfl,kvs,hx⟩
  ·obtain ⟨ae,r',pl,hz⟩:=I.list hx; exact IsiPair.isList_bool pl.isList (λ_ _ e=>e) ⟨.bl false,H,I.tok _,rfl,q⟩
  ·obtain ⟨ae,r',pl,hz⟩:=I.tuple hx; exact IsiPair.isTuple_bool pl (λ_ _ e=>e) ⟨.bl false,H,I.tok _,rfl,q⟩
  ·obtain ⟨o,e,c⟩:=xC I hx; exact IsiPair.dict_bool e c ⟨.bl false,H,I.tok _,rfl,q⟩
 | _=>exact hk.elim
theorem eP:eN X (.builtin "isinstance") (λxs H Q=>∃ x k,xs = [x,.ty "tuple"]/\Dq X.K H x k/\Q (.bl (decide (k=.tup))) H):=by
 intro aa s σ H xs us Q I r h
 obtain ⟨x,k,rfl,hk,q⟩:=h
 obtain ⟨u,t,rfl,rx,rt⟩:=nR r
 cases rt
 cases x with
 | int i=>cases hk; obtain ⟨t,rfl⟩:=rx; exact IsiPair.int_tuple ⟨.bl false,H,I.tok _,rfl,q⟩
 | bl b=>cases hk; cases rx; exact IsiPair.bool_tuple ⟨.bl false,H,I.tok _,rfl,q⟩
 | bw=>cases hk; cases rx; exact IsiPair.NoneType_tuple ⟨.bl false,H,I.tok _,rfl,q⟩
 | str y=>cases hk; obtain ⟨t,rfl⟩:=rx; exact IsiPair.str_tuple ⟨.bl false,H,I.tok _,rfl,q⟩
 | ref p =>
  cases rx
  rcases hk with ⟨rfl,xs,hx⟩ | ⟨rfl,xs,hx⟩ | ⟨rfl,kvs,hx⟩
  ·obtain ⟨ae,r',pl,hz⟩:=I.list hx; exact IsiPair.isList_tuple pl.isList (λ_ _ e=>e) ⟨.bl false,H,I.tok _,rfl,q⟩
  ·obtain ⟨ae,r',pl,hz⟩:=I.tuple hx; exact IsiPair.isTuple_tuple pl (λ_ _ e=>e) ⟨.bl true,H,I,rfl,q⟩
  ·obtain ⟨o,e,c⟩:=xC I hx; exact IsiPair.dict_tuple e c ⟨.bl false,H,I.tok _,rfl,q⟩
 | _=>exact hk.elim
theorem uP:eN X (.builtin "isinstance") (λxs H Q=>∃ x k,xs = [x,.ty "list"]/\Dq X.K H x k/\Q (.bl (decide (k=.lst))) H):=by
 intro aa s σ H xs us Q I r h
 obtain ⟨x,k,rfl,hk,q⟩:=h
 obtain ⟨u,t,rfl,rx,rt⟩:=nR r
 cases rt
 cases x with
 | int i=>cases hk; obtain ⟨t,rfl⟩:=rx; exact IsiPair.int_list ⟨.bl false,H,I.tok _,rfl,q⟩
 | bl b=>cases hk; cases rx; exact IsiPair.bool_list ⟨.bl false,H,I.tok _,rfl,q⟩
 | bw=>cases hk; cases rx; exact IsiPair.NoneType_list ⟨.bl false,H,I.tok _,rfl,q⟩
 | str y=>cases hk; obtain ⟨t,rfl⟩:=rx; exact IsiPair.str_list ⟨.bl false,H,I.tok _,rfl,q⟩
 | ref p =>
  cases rx
  rcases hk with ⟨rfl,xs,hx⟩ | ⟨rfl,xs,hx⟩ | ⟨rfl,kvs,hx⟩
  ·obtain ⟨ae,r',pl,hz⟩:=I.list hx; exact IsiPair.isList_list pl.isList (λ_ _ e=>e) ⟨.bl true,H,I,rfl,q⟩
  ·obtain ⟨ae,r',pl,hz⟩:=I.tuple hx; exact IsiPair.isTuple_list pl (λ_ _ e=>e) ⟨.bl false,H,I.tok _,rfl,q⟩
  ·obtain ⟨o,e,c⟩:=xC I hx; exact IsiPair.dict_list e c ⟨.bl false,H,I.tok _,rfl,q⟩
 | _=>exact hk.elim
theorem aCW (bs:List Bool) (tr:Nat->Bool) (h:∀ i b,bs[i]?=some b->tr i=b):(List.range bs.length).all tr=bs.all id:=by
 rw [Xj,Jm,Jm]
 constructor
 ·intro q b hb
  obtain ⟨i,hi⟩:=List.getElem?_of_mem hb
  have:=q i (Xe.mpr (Qd.mp hi).1)
  rw [h i b hi] at this
  exact this
 ·intro q i hi
  have vy:=Xe.mp hi
  have e:bs[i]?=some bs[i]:=Qb vy
  rw [h i _ e]
  exact q _ (Jt vy)
theorem jL (hc:X.calm=true):eN X (.builtin "all") (λxs H Q=>∃ (p:Addr) (bs:List Bool),xs = [.ref p]/\ak X.K H p (bs.map V.bl)/\Q (.bl (bs.all id)) H):=by
 intro aa s σ H xs us Q I r h
 obtain ⟨p,bs,rfl,hx,q⟩:=h
 obtain ⟨u,rfl,rx⟩:=gM r
 cases rx
 obtain ⟨ae,rv,pl,hz⟩:=I.list hx
 have hl:=rv.length
 rw [Qc] at hl
 have ax:p < s.heap.objs.size:=by obtain ⟨o,n,e,_⟩:=pl; exact Qo e
 refine call_all_walk (Ul pl.isList ?_)
 refine ⟨s.heap.objs.size,_,_,_,_,_,λi=>(bs[i]?).getD false,rfl,Walks.list (A:=X.A.in1) (I.ok.hd hc) s.heap.objs.size p (Qt ax) ae.toArray,⟨⟨_,Qg _ rfl,rfl,rfl⟩,pl.isList.push _⟩,?_,λh' tk hk=>?_⟩
 ·intro i v s' Q' E' hP jw
  have qc:ae[i]?=some v:=by simpa using hP
  have hi:i < bs.length:=by rw [hl]; exact (Qd.mp qc).1
  obtain ⟨w,hw,gc⟩:=rv.get (i:=i) (x:=.bl bs[i]) (by rw [Qh,Qb hi]; rfl)
  rw [hw] at qc
  cases qc
  cases gc
  have e:(bs[i]?).getD false=bs[i]:=by rw [Qb hi]; rfl
  rw [<- e]
  exact Ry jw
 ·have e:(List.range ae.toArray.size).all (λi=>(bs[i]?).getD false)=bs.all id:=by
   rw [Qm,<- hl]
   exact aCW bs _ λi b hb=>by rw [hb]; rfl
  rw [e]
  refine ⟨.bl _,H,I.kept (h':=h') λb o e=>hk b o ?_ (Qa _ e),rfl,q⟩
  intro z
  have z':b=s.heap.objs.size:=by simpa using z
  exact Jo _ (z' ▸ Qo e)
def iW (ns:List Int):Int:=ns.foldr (· + ·) 0
theorem iX (ns:List Int) (val:Nat->Int) (h:∀ (i:Nat) (v:Int),ns[i]?=some v->val i=v):∀ j,j<=ns.length->preSum val j=iW (ns.take j)
 | 0,_=>rfl
 | j+1,hj=>by
  have ih:=iX ns val h j (by omega)
  have e:ns[j]?=some ns[j]:=Qb (by omega)
  show preSum val j+val j=_
  rw [ih,h j _ e,Js,e]
  unfold iW
  rw [List.foldr_append]
  simp only [Option.toList_some,List.foldr_cons,List.foldr_nil,Int.add_zero]
  generalize ns[j]=v
  induction (List.take j ns) with
  | nil=>simp
  | cons a l ih2=>simp only [List.foldr_cons]; omega
theorem aEf (hc:X.calm=true):eN X (.builtin "sum") (λxs H Q=>∃ (p:Addr) (ns:List Int),xs = [.ref p]/\ak X.K H p (ns.map V.int)/\(∀ n∈ns,0<=n/\n < 1000000)/\ns.length<=1000000/\Q (.int (iW ns)) H):=by
 intro aa s σ H xs us Q I r h
 obtain ⟨p,ns,rfl,hx,hb,hlen,q⟩:=h
 obtain ⟨u,rfl,rx⟩:=gM r
 cases rx
 obtain ⟨ae,rv,pl,hz⟩:=I.list hx
 have hl:=rv.length
 rw [Qc] at hl
 have ax:p < s.heap.objs.size:=by obtain ⟨o,n,e,_⟩:=pl; exact Qo e
 have lh:∀ (i:Nat) (v:Int),ns[i]?=some v->(ns[i]?).getD 0=v:=λi v e=>by rw [e]; rfl
 have X7:∀ (ms:List Int),(∀ n∈ms,0<=n/\n < 1000000)->0<=iW ms/\iW ms<=ms.length*1000000:=λms=>by
  induction ms with
  | nil=>intro _; exact ⟨Zb _,Zb _⟩
  | cons a l ih =>
   intro hh
   have h1:=hh a Qk
   have h2:=ih λn hn=>hh n (Ql _ hn)
   have e:iW (a::l)=a+iW l:=rfl
   rw [e,Jg]
   rw [Wa]
   omega
 refine call_sum_walk (Ul pl.isList ?_)
 refine ⟨s.heap.objs.size,_,_,_,_,_,λi=>(ns[i]?).getD 0,rfl,Walks.list (A:=X.A.in1) (I.ok.hd hc) s.heap.objs.size p (Qt ax) ae.toArray,⟨⟨_,Qg _ rfl,rfl,rfl⟩,pl.isList.push _⟩,?_,?_,?_,λh' tk t' hk=>?_⟩
 ·intro b e_
  rw [Jj]
  rcases Qj.mp e_ with e | e
  ·rw [e]; exact Xu _
  ·have e':b=p:=by simpa using e
   rw [e']; exact Jv ax
 ·intro i v hP
  have qc:ae[i]?=some v:=by simpa using hP
  have hi:i < ns.length:=by rw [hl]; exact (Qd.mp qc).1
  obtain ⟨w,hw,gc⟩:=rv.get (i:=i) (x:=.int ns[i]) (by rw [Qh,Qb hi]; rfl)
  rw [hw] at qc
  cases qc
  obtain ⟨t,rfl⟩:=gc
  exact ⟨t,by show Value.int ns[i] t=Value.int ((ns[i]?).getD 0) t; rw [Qb hi]; rfl⟩
 ·intro j hj
  have CJ:j < ns.length:=by rw [hl]; simpa using hj
  have e:ns[j]?=some ns[j]:=Qb CJ
  have h1:=hb _ (Jt CJ)
  have h2:=X7 (ns.take (j+1)) λn hn=>hb n (Xa hn)
  rw [iX ns _ lh (j+1) (by omega)]
  have h3:(ns.take (j+1)).length<=1000000:=by rw [Qu]; omega
  unfold InLong
  have e5:(λi:Nat=>(ns[i]?).getD 0) j=ns[j]:=by show (ns[j]?).getD 0=_; rw [e]; rfl
  rw [e5]
  have h4:((ns.take (j+1)).length:Int)*1000000<=1000000*1000000:=by omega
  omega
 ·have e:preSum (λi=>(ns[i]?).getD 0) ae.toArray.size=iW ns:=by
   rw [Qm,<- hl,iX ns _ lh ns.length (Qe _),Jq]
  rw [e]
  refine ⟨.int _,H,I.kept (h':=h') λb o e=>hk b o ?_ (Qa _ e),⟨_,rfl⟩,q⟩
  intro z
  have z':b=s.heap.objs.size:=by simpa using z
  exact Jo _ (z' ▸ Qo e)
mutual
def Den (K:Rc) (H:Hp):PyData->V->Prop
 | .none,v=>v=.bw
 | .bool b,v=>v=.bl b
 | .int i,v=>v=.int i
 | .str x,v=>v=.str x
 | .list ds,v=>∃ a xs,v=.ref a/\ak K H a xs/\aZ K H ds xs
 | .tuple ds,v=>∃ a xs,v=.ref a/\aj K H a xs/\aZ K H ds xs
 | .dict kvs,v=>kvs = []/\∃ a,v=.ref a/\H a=some (.dK [])
def aZ (K:Rc) (H:Hp):List PyData->List V->Prop
 | [],xs=>xs = []
 | d::ds,xs=>∃ x r,xs=x::r/\Den K H d x/\aZ K H ds r
end
theorem aE.rd {u:HO} (e:aE H H') (h:Rd H a u):Rd H' a u:=by
 rcases h with h | ⟨o,h⟩
 ·exact .inl (e a u h)
 ·exact .inr ⟨o,e a _ h⟩
theorem aE.cm (e:aE H H') (h:ak K H a xs):ak K H' a xs:=by
 rcases h with h | h
 ·exact .inl (e.rd h)
 ·exact .inr h
theorem aE.ai (e:aE H H') (h:aj K H a xs):aj K H' a xs:=by
 rcases h with h | h
 ·exact .inl (e.rd h)
 ·exact .inr h
theorem aE.new {p:Addr} {o:HO} (h:H p=none):aE H (upd H p o):=λb u e=>by rw [aK (iJ e h)]; exact e
mutual
theorem aE.den (e:aE H H'):∀ (d:PyData) (v:V),Den K H d v->Den K H' d v
 | .none,v,h=>by unfold Den at h ⊢; exact h
 | .bool b,v,h=>by unfold Den at h ⊢; exact h
 | .int i,v,h=>by unfold Den at h ⊢; exact h
 | .str x,v,h=>by unfold Den at h ⊢; exact h
 | .list ds,v,h=>by unfold Den at h ⊢; obtain ⟨a,xs,h1,h2,h3⟩:=h; exact ⟨a,xs,h1,e.cm h2,aE.ag e ds xs h3⟩
 | .tuple ds,v,h=>by unfold Den at h ⊢; obtain ⟨a,xs,h1,h2,h3⟩:=h; exact ⟨a,xs,h1,e.ai h2,aE.ag e ds xs h3⟩
 | .dict kvs,v,h=>by unfold Den at h ⊢; obtain ⟨h1,a,h2,h3⟩:=h; exact ⟨h1,a,h2,e a _ h3⟩
theorem aE.ag (e:aE H H'):∀ (ds:List PyData) (xs:List V),aZ K H ds xs->aZ K H' ds xs
 | [],xs,h=>by unfold aZ at h ⊢; exact h
 | d::ds,xs,h=>by unfold aZ at h ⊢; obtain ⟨x,r,h1,h2,h3⟩:=h; exact ⟨x,r,h1,aE.den e d x h2,aE.ag e ds r h3⟩
end
theorem cI {i:Int}:Den K H (.int i) v↔v=.int i:=by unfold Den; exact Iff.rfl
theorem oZ {b:Bool}:Den K H (.bool b) v↔v=.bl b:=by unfold Den; exact Iff.rfl
theorem mF:Den K H .none v↔v=.bw:=by unfold Den; exact Iff.rfl
theorem lC:Den K H (.str x) v↔v=.str x:=by unfold Den; exact Iff.rfl
theorem eI:Den K H (.list ds) v↔∃ a xs,v=.ref a/\ak K H a xs/\aZ K H ds xs:=by
 constructor
 ·intro h; unfold Den at h; exact h
 ·intro h; unfold Den; exact h
theorem bF:Den K H (.tuple ds) v↔∃ a xs,v=.ref a/\aj K H a xs/\aZ K H ds xs:=by
 constructor
 ·intro h; unfold Den at h; exact h
 ·intro h; unfold Den; exact h
theorem zG {kvs:List (PyData×PyData)}:Den K H (.dict kvs) v↔kvs = []/\∃ a,v=.ref a/\H a=some (.dK []):=by
 constructor
 ·intro h; unfold Den at h; exact h
 ·intro h; unfold Den; exact h
theorem aW:aZ K H [] xs↔xs = []:=by unfold aZ; exact Iff.rfl
theorem aS:aZ K H (d::ds) xs↔∃ x r,xs=x::r/\Den K H d x/\aZ K H ds r:=by
 constructor
 ·intro h; unfold aZ at h; exact h
 ·intro h; unfold aZ; exact h
theorem aH:∀ {ds:List PyData} {xs:List V},aZ K H ds xs->xs.length=ds.length
 | [],xs,h=>by rw [aW.mp h]; rfl
 | d::ds,xs,h=>by
  obtain ⟨x,r,rfl,_,h3⟩:=aS.mp h
  rw [Jg,Jg,aH h3]
theorem oH:∀ {ds:List PyData} {xs:List V} {i:Nat} {d:PyData},aZ K H ds xs->ds[i]?=some d->∃ x,xs[i]?=some x/\Den K H d x
 | [],_,_,_,_,e=>by simp at e
 | d::ds,xs,0,d',h,e=>by
  obtain ⟨x,r,rfl,h2,_⟩:=aS.mp h
  simp at e; subst e
  exact ⟨x,rfl,h2⟩
 | d::ds,xs,i+1,d',h,e=>by
  obtain ⟨x,r,rfl,_,h3⟩:=aS.mp h
  obtain ⟨y,h4,h5⟩:=oH (i:=i) (d:=d') h3 (by simpa using e)
  exact ⟨y,by simpa using h4,h5⟩
theorem bS {x:V} (h:aZ K H ds xs) (e:xs[i]?=some x):∃ d,ds[i]?=some d/\Den K H d x:=by
 have hl:=aH h
 have hi:i < ds.length:=by rw [<- hl]; exact (Qd.mp e).1
 obtain ⟨y,h1,h2⟩:=oH h (Qb hi)
 rw [e] at h1; cases h1
 exact ⟨_,Qb hi,h2⟩
theorem bA:∀ {ds es:List PyData} {xs ys:List V},aZ K H ds xs->aZ K H es ys->aZ K H (ds++es) (xs++ys)
 | [],es,xs,ys,h,h'=>by rw [aW.mp h]; exact h'
 | d::ds,es,xs,ys,h,h'=>by
  obtain ⟨x,r,rfl,h2,h3⟩:=aS.mp h
  exact aS.mpr ⟨x,r++ys,rfl,h2,bA h3 h'⟩
theorem qZ:∀ {ds:List PyData} {xs:List V} (n:Nat),aZ K H ds xs->aZ K H (ds.take n) (xs.take n)
 | _,_,0,_=>by rw [Ym,Ym]; exact aW.mpr rfl
 | [],xs,n+1,h=>by rw [aW.mp h]; exact aW.mpr rfl
 | d::ds,xs,n+1,h=>by
  obtain ⟨x,r,rfl,h2,h3⟩:=aS.mp h
  exact aS.mpr ⟨x,r.take n,rfl,h2,qZ n h3⟩
theorem mG:∀ {ds:List PyData} {xs:List V} (n:Nat),aZ K H ds xs->aZ K H (ds.drop n) (xs.drop n)
 | _,_,0,h=>h
 | [],xs,n+1,h=>by rw [aW.mp h]; exact aW.mpr rfl
 | d::ds,xs,n+1,h=>by
  obtain ⟨x,r,rfl,h2,h3⟩:=aS.mp h
  exact mG n h3
theorem cS:∀ {ns:List Int} {xs:List V},aZ K H (ns.map PyData.int) xs↔xs=ns.map V.int
 | [],xs=>aW
 | n::ns,xs=>by
  rw [Qv,aS]
  constructor
  ·rintro ⟨x,r,rfl,h2,h3⟩
   rw [cI.mp h2,cS.mp h3]
   rfl
  ·intro e
   exact ⟨_,_,e,cI.mpr rfl,cS.mpr rfl⟩
theorem bC:Den K H (.tuple (ns.map .int)) v↔∃ a,v=.ref a/\aj K H a (ns.map V.int):=by
 rw [bF]
 constructor
 ·rintro ⟨a,xs,rfl,h1,h2⟩
  rw [cS.mp h2] at h1
  exact ⟨a,rfl,h1⟩
 ·rintro ⟨a,rfl,h⟩
  exact ⟨a,_,rfl,h,cS.mpr rfl⟩
theorem qC:Den K H (.list (ns.map .int)) v↔∃ a,v=.ref a/\ak K H a (ns.map V.int):=by
 rw [eI]
 constructor
 ·rintro ⟨a,xs,rfl,h1,h2⟩
  rw [cS.mp h2] at h1
  exact ⟨a,rfl,h1⟩
 ·rintro ⟨a,rfl,h⟩
  exact ⟨a,_,rfl,h,cS.mpr rfl⟩
def lP:PyData->Kd
 | .none=>.bw | .bool _=>.bl | .int _=>.int | .str _=>.str | .list _=>.lst | .tuple _=>.tup | .dict _=>.NZ
theorem Den.kd (h:Den K H d v):Dq K H v (lP d):=by
 cases d with
 | none=>rw [mF.mp h]; rfl
 | bool b=>rw [oZ.mp h]; rfl
 | int i=>rw [cI.mp h]; rfl
 | str x=>rw [lC.mp h]; rfl
 | list ds=>obtain ⟨a,xs,rfl,h1,_⟩:=eI.mp h; exact .inl ⟨rfl,xs,h1⟩
 | tuple ds=>obtain ⟨a,xs,rfl,h1,_⟩:=bF.mp h; exact .inr (.inl ⟨rfl,xs,h1⟩)
 | dict kvs=>obtain ⟨_,a,rfl,h1⟩:=zG.mp h; exact .inr (.inr ⟨rfl,[],h1⟩)
section
variable {σ:St}
mutual
def gN:PyData->Bool
 | .dict _=>false
 | .list ds=>lD ds
 | .tuple ds=>lD ds
 | _=>true
def lD:List PyData->Bool
 | []=>true
 | d::ds=>gN d && lD ds
end
mutual
theorem Den.reads (I:Inv X aa σ H s):∀ (d:PyData) (v:V) (u:Value),gN d=true->Den X.K H d v->bY v u->∃ as,Reads s.heap u d as
 | .none,v,u,_,h,r=>by rw [mF.mp h] at r; cases r; exact ⟨_,.none⟩
 | .bool b,v,u,_,h,r=>by rw [oZ.mp h] at r; cases r; exact ⟨_,.bool b⟩
 | .int i,v,u,_,h,r=>by rw [cI.mp h] at r; obtain ⟨t,rfl⟩:=r; exact ⟨_,.int i t⟩
 | .str x,v,u,_,h,r=>by rw [lC.mp h] at r; obtain ⟨t,rfl⟩:=r; exact ⟨_,.str x t⟩
 | .list ds,v,u,hn,h,r=>by
  obtain ⟨a,xs,rfl,h1,h2⟩:=eI.mp h
  cases r
  obtain ⟨ae,rv,⟨o,n,e,c,_,d⟩,_⟩:=I.list h1
  obtain ⟨as,ra⟩:=aZ.reads I ds xs ae (by unfold gN at hn; exact hn) h2 rv
  exact ⟨_,.list e c d (by simpa using ra)⟩
 | .tuple ds,v,u,hn,h,r=>by
  obtain ⟨a,xs,rfl,h1,h2⟩:=bF.mp h
  cases r
  obtain ⟨ae,rv,⟨o,e,c,n,d⟩,_⟩:=I.tuple h1
  obtain ⟨as,ra⟩:=aZ.reads I ds xs ae (by unfold gN at hn; exact hn) h2 rv
  exact ⟨_,.tuple e c d (by simpa using ra)⟩
 | .dict kvs,v,u,hn,_,_=>by unfold gN at hn; cases hn
theorem aZ.reads (I:Inv X aa σ H s):∀ (ds:List PyData) (xs:List V) (us:List Value),lD ds=true->aZ X.K H ds xs->bR xs us->∃ as,ReadsAll s.heap us ds as
 | [],xs,us,_,h,r=>by rw [aW.mp h] at r; cases r; exact ⟨_,.nil⟩
 | d::ds,xs,us,hn,h,r=>by
  obtain ⟨x,rr,rfl,h2,h3⟩:=aS.mp h
  unfold lD at hn
  rw [Jc] at hn
  cases r with
  | cons r1 r2 =>
   obtain ⟨as,ra⟩:=Den.reads I d x _ hn.1 h2 r1
   obtain ⟨bs,rb⟩:=aZ.reads I ds rr _ hn.2 h3 r2
   exact ⟨_,.cons ra rb⟩
end
theorem Pq (hu:X.A.units+64 < cLine):dr X (compareOp .Eq) (λx y H Q=>∃ d e,Den X.K H d x/\Den X.K H e y/\gN d=true/\gN e=true/\SeqAt.shaped d=true/\SeqAt.shaped e=true/\Q (.bl (PyData.eqv d e)) H):=by
 intro aa s σ H x y v u Q I rx ry h
 obtain ⟨d,e,hd,he,n1,n2,s1,s2,q⟩:=h
 obtain ⟨as,ra⟩:=Den.reads I d x v n1 hd rx
 obtain ⟨bs,rb⟩:=Den.reads I e y u n2 he ry
 exact eq_dataH ra rb s1 s2 hu ⟨.bl _,H,I,rfl,q⟩
theorem JO (hu:X.A.units+64 < cLine):dr X (compareOp .NotEq) (λx y H Q=>∃ d e,Den X.K H d x/\Den X.K H e y/\gN d=true/\gN e=true/\SeqAt.shaped d=true/\SeqAt.shaped e=true/\Q (.bl (!PyData.eqv d e)) H):=by
 intro aa s σ H x y v u Q I rx ry h
 obtain ⟨d,e,hd,he,n1,n2,s1,s2,q⟩:=h
 obtain ⟨as,ra⟩:=Den.reads I d x v n1 hd rx
 obtain ⟨bs,rb⟩:=Den.reads I e y u n2 he ry
 exact ne_dataH ra rb s1 s2 hu ⟨.bl _,H,I,rfl,q⟩
theorem aCX:AF X "tuple.count" (λx vs H Q=>∃ (a:Addr) (ns:List Int) (n:Int),x=.ref a/\vs = [.int n]/\aj X.K H a (ns.map V.int)/\Q (.int (ns.count n:Nat)) H):=by
 intro aa s σ H x v vs us Q I rx r h
 obtain ⟨a,ns,n,rfl,rfl,ha,q⟩:=h
 obtain ⟨u,rfl,t,rfl⟩:=gM r
 cases rx
 obtain ⟨ae,rv,⟨⟨cls,dd,data,sl⟩,ho,hc,k,hd⟩,pk⟩:=I.tuple ha
 simp only at hc hd
 subst hc hd
 have hi:IntsAre ae ns:=kZ rv
 refine Ti Mk ⟨_,ho,rfl⟩ PySem.F.entry_tuple_count (PySem.F.args_tuple_count_2 _ _) (SeqAt.tuple_countAt a ae.toArray k dd sl (.int n t) (isInt n)) ⟨ho,λy hy=>(eq_isInt n t hi y (by simpa using hy)).at _ _,?_⟩
 have e:(ae.toArray.toList.countP (isInt n))=ns.count n:=by
  simp only [Wj]
  clear q r ha rv ho pk
  induction hi with
  | nil=>rfl
  | cons m t' _ ih =>
   rw [List.countP_cons,Zz,ih]
   rfl
 rw [e]
 exact ⟨.int _,H,I.tok _,⟨_,rfl⟩,q⟩
end
theorem sO {x:Value} {Q:List Value->Shared->Prop}
  (h:∀ R:Result->Shared->Prop,(∀ (s':Shared) (acc:Array Value) (c:Nat),s'.heap.get? s.heap.objs.size=some { cls:=.type "list",data:=.seq acc c }->Q acc.toList s'->R (.ok (.ret (.ref s.heap.objs.size))) s') ->
   wpAny (model prog w) A.in1 (Builtin.List.listExtendWith (.ref s.heap.objs.size) x (.ref s.heap.objs.size))
    (λfin s'=>match fin with | .done f=>R (.ok f) s' | .again c'=>c'.quiet=true/\codeAny (model prog w) A c' R s') (λe s'=>R (.error e) s') { s with heap:=s.heap.push { cls:=.type "list",data:=.seq ([]:List Value).toArray } }) :
  wpAny (model prog w) A (collect x) Q E s:=by
 unfold collect
 refine Ra (wpAny_runValue (To PySem.F.entry_proto_collect ?_))
 rw [Around.under_plainId PySem.F.plain_proto_collect _]
 show wpAny _ A.in1 (newList [] >>= λl=>again (.builtin "list.__iadd__" ⟨[l,x],[]⟩)) _ _ s
 refine Ra (Ri ?_)
 refine Rb ⟨Ub Mn _,To PySem.F.entry_list_iadd ?_⟩
 rw [Around.under_plainId Mn _]
 show wpAny _ A.in1 (Builtin.List.listExtendWith (.ref s.heap.objs.size) x (.ref s.heap.objs.size)) _ _ _
 have DY:∀ (s':Shared) (acc:Array Value) (c:Nat),s'.heap.get? s.heap.objs.size=some { cls:=.type "list",data:=.seq acc c }->Q acc.toList s'->wpAny (model prog w) A (match Value.ref s.heap.objs.size with
   | Value.ref a => do
     match (<- load a).data with
      | Data.seq xs _=>pure xs.toList
      | _=>unsupported "internal:collect"
   | _=>unsupported "internal:collect") Q E s':=by
  intro s' acc c e q
  show wpAny _ A (load s.heap.objs.size >>= _) _ _ _
  exact Ra (wpAny_load e (Rb q))
 refine Rp (h (λr s'=>r=.ok (.ret (.ref s.heap.objs.size))/\∃ acc c,s'.heap.get? s.heap.objs.size=some { cls:=.type "list",data:=.seq acc c }/\Q acc.toList s') (λs' acc c e q=>⟨rfl,acc,c,e,q⟩)) (λfin s' h=>?_) (λe s' h=>?_)
 ·cases fin with
  | done f =>
   obtain ⟨e,acc,c,e2,q⟩:=h
   cases e
   exact DY s' acc c e2 q
  | again c'=>exact ⟨h.1,Ui h.2 λr zy hr=>by obtain ⟨rfl,acc,c,e2,q⟩:=hr; exact DY zy acc c e2 q⟩
 ·exact absurd h.1 (by simp)
theorem uQ {r:Addr} {a b:Int} {t u v:Tok} {Q:List Value->Shared->Prop} (hh:A.handled=none) (hr:IsRange s.heap r a b 1 t u v) (nz:Builtin.Range.small a b 1=true) (hn:Builtin.Range.rangeSize a b 1=n) (hlen:n<=2^24) (h:∀ h' tk vs,(∀ b o,s.heap.get? b=some o->h'.get? b=some o)->IntsAre vs ((List.range n).map λ(i:Nat)=>a+(i:Int))->Q vs { s with heap:=h',toks:=tk }):wpAny (model prog w) A (collect (.ref r)) Q E s:=by
 refine sO λR hR=>?_
 have CF:IsRange (s.heap.push { cls:=.type "list",data:=.seq ([]:List Value).toArray }) r a b 1 t u v:=Qa _ hr
 refine wpAny_extend_range (s:={ s with heap:=s.heap.push { cls:=.type "list",data:=.seq ([]:List Value).toArray } }) hh CF nz hn hlen s.heap.objs.size (.ref s.heap.objs.size) 0 (Qg _ rfl) λh' tk ny c' kp e it=>?_
 refine hR { s with heap:=h',toks:=tk } ny c' e (h h' tk ny.toList (λb o q=>kp b o (Qt (Qo q)) (Qa _ q)) ?_)
 obtain ⟨hs,hi⟩:=it
 -- the items one by one
 have key:∀ (k:Nat) (l:List Value) (m:Nat),l.length=k->(∀ (j:Nat) (v:Value),l[j]?=some v->∃ t,v=Value.int (a+((m+j:Nat):Int)) t)->IntsAre l ((List.range' m k).map λ(i:Nat)=>a+(i:Int)):=by
  intro k
  induction k with
  | zero=>intro l m hl _; rw [Jz.mp hl]; exact .nil
  | succ k ih =>
   intro l m hl hv
   cases l with
   | nil=>simp at hl
   | cons v l =>
    obtain ⟨t,e⟩:=hv 0 v rfl
    rw [List.range'_succ,Qv,e]
    exact .cons _ t (ih l (m+1) (by simpa using hl) λj v' hj=>by
     obtain ⟨t',e'⟩:=hv (j+1) v' (by simpa using hj)
     exact ⟨t',by rw [e',show m+(j+1)=m+1+j by omega]⟩)
 have:=key n ny.toList 0 (by rw [Array.length_toList,hs]) λj v hj=>by
  obtain ⟨t,e⟩:=hi j v (by simpa using hj)
  exact ⟨t,by rw [e]; first | (congr 1; done) | (congr 1; omega)⟩
 rwa [<- List.range_eq_range'] at this
theorem aCY {x:Value} (HF:ns.length < 64) (hc:∀ Q':List Value->Shared->Prop,(∀ h' tk vs,(∀ b o,s.heap.get? b=some o->h'.get? b=some o)->IntsAre vs ns->Q' vs { s with heap:=h',toks:=tk })->wpAny (model prog w) A.in1 (collect x) Q' E s) (h:∀ (h1 h':Heap) tk out j8,(∀ b o,s.heap.get? b=some o->h1.get? b=some o)->(∀ b o,h1.get? b=some o->h'.get? b=some o)->h'.PlainList h1.objs.size out->IntsAre out.toList j8->j8.Perm ns->j8.Pairwise (·<=·)->Q (.ref h1.objs.size) { s with heap:=h',toks:=tk }) :
  wpAny (model prog w) A (call (.builtin "sorted") [x]) Q E s:=by
 refine Calls.call_function_entry kind_sorted plain_sorted entry_sorted (args_sorted1 _) ?_
 unfold Builtin.«sorted»
 refine Ra (m:=checkCount "sorted" 1 1 _) (Rb ?_)
 refine Ra (hc _ λh1 tk vs kp hi=>?_)
 have hlen:=hi.length
 refine Ra (wpAny_newList ?_ (by rw [Rg]; omega))
 have jv:(h1.push (seqObj "list" vs.toArray 0)).get? h1.objs.size=some (seqObj "list" vs.toArray 0):=Qg _ rfl
 refine Ra (Rn (Rj slot_list_sort ⟨_,jv,rfl⟩ RaQ (list_sort_tree jv hi (by omega) λout j8 a1 a2 a3=>⟨_,rfl,?_⟩) (args_list_sort _)))
 refine Rb ⟨_,rfl,?_⟩
 obtain ⟨e,he⟩:=sortedHeap_at (out:=out) jv
 refine h h1 _ tk out j8 kp (λb o q=>?_) ⟨e,he⟩ a1 a2 a3
 rw [sortedHeap_old (Qt (Qo q)) (by rw [size_push']; exact Jv (Qo q))]
 exact Qa _ q
theorem uR {x:Value} {b:Bool} (HF:ns.length < 64) (hc:∀ Q':List Value->Shared->Prop,(∀ h' tk vs,(∀ b o,s.heap.get? b=some o->h'.get? b=some o)->IntsAre vs ns->Q' vs { s with heap:=h',toks:=tk })->wpAny (model prog w) A.in1 (collect x) Q' E s) (h:∀ (h1 h':Heap) tk out j8,(∀ b o,s.heap.get? b=some o->h1.get? b=some o)->(∀ b o,h1.get? b=some o->h'.get? b=some o)->h'.PlainList h1.objs.size out->IntsAre out.toList j8->j8.Perm ns->Ordered b j8->Q (.ref h1.objs.size) { s with heap:=h',toks:=tk }) :
  wpAny (model prog w) A (call (.builtin "sorted") [x] [(Str.ofString "reverse",.bool b)]) Q E s:=by
 refine call_function_entry_kw kind_sorted plain_sorted entry_sorted (args_sorted_rev _ _) ?_
 unfold Builtin.«sorted»
 refine Ra (m:=checkCount "sorted" 1 1 _) (Rb ?_)
 refine Ra (hc _ λh1 tk vs kp hi=>?_)
 have hlen:=hi.length
 refine Ra (wpAny_newList ?_ (by rw [Rg]; omega))
 have jv:(h1.push (seqObj "list" vs.toArray 0)).get? h1.objs.size=some (seqObj "list" vs.toArray 0):=Qg _ rfl
 refine Ra (Rn (wpAny_call_entry_kw slot_list_sort ⟨_,jv,rfl⟩ RaQ (list_sort_tree_rev jv hi (by omega) λout j8 a1 a2 a3=>⟨_,rfl,?_⟩) (args_list_sort_rev _ _)))
 refine Rb ⟨_,rfl,?_⟩
 obtain ⟨e,he⟩:=sortedHeap_at (out:=out) jv
 refine h h1 _ tk out j8 kp (λb o q=>?_) ⟨e,he⟩ a1 a2 a3
 rw [sortedHeap_old (Qt (Qo q)) (by rw [size_push']; exact Jv (Qo q))]
 exact Qa _ q
theorem lQ (r:Addr) (a b:Int) (t u v:Tok) (n:Nat) (nz:Builtin.Range.small a b 1=true) (hn:Builtin.Range.rangeSize a b 1=n) (hlen:n<=2^24) :
  Meets (Builtin.«tuple.__new__» ⟨[.type "tuple",.ref r],[]⟩)
   (λA R s=>A.handled=none/\IsRange s.heap r a b 1 t u v/\∀ (h':Heap) tk (vs:List Value),(∀ b o',s.heap.get? b=some o'->h'.get? b=some o')->IntsAre vs ((List.range n).map λ(i:Nat)=>a+(i:Int)) ->
    R (.ok (.ret (.ref h'.objs.size))) { s with heap:=h'.push { cls:=.type "tuple",data:=.seq vs.toArray },toks:=tk }) :=
 .of_wp λprog w A R s h=>by
  obtain ⟨hp,g,d,tk,os⟩:=s; obtain ⟨hh,ht,h⟩:=h
  have lj:=sub_tuple_self
  have Sj:=init_tuple_lookup
  have hmh:=madeHere_tuple
  have hT:Shared.TypeIs ⟨hp,g,d,tk,os⟩ (.ref r) "range" := ⟨_,ht,rfl⟩
  wp_walk using Rq ht,Vf hT,uQ (A:=A.in1) (s:=⟨hp,g,d,tk,os⟩) hh ht nz hn hlen
  intro h' SJ vs hk hi
  show wpAny _ _ (Builtin.Tuple.tupleExact vs.toArray >>= λv=>ret v) _ _ _
  unfold Builtin.Tuple.tupleExact
  have hl:=hi.length
  rw [Qc,Xs] at hl
  refine Ra (Ri ?_ (by show vs.toArray.size<=sizeLine; rw [Qm,Rg]; omega))
  refine Rb ⟨_,rfl,?_⟩
  exact h h' SJ vs hk hi
theorem zH:eN X (.type "range") (λxs H Q=>∃ j,xs = [.int j]/\∀ p,H p=none->Q (.ref p) (upd H p (.pg 0 j))):=by
 intro aa s σ H xs us Q I r h
 obtain ⟨j,rfl,q⟩:=h
 obtain ⟨u,rfl,t,rfl⟩:=gM r
 refine call_range_1 ⟨.ref s.heap.objs.size,_,I.laid (λb o e=>Qa _ e) (Qe _) ?_,rfl,q _ (I.aq.fresh (Qe _))⟩
 exact ⟨_,_,_,Qg _ rfl⟩
def mH (n:Nat):List Int:=(List.range n).map λ(i:Nat)=>(i:Int)
theorem sP (hc:X.calm=true):eN X (.type "tuple") (λxs H Q=>∃ (a:Addr) (n:Nat),xs = [.ref a]/\H a=some (.pg 0 n)/\n<=1000/\∀ p H',aE H H'->aj X.K H' p ((mH n).map V.int)->Q (.ref p) H'):=by
 intro aa s σ H xs us Q I r h
 obtain ⟨a,n,rfl,ha,hn,q⟩:=h
 obtain ⟨u,rfl,rx⟩:=gM r
 cases rx
 obtain ⟨t,u,v,e⟩:=I.aq a _ ha
 have hsz:Builtin.Range.rangeSize 0 (n:Int) 1=(n:Int):=by rw [rangeSize_one]; split <;> omega
 have EO:Builtin.Range.small 0 (n:Int) 1=true:=small_one (by omega) (by omega) (by omega) (by omega)
 have Ks:n<=2^24:=Jl hn (by decide)
 refine Ig PySem.F.called_tuple (by decide) (PySem.F.typeCall_tuple_1 _) (PySem.F.newCall_tuple_1 _) (λobj=>Vo obj _) PySem.F.entry_tuple_new
  (lQ a 0 n t u v n EO hsz Ks) ⟨I.ok.hd hc,e,λh' tk vs kp hi=>⟨⟨_,Qg _ rfl,rfl⟩,?_⟩⟩
 have I1:Inv X aa σ H { s with heap:=h',toks:=tk }:=I.kept kp
 have e0:((List.range n).map λ(i:Nat)=>(0:Int)+(i:Int))=mH n:=by unfold mH; exact Zd λi _=>Ww _
 rw [e0] at hi
 have hv:=nC hi
 have hl:(mH n).length=n:=by unfold mH; simp
 have hf:=I1.aq.fresh (Qe _)
 have I2:Inv X aa σ (upd H h'.objs.size (.tup ((mH n).map V.int))) { s with heap:=h'.push { cls:=.type "tuple",data:=.seq vs.toArray },toks:=tk } :=
  I1.laid (t':=tk) (λb o e=>Qa _ e) (Qe _) (show bM X.prog X.w _ _ _ (.tup _) from ⟨by rw [Qc,hl,Rg]; omega,vs,0,hv,Qg _ rfl⟩)
 exact ⟨.ref h'.objs.size,_,I2,rfl,q _ _ (aE.new hf) (aj.of aB)⟩
theorem uS {x:Expr} {cj dc} (hg:Gl X "sorted") (hm:X.mg "sorted" = none) (hx:PE X x tx) (he:starEach [x] X.env = [(false,eval x X.env)]:=by rfl) :
  PE X (.Call (.Name "sorted" p) [x] [⟨some "reverse",.Constant (.bool true) cj dc,xf⟩] pos) (λσ H Q=>tx σ H λv H1=>∃ (a:Addr) (ns:List Int),v=.ref a/\(ak X.K H1 a (ns.map V.int)∨aj X.K H1 a (ns.map V.int))/\ns.length < 64 /\
   ∀ (p:Addr) (ms:List Int),H1 p=none->ms.Perm ns->ms.Pairwise (·≥·)->Q (.ref p) (upd H1 p (.lst (ms.map V.int)))):=by
 intro aa s σ H Q I h
 refine Tq (jI (u:=.builtin "sorted") I hg hm (by decide +kernel) ?_)
 have GY:PA X [x] (lW tx rK):=aA hx aD he
 refine callWith_kw (bf (GY pos aa s σ H (λvs H1=>match vs with
   | [v]=>∃ (a:Addr) (ns:List Int),v=.ref a/\(ak X.K H1 a (ns.map V.int)∨aj X.K H1 a (ns.map V.int))/\ns.length < 64/\∀ (p:Addr) (ms:List Int),H1 p=none->ms.Perm ns->ms.Pairwise (·≥·)->Q (.ref p) (upd H1 p (.lst (ms.map V.int)))
   | _=>False) I h) λus s1 ⟨vs,H1,I1,r1,q1⟩=>?_) (by rw [he]; rfl) (by rw [he]; rfl)
 have hk:PK X [⟨some "reverse",.Constant (.bool true) cj dc,xf⟩] (lW (tC (.bl true)) rK):=aFS eX ρ
 refine bf (hk pos aa s1 σ H1 (λzs H2=>zs = [.bl true]/\H2=H1) I1 ⟨rfl,rfl⟩) λws s2 au=>?_
 obtain ⟨zs,H2,I2,rz,ez,eH⟩:=au
 subst ez eH
 obtain ⟨w1,rfl,S0⟩:=gM rz
 cases S0
 match vs,r1,q1 with
 | [v],r1,q1 =>
  obtain ⟨a,ns,rfl,ha,HF,q⟩:=q1
  obtain ⟨u,rfl,rx⟩:=gM r1
  cases rx
  show wpAny (model X.prog X.w) X.A (call (.builtin "sorted") [.ref a] [(Str.ofString "reverse",.bool true)]) _ _ _
  refine uR HF (λQ' jw=>?_) λh1 h' tk out j8 k1 k2 pl hi hp ho=>?_
  ·rcases ha with ha | ha
   ·obtain ⟨ae,rv,⟨o,n,e,c,_,d⟩,hz⟩:=I2.list ha
    have hl:=rv.length
    exact RaF a (.inl rfl) e c d (λh' kp=>jw h' s2.toks _ kp (by simpa using kZ rv)) (by rw [Qm,<- hl]; exact hz)
   ·obtain ⟨ae,rv,⟨o,e,c,n,d⟩,hz⟩:=I2.tuple ha
    have hl:=rv.length
    exact RaF a (.inr rfl) e c d (λh' kp=>jw h' s2.toks _ kp (by simpa using kZ rv)) (by rw [Qm,<- hl]; exact hz)
  ·have J1:Inv X aa σ H2 { s2 with heap:=h1,toks:=tk }:=I2.kept k1
   have hf:=J1.aq.fresh (Qe _)
   have hl:=hp.length_eq
   obtain ⟨n,e⟩:=pl
   have J2:Inv X aa σ (upd H2 h1.objs.size (.lst (j8.map V.int))) { s2 with heap:=h',toks:=tk } :=
    J1.laid (t':=tk) k2 (Qe _) (show bM X.prog X.w _ _ _ (.lst _) from ⟨by rw [Qc,hl,Rg]; omega,out.toList,n,nC hi,by simpa using e⟩)
   exact ⟨.ref h1.objs.size,_,J2,rfl,q _ j8 hf hp ho⟩
 | [],_,q1=>exact q1.elim
 | _::_::_,_,q1=>exact q1.elim
def tab (L:Bool) (ns:List Nat):SetTable:={ mask:=7,place:=ns.toArray,dummies:=#[],finger:=0,led:=L,moves:=0,plain:=true }
def YH (l:List (Nat×Tok)):Array (Int×Value):=(l.map λp=>((p.1:Int),Value.int (p.1:Int) p.2)).toArray
theorem Gf:∀ (L:Bool) (k j:Fin 8),k < j->(tab L [k.val]).put j.val=(tab L [k.val,j.val],1):=by decide +kernel
def SX (L:Bool) (h:Heap) (a:Addr) (l:List (Nat×Tok)):Prop:=∃ o ep,h.get? a=some o/\o.ExactSet/\o.data=.set (YH l) ep (tab L (l.map (·.1)))
abbrev Led (w:World):Bool:=!(w.params.followText "set-order")
theorem sQ (a:Value) {Q₁:Value->Shared->Prop}
  (h:Q₁ (.ref s.heap.objs.size) { s with heap:=s.heap.push { cls:=.type "set",dict:=none,data:=.set #[] 0 (.fresh 0 0 (Led w)) } }) :
  codeAny (model prog w) A (.call (.builtin "set.__new__") ⟨[.type "set",a],[]⟩) (wants Q₁ E) s:=by
 refine Ii ?_
 show wpAny _ A.in1 (do checkBuiltinCall "set.__new__" ⟨[.type "set",a],[]⟩; again (.builtin "set.__new__" ⟨[.type "set",a],[]⟩)) _ _ s
 refine Ra (Vq (PySem.F.newCall_set_1 a) (Rb ⟨Ub Mx _,To PySem.F.entry_set_new ?_⟩))
 rw [Around.under_plainId Mx _]
 unfold Builtin.«set.__new__» Builtin.Frozenset.newClass
 have lj:=sub_set_self
 obtain ⟨hp,g,d,tk,os⟩:=s
 dsimp only
 wp_walk
 refine Uu (Rb ?_)
 dsimp only
 simp only [newObj]
 refine Ra (Raz (Rb ?_))
 exact Rb h
theorem aEh {S:Addr} {wr:List Addr} {P:Nat->Value->Prop} {St:Nat->Heap->Prop} (W:Walks prog w A.in1 I fp wr n P St) (hi:i < n) (st:St i s.heap) (h:∀ v h' tk,P i v->St (i+1) h'->(∀ b o,b∉wr->s.heap.get? b=some o->h'.get? b=some o) ->
   wpAny (model prog w) A.in1 (setAdd S v) (λ_ s2=>codeAny (model prog w) A (.builtin "set.update.loop" ⟨[.ref S,.ref I],[]⟩) R s2) (λe s'=>R (.error e) s') { s with heap:=h',toks:=tk }) :
  codeAny (model prog w) A (.builtin "set.update.loop" ⟨[.ref S,.ref I],[]⟩) R s:=by
 refine To PyProof.Rows.F.entry_set_update_loop ?_
 rw [Around.under_plainId PyProof.Rows.F.plain_set_update_loop _]
 show wpAny _ A.in1 (pyNext (.ref I) >>= _) _ _ s
 refine Ra (W.item i s _ _ hi st λv h' tk hP Kh hk=>?_)
 show wpAny _ A.in1 (holding [v] (setAdd S v) >>= _) _ _ _
 refine Ra (Rn (Rp (h v h' tk hP Kh hk) (λ_ s2 q=>?_) λ_ _ e=>e))
 exact Rb ⟨Ub PyProof.Rows.F.plain_set_update_loop _,q⟩
theorem aEi {S:Addr} {wr:List Addr} {P:Nat->Value->Prop} {St:Nat->Heap->Prop} (W:Walks prog w A.in1 I fp wr n P St) (st:St n s.heap) (h:∀ h' tk,(∀ b o,b∉wr->s.heap.get? b=some o->h'.get? b=some o)->R (.ok (.ret .none)) { s with heap:=h',toks:=tk }) :
  codeAny (model prog w) A (.builtin "set.update.loop" ⟨[.ref S,.ref I],[]⟩) R s:=by
 refine To PyProof.Rows.F.entry_set_update_loop ?_
 rw [Around.under_plainId PyProof.Rows.F.plain_set_update_loop _]
 show wpAny _ A.in1 (pyNext (.ref I) >>= _) _ _ s
 refine Ra (W.done s _ _ st λh' tk hk=>?_)
 show wpAny _ A.in1 (ret Value.none) _ _ _
 exact Rb (h h' tk hk)
def two (a b:Nat) (t u:Tok):List (Nat×Tok):=if a=b then [(a,t)] else if a < b then [(a,t),(b,u)] else [(b,u),(a,t)]
theorem bZ:Slot "set_iterator" "__next__" "set_iterator.__next__" :=
 .of (owner := "set_iterator") (n := "__next__") (by rw [Rac,Ik]; kernel_rfl) (by decide +kernel) (by decide +kernel) (by decide +kernel)
  (by first | exact .inl (by decide +kernel) | exact .inr (by decide +kernel)) (by rw [Rae]; kernel_rfl)
theorem gX:entryFor table "set_iterator.__next__" = some Builtin.«set_iterator.__next__»:=entryFor_of_tree (by kernel_rfl)
theorem gO (a:Value):argsOk "set_iterator.__next__" ⟨[a],[]⟩:=by
 unfold argsOk; kernel_rfl
theorem hX:Slot "set_iterator" "__iter__" "set_iterator.__iter__" :=
 .of (owner := "set_iterator") (n := "__iter__") (by rw [Rac,Ik]; kernel_rfl) (by decide +kernel) (by decide +kernel) (by decide +kernel)
  (by first | exact .inl (by decide +kernel) | exact .inr (by decide +kernel)) (by rw [Rae]; kernel_rfl)
theorem kP:entryFor table "set_iterator.__iter__" = some Builtin.«dict_keyiterator.__iter__» :=
 entryFor_alias (id' := "dict_keyiterator.__iter__") (by kernel_rfl) rfl (by decide +kernel) (by kernel_rfl)
theorem kG (a:Value):argsOk "set_iterator.__iter__" ⟨[a],[]⟩:=by
 unfold argsOk; kernel_rfl
theorem sR:entryFor table "set.__iter__" = some Builtin.«frozenset.__iter__» :=
 entryFor_alias (id' := "frozenset.__iter__") (by kernel_rfl) rfl (by decide +kernel) (by kernel_rfl)
section
variable {S:Addr} {l:List (Nat×Tok)}
theorem qF {Q:Bool->Shared->Prop} (h:Q (w.params.followText "set-order") s):wpAny (model prog w) A setsByText Q E s:=Ra (Uu (Rb h))
end
def aJs (w:World) (p:Addr) (a b:Nat):HO:=.ext λh=>∃ t u,SX (Led w) h p (two a b t u)
structure Sub (prog:Program) (w:World) (i l:Addr) (n:Nat) (P:Nat->Value->Prop) (st:Nat->Heap->Prop):Prop where
 keep:∀ k h h',st k h->(∀ b,b=i∨b=l->∀ o,h.get? b=some o->h'.get? b=some o)->st k h'
 obj:∀ k h,st k h->(∃ o,h.get? i=some o/\∀ v,o.data≠.cell v)/\∃ o,h.get? l=some o
 item:∀ (A:Around) k (s:Shared) (Q:Value->Shared->Prop) (E:Value->Shared->Prop),k < n->st k s.heap->(∀ v h',P k v->st (k+1) h'->Heap.SameBut i s.heap h'->Q v { s with heap:=h' })->wpAny (model prog w) A (Builtin.SmallTypes.nextOf (.ref i)) Q E s
 done:∀ (A:Around) (s:Shared) (Q:Value->Shared->Prop) (E:Value->Shared->Prop),A.handled=none->st n s.heap->(∀ h' e,Heap.ExtBut i s.heap h'->(∃ o,h'.get? e=some o/\o.cls=.type "StopIteration")->E (.ref e) { s with heap:=h' }) ->
  wpAny (model prog w) A (Builtin.SmallTypes.nextOf (.ref i)) Q E s
theorem aEj (prog:Program) (w:World) (i l:Addr) (items:Array Value) (cb:l≠i):Sub prog w i l items.size (λk v=>items[k]?=some v) (λk h=>h.IsListIter i l k/\h.IsList l items) where
 keep:=λk h h' st kp=>⟨st.1.at λo e=>kp i (.inl rfl) o e,st.2.at λo e=>kp l (.inr rfl) o e⟩
 obj:=λk h st=>by
  obtain ⟨⟨o,e,_,d⟩,⟨o2,e2,_⟩⟩:=st
  exact ⟨⟨o,e,λv z=>by rw [d] at z; cases z⟩,o2,e2⟩
 item:=λA k s Q E hk st hQ=>wpAny_nextOf_list_item st.1 st.2 (Array.getElem?_eq_getElem hk) λh' a b=>hQ _ h' (Array.getElem?_eq_getElem hk) ⟨a,st.2.at λo e=>b.extBut l o cb e⟩ b
 done:=λA s Q E hh st hE=>wpAny_nextOf_list_end hh st.1 st.2 (Array.getElem?_eq_none (Qe _)) hE
theorem pA {t:Addr} {x:Value} (hit:s.heap.IsTupleIter it t i) (ht:s.heap.IsTuple t items) (hx:items[i]?=some x) (hQ:∀ h',h'.IsTupleIter it t (i+1)->Heap.SameBut it s.heap h'->Q x { s with heap:=h' }):wpAny (model prog w) A (Builtin.SmallTypes.nextOf (.ref it)) Q E s:=by
 obtain ⟨o,ho,hc,hd⟩:=id hit
 obtain ⟨ol,Bz,_,nl,jk⟩:=ht
 have hT:=hit.typeIs
 unfold Builtin.SmallTypes.nextOf
 refine Ra (Rh (name:=Str.ofString "__next__") hT Tw (Rj Tw hT Ij ?_ (Ih _)))
 refine Ra (m:=field (.ref it) 0) (Rm ho hd (x:=.ref t) rfl ?_)
 have h_:¬ ((Value.ref t==Value.none)=true):=Qs
 show wpAny _ _ (if (Value.ref t==Value.none)=true then _ else _) _ _ s
 rw [if_neg h_]
 refine Ra (m:=field (.ref it) 1) (Rm ho hd (x:=.int i 0) rfl ?_)
 refine Ra (m:=seqItems? (.ref t)) (Tn Bz jk ?_)
 simp only [Jf,hx]
 refine Ra (Vh ho hd (by simp) (Rb ⟨x,rfl,Rb (hQ _ ?_ (Heap.SameBut.update ..))⟩))
 refine ⟨_,Jx _ ho (Obj.isFreed_of_fields (Obj.data_mapFields hd _)),(Obj.cls_mapFields ..).trans hc,?_⟩
 rw [Obj.data_mapFields hd]
 simp [rawInt]
theorem qG {t:Addr} (hh:A.handled=none) (hit:s.heap.IsTupleIter it t i) (ht:s.heap.IsTuple t items) (hx:items[i]?=none) (hE:∀ h' e,Heap.ExtBut it s.heap h'->(∃ o,h'.get? e=some o/\o.cls=.type "StopIteration")->E (.ref e) { s with heap:=h' }):wpAny (model prog w) A (Builtin.SmallTypes.nextOf (.ref it)) Q E s:=by
 obtain ⟨o,ho,hc,hd⟩:=id hit
 obtain ⟨ol,Bz,_,nl,jk⟩:=ht
 have hT:=hit.typeIs
 unfold Builtin.SmallTypes.nextOf
 refine Ra (Rh (name:=Str.ofString "__next__") hT Tw (Rj Tw hT Ij ?_ (Ih _)))
 refine Ra (m:=field (.ref it) 0) (Rm ho hd (x:=.ref t) rfl ?_)
 have h_:¬ ((Value.ref t==Value.none)=true):=Qs
 show wpAny _ _ (if (Value.ref t==Value.none)=true then _ else _) _ _ s
 rw [if_neg h_]
 refine Ra (m:=field (.ref it) 1) (Rm ho hd (x:=.int i 0) rfl ?_)
 refine Ra (m:=seqItems? (.ref t)) (Tn Bz jk ?_)
 simp only [Jf,hx]
 refine Ra (Uc (Ra (Vh ho hd (by simp) ?_)))
 refine Ra (m:=newExc (.type "StopIteration") []) ?_
 simp only [newExc,newTuple]
 refine Ra (Ri ?_ (by size_fits))
 refine Ra (m:=firstArgMember _ _) (Vq (a:=Value.none) (by first | rfl | (simp only [firstArgMember]; rfl)) ?_)
 refine Ri ?_ (by size_fits)
 simp only [raiseNew]
 refine Ra (Iy ?_)
 first | rw [show A.in1.handled=none from hh] | rw [hh]
 refine Ra (Rb (Mw ?_))
 exact hE _ _ (((Heap.SameBut.update ..).extBut.push _).push _) ⟨_,Qg _ rfl,rfl⟩
theorem aCZ (prog:Program) (w:World) (i l:Addr) (items:Array Value) (cb:l≠i):Sub prog w i l items.size (λk v=>items[k]?=some v) (λk h=>h.IsTupleIter i l k/\h.IsTuple l items) where
 keep:=λk h h' st kp=>⟨st.1.at λo e=>kp i (.inl rfl) o e,by obtain ⟨o,e,r⟩:=st.2; exact ⟨o,kp l (.inr rfl) o e,r⟩⟩
 obj:=λk h st=>by
  obtain ⟨⟨o,e,_,d⟩,⟨o2,e2,_⟩⟩:=st
  exact ⟨⟨o,e,λv z=>by rw [d] at z; cases z⟩,o2,e2⟩
 item:=λA k s Q E hk st hQ=>pA st.1 st.2 (Array.getElem?_eq_getElem hk) λh' a b=>hQ _ h' (Array.getElem?_eq_getElem hk) ⟨a,by obtain ⟨o,e,r⟩:=st.2; exact ⟨o,b.extBut l o cb e,r⟩⟩ b
 done:=λA s Q E hh st hE=>qG hh st.1 st.2 (Array.getElem?_eq_none (Qe _)) hE
abbrev iA (h:Heap) (z TI TO:Addr) (f0:Value) (f1:Bool):Prop :=
 h.get? z=some { cls:=.type "zip",dict:=none,data:=.fields #[f0,.bool f1,.bool false,.ref TI,.ref TO],slots:=#[] }
def F0 (f:Value):Prop:=f=.none∨∃ a t,f=.int a t
theorem zI {Q:Option Obj->Shared->Prop} (h:Q (s.heap.get? a) s):wpAny M A (loadIfAlive a) Q E s:=λΓ p _=>by
 show Sem.wp M Γ (.loadIfAlive a .pure) _ _ p s
 rw [Sem.wp_loadIfAlive]
 exact (Sem.wp_pure ..).mpr h
section
variable {z TI TO:Addr} {n1:Nat}
theorem Pp {Q:Bool->Shared->Prop} (hz:iA s.heap z TI TO f0 f1) (hf:F0 f0) (h1:Q true s) (h2:∀ h' b,f0≠.none->iA h' z TI TO f0 b->Heap.SameBut z s.heap h'->Q false { s with heap:=h' }) :
  wpAny (model prog w) A (Builtin.SmallTypes.ownedTupleIsFree (.ref z)) Q E s:=by
 unfold Builtin.SmallTypes.ownedTupleIsFree
 rcases hf with rfl | ⟨a,t,rfl⟩
 ·exact Ra (Rm hz rfl (x:=.none) rfl (Rb h1))
 ·refine Ra (Rm hz rfl (x:=.int a t) rfl ?_)
  show wpAny (model prog w) A (loadIfAlive a.toNat >>= _) Q E s
  refine Ra (zI ?_)
  cases hq:s.heap.get? a.toNat with
  | none=>exact Rb h1
  | some o =>
   show wpAny (model prog w) A (field (.ref z) 1 >>= _) Q E s
   refine Ra (Rm hz rfl (x:=.bool f1) rfl ?_)
   cases f1 with
   | true=>exact Rb (h2 s.heap true (by simp) hz (Heap.SameBut.refl _ _))
   | false =>
    show wpAny (model prog w) A (setField (.ref z) 1 (.bool true) >>= _) Q E s
    refine Ra (Rl hz (by simp) λg hg b=>Rb (h2 g true (by simp) hg b))
theorem zJ {k:Nat} {a b:Value} (D:ZipApart z TI TO i1 i2 l1 l2) (S1:Sub prog w i1 l1 n1 P1 mi) (S2:Sub prog w i2 l2 n2 P2 fh) (hz:iA s.heap z TI TO f0 f1) (hf:F0 f0) (i9:IsPair s.heap TI (.ref i1) (.ref i2)) (i_:IsPair s.heap TO a b) (h1:mi k s.heap) (h2:fh k s.heap) (k1:k < n1) (k2:k < n2) (hQ:∀ h' x y Ff HJ,(f0=.none->Ff=rawInt s.heap.objs.size/\HJ=false)->P1 k x->P2 k y->F0 Ff->iA h' z TI TO Ff HJ->(∃ a b,IsPair h' TO a b)->mi (k+1) h'->fh (k+1) h'->IsPair h' s.heap.objs.size x y->h'.objs.size=s.heap.objs.size+1 ->
   (∀ c o,c≠z->c≠TO->c≠i1->c≠i2->s.heap.get? c=some o->h'.get? c=some o)->Q (.ref s.heap.objs.size) { s with heap:=h' }) :
  wpAny (model prog w) A (Builtin.«zip.__next__» ⟨[.ref z],[]⟩) (λfin s'=>∃ v,fin=.done (.ret v)/\Q v s') E s:=by
 refine Ra (m:=field (.ref z) 2) (Rm hz rfl (x:=.bool false) rfl ?_)
 refine Ra (m:=field (.ref z) 3) (Rm hz rfl (x:=.ref TI) rfl ?_)
 refine Ra (Tn i9 rfl ?_)
 refine Ra (m:=Builtin.SmallTypes.ownedTupleIsFree (.ref z)) (Pp hz hf ?_ λh0 fb nf EJ b0=>?_)
 ·simp only [if_true]
  refine Ra (Uc ?_)
  refine Ra (Rm hz rfl (x:=.ref TO) rfl ?_)
  refine Ra (Rl hz (by simp) λg1 Gv b1=>?_)
  have xg:iA g1 z TI TO .ellipsis f1:=Gv
  refine Ra ?_
  simp only [List.zipIdx_cons,List.zipIdx_nil,Zl,Zh]
  have s1:mi k g1:=S1.keep _ _ _ h1 λc hc o e=>b1.extBut c o (by rcases hc with r | r <;> rw [r]; exact D.i1z; exact D.l1z) e
  refine Ra (Ra (Iz ?_))
  refine Ra (m:=Builtin.SmallTypes.nextOf (.ref i1)) (S1.item _ k _ _ _ k1 s1 λx g2 px t1 b2=>Rb ?_)
  have o2:IsPair g2 TO a b:=b2.extBut _ _ D.TOi1 (b1.extBut _ _ D.TOz i_)
  refine Ra (Tn o2 rfl ?_)
  refine Ra (Io o2 λg3 o3 b3=>?_)
  have TM:IsPair g3 TO x b:=o3
  refine Ra (Uq (Rb ?_))
  have s2:fh k g3:=S2.keep _ _ _ h2 λc hc o e=>by
   rcases hc with r | r
   ·rw [r] at e ⊢; exact b3.extBut _ _ D.TOi2.symm (b2.extBut _ _ D.i12.symm (b1.extBut _ _ D.i2z e))
   ·rw [r] at e ⊢; exact b3.extBut _ _ D.l2TO (b2.extBut _ _ D.l2i1 (b1.extBut _ _ D.l2z e))
  refine Ra (Ra (Iz ?_))
  refine Ra (m:=Builtin.SmallTypes.nextOf (.ref i2)) (S2.item _ k _ _ _ k2 s2 λy g4 py t2 b4=>Rb ?_)
  have o4:IsPair g4 TO x b:=b4.extBut _ _ D.TOi2 TM
  refine Ra (Tn o4 rfl ?_)
  refine Ra (Io o4 λg5 o5 b5=>?_)
  have Ly:IsPair g5 TO x y:=o5
  refine Ra (Uq (Rb (Rb ?_)))
  refine Ra (Tn Ly rfl ?_)
  refine Ra (Ip ?_)
  have sz:g5.objs.size=s.heap.objs.size:=by rw [b5.1,b4.1,b3.1,b2.1,b1.1]
  have z5:iA g5 z TI TO .ellipsis f1:=b5.extBut _ _ D.TOz.symm (b4.extBut _ _ D.i2z.symm (b3.extBut _ _ D.TOz.symm (b2.extBut _ _ D.i1z.symm xg)))
  have UP:∀ c o,c≠z->c≠TO->c≠i1->c≠i2->s.heap.get? c=some o->g5.get? c=some o:=λc o c1 c2 c3 c4 e =>
   b5.extBut _ _ c2 (b4.extBut _ _ c4 (b3.extBut _ _ c2 (b2.extBut _ _ c3 (b1.extBut _ _ c1 e))))
  have F4:mi (k+1) g5:=S1.keep _ _ _ t1 λc hc o e=>by
   rcases hc with r | r
   ·rw [r] at e ⊢; exact b5.extBut _ _ D.TOi1.symm (b4.extBut _ _ D.i12 (b3.extBut _ _ D.TOi1.symm e))
   ·rw [r] at e ⊢; exact b5.extBut _ _ D.l1TO (b4.extBut _ _ D.l1i2 (b3.extBut _ _ D.l1TO e))
  have SS:fh (k+1) g5:=S2.keep _ _ _ t2 λc hc o e=>by
   rcases hc with r | r
   ·rw [r] at e ⊢; exact b5.extBut _ _ D.TOi2.symm e
   ·rw [r] at e ⊢; exact b5.extBut _ _ D.l2TO e
  have K5:g5.objs.size≠z:=Xh (Qo z5)
  refine Ra (m:=Builtin.SmallTypes.ownedTupleHandOut (.ref z) (.ref g5.objs.size)) ?_
  unfold Builtin.SmallTypes.ownedTupleHandOut
  have z6:iA (g5.push { cls:=.type "tuple",data:=.seq #[x,y] }) z TI TO .ellipsis f1:=Qa _ z5
  refine Ra (Rl z6 (by simp) λg7 z7 b7=>?_)
  have Sl:iA g7 z TI TO (rawInt g5.objs.size) f1:=z7
  refine Rl Sl (by simp) λg8 z8 b8=>?_
  have K6:iA g8 z TI TO (rawInt g5.objs.size) false:=z8
  have up:∀ c o,c≠z->g5.get? c=some o->g8.get? c=some o:=λc o c1 e=>b8.extBut _ _ c1 (b7.extBut _ _ c1 (Qa _ e))
  have T8:IsPair g8 g5.objs.size x y:=b8.extBut _ _ K5 (b7.extBut _ _ K5 (Qg _ rfl))
  have SU:g8.objs.size=s.heap.objs.size+1:=by rw [b8.1,b7.1,Jj,sz]
  rw [sz] at K6 T8
  refine Rb ⟨_,rfl,?_⟩
  show Q (.ref g5.objs.size) _
  rw [sz]
  refine hQ g8 x y _ _ (λ_=>⟨rfl,rfl⟩) px py (.inr ⟨_,_,rfl⟩) K6 ⟨_,_,up _ _ D.TOz Ly⟩ (S1.keep _ _ _ F4 λc hc o e=>up c o (by rcases hc with r | r <;> rw [r]; exact D.i1z; exact D.l1z) e) (S2.keep _ _ _ SS λc hc o e=>up c o (by rcases hc with r | r <;> rw [r]; exact D.i2z; exact D.l2z) e) T8 SU λc o c1 c2 c3 c4 e=>up c o c1 (UP c o c1 c2 c3 c4 e)
 ·simp only [Ji,if_false]
  have s1:mi k h0:=S1.keep _ _ _ h1 λc hc o e=>b0.extBut c o (by rcases hc with r | r <;> rw [r]; exact D.i1z; exact D.l1z) e
  rw [<- Array.forIn_toList]
  simp only [Zl,Zh]
  refine Ra (Ra (Ra (Rn ?_)))
  refine Ra (m:=Builtin.SmallTypes.nextOf (.ref i1)) (S1.item _ k _ _ _ k1 s1 λx g2 px t1 b2=>Rb ?_)
  refine Rb ?_
  have s2:fh k g2:=S2.keep _ _ _ h2 λc hc o e=>by
   rcases hc with r | r
   ·rw [r] at e ⊢; exact b2.extBut _ _ D.i12.symm (b0.extBut _ _ D.i2z e)
   ·rw [r] at e ⊢; exact b2.extBut _ _ D.l2i1 (b0.extBut _ _ D.l2z e)
  refine Ra (Ra (Rn ?_))
  refine Ra (m:=Builtin.SmallTypes.nextOf (.ref i2)) (S2.item _ k _ _ _ k2 s2 λy g4 py t2 b4=>Rb ?_)
  refine Rb (Rb ?_)
  refine Ra (Ip ?_ (by show 2<=sizeLine; rw [Rg]; decide))
  have sz:g4.objs.size=s.heap.objs.size:=by rw [b4.1,b2.1,b0.1]
  have z4:iA g4 z TI TO f0 fb:=b4.extBut _ _ D.i2z.symm (b2.extBut _ _ D.i1z.symm EJ)
  have Cr:∀ c o,c≠z->c≠i1->c≠i2->s.heap.get? c=some o->g4.get? c=some o:=λc o c1 c3 c4 e=>b4.extBut _ _ c4 (b2.extBut _ _ c3 (b0.extBut _ _ c1 e))
  have F4:mi (k+1) g4:=S1.keep _ _ _ t1 λc hc o e=>by
   rcases hc with r | r
   ·rw [r] at e ⊢; exact b4.extBut _ _ D.i12 e
   ·rw [r] at e ⊢; exact b4.extBut _ _ D.l1i2 e
  refine Rb ⟨_,rfl,?_⟩
  show Q (.ref g4.objs.size) _
  have T8:IsPair (g4.push { cls:=.type "tuple",data:=.seq #[x,y] }) g4.objs.size x y:=Qg _ rfl
  rw [sz] at T8 ⊢
  refine hQ _ x y _ _ (λq=>absurd q nf) px py hf (Qa _ z4) ⟨_,_,Qa _ (Cr _ _ D.TOz D.TOi1 D.TOi2 i_)⟩ (S1.keep _ _ _ F4 λc hc o e=>Qa _ e) (S2.keep _ _ _ t2 λc hc o e=>Qa _ e) T8 (by rw [Jj,sz]) λc o c1 c2 c3 c4 e=>Qa _ (Cr c o c1 c3 c4 e)
theorem QZ {k:Nat} {a b:Value} {Q:Fin->Shared->Prop} (hh:A.handled=none) (D:ZipApart z TI TO i1 i2 l1 l2) (S1:Sub prog w i1 l1 n1 P1 mi) (S2:Sub prog w i2 l2 n2 P2 fh) (hz:iA s.heap z TI TO f0 f1) (hf:F0 f0) (i9:IsPair s.heap TI (.ref i1) (.ref i2)) (i_:IsPair s.heap TO a b) (h1:mi k s.heap) (h2:fh k s.heap) (lu:k=n1/\k<=n2∨k=n2/\k < n1) (hE:∀ h' e,(∀ c o,c≠z->c≠TO->c≠i1->c≠i2->s.heap.get? c=some o->h'.get? c=some o)->(∃ o,h'.get? e=some o/\o.cls=.type "StopIteration")->E (.ref e) { s with heap:=h' }) :
  wpAny (model prog w) A (Builtin.«zip.__next__» ⟨[.ref z],[]⟩) Q E s:=by
 refine Ra (m:=field (.ref z) 2) (Rm hz rfl (x:=.bool false) rfl ?_)
 refine Ra (m:=field (.ref z) 3) (Rm hz rfl (x:=.ref TI) rfl ?_)
 refine Ra (Tn i9 rfl ?_)
 refine Ra (m:=Builtin.SmallTypes.ownedTupleIsFree (.ref z)) (Pp hz hf ?_ λh0 fb nf EJ b0=>?_)
 ·simp only [if_true]
  refine Ra (Uc ?_)
  refine Ra (Rm hz rfl (x:=.ref TO) rfl ?_)
  refine Ra (Rl hz (by simp) λg1 Gv b1=>?_)
  have xg:iA g1 z TI TO .ellipsis f1:=Gv
  refine Ra ?_
  simp only [List.zipIdx_cons,List.zipIdx_nil,Zl,Zh]
  have s1:mi k g1:=S1.keep _ _ _ h1 λc hc o e=>b1.extBut c o (by rcases hc with r | r <;> rw [r]; exact D.i1z; exact D.l1z) e
  refine Ra (Ra (Iz ?_))
  have fin:∀ (g:Heap) (e:Addr) (g0:Heap),(∃ o,g.get? e=some o/\o.cls=.type "StopIteration")->iA g z TI TO .ellipsis f1->(∀ c o,c≠z->c≠TO->c≠i1->c≠i2->s.heap.get? c=some o->g.get? c=some o) ->
    wpAny (model prog w) A (setField (.ref z) 0 .none) (λ_ s'=>E (.ref e) s') E { s with heap:=g }:=λg e g0 ⟨oe,vm,yo⟩ pk kp=>by
   have VV:e≠z:=λq=>by rw [q,pk] at vm; cases vm; simp at yo
   exact Rl pk (by simp) λg' _ b'=>hE g' e (λc o c1 c2 c3 c4 q=>b'.extBut _ _ c1 (kp c o c1 c2 c3 c4 q)) ⟨oe,b'.extBut _ _ VV vm,yo⟩
  rcases lu with ⟨e1,_⟩ | ⟨e2,k1⟩
  ·rw [e1] at s1
   refine Ra (m:=Builtin.SmallTypes.nextOf (.ref i1)) (S1.done _ _ _ _ hh s1 λg2 e b2 he=>?_)
   exact fin g2 e g1 he (b2 _ _ D.i1z.symm xg) λc o c1 _ c3 _ q=>b2 _ _ c3 (b1.extBut _ _ c1 q)
  ·refine Ra (m:=Builtin.SmallTypes.nextOf (.ref i1)) (S1.item _ k _ _ _ k1 s1 λx g2 px t1 b2=>Rb ?_)
   have o2:IsPair g2 TO a b:=b2.extBut _ _ D.TOi1 (b1.extBut _ _ D.TOz i_)
   refine Ra (Tn o2 rfl ?_)
   refine Ra (Io o2 λg3 o3 b3=>?_)
   refine Ra (Uq (Rb ?_))
   have s2:fh n2 g3:=by
    rw [<- e2]
    exact S2.keep _ _ _ h2 λc hc o e=>by
     rcases hc with r | r
     ·rw [r] at e ⊢; exact b3.extBut _ _ D.TOi2.symm (b2.extBut _ _ D.i12.symm (b1.extBut _ _ D.i2z e))
     ·rw [r] at e ⊢; exact b3.extBut _ _ D.l2TO (b2.extBut _ _ D.l2i1 (b1.extBut _ _ D.l2z e))
   refine Ra (Ra (Iz ?_))
   refine Ra (m:=Builtin.SmallTypes.nextOf (.ref i2)) (S2.done _ _ _ _ hh s2 λg4 e b4 he=>?_)
   exact fin g4 e g3 he (b4 _ _ D.i2z.symm (b3.extBut _ _ D.TOz.symm (b2.extBut _ _ D.i1z.symm xg))) λc o c1 c2 c3 c4 q=>b4 _ _ c4 (b3.extBut _ _ c2 (b2.extBut _ _ c3 (b1.extBut _ _ c1 q)))
 ·simp only [Ji,if_false]
  have s1:mi k h0:=S1.keep _ _ _ h1 λc hc o e=>b0.extBut c o (by rcases hc with r | r <;> rw [r]; exact D.i1z; exact D.l1z) e
  rw [<- Array.forIn_toList]
  simp only [Zl,Zh]
  refine Ra (Ra (Ra (Rn ?_)))
  rcases lu with ⟨e1,_⟩ | ⟨e2,k1⟩
  ·rw [e1] at s1
   refine Ra (m:=Builtin.SmallTypes.nextOf (.ref i1)) (S1.done _ _ _ _ hh s1 λg2 e b2 he=>?_)
   exact hE g2 e (λc o c1 _ c3 _ q=>b2 _ _ c3 (b0.extBut _ _ c1 q)) he
  ·refine Ra (m:=Builtin.SmallTypes.nextOf (.ref i1)) (S1.item _ k _ _ _ k1 s1 λx g2 px t1 b2=>Rb ?_)
   refine Rb ?_
   have s2:fh n2 g2:=by
    rw [<- e2]
    exact S2.keep _ _ _ h2 λc hc o e=>by
     rcases hc with r | r
     ·rw [r] at e ⊢; exact b2.extBut _ _ D.i12.symm (b0.extBut _ _ D.i2z e)
     ·rw [r] at e ⊢; exact b2.extBut _ _ D.l2i1 (b0.extBut _ _ D.l2z e)
   refine Ra (Ra (Rn ?_))
   refine Ra (m:=Builtin.SmallTypes.nextOf (.ref i2)) (S2.done _ _ _ _ hh s2 λg4 e b4 he=>?_)
   exact hE g4 e (λc o c1 c2 c3 c4 q=>b4 _ _ c4 (b2.extBut _ _ c3 (b0.extBut _ _ c1 q))) he
end
inductive Sk where
 | l | t
end L2
variable {k1 k2:Sk}
namespace L2
open PySem PySem.Spec PyProof.Rows
def fi (k:Sk) (K:Rc) (H:Hp) (a:Addr) (xs:List V):Prop:=match k with | .l=>ak K H a xs | .t=>aj K H a xs
def qe (k:Sk) (h:Heap) (a:Addr) (ae:Array Value):Prop:=match k with | .l=>h.IsList a ae | .t=>h.IsTuple a ae
def jb (k:Sk) (h:Heap) (i a:Addr) (n:Nat):Prop:=match k with | .l=>h.IsListIter i a n | .t=>h.IsTupleIter i a n
def pj (k:Sk) (a:Addr):Obj:=match k with | .l=>{ cls:=.type "list_iterator",data:=.fields #[.ref a,.int 0 0] } | .t=>{ cls:=.type "tuple_iterator",data:=.fields #[.ref a,.int 0 0] }
theorem jb.new (k:Sk) (h:Heap) (a:Addr):jb k (h.push (pj k a)) h.objs.size a 0:=by
 cases k
 ·exact ⟨_,Qg _ rfl,rfl,rfl⟩
 ·exact ⟨_,Qg _ rfl,rfl,rfl⟩
theorem jb.obj {k:Sk} {i:Addr} (x:jb k h i a n):∃ o,h.get? i=some o/\∀ v,o.data≠.cell v:=by
 cases k
 ·obtain ⟨o,e,_,d⟩:=x; exact ⟨o,e,λv z=>by rw [d] at z; cases z⟩
 ·obtain ⟨o,e,_,d⟩:=x; exact ⟨o,e,λv z=>by rw [d] at z; cases z⟩
theorem jb.at {k:Sk} {i:Addr} (x:jb k h i a n) (kp:∀ o,h.get? i=some o->h'.get? i=some o):jb k h' i a n:=by
 cases k
 ·exact Heap.IsListIter.at x kp
 ·exact Heap.IsTupleIter.at x kp
theorem qe.at {k:Sk} {ae:Array Value} (x:qe k h a ae) (kp:∀ o,h.get? a=some o->h'.get? a=some o):qe k h' a ae:=by
 cases k
 ·exact Heap.IsList.at x kp
 ·obtain ⟨o,e,r⟩:=x; exact ⟨o,kp o e,r⟩
theorem uT (k:Sk) (prog:Program) (w:World) (i l:Addr) (items:Array Value) (cb:l≠i):Sub prog w i l items.size (λj v=>items[j]?=some v) (λj h=>jb k h i l j/\qe k h l items):=by
 cases k
 ·exact aEj prog w i l items cb
 ·exact aCZ prog w i l items cb
theorem zK {k:Sk} {ae:Array Value} (h:qe k s.heap a ae) (hQ:Q (.ref s.heap.objs.size) { s with heap:=s.heap.push (pj k a) }):wpAny (model prog w) A (pyIter (.ref a)) Q E s:=by
 cases k
 ·exact Ul h hQ
 ·exact Md h hQ
section
variable {σ:St}
theorem Inv.gj (I:Inv X aa σ H s) {k:Sk} (h:fi k X.K H a xs):∃ ae:List Value,bR xs ae/\qe k s.heap a ae.toArray:=by
 cases k
 ·obtain ⟨ae,r,p,_⟩:=I.list h; exact ⟨ae,r,p.isList⟩
 ·obtain ⟨ae,r,p,_⟩:=I.tuple h; exact ⟨ae,r,p⟩
theorem Inv.fm (I:Inv X aa σ H s) {k:Sk} (h:fi k X.K H a xs) (h':fi k X.K H a ys):xs=ys:=by
 cases k
 ·exact I.me h h'
 ·exact I.j7 h h'
theorem Inv.dg (I:Inv X aa σ H s) {k:Sk} (h:fi k X.K H a xs) (f:rJ X aa H b):a≠b:=by
 have rd:∀ {u:HO},Rd H a u->a≠b:=λ{u} r z=>by
  rcases r with r | ⟨o,r⟩ <;> (rw [z,f.1] at r; cases r)
 have kk:∀ {o:Obj},X.K.lookup a=some o->a≠b:=λ{o} e z=>by
  have e1:=I.ok.mod.Bt a o e
  rcases f.2.2.2.1 with q | q
  ·exact I.ok.ke a o e1 (z ▸ q)
  ·exact Jo _ (Qr (Qo (I.ok.bs a o e1).1) (z ▸ q))
 cases k
 ·rcases h with h | ⟨o,_,_,e,_⟩
  ·exact rd h
  ·exact kk e
 ·rcases h with h | ⟨o,_,_,e,_⟩
  ·exact rd h
  ·exact kk e
theorem Inv.ft (ch:List Addr) (I:Inv X aa σ H s) (k:∀ b o,b∉ch->s.heap.get? b=some o->h'.get? b=some o) (f:∀ b∈ch,rJ X aa H b):Inv X aa σ H { s with heap:=h',toks:=t' }:=by
 have Cm:∀ b u,H b=some u->b∉ch:=λb u e z=>by rw [(f b z).1] at e; cases e
 have nL:X.env.locals∉ch:=λz=>(f _ z).2.1 rfl
 refine I.step (g':=s.gens) (d':=s.drawn) (ch:=ch) (λb hb=>⟨(f b hb).2.2.2.1,(f b hb).2.1,(f b hb).2.2.2.2.1,(f b hb).2.2.2.2.2⟩) (λb o _ _ hc e _=>k b o hc e) (λb o _ _ hc e _=>⟨o.slots,k b o hc e⟩) (λ_ _ _ _ n=>n)
  (λb o hc e=>⟨o,k b o hc e⟩) (λ_ _ e=>e) (λ_ _ _ e=>e) (λb ps e=>⟨#[],by rw [e]; simp⟩) (λm hm=>?_) (λb u e=>?_) I.bare
 ·obtain ⟨o,es,ep,ho,r⟩:=hm
  exact ⟨o,es,ep,k _ o nL ho,r⟩
 ·refine (I.aq b u e).cu (λc v hc q=>k c v ?_ q) (λ_ q=>q) λ_ _ q=>q
  rcases hc with z | z
  ·rw [z]; exact Cm b u e
  ·exact Cm c _ z
theorem Inv.kj {D:Addr} {u:HO} (I:Inv X aa σ H s) (new:bM X.prog X.w (upd H D u) s.heap D u) (hn:H D=none) (hL:D≠X.env.locals)
  (h1:X.gb.heap.objs.size<=D) (h2:∀ x c,X.env.cells.lookup x=some c->c≠D) (h3:∀ p∈X.pn++aa,p.1≠D):Inv X aa σ (upd H D u) s:=by
 have ne:∀ b v,H b=some v->b≠D:=λb v e z=>by rw [z,hn] at e; cases e
 refine I.step (g':=s.gens) (d':=s.drawn) (t':=s.toks) (h':=s.heap) (ch:=[D]) (λb hb=>?_) (λb o _ _ _ e _=>e) (λb o _ _ _ e _=>⟨o.slots,e⟩) (λb o hc _ n=>?_) (λb o _ e=>⟨o,e⟩)
  (λb xs e=>by rw [aK (ne b _ e)]; exact e) (λb o v e=>by rw [aK (ne b _ e)]; exact e) (λb ps e=>⟨#[],by rw [aK (ne b _ e),e]; simp⟩) (λ_ h=>h) (λb v e=>?_) I.bare
 ·have e:b=D:=by simpa using hb
  subst e
  exact ⟨.inr h1,hL,h2,h3⟩
 ·rw [aK (by simpa using hc)]; exact n
 ·by_cases hb:b=D
  ·subst hb
   rw [aB] at e; cases e
   exact new
  ·rw [aK hb] at e
   exact (I.aq b v e).cu (λc v _ q=>q) (λc q=>by rw [aK (ne c _ q)]; exact q) λc xs q=>by rw [aK (ne c _ q)]; exact q
end
def wz (K:Rc) (k1 k2:Sk) (a b:Addr):It :=
 ⟨λi H => ∃ xs ys x y, fi k1 K H a xs /\ fi k2 K H b ys /\ xs[i]? = some x /\ ys[i]? = some y,
  λi H v H'=>∃ p,H p=none/\v=.ref p/\∀ xs ys,fi k1 K H a xs->fi k2 K H b ys->∃ x y,xs[i]?=some x/\ys[i]?=some y/\H'=upd H p (.tup [x,y]),
  λi H=>∃ xs ys,fi k1 K H a xs/\fi k2 K H b ys/\min xs.length ys.length=i⟩
theorem aEl {x1} (k1 k2:Sk) (a b z TI TO i1 i2:Addr) (D:∀ l1 l2:Addr,(∀ c∈[z,TI,TO,i1,i2],l1≠c)->(∀ c∈[z,TI,TO,i1,i2],l2≠c)->ZipApart z TI TO i1 i2 l1 l2) :
  Turn P w K (.Tuple es x1 pos) (wz K k1 k2 a b) [z,TI,TO,i1,i2] z (λi h=>IsZip h z TI TO .none/\IsPair h TI (.ref i1) (.ref i2)/\(∃ x y,IsPair h TO x y)/\jb k1 h i1 a i/\jb k2 h i2 b i) where
 mem:=by simp
 obj:=λi h st c hc=>by
  obtain ⟨hz,i9,⟨x,y,i_⟩,h1,h2⟩:=st
  simp only [Qj,Qp,or_false] at hc
  rcases hc with rfl | rfl | rfl | rfl | rfl
  ·exact ⟨_,hz,λv q=>by cases q⟩
  ·exact ⟨_,i9,λv q=>by cases q⟩
  ·exact ⟨_,i_,λv q=>by cases q⟩
  ·exact h1.obj
  ·exact h2.obj
 keep:=λi h h' st k=>by
  obtain ⟨hz,i9,⟨x,y,i_⟩,h1,h2⟩:=st
  exact ⟨k z (by simp) _ hz,k TI (by simp) _ i9,⟨x,y,k TO (by simp) _ i_⟩,h1.at λo e=>k i1 (by simp) o e,h2.at λo e=>k i2 (by simp) o e⟩
 item:=by
  intro X hP hw hK hc i aa s σ H E I hf st hg
  subst hP hw hK
  obtain ⟨hz,i9,⟨x0,y0,i_⟩,h1,h2⟩:=st
  obtain ⟨xs,ys,x,y,ha,hb,hx,hy⟩:=hg
  obtain ⟨ae,rv,pa⟩:=I.gj ha
  obtain ⟨mx,gc,pb⟩:=I.gj hb
  obtain ⟨u,hu,ru⟩:=rv.get hx
  obtain ⟨v,hv,Ga⟩:=gc.get hy
  have na:∀ c∈[z,TI,TO,i1,i2],a≠c:=λc bq=>I.dg ha (hf c bq)
  have nb:∀ c∈[z,TI,TO,i1,i2],b≠c:=λc bq=>I.dg hb (hf c bq)
  have DD:=D a b na nb
  have hT:s.TypeIs (.ref z) "zip" := ⟨_,hz,rfl⟩
  have ot:i < ae.toArray.size:=by rw [Qm]; exact (Qd.mp hu).1
  have ym:i < mx.toArray.size:=by rw [Qm]; exact (Qd.mp hv).1
  unfold pyNext
  refine Ra (Tj (Rh (name:=Str.ofString "__next__") hT Rz (Rj Rz hT Ux
   (zJ DD (uT k1 X.prog X.w i1 a ae.toArray (na i1 (by simp))) (uT k2 X.prog X.w i2 b mx.toArray (nb i2 (by simp))) hz (.inl rfl) i9 i_ ⟨h1,pa⟩ ⟨h2,pb⟩ ot ym λh' u' v' f0 f1 nf pu pv _ Cu ki s1 s2 BL _ kp=>Rb ?_) (Ut _))))
  obtain ⟨rfl,rfl⟩:=nf rfl
  obtain ⟨_,_,ki⟩:=ki
  have eu:u'=u:=by
   have q:ae[i]?=some u':=by simpa using pu
   rw [hu] at q
   exact (Option.some.inj q).symm
  have ev:v'=v:=by
   have q:mx[i]?=some v':=by simpa using pv
   rw [hv] at q
   exact (Option.some.inj q).symm
  subst eu ev
  refine ⟨_,rfl,wpAny_letOwnedTupleGo_zip Cu λh2 uw jj=>?_⟩
  have Tz:s.heap.objs.size≠z:=Xh (Qo hz)
  have Hu:IsPair h2 s.heap.objs.size u' v':=jj.extBut _ _ Tz BL
  have mq:=I.aq.fresh (Qe s.heap.objs.size)
  have fz:=I.i6 (Qe s.heap.objs.size) mq
  have I2:Inv X aa σ H { s with heap:=h2 }:=by
   refine I.ft (t':=s.toks) [z,TO,i1,i2] (λc o bq e=>?_) (λc bq=>hf c ?_)
   ·simp only [Qj,Qp,or_false,not_or] at bq
    exact jj.extBut _ _ bq.1 (kp c o bq.1 bq.2.1 bq.2.2.1 bq.2.2.2 e)
   ·simp only [Qj,Qp,or_false] at bq ⊢
    rcases bq with r | r | r | r
    ·exact .inl r
    ·exact .inr (.inr (.inl r))
    ·exact .inr (.inr (.inr (.inl r)))
    ·exact .inr (.inr (.inr (.inr r)))
  have I3:Inv X aa σ (upd H s.heap.objs.size (.tup [x,y])) { s with heap:=h2 }:=by
   refine I2.kj (show bM X.prog X.w _ _ _ (.tup [x,y]) from ⟨by show 2<=sizeLine; rw [Rg]; decide,[u',v'],0,.cons ru (.cons Ga .nil),Hu⟩) mq fz.2.1 I.sz fz.2.2.2.2.1 fz.2.2.2.2.2
  refine ⟨.ref s.heap.objs.size,_,I3,rfl,⟨s.heap.objs.size,mq,rfl,λK7 zq CT e_=>?_⟩,⟨uw,jj.extBut _ _ DD.TIz (kp _ _ DD.TIz DD.TITO DD.TIi1 DD.TIi2 i9),⟨_,_,jj.extBut _ _ DD.TOz ki⟩,s1.1.at λo e=>jj.extBut _ _ DD.i1z e,s2.1.at λo e=>jj.extBut _ _ DD.i2z e⟩,λc bq=>?_⟩
  ·rw [I.fm CT ha,I.fm e_ hb]
   exact ⟨x,y,hx,hy,rfl⟩
  ·have cl:c≠s.heap.objs.size:=by
    obtain ⟨o,e⟩:∃ o,s.heap.get? c=some o:=by
     simp only [Qj,Qp,or_false] at bq
     rcases bq with rfl | rfl | rfl | rfl | rfl
     ·exact ⟨_,hz⟩
     ·exact ⟨_,i9⟩
     ·exact ⟨_,i_⟩
     ·obtain ⟨o,e,_⟩:=h1.obj; exact ⟨o,e⟩
     ·obtain ⟨o,e,_⟩:=h2.obj; exact ⟨o,e⟩
    exact Qt (Qo e)
   rw [aK cl]
   exact (hf c bq).1
 done:=by
  intro X hP hw hK hc i aa s σ H E I hf st hg
  subst hP hw hK
  obtain ⟨hz,i9,⟨x0,y0,i_⟩,h1,h2⟩:=st
  obtain ⟨xs,ys,ha,hb,tw⟩:=hg
  obtain ⟨ae,rv,pa⟩:=I.gj ha
  obtain ⟨mx,gc,pb⟩:=I.gj hb
  have la:=rv.length
  have lb:=gc.length
  have na:∀ c∈[z,TI,TO,i1,i2],a≠c:=λc bq=>I.dg ha (hf c bq)
  have nb:∀ c∈[z,TI,TO,i1,i2],b≠c:=λc bq=>I.dg hb (hf c bq)
  have DD:=D a b na nb
  have hT:s.TypeIs (.ref z) "zip" := ⟨_,hz,rfl⟩
  unfold pyNext
  refine Ra (Tj (Rh (name:=Str.ofString "__next__") hT Rz (Rj Rz hT Ux
   (QZ (I.ok.hd hc) DD (uT k1 X.prog X.w i1 a ae.toArray (na i1 (by simp))) (uT k2 X.prog X.w i2 b mx.toArray (nb i2 (by simp))) hz (.inl rfl) i9 i_ ⟨h1,pa⟩ ⟨h2,pb⟩ (by rw [Qm,Qm]; omega) λh' e kp he=>?_) (Ut _))))
  obtain ⟨oe,vm,yo⟩:=he
  refine Ra (Ue (T := "StopIteration") (b:=true) ⟨oe,vm,yo⟩ Vi (Rb ⟨rfl,?_⟩))
  refine I.ft (t':=s.toks) [z,TO,i1,i2] (λc o bq e=>?_) (λc bq=>hf c ?_)
  ·simp only [Qj,Qp,or_false,not_or] at bq
   exact kp c o bq.1 bq.2.1 bq.2.2.1 bq.2.2.2 e
  ·simp only [Qj,Qp,or_false] at bq ⊢
   rcases bq with r | r | r | r
   ·exact .inl r
   ·exact .inr (.inr (.inl r))
   ·exact .inr (.inr (.inr (.inl r)))
   ·exact .inr (.inr (.inr (.inr r)))
 self:=λ_ _ _ _ _ st h=>Vm st.1 h
abbrev uj (k1:Sk) (h:Heap) (a:Addr):Heap:=h.push (pj k1 a)
abbrev x_ (k1 k2:Sk) (h:Heap) (a b:Addr):Heap:=(uj k1 h a).push (pj k2 b)
abbrev x9 (k1 k2:Sk) (h:Heap) (a b:Addr):Heap:=(x_ k1 k2 h a b).push { cls:=.type "tuple",data:=.seq #[.ref h.objs.size,.ref (uj k1 h a).objs.size] }
abbrev Bg (k1 k2:Sk) (h:Heap) (a b:Addr):Heap:=(x9 k1 k2 h a b).push { cls:=.type "tuple",data:=.seq #[.none,.none] }
abbrev mh (k1 k2:Sk) (h:Heap) (a b:Addr):Heap:=(Bg k1 k2 h a b).push { cls:=.type "zip",data:=.fields #[.none,.bool false,.bool false,.ref (x_ k1 k2 h a b).objs.size,.ref (x9 k1 k2 h a b).objs.size] }
theorem zL (k1 k2:Sk) (a b:Addr) (xs ys:Array Value) :
  Meets (Builtin.«zip.__new__» ⟨[.type "zip",.ref a,.ref b],[]⟩) (λ_ R s=>qe k1 s.heap a xs/\qe k2 s.heap b ys/\R (.ok (.ret (.ref (Bg k1 k2 s.heap a b).objs.size))) { s with heap:=mh k1 k2 s.heap a b }) :=
 .of_wp λprog w A R s h=>by
  obtain ⟨hp,g,d,tk,os⟩:=s
  obtain ⟨vp,oq,h⟩:=h
  have lj:=sub_zip
  have hA:qe k1 (Shared.heap ⟨hp,g,d,tk,os⟩) a xs:=vp
  have hB:qe k2 (Shared.heap ⟨hp.push (pj k1 a),g,d,tk,os⟩) b ys:=qe.at oq λo e=>Qa _ e
  wp_walk using zK hA,zK hB
  exact ⟨_,rfl,h⟩
def OF (K:Rc) (k1 k2:Sk) (ta:TA):TI:=λσ H R=>ta σ H λvs H1=>∃ a b xs ys,vs = [.ref a,.ref b]/\fi k1 K H1 a xs/\fi k2 K H1 b ys/\R (wz K k1 k2 a b) H1
theorem sS (k1 k2:Sk) {a b:Expr} {ta:TA} (hg:Gl X "zip") (hm:X.mg "zip" = none) (ha:PA X [a,b] ta) (hs:starEach [a,b] X.env = [(false,eval a X.env),(false,eval b X.env)]:=by rfl) (qq:starEach [b] X.env = [(false,eval b X.env)]:=by rfl) :
  PI X (.Tuple es x1 xc) (.Call (.Name "zip" p) [a,b] [] pos) (OF X.K k1 k2 ta):=by
 intro aa s σ H R I h
 refine Call_ (jI (u:=.type "zip") I hg hm (by decide +kernel) (PyProof.Rows.callWith_type1 (bf (ha pos aa s σ H _ I h) λus s1 au=>?_) (by rw [hs,qq]) (by rw [qq]; rfl)))
 obtain ⟨vs,H1,I1,r1,q1⟩:=au
 obtain ⟨l1,l2,xs,ys,rfl,hA,hB,q⟩:=q1
 obtain ⟨u1,u2,rfl,Cg,Gb⟩:=nR r1
 cases Cg
 cases Gb
 obtain ⟨ae,rv,pa⟩:=I1.gj hA
 obtain ⟨mx,gc,pb⟩:=I1.gj hB
 refine Ig Rai (by decide) (Mv _ _) (My _ _) (λobj=>Mg obj _ _) Mz (zL k1 k2 l1 l2 ae.toArray mx.toArray) ⟨pa,pb,?_⟩
 have n1:(uj k1 s1.heap l1).objs.size=s1.heap.objs.size+1:=Jj ..
 have n2:(x_ k1 k2 s1.heap l1 l2).objs.size=s1.heap.objs.size+2:=by rw [Jj,n1]
 have n3:(x9 k1 k2 s1.heap l1 l2).objs.size=s1.heap.objs.size+3:=by rw [Jj,n2]
 have n4:(Bg k1 k2 s1.heap l1 l2).objs.size=s1.heap.objs.size+4:=by rw [Jj,n3]
 have g5:IsZip (mh k1 k2 s1.heap l1 l2) (Bg k1 k2 s1.heap l1 l2).objs.size (x_ k1 k2 s1.heap l1 l2).objs.size (x9 k1 k2 s1.heap l1 l2).objs.size .none:=Qg _ rfl
 have g4:IsPair (mh k1 k2 s1.heap l1 l2) (x9 k1 k2 s1.heap l1 l2).objs.size .none .none:=Qa _ (Qg _ rfl)
 have g3:IsPair (mh k1 k2 s1.heap l1 l2) (x_ k1 k2 s1.heap l1 l2).objs.size (.ref s1.heap.objs.size) (.ref (uj k1 s1.heap l1).objs.size):=Qa _ (Qa _ (Qg _ rfl))
 have g2:jb k2 (mh k1 k2 s1.heap l1 l2) (uj k1 s1.heap l1).objs.size l2 0:=(jb.new k2 (uj k1 s1.heap l1) l2).at λo e=>Qa _ (Qa _ (Qa _ e))
 have g1:jb k1 (mh k1 k2 s1.heap l1 l2) s1.heap.objs.size l1 0:=(jb.new k1 s1.heap l1).at λo e=>Qa _ (Qa _ (Qa _ (Qa _ e)))
 have kp:∀ c o,s1.heap.get? c=some o->(mh k1 k2 s1.heap l1 l2).get? c=some o:=λc o e=>Qa _ (Qa _ (Qa _ (Qa _ (Qa _ e))))
 refine ⟨⟨_,g5,rfl⟩,Vm (f0:=.none) g5 ?_⟩
 rw [n1,n2,n3,n4] at *
 have I2:Inv X aa σ H1 { s1 with heap:=mh k1 k2 s1.heap l1 l2 }:=I1.kept (t':=s1.toks) kp
 refine ⟨s1.heap.objs.size+4,[s1.heap.objs.size+4,s1.heap.objs.size+2,s1.heap.objs.size+3,s1.heap.objs.size,s1.heap.objs.size+1],_,_,H1,rfl,I2,aEl k1 k2 l1 l2 _ _ _ _ _ ?_,⟨g5,g3,⟨_,_,g4⟩,g1,g2⟩,λc hc=>?_,q⟩
 ·intro m1 m2 h1 h2
  have d:∀ i j:Nat,i≠j->s1.heap.objs.size+i≠s1.heap.objs.size+j:=λi j h=>by omega
  exact ⟨d 2 4 (by decide),d 3 4 (by decide),d 0 4 (by decide),d 1 4 (by decide),d 2 3 (by decide),d 2 0 (by decide),d 2 1 (by decide),d 3 0 (by decide),d 3 1 (by decide),d 0 1 (by decide),
   h1 _ (by simp),h1 _ (by simp),h1 _ (by simp),h1 _ (by simp),h2 _ (by simp),h2 _ (by simp),h2 _ (by simp),h2 _ (by simp)⟩
 ·have bq:s1.heap.objs.size<=c:=by
   simp only [Qj,Qp,or_false] at hc
   rcases hc with r | r | r | r | r
   ·rw [r]; exact Xn _ _
   ·rw [r]; exact Xn _ _
   ·rw [r]; exact Xn _ _
   ·rw [r]; exact Qe _
   ·rw [r]; exact Xn _ _
  exact I1.i6 bq (I1.aq.fresh bq)
open PySem.AutoSeq1 (wpAny_loadPart')
theorem nU (l b:Addr) (items Bb:Array Value) (n n2:Nat) (dd yu:Option Addr) (sl yc:Array (Option Value)) (uz:items.isEmpty=true) :
  Meets (Builtin.«tuple.__add__» ⟨[.ref l,.ref b],[]⟩) (λ_ R s=>s.heap.get? l=some { cls:=.type "tuple",dict:=dd,data:=.seq items n,slots:=sl }/\s.heap.get? b=some { cls:=.type "tuple",dict:=yu,data:=.seq Bb n2,slots:=yc }/\R (.ok (.ret (Value.ref b))) s) :=
 .of_wp λprog w A R s h=>by
  obtain ⟨hp,g,d,tk,os⟩:=s
  obtain ⟨hl,hb,h⟩:=h
  have f1:=AutoSeq1.idx_int
  have f2:=AutoSeq1.sub_tuple_tuple
  wp_walk using Rq hl,Rq hb
  exact ⟨_,rfl,h⟩
theorem aFW:dr X (binaryOp .Add) (λx y H Q=>∃ a b xs ys,x=.ref a/\y=.ref b/\aj X.K H a xs/\aj X.K H b ys/\xs.length+ys.length<=sizeLine/\∀ p H',aE H H'->aj X.K H' p (xs++ys)->Q (.ref p) H'):=by
 intro aa s σ H x y v u Q I rx ry h
 obtain ⟨a,b,xs,ys,rfl,rfl,ha,hb,hz,q⟩:=h
 by_cases hx:xs = []
 ·subst hx
  cases rx
  cases ry
  obtain ⟨ae,r1,⟨⟨cls,dd,data,sl⟩,ho,hc,n,hd⟩,_⟩:=I.tuple ha
  obtain ⟨tj,r2,⟨⟨D4,yu,data2,yc⟩,mz,se,n2,hd2⟩,_⟩:=I.tuple hb
  simp only at hc hd se hd2
  subst hc hd se hd2
  cases r1
  exact Mi ⟨_,ho,rfl⟩ ⟨_,mz,rfl⟩ Ib Iw Uw Us (Up _ _)
   (nU a b _ _ n n2 dd yu sl yc rfl) ⟨ho,mz,⟨.ref b,H,I,rfl,q b H (aE.refl H) hb⟩⟩
 ·refine Q3 aa s σ H _ _ v u Q I rx ry ⟨a,b,xs,ys,rfl,rfl,ha,hb,hx,hz,λe=>?_,λe p hp=>?_⟩
  ·subst e
   exact q a H (aE.refl H) (by rw [Xx]; exact ha)
  ·exact q p _ (aE.new hp) (aj.of aB)
theorem nO {t:Addr} (ht:IsTup s.heap t items) (hs:s.heap.IsSliceOf sl vl vu .none) (pl:IsPart vl lo) (pu:IsPart vu hi) (hw:HT.cg items.size 0 lo=0/\HT.cg items.size items.size hi=items.size) (h:Q (.ref t) s):wpAny (model prog w) A (getItem (.ref t) (.ref sl)) Q E s:=by
 obtain ⟨os,pz,uy,fq⟩:=id hs
 have CY:s.TypeIs (.ref sl) "slice" := ⟨os,pz,uy⟩
 unfold getItem
 try with_reducible refine Rn ?_
 first | refine Ra (Rb ?_) | skip
 refine Ra (Mj ht.typeIs (by decide) ?_)
 refine Ra (Rh (name:=Str.ofString "__getitem__") ht.typeIs PyProof.Rows.slot_tuple_getitem
  (Rj PyProof.Rows.slot_tuple_getitem ht.typeIs Ir ?_ (Mf _ _)))
 refine Ra (m:=Builtin.Tuple.tupleItemsOf (.ref t)) (Raj ht ?_)
 refine Ra (Vf CY ?_)
 rw [if_pos (by decide)]
 refine Ra (HT.dz hs pl pu ?_)
 have Kg:(((HT.cg items.size 0 lo:Nat):Int)==0 && (1:Int)==1 && (HT.cg items.size items.size hi - HT.cg items.size 0 lo)==items.size)=true:=by
  rw [hw.1,hw.2]; simp
 show wpAny _ _ (if (((HT.cg items.size 0 lo:Nat):Int)==0 && (1:Int)==1 && (HT.cg items.size items.size hi - HT.cg items.size 0 lo)==items.size)=true then _ else _) _ _ s
 rw [if_pos Kg]
 unfold Builtin.Tuple.tupleIsExact
 refine Ra (Ra (Vf ht.typeIs (Rb ?_)))
 refine Tx (λ_=>Ra (Uc (Rb ⟨_,rfl,Rb h⟩))) (λqb=>absurd (by rfl) qb)
theorem aFX:B2 X (λx lo hi H Q=>∃ a xs,x=.ref a/\aj X.K H a xs/\∀ p H',aE H H'->aj X.K H' p (kE xs lo hi)->Q (.ref p) H'):=by
 intro aa s σ H x v vl vu lo hi sl Q I rx hs pl pu h
 obtain ⟨a,xs,rfl,hx,q⟩:=h
 by_cases hw:HT.cg xs.length 0 lo=0/\HT.cg xs.length xs.length hi=xs.length
 ·cases rx
  obtain ⟨ae,r,ht,hz⟩:=I.tuple hx
  have hlen:ae.toArray.size=xs.length:=by rw [Qm]; exact r.length.symm
  refine ⟨"tuple",_,PyProof.Rows.slot_tuple_getitem.lookup,ht.typeIs,?_⟩
  refine nO ht hs pl pu (by rw [hlen]; exact hw) ⟨.ref a,H,I,rfl,q a H (aE.refl H) ?_⟩
  have e:kE xs lo hi=xs:=by
   unfold kE
   rw [hw.1,hw.2,Yn,Wx,Jq]
  rw [e]; exact hx
 ·exact n? aa s σ H _ v vl vu lo hi sl Q I rx hs pl pu ⟨a,xs,rfl,hx,hw,λp hp=>q p _ (aE.new hp) (aj.of aB)⟩
theorem rS (xs:List V) (k:Nat):kE xs none (some (k:Int))=xs.take k:=by
 unfold kE
 rw [HT.ma,HT.o_,Yn,Wx]
 by_cases h:k<=xs.length
 ·rw [Wb h]
 ·rw [Nat.min_eq_right (by omega),Jn (Qe _),Jn (by omega)]
theorem kQ (xs:List V) (k:Nat):kE xs (some (k:Int)) none=xs.drop k:=by
 unfold kE
 rw [HT.ma,HT.o_]
 by_cases h:k<=xs.length
 ·rw [Wb h,Jn (by rw [Jp]; exact Qe _)]
 ·rw [Nat.min_eq_right (by omega),Yy (Qe _),Yy (by omega),List.take_nil]
def rT (N bc:List Str) (fr:List Nat):Bool:=bc.length==fr.length && (bc.zip fr).all λy=>N[y.2]?==some y.1
theorem zM {sc:Scope} (h1:X.env.scope=sc) (h2:X.N=N) (cf:∀ z0,z=some z0->(∀ (n:Nat) (cl:List (Str×Addr)),cellsFrom n scope.names cl=(z0,n)::cl)/\∀ h:Heap,pushCells h scope.names=h.push { cls:=.type "cell",data:=.cell none }) (h:(kO sc scope z own bc && rT N bc fr)=true):br X scope z own fr bc:=by
 rw [Jc] at h
 obtain ⟨ha,hb⟩:=h
 unfold rT at hb
 simp only [Jc,beq_iff_eq,Jm] at hb
 refine ⟨by rw [h1]; exact ha,λk x hk=>?_,hb.1.symm,cf⟩
 have ax:k < fr.length:=by rw [<- hb.1]; exact (Qd.mp hk).1
 refine ⟨fr[k],Qb ax,?_⟩
 have hm:(x,fr[k])∈bc.zip fr:=by
  refine Qi (i:=k) ?_
  rw [Jh]
  exact ⟨hk,Qb ax⟩
 rw [h2]
 exact hb.2 _ hm
theorem bP (sc:Scope) (N:List Str) (h1:X.env.scope=sc) (h2:X.N=N) (h:(kO sc scope none own bc && rT N bc fr)=true):br X scope none own fr bc:=zM h1 h2 (λ_ q=>by cases q) h
section
variable {own:Nat} {σ:St} {Q:Hp->List V->Prop}
theorem xE {a0:α} {Ei:St} {Q:Hp->α->Prop} {tb:α->St->Hp->(α->St->Hp->Prop)->Prop} (n:Nat) (SH:St->Prop) (Pv:Nat->α->Hp->Prop) (gf:SH Ei) (h0:Pv 0 a0 H) (je:∀ a H,Pv n a H->J.stop n H) (Ao:∀ i a H,i < n->Pv i a H->J.go i H) (hs:∀ i a σ x H H',i < n->SH σ->Pv i a H->J.kz i H x H'->g x σ H' λar H2=>tt ar H2 λb H3=>if b=true then tb a ar H3 λa' ik H4=>SH ik/\Pv (i+1) a' H4 else SH ar/\Pv (i+1) a H3) (hd:∀ a H,Pv n a H->Q H a):ic J a0 Ei H (λa _ H=>Q H a) g tt tb:=by
 refine ⟨λi m ys ao H=>m=n - i/\i<=n/\SH ao/\Pv i ys H,⟨n,by simp,Jb _,gf,h0⟩,?_⟩
 rintro i m ys ao H ⟨rfl,hi,sh,p⟩
 by_cases ax:i < n
 ·refine .inr ⟨Ao i ys H ax p,λzq ar H2=>SH ar/\Pv (i+1) zq H2,λzq ar H2 ⟨e,q⟩=>⟨n - (i+1),by omega,rfl,ax,e,q⟩,λx H' y=>?_⟩
  exact hs i ys ao x H H' ax sh p y
 ·have e:i=n:=by omega
  subst e
  exact .inl ⟨je ys H p,hd ys H p⟩
theorem pB (n:Nat) (hn:n<=sizeLine) (SH:St->Prop) (Pv:Nat->List V->Hp->Prop) (gf:SH (dj own fr σ)) (h0:Pv 0 [] H) (hlen:∀ i ys H,Pv i ys H->ys.length<=i)
  (je:∀ ys H,Pv n ys H->J.stop n H) (Ao:∀ i ys H,i < n->Pv i ys H->J.go i H)
  (hs:∀ i ys σ x H H',i < n->SH σ->Pv i ys H->J.kz i H x H'->ys.length < sizeLine->g x σ H' λar H2=>tt ar H2 λb H3=>if b=true then te ar H3 λy H4=>ys.length < sizeLine/\SH ar/\Pv (i+1) (ys++[y]) H4 else SH ar/\Pv (i+1) ys H3)
  (hd:∀ ys H,Pv n ys H->Q H ys) :
  ic J [] (dj own fr σ) H (λys _ H=>Q H ys) g tt (mw te) :=
 xE n SH Pv gf h0 je Ao (λi ys σ x H H' hi sh p y=>hs i ys σ x H H' hi sh p y (by have:=hlen i ys H p; omega)) hd
theorem kR (SH:St->Prop) (Pv:Nat->List V->Hp->Prop) (hn:xs.length<=sizeLine) (gf:SH (dj own fr σ)) (h0:Pv 0 [] H) (hlen:∀ i ys H,Pv i ys H->ys.length<=i) (hl:∀ i ys H,Pv i ys H->aj K H a xs) (hs:∀ i ys σ x H,xs[i]?=some x->SH σ->Pv i ys H->ys.length < sizeLine->g x σ H λar H2=>tt ar H2 λb H3=>if b=true then te ar H3 λy H4=>ys.length < sizeLine/\SH ar/\Pv (i+1) (ys++[y]) H4 else SH ar/\Pv (i+1) ys H3) (hd:∀ ys H,Pv xs.length ys H->Q H ys) :
  ic (AG K a) [] (dj own fr σ) H (λys _ H=>Q H ys) g tt (mw te):=by
 refine pB xs.length hn SH Pv gf h0 hlen (λys H p=>⟨xs,hl _ _ _ p,Qe _⟩) (λi ys H hi p=>⟨xs,xs[i],hl _ _ _ p,Qb hi⟩) (λi ys σ x H H' hi sh p y hz=>?_) hd
 obtain ⟨e,y⟩:=y
 subst e
 exact hs i ys σ x _ (y xs (hl _ _ _ p)) sh p hz
theorem vV (SH:St->Prop) (Pv:Nat->List V->Hp->Prop) (hn:xs.length<=sizeLine) (gf:SH (dj own fr σ)) (h0:Pv 0 [] H) (hlen:∀ i ys H,Pv i ys H->ys.length<=i) (hl:∀ i ys H,Pv i ys H->ak K H a xs) (hs:∀ i ys σ x H,xs[i]?=some x->SH σ->Pv i ys H->ys.length < sizeLine->g x σ H λar H2=>tt ar H2 λb H3=>if b=true then te ar H3 λy H4=>ys.length < sizeLine/\SH ar/\Pv (i+1) (ys++[y]) H4 else SH ar/\Pv (i+1) ys H3) (hd:∀ ys H,Pv xs.length ys H->Q H ys) :
  ic (u7 K a) [] (dj own fr σ) H (λys _ H=>Q H ys) g tt (mw te):=by
 refine pB xs.length hn SH Pv gf h0 hlen (λys H p=>⟨xs,hl _ _ _ p,Qe _⟩) (λi ys H hi p=>⟨xs,xs[i],hl _ _ _ p,Qb hi⟩) (λi ys σ x H H' hi sh p y hz=>?_) hd
 obtain ⟨e,y⟩:=y
 subst e
 exact hs i ys σ x _ (y xs (hl _ _ _ p)) sh p hz
theorem jM {lo:Int} (SH:St->Prop) (Pv:Nat->List V->Hp->Prop) (hn:n<=sizeLine) (gf:SH (dj own fr σ)) (h0:Pv 0 [] H) (hlen:∀ i ys H,Pv i ys H->ys.length<=i) (hs:∀ i ys σ H,i < n->SH σ->Pv i ys H->ys.length < sizeLine->g (.int (lo+i)) σ H λar H2=>tt ar H2 λb H3=>if b=true then te ar H3 λy H4=>ys.length < sizeLine/\SH ar/\Pv (i+1) (ys++[y]) H4 else SH ar/\Pv (i+1) ys H3) (hd:∀ ys H,Pv n ys H->Q H ys) :
  ic (AH lo n) [] (dj own fr σ) H (λys _ H=>Q H ys) g tt (mw te):=by
 refine pB n hn SH Pv gf h0 hlen (λys H p=>Qe _) (λi ys H hi p=>hi) (λi ys σ x H H' hi sh p y hz=>?_) hd
 obtain ⟨e,y⟩:=y
 subst e y
 exact hs i ys σ _ hi sh p hz
theorem aEm (SH:St->Prop) (Pv:Nat->List V->Hp->Prop) (hn:xs.length<=sizeLine) (heq:xs.length=ys.length) (gf:SH (dj own fr σ)) (h0:Pv 0 [] H) (hlen:∀ i zs H,Pv i zs H->zs.length<=i) (hl:∀ i zs H,Pv i zs H->fi k1 K H a xs/\fi k2 K H b ys) (hs:∀ i zs σ x y p H,xs[i]?=some x->ys[i]?=some y->SH σ->Pv i zs H->H p=none->zs.length < sizeLine->g (.ref p) σ (upd H p (.tup [x,y])) λar H2=>tt ar H2 λc H3=>if c=true then te ar H3 λy H4=>zs.length < sizeLine/\SH ar/\Pv (i+1) (zs++[y]) H4 else SH ar/\Pv (i+1) zs H3) (hd:∀ zs H,Pv xs.length zs H->Q H zs) :
  ic (wz K k1 k2 a b) [] (dj own fr σ) H (λys _ H=>Q H ys) g tt (mw te):=by
 refine pB xs.length hn SH Pv gf h0 hlen (λzs H p=>⟨xs,ys,(hl _ _ _ p).1,(hl _ _ _ p).2,by rw [<- heq,Wy]⟩) (λi zs H hi p=>⟨xs,ys,xs[i],ys[i]'(by omega),(hl _ _ _ p).1,(hl _ _ _ p).2,Qb hi,Qb (by omega)⟩) (λi zs σ v H H' hi sh p y hz=>?_) hd
 obtain ⟨q,hq,rfl,hy⟩:=y
 obtain ⟨x,y,h1,h2,rfl⟩:=hy xs ys (hl _ _ _ p).1 (hl _ _ _ p).2
 exact hs i zs σ x y q H h1 h2 sh p hq hz
end
def Z3 (i j:Int):Prop:=0 < j/\j < 1267650600228229401496703205376
theorem aEn:dr X (binaryOp .FloorDiv) (rI Z3 λi j=>.int (i / j)):=Eu λi j _ _ _ _ _ hc q=>by
 have h1:(0:Int) < j:=hc.1
 have h2:j < 1267650600228229401496703205376:=hc.2
 refine floordiv_int (by omega) (by rw [Int.fdiv_eq_ediv_of_nonneg i (by omega)]; exact q) (.inl (PyProof.noPylong_of_log2 ?_))
 have h3:j.natAbs.log2 < 100:=(Nat.log2_lt (by omega)).mpr (by omega)
 omega
theorem Inv.K0 {σ:St} (I:Inv X aa σ H s):sysModules < s.heap.objs.size:=by
 have h:mainGlobals < s.heap.objs.size:=(I.mod.glob.keeps I.bk).lt
 exact Zv (by decide) h
theorem aFY (h:Heap) (hb:sysModules < h.objs.size):bM P w H (h.push { cls:=.type "dict",data:=.dict #[] }) h.objs.size (.dK []) :=
 ⟨Jb _,beq_eq_false_iff_ne.mpr (Ne.symm (Qt hb)),[],.nil,Heap.DictOf.new h⟩
def l?:TE:=λ_ H Q=>∀ p,H p=none->Q (.ref p) (upd H p (.dK []))
theorem aEo:PE X (.Dict [] [] pos) l?:=λaa s σ H Q I h =>
 Mt ⟨.ref s.heap.objs.size,_,I.laid (a:=s.heap.objs.size) (o:=.dK []) (t':=s.toks) (λ_ _ q=>Qa _ q) (Qe _) (aFY s.heap I.K0),rfl,h _ (I.aq.fresh (Qe _))⟩
theorem qH {tk:Tok} {Q:Int×Int×Nat->Shared->Prop} (hs:s.heap.IsSliceOf sl .none .none (.int (-1) tk)) (h:Q ((n:Int) - 1,-1,n) s):wpAny (model prog w) A (Builtin.Slice.sliceApplied (.ref sl) (pure (n:Int))) Q E s:=by
 obtain ⟨os,pz,uy,fq⟩:=id hs
 unfold Builtin.Slice.sliceApplied Builtin.Slice.sliceFields
 refine Ra (Ra (Rm pz fq (x:=.none) rfl (Ra (Rm pz fq (x:=.none) rfl (Ra (Rm pz fq (x:=.int (-1) tk) rfl (Rb ?_)))))))
 refine Ra (HT.c9 (.int (-1) tk) ?_)
 show wpAny _ _ (if ((-1:Int)==0)=true then _ else _) _ _ s
 rw [if_neg (by decide)]
 refine Ra (HT.c9 .none (Ra (HT.c9 .none (Ra (Rb ?_)))))
 show wpAny _ _ (match Builtin.Slice.sliceAdjust none none (-1) (n:Int) with | (lo,hi)=>pure (lo,(-1:Int),Builtin.Slice.slicePlaces lo hi (-1))) _ _ s
 have e:Builtin.Slice.sliceAdjust none none (-1) (n:Int)=((n:Int) - 1,-1):=by simp [Builtin.Slice.sliceAdjust]
 rw [e]
 have e2:Builtin.Slice.slicePlaces ((n:Int) - 1) (-1) (-1)=n:=by
  unfold Builtin.Slice.slicePlaces
  rw [if_neg (by decide)]
  by_cases h0:n=0
  ·subst h0; decide
  ·rw [if_pos (by omega)]
   have:((n:Int) - 1 - -1 - 1) / (- -1)+1=n:=by rw [show (- -1:Int)=1 from rfl,Wv]; omega
   rw [this]; simp
 show wpAny _ _ (pure ((n:Int) - 1,(-1:Int),Builtin.Slice.slicePlaces ((n:Int) - 1) (-1) (-1))) _ _ s
 rw [e2]
 exact Rb h
theorem zN {f g:α->Option β}:∀ {l:List α},(∀ x∈l,f x=g x)->l.filterMap f=l.filterMap g
 | [],_=>rfl
 | x::r,h=>by rw [Xd,Xd,h x (Qk ..),zN λy hy=>h y (Ql _ hy)]
theorem zO (xs:Array Value):((List.range xs.size).filterMap λ(k:Nat)=>xs[((xs.size:Int) - 1+(k:Int)*(-1)).toNat]?).toArray=xs.toList.reverse.toArray:=by
 have h:=HT.md xs.toList.reverse.toArray 0 xs.size
 have e:(List.range xs.size).filterMap (λ(k:Nat)=>xs[((xs.size:Int) - 1+(k:Int)*(-1)).toNat]?)=(List.range xs.size).filterMap (λ(m:Nat)=>xs.toList.reverse.toArray[(((0:Nat):Int)+(m:Int)*1).toNat]?):=by
  refine zN λk hk=>?_
  have G9:=Xe.mp hk
  have h1:((xs.size:Int) - 1+(k:Int)*(-1)).toNat=xs.size - 1 - k:=by omega
  have h2:(((0:Nat):Int)+(k:Int)*1).toNat=k:=by omega
  rw [h1,h2]
  simp only [List.getElem?_toArray]
  rw [List.getElem?_reverse (by simpa using G9)]
  simp
 rw [e,h]
 congr 1
 rw [Yn,Jn (by simp)]
theorem pC {t:Addr} {tk:Tok} (ht:IsTup s.heap t items) (hs:s.heap.IsSliceOf sl .none .none (.int (-1) tk)) (h:Q (.ref s.heap.objs.size) { s with heap:=s.heap.push { cls:=.type "tuple",data:=.seq items.toList.reverse.toArray } }) (hsz:items.size<=sizeLine):wpAny (model prog w) A (getItem (.ref t) (.ref sl)) Q E s:=by
 have gw:sizeOk (.seq items.toList.reverse.toArray):=by
  show items.toList.reverse.toArray.size<=sizeLine
  rw [Qm,Ze,Array.length_toList]
  exact hsz
 obtain ⟨os,pz,uy,fq⟩:=id hs
 have CY:s.TypeIs (.ref sl) "slice" := ⟨os,pz,uy⟩
 unfold getItem
 try with_reducible refine Rn ?_
 first | refine Ra (Rb ?_) | skip
 refine Ra (Mj ht.typeIs (by decide) ?_)
 refine Ra (Rh (name:=Str.ofString "__getitem__") ht.typeIs PyProof.Rows.slot_tuple_getitem
  (Rj PyProof.Rows.slot_tuple_getitem ht.typeIs Ir ?_ (Mf _ _)))
 refine Ra (m:=Builtin.Tuple.tupleItemsOf (.ref t)) (Raj ht ?_)
 refine Ra (Vf CY ?_)
 rw [if_pos (by decide)]
 refine Ra (qH hs ?_)
 have h_:¬ ((((items.size:Int) - 1)==0 && (-1:Int)==1 && items.size==items.size)=true):=by simp
 show wpAny _ _ (if (((items.size:Int) - 1)==0 && (-1:Int)==1 && items.size==items.size)=true then _ else _) _ _ s
 rw [if_neg h_,zO]
 first
  | exact Ra (m:=Builtin.Tuple.tupleExact _) (Ri (Rb ⟨_,rfl,Rb h⟩) gw)
  | exact Ra (m:=Builtin.Tuple.tupleExact _) (Ri (Ra (Rb (Rb ⟨_,rfl,Rb h⟩))) gw)
  | exact Ra (Ra (m:=Builtin.Tuple.tupleExact _) (Ri (Rb (Rb ⟨_,rfl,Rb h⟩)) gw))
  | exact Ra (Ra (m:=Builtin.Tuple.tupleExact _) (Ri (Rb ⟨_,rfl,Rb h⟩) gw))
def YG (K:Rc) (te ts:TE):TE:=λσ H Q=>te σ H λx H1=>ts σ H1 λy H2=>y=.int (-1)/\∃ a xs,x=.ref a/\aj K H2 a xs/\∀ p,H2 p=none->Q (.ref p) (upd H2 p (.tup xs.reverse))
theorem l! {st:Expr} (he:PE X e te) (gh:PE X st ts):PE X (.Subscript e (.Slice none none (some st) p2) pos) (YG X.K te ts):=by
 intro aa s σ H Q I h
 refine Ie (bf (he aa s σ H _ I h) λv s1 au=>?_)
 obtain ⟨x,H1,I1,r1,q1⟩:=au
 refine Rav ?_
 rw [Vp]
 refine Rb ?_
 show wpAny _ _ (evalPart none X.env) _ _ s1
 rw [Vp]
 refine Rb ?_
 show wpAny _ _ (evalPart (some st) X.env) _ _ s1
 rw [Rak]
 refine bf (gh aa s1 σ H1 _ I1 q1) λSw s3 au=>?_
 obtain ⟨y,H3,I3,r3,q3⟩:=au
 obtain ⟨rfl,a,xs,rfl,hx,q⟩:=q3
 obtain ⟨tk,rfl⟩:=r3
 cases r1
 have I4:Inv X aa σ H3 { s3 with heap:=s3.heap.push { cls:=.type "slice",data:=.fields #[.none,.none,.int (-1) tk] } }:=I3.kept (t':=s3.toks) λb ob q=>Qa _ q
 obtain ⟨ae,r,ht,hz⟩:=I4.tuple hx
 have hlen:=r.length
 have hg:wpAny (model X.prog X.w) X.A (getItem (.ref a) (.ref s3.heap.objs.size)) (EP X aa σ Q) X.xe { s3 with heap:=s3.heap.push { cls:=.type "slice",data:=.fields #[.none,.none,.int (-1) tk] } }:=by
  refine pC ht (Heap.IsSliceOf.new ..) ?_ (by rw [Qm]; omega)
  refine ⟨.ref _,_,I4.laid (t':=s3.toks) (o:=.tup xs.reverse) (λb ob q=>Qa _ q) (Qe _) ?_,rfl,q _ (I4.aq.fresh (Qe _))⟩
  exact ⟨by rw [Ze]; exact hz,ae.reverse,0,r.reverse,Qg _ rfl⟩
 show wpAny (model X.prog X.w) X.A (subscriptTail e (.Slice none none (some st) p2) (.ref a) (.ref s3.heap.objs.size)) (EP X aa σ Q) X.xe { s3 with heap:=s3.heap.push { cls:=.type "slice",data:=.fields #[.none,.none,.int (-1) tk] } }
 exact tail_any (ops:=[.ref a,.ref s3.heap.objs.size]) ht.typeIs PyProof.Rows.slot_tuple_getitem.lookup hg (by with_unfolding_all rfl)
def Vw (S:List Addr) (H:Hp):Hp:=λb=>if b∈S then none else H b
theorem Vw.out (n:b∉S):Vw S H b=H b:=by unfold Vw; rw [if_neg n]
theorem Vw.sub:aE (Vw S H) H:=λb o h=>by
 by_cases z:b∈S
 ·unfold Vw at h; rw [if_pos z] at h; cases h
 ·rw [Vw.out z] at h; exact h
theorem Vw.keep (e:∀ b o,b∉S->H b=some o->H' b=some o):aE (Vw S H) (Vw S H'):=λb o h=>by
 by_cases z:b∈S
 ·unfold Vw at h; rw [if_pos z] at h; cases h
 ·rw [Vw.out z] at h ⊢; exact e b o z h
theorem Vw.same (e:aE H H'):aE (Vw S H) (Vw S H'):=Vw.keep λb o _ h=>e b o h
def Fx (S:List Addr) (H:Hp):Prop:=∀ b∈S,∃ xs,H b=some (.lst xs)
theorem Fx.same (f:Fx S H) (e:aE H H'):Fx S H':=λb hb=>let ⟨xs,h⟩:=f b hb; ⟨xs,e b _ h⟩
theorem Fx.new {p:Addr} (f:Fx S H) (h:H p=none):p∉S:=λz=>by
 obtain ⟨xs,q⟩:=f p z
 rw [q] at h; cases h
theorem Fx.nil:Fx [] H:=λ_ h=>(Qp h).elim
section
theorem Fx.ai (f:Fx S H) (h:aj K H a xs):aj K (Vw S H) a xs:=by
 rcases h with (h | ⟨o,h⟩) | h
 ·exact .inl (.inl (by rw [Vw.out λz=>by obtain ⟨ys,q⟩:=f a z; rw [q] at h; cases h]; exact h))
 ·exact .inl (.inr ⟨o,by rw [Vw.out λz=>by obtain ⟨ys,q⟩:=f a z; rw [q] at h; cases h]; exact h⟩)
 ·exact .inr h
theorem Vw.at {p:Addr} {o:HO} (f:Fx S H) (h:H p=none):Vw S (upd H p o) p=some o:=by rw [Vw.out (f.new h)]; exact aB
def Dn (K:Rc) (S:List Addr) (H:Hp) (x:V):Prop:=∃ d,Den K (Vw S H) d x
def DT (K:Rc) (S:List Addr) (n:Nat) (H:Hp) (x:V):Prop:=∃ a xs,x=.ref a/\aj K (Vw S H) a xs/\xs.length<=n/\∀ y∈xs,Dn K S H y
def II (_:Hp) (x:V):Prop:=∃ i,x=.int i
class Mo (R:Hp->V->Prop):Prop where
 mo:∀ {H H':Hp} {v:V},aE H H'->R H v->R H' v
theorem Dn.keep {x:V} (h:Dn K S H x) (e:aE (Vw S H) (Vw S H')):Dn K S H' x:=let ⟨d,h⟩:=h; ⟨d,e.den _ _ h⟩
theorem Dn.same {x:V} (h:Dn K S H x) (e:aE H H'):Dn K S H' x:=h.keep (Vw.same e)
theorem DT.keep {x:V} (h:DT K S n H x) (e:aE (Vw S H) (Vw S H')):DT K S n H' x:=let ⟨a,xs,h1,h2,h3,h4⟩:=h; ⟨a,xs,h1,e.ai h2,h3,λy hy=>(h4 y hy).keep e⟩
theorem DT.same {x:V} (h:DT K S n H x) (e:aE H H'):DT K S n H' x:=h.keep (Vw.same e)
instance:Mo (Dn K S):=⟨λe h=>Dn.same h e⟩
instance {n:Nat}:Mo (DT K S n):=⟨λe h=>DT.same h e⟩
instance:Mo II:=⟨λ_ h=>h⟩
def Al (H0:Hp) (S:List Addr) (te:TE) (σ:St) (R:Hp->V->Prop):Prop:=∀ H,aE H0 H->Fx S H->∀ Q:VK,(∀ v H',aE H H'->R H' v->Q v H')->te σ H Q
variable {σ:St} {R R':Hp->V->Prop} {tb:TE} {t:TA} {tl th:TO}
theorem k? [m:Mo R] (h:σ[i]?=some (some v)) (r:R H0 v):Al H0 S (jB i) σ R:=λH s _ Q k=>⟨v,h,k v H (aE.refl H) (m.mo s r)⟩
theorem IH [m:Mo R] (r:R H0 v):Al H0 S (tC v) σ R:=λH s _ Q k=>k v H (aE.refl H) (m.mo s r)
def vW (K:Rc):R2:=λx y H Q=>∃ a b xs ys,x=.ref a/\y=.ref b/\aj K H a xs/\aj K H b ys/\xs.length+ys.length<=sizeLine/\∀ p H',aE H H'->aj K H' p (xs++ys)->Q (.ref p) H'
theorem iB (hK:X.K=K):dr X (binaryOp .Add) (vW K):=by subst hK; exact aFW
def B0 (K:Rc):V->Option Int->Option Int->Hp->VK->Prop:=λx lo hi H Q=>∃ a xs,x=.ref a/\aj K H a xs/\∀ p H',aE H H'->aj K H' p (kE xs lo hi)->Q (.ref p) H'
theorem gF (hK:X.K=K):B2 X (B0 K):=by subst hK; exact aFX
def QY (K:Rc):List V->Hp->VK->Prop:=λxs H Q=>∃ p ys,xs = [.ref p]/\(ak K H p ys∨aj K H p ys)/\∀ l,H l=none->Q (.ref l) (upd H l (.lst ys))
theorem uU (hK:X.K=K):eN X (.type "list") (QY K):=by subst hK; exact oX
theorem zP {x:V} (h:x∈kE xs lo hi):x∈xs:=Yh (Xa h)
theorem zQ:(kE xs lo hi).length<=xs.length:=by
 unfold kE
 rw [Qu,Jp]
 omega
instance {a:Addr} {xs:List V}:Mo (λH v=>v=.ref a/\aj K H a xs):=⟨λe h=>⟨h.1,e.ai h.2⟩⟩
instance {x:V}:Mo (λ_ v=>v=x):=⟨λ_ h=>h⟩
end
open PySem.AutoSeq1 (wpAny_loadPart')
theorem nf {b:Bool} (h:b=false):decide (b=true)=false:=by rw [h]; rfl
theorem nt {b:Bool} (h:b=true):decide (b=true)=true:=by rw [h]; rfl
theorem mI (l:Addr) (items:Array Value) (n:Nat) (dd:Option Addr) (sl:Array (Option Value)) (x:Int) (u:Tok) (h1:1 < x) (h2:x<=1000) (cb:items.isEmpty=false) (hz:items.size<=1000) :
  Meets (Builtin.«tuple.__mul__» ⟨[.ref l,.int x u],[]⟩) (λ_ R s=>s.heap.get? l=some { cls:=.type "tuple",dict:=dd,data:=.seq items n,slots:=sl }/\R (.ok (.ret (Value.ref s.heap.objs.size))) { s with heap:=s.heap.push { cls:=Value.type "tuple",data:=Data.seq (List.foldl (λx1 x2=>x1++x2) #[] (List.replicate x.toNat items)) },toks:=s.toks }) :=
 .of_wp λprog w A R s h=>by
  obtain ⟨hp,g,d,tk,os⟩:=s
  obtain ⟨hl,h⟩:=h
  have f1:=AutoSeq1.idx_int
  have f2:=AutoSeq1.sub_tuple_tuple
  wp_walk using Rq hl
  refine Vc (nf (show (decide (x < -2^63) || decide (x≥2^63))=false from by rw [decide_eq_false (show ¬ x < -2^63 by omega),decide_eq_false (show ¬ x≥2^63 by omega)]; rfl)) ?_
  wp_walk using Rq hl
  refine Vc (nf (show (items.isEmpty || x==1)=false from by rw [cb,beq_eq_false_iff_ne.mpr (show x≠1 by omega)]; rfl)) ?_
  wp_walk using Rq hl
  refine Vc (nf (show (decide (x<=0) || items.isEmpty)=false from by rw [cb,decide_eq_false (show ¬ x<=0 by omega)]; rfl)) ?_
  wp_walk using Rq hl
  have hm:(items.size:Int)*x<=1000*1000:=Int.mul_le_mul (by omega) h2 (by omega) (by omega)
  refine Vc (decide_eq_false (show ¬ (items.size:Int)*x > (2^63 - 1) / 8 by omega)) ?_
  wp_walk using Rq hl
  refine Vc (nf (show decide ((items.size:Int)*x > (sizeLine:Int))=false from decide_eq_false (by rw [Rg]; omega))) ?_
  have hsz:¬ (List.foldl (λx1 x2=>x1++x2) #[] (List.replicate x.toNat items)).size > sizeLine:=by
   have e:=kN items.toList x.toNat []
   rw [Zk] at e
   have e2:List.foldl (λx1 x2=>x1++x2) #[] (List.replicate x.toNat items)=(List.replicate x.toNat items.toList).flatten.toArray:=e
   rw [e2,Qm,rR,Array.length_toList,Rg]
   have:x.toNat*items.size<=1000*1000:=Wh (by omega) hz
   omega
  wp_walk using Rq hl
  exact ⟨_,rfl,h⟩
theorem sT (l:Addr) (items:Array Value) (n:Nat) (dd:Option Addr) (sl:Array (Option Value)) (x:Int) (u:Tok) (h1:1 < x) (h2:x<=1000) (cb:items.isEmpty=true) :
  Meets (Builtin.«tuple.__mul__» ⟨[.ref l,.int x u],[]⟩) (λ_ R s=>s.heap.get? l=some { cls:=.type "tuple",dict:=dd,data:=.seq items n,slots:=sl }/\R (.ok (.ret (Value.ref l))) s) :=
 .of_wp λprog w A R s h=>by
  obtain ⟨hp,g,d,tk,os⟩:=s
  obtain ⟨hl,h⟩:=h
  have f1:=AutoSeq1.idx_int
  have f2:=AutoSeq1.sub_tuple_tuple
  wp_walk using Rq hl
  refine Vc (nf (show (decide (x < -2^63) || decide (x≥2^63))=false from by rw [decide_eq_false (show ¬ x < -2^63 by omega),decide_eq_false (show ¬ x≥2^63 by omega)]; rfl)) ?_
  wp_walk using Rq hl
  exact ⟨_,rfl,h⟩
theorem iO:fillsNumberSlot (.type "tuple") "mul" = pure false :=
 PySem.fillsNumberSlot_seq (id := "tuple.__mul__") (r:=some (.builtin "tuple.__rmul__")) PySem.F.slot_tuple_mul.lookup (by decide +kernel) PySem.F.slot_tuple_rmul.lookup (by decide +kernel)
theorem lE:seqRepeat? (.type "tuple")=pure (some (.builtin "tuple.__mul__")):=by
 unfold seqRepeat?
 rw [Rap (T := "tuple") (name := "__mul__") (id := "tuple.__mul__") PySem.F.slot_tuple_mul.lookup (by decide +kernel),Rap (T := "tuple") (name := "__rmul__") (id := "tuple.__rmul__") PySem.F.slot_tuple_rmul.lookup (by decide +kernel)]
 rfl
theorem jN (a:Int) (t:Tok) (l:Addr) (items:Array Value) (n:Nat) (dd:Option Addr) (sl:Array (Option Value)) :
  Meets (Builtin.«int.__rmul__» ⟨[.int a t,.ref l],[]⟩) (λ_ R s=>s.heap.get? l=some { cls:=.type "tuple",dict:=dd,data:=.seq items n,slots:=sl }/\R (.ok (.ret Value.notImplemented)) s) :=
 .of_wp λprog w A R s h=>by
  obtain ⟨hp,g,d,tk,os⟩:=s
  obtain ⟨hl,h⟩:=h
  wp_walk using Rq hl
  exact ⟨_,rfl,h⟩
def Z2 (K:Rc):R2:=λx y H Q=>∃ a k xs,x=.ref a/\y=.int k/\aj K H a xs/\1 < k/\k<=1000/\xs.length<=1000/\∀ p H',aE H H'->aj K H' p (List.replicate k.toNat xs).flatten->Q (.ref p) H'
theorem QX (hK:X.K=K):dr X (binaryOp .Mult) (Z2 K):=by
 subst hK
 intro aa s σ H x y v u Q I rx ry h
 obtain ⟨a,k,xs,rfl,rfl,ha,h1,h2,hz,q⟩:=h
 cases rx
 obtain ⟨t,rfl⟩:=ry
 obtain ⟨ae,r,⟨⟨cls,dd,data,sl⟩,ho,hc,n,hd⟩,pk⟩:=I.tuple ha
 simp only at hc hd
 subst hc hd
 have hl:=r.length
 refine Uv (T := "tuple") (U := "int") (by decide) ⟨_,ho,rfl⟩ (λs'=>Ve s' k t) iO Vx Tu lE PySem.F.slot_int_index.lookup
  (Ti Tu (Ve s k t) Vv (Vt _ _) (jN k t a ae.toArray n dd sl) ⟨ho,rfl,⟨_,ho,rfl⟩,?_⟩)
 by_cases hx:xs = []
 ·subst hx
  cases r
  refine Ti PySem.F.slot_tuple_mul ⟨_,ho,rfl⟩ Tg (Ta _ _) (sT a _ n dd sl k t h1 h2 rfl) ⟨ho,?_⟩
  exact ⟨.ref a,H,I,rfl,q a H (aE.refl H) (by rw [List.flatten_replicate_nil]; exact ha)⟩
 ·have cb:ae.toArray.isEmpty=false:=by
   cases ae with
   | nil=>cases r; exact absurd rfl hx
   | cons _ _=>rfl
  refine Ti PySem.F.slot_tuple_mul ⟨_,ho,rfl⟩ Tg (Ta _ _) (mI a ae.toArray n dd sl k t h1 h2 cb (by rw [Qm]; omega)) ⟨ho,?_⟩
  have tu:List.foldl (λx1 x2=>x1++x2) #[] (List.replicate k.toNat ae.toArray)=(List.replicate k.toNat ae).flatten.toArray:=by
   have:=kN ae k.toNat []
   rw [Zk] at this
   exact this
  rw [tu]
  have hlen:(List.replicate k.toNat xs).flatten.length<=sizeLine:=by
   rw [rR,Rg]
   have:k.toNat*xs.length<=1000*1000:=Wh (by omega) hz
   omega
  refine ⟨.ref _,_,I.laid (t':=s.toks) (o:=.tup (List.replicate k.toNat xs).flatten) (λb ob q=>Qa _ q) (Qe _) ?_,rfl,q _ _ (aE.new (I.aq.fresh (Qe _))) (aj.of aB)⟩
  exact ⟨hlen,(List.replicate k.toNat ae).flatten,0,r.rep k.toNat,Qg _ rfl⟩
section
variable {σ:St}
end
section
variable {E E':Hp->V->Prop}
def DTe (K:Rc) (S:List Addr) (E:Hp->V->Prop) (n:Nat) (H:Hp) (x:V):Prop:=∃ a xs,x=.ref a/\aj K (Vw S H) a xs/\xs.length<=n/\∀ y∈xs,E H y
def LTe (S:List Addr) (E:Hp->V->Prop) (n:Nat) (H:Hp) (x:V):Prop:=∃ a xs,x=.ref a/\Vw S H a=some (.lst xs)/\xs.length<=n/\∀ y∈xs,E H y
instance {n:Nat} [m:Mo E]:Mo (DTe K S E n):=⟨λe ⟨a,xs,h1,h2,h3,h4⟩=>⟨a,xs,h1,(Vw.same e).ai h2,h3,λy hy=>m.mo e (h4 y hy)⟩⟩
instance {n:Nat} [m:Mo E]:Mo (LTe S E n):=⟨λe ⟨a,xs,h1,h2,h3,h4⟩=>⟨a,xs,h1,Vw.same e _ _ h2,h3,λy hy=>m.mo e (h4 y hy)⟩⟩
variable {σ:St} {tb:TE} {t:TA} {tl th:TO}
end
section
variable {env:Env} {gC:List Expr} {k:Nat} {a b c:Expr}
theorem aM:starEach (.Tuple es k pos::gC) env=(false,eval (.Tuple es k pos) env)::starEach gC env:=rfl
theorem fV:starEach (.List es pos::gC) env=(false,eval (.List es pos) env)::starEach gC env:=rfl
theorem pD {ks:List (Option Expr)}:starEach (.Dict ks es pos::gC) env=(false,eval (.Dict ks es pos) env)::starEach gC env:=rfl
theorem sU {op:Operator}:starEach (.BinOp a op b pos::gC) env=(false,eval (.BinOp a op b pos) env)::starEach gC env:=rfl
theorem vX {op:UnaryOp}:starEach (.UnaryOp op a pos::gC) env=(false,eval (.UnaryOp op a pos) env)::starEach gC env:=rfl
theorem aF {v:Const}:starEach (.Constant v k pos::gC) env=(false,eval (.Constant v k pos) env)::starEach gC env:=rfl
theorem aFZ:starEach (.Name x pos::gC) env=(false,eval (.Name x pos) env)::starEach gC env:=rfl
end
theorem aA6 {z0:Str} (sc:Scope) (N:List Str) (h1:X.env.scope=sc) (h2:X.N=N) (cf:∀ (n:Nat) (cl:List (Str×Addr)),cellsFrom n scope.names cl=(z0,n)::cl) (pc:∀ h:Heap,pushCells h scope.names=h.push { cls:=.type "cell",data:=.cell none }) (h:(kO sc scope (some z0) own bc && rT N bc fr)=true):br X scope (some z0) own fr bc :=
 zM h1 h2 (λ_ q=>by cases q; exact ⟨cf,pc⟩) h
def Oz (scope sc:Scope):Scope:={ scope with names:=scope.names.map λ(n,k)=>if (k==NameKind.free && sc.kind==.function && sc.names.lookup n==some .cell) then (n,NameKind.cell) else (n,k) }
theorem aC1 (hc:X.calm=true):eN X (.builtin "min") (λxs H Q=>∃ (p:Addr) (ns:List Int),xs = [.ref p]/\ak X.K H p (ns.map V.int)/\0 < ns.length/\∀ M,M∈ns->(∀ a∈ns,M<=a)->Q (.int M) H):=by
 intro aa s σ H xs us Q I r h
 obtain ⟨p,ns,rfl,hx,cb,q⟩:=h
 obtain ⟨u,rfl,rx⟩:=gM r
 cases rx
 obtain ⟨ae,rv,pl,hz⟩:=I.list hx
 have hi:IntsAre ae ns:=kZ rv
 obtain ⟨xs,e⟩:=hi.allInts.items
 have iz:ns=xs.toList.map (·.1):=by
  rw [<- hi.numsOf,<- nums_intItems,<- e]
 have hsz:0 < xs.size:=by
  have h3:=cb; rw [iz,Qc,Array.length_toList] at h3; exact h3
 have hl:=pl.isList
 rw [e] at hl
 refine min_intList (I.ok.hd hc) hl hsz λv h' tk hv hk=>?_
 obtain ⟨t,rfl⟩:=intItems_at hv
 obtain ⟨h1,h2⟩:=RaC (numAt xs) (xs.size - 1)
 refine ⟨.int _,H,I.kept hk,⟨_,rfl⟩,q _ ?_ λa ha=>?_⟩
 ·rw [iz,numAt_eq]; exact getD_mem (by rw [Qc,Array.length_toList]; omega)
 ·rw [iz] at ha
  obtain ⟨j,hj,rfl⟩:=mem_getD ha
  rw [Qc,Array.length_toList] at hj
  rw [<- numAt_eq]; exact h2 j (by omega)
theorem O8:bootBuiltins "min" = some (.builtin "min"):=by decide +kernel
theorem aF0 {σ:St} (Pv:Nat->St->Hp->Prop) (heq:xs.length=ys.length) (h0:Pv 0 σ H) (hl:∀ i σ H,i<=xs.length->Pv i σ H->fi k1 K H a xs/\fi k2 K H b ys) (hs:∀ i x y p σ H,xs[i]?=some x->ys[i]?=some y->Pv i σ H->H p=none->g (.ref p) σ (upd H p (.tup [x,y])) λar H2=>tb { D with nx:=Pv (i+1),ct:=Pv (i+1),bk:=D.nx } ar H2) (hd:∀ σ H,Pv xs.length σ H->D.nx σ H) :
  ∃ W:Nat->Nat->St->Hp->Prop,(∃ m,W 0 m σ H)/\∀ i m σ H,W i m σ H ->
   ((wz K k1 k2 a b).stop i H/\D.nx σ H)∨((wz K k1 k2 a b).go i H/\∃ N:St->Hp->Prop,(∀ ao H',N ao H'->∃ m',m' < m/\W (i+1) m' ao H')/\∀ x H',(wz K k1 k2 a b).kz i H x H'->g x σ H' λar H2=>tb { D with nx:=N,ct:=N,bk:=D.nx } ar H2):=by
 refine ⟨λi m σ H=>m=xs.length - i/\i<=xs.length/\Pv i σ H,⟨xs.length,by simp,Jb _,h0⟩,?_⟩
 rintro i m σ H ⟨rfl,hi,p⟩
 obtain ⟨q1,q2⟩:=hl i σ H hi p
 by_cases ax:i < xs.length
 ·refine .inr ⟨⟨xs,ys,xs[i],ys[i]'(by omega),q1,q2,Qb ax,Qb (by omega)⟩,Pv (i+1),λao H' p'=>⟨xs.length - (i+1),by omega,rfl,ax,p'⟩,λx H' y=>?_⟩
  obtain ⟨z,hz,rfl,hy⟩:=y
  obtain ⟨x,y,h1,h2,rfl⟩:=hy xs ys q1 q2
  exact hs i x y z σ _ h1 h2 p hz
 ·have e:i=xs.length:=by omega
  subst e
  exact .inl ⟨⟨xs,ys,q1,q2,by rw [<- heq,Wy]⟩,hd σ H p⟩
theorem bM.ko {o:HO} (x:bM P w H h a o):∃ ob,h.get? a=some ob:=by
 cases o with
 | lst xs=>obtain ⟨_,_,_,_,e⟩:=x; exact ⟨_,e⟩
 | tup xs=>obtain ⟨_,_,_,_,e⟩:=x; exact ⟨_,e⟩
 | dK kvs=>obtain ⟨_,_,_,_,o,_,_,e,_⟩:=x; exact ⟨_,e⟩
 | dT kvs=>obtain ⟨_,_,_,_,o,_,_,e,_⟩:=x; exact ⟨_,e⟩
 | set S n=>obtain ⟨o,_,_,_,e,_⟩:=x; exact ⟨_,e⟩
 | ins C dx fs=>obtain ⟨_,_,_,e,_⟩:=x; exact ⟨_,e⟩
 | own y=>obtain ⟨_,e⟩:=x; exact ⟨_,e⟩
 | xd fs=>obtain ⟨_,⟨_,_,_,e,_⟩,_⟩:=x; exact ⟨_,e⟩
 | pg lo hi=>obtain ⟨_,_,_,e⟩:=x; exact ⟨_,e⟩
 | cq ob u=>obtain ⟨e,_⟩:=x; exact ⟨_,e⟩
 | yb ps=>exact ⟨_,(show h.get? a=some _ from x)⟩
 | tab q=>obtain ⟨_,e,_⟩:=x; exact ⟨_,e⟩
 | met f y=>exact ⟨_,(show h.get? a=some _ from x)⟩
 | ext φ=>obtain ⟨_,⟨_,e⟩,_⟩:=x; exact ⟨_,e⟩
def FG (h:Heap) (a:Addr) (cls:Value) (T:Addr):Prop :=
 ∃ oe vs oT ts,h.get? a=some oe/\oe.cls=cls/\oe.data=.fields vs/\vs[1]?=some (.ref T)/\T≠a/\h.get? T=some oT/\oT.data=.fields ts/\ts[3]?=some .none
def bx (P:Program) (w:World):y9:=λouter H s E e s'=>∃ (a T C:Addr) (H':Hp),e=.ref a/\s'.os=s.os/\AllBare s'.gens/\Un (c_ outer) [] H H' s.heap s'.heap/\fw P w H' s'.heap/\FG s'.heap a (.ref C) T /\
 s.heap.get? a=none/\s.heap.get? T=none/\H' a=none/\H' T=none/\E (.ref C) none H'
theorem gQ {b1 b2:Heap}:∀ {l:List Env},h.FunFrames b1 l->(∀ L∈c_ l,b2.get? L=none)->h.FunFrames b2 l
 | [],_,_=>trivial
 | env::gC,⟨hk,⟨L,o,hf,hn,ho,hd⟩,hr⟩,hb=>⟨hk,⟨L,o,hf,hb L (by unfold c_; rw [Xd,hf]; exact Qk ..),ho,hd⟩,gQ hr λM hM=>hb M (by
   unfold c_ at hM ⊢
   rw [Xd,hf]
   exact Ql _ hM)⟩
theorem sV {l:List Env} {cls:Value} {m8:List Addr} (hb:base=Rw h m8) (hl:h.FunFrames base l) (x:Heap.Left base l a cls h h') (ha:a∈m8) :
  (∀ b o,b∉m8->h.get? b=some o->h'.get? b=some o)/\(∀ b o,b∈c_ l->h.get? b=some o->∃ sl,h'.get? b=some { o with slots:=sl })/\∃ T,FG h' a cls T/\T∉c_ l/\(T∈m8∨h.get? T=none):=by
 obtain ⟨x1,x2,⟨oe,vs,T,oT,ts,e1,e2,e3,e4,e5,e6,e7,e8,e9⟩,x4⟩:=x
 refine ⟨λb o nb e=>x1 b o (by rw [hb]; exact Ic _ e nb),λb o CS e=>?_,T,⟨oe,vs,oT,ts,e1,e2,e3,e4,e6,e7,e8,e9⟩,λz=>?_,?_⟩
 ·obtain ⟨_,o',gn,sd⟩:=hl.mem CS
  have eo:o'=o:=Option.some.inj (gn.symm.trans e)
  subst eo
  exact x4 b o' gn sd
 ·obtain ⟨_,o',gn,sd⟩:=x2.mem z
  have eo:o'=oT:=Option.some.inj (gn.symm.trans e7)
  subst eo
  exact sd ts e8
 ·by_cases hT:T∈m8
  ·exact .inl hT
  ·refine .inr ?_
   cases q:h.get? T with
   | none=>rfl
   | some o =>
    have:=Ic m8 q hT
    rw [<- hb,e5] at this
    cases this
section
variable {cd:Value} {outer:List Env} {s0:Shared} {E:XK}
theorem QW {σ:St} {m8:List Addr} {bs:Heap} (I:Inv (oG (bx P w) P w K mg base N qual scope f cd A outer s0 H0 E) aa σ H s) (hb:bs=Rw s.heap m8) (hl:s.heap.FunFrames bs (envOfC qual scope s0.heap.objs.size f cd::outer)) (x:Heap.Left bs (envOfC qual scope s0.heap.objs.size f cd::outer) a (.ref C) s.heap h') (ha:a∈m8) (hh:∀ b∈m8,b∈c_ (envOfC qual scope s0.heap.objs.size f cd::outer)∨(s0.heap.get? b=none/\H b=none)) (hE:E (.ref C) none H) (Ht:s0.heap.get? a=none) (jr:H a=none) :
  bx P w outer H0 s0 E (.ref a) { s with heap:=h' }:=by
 obtain ⟨k1,k2,T,fl,nT,hT⟩:=sV hb hl x ha
 have Lne:∀ b o,s0.heap.get? b=some o->b≠s0.heap.objs.size:=λb o e z=>Jo _ (z ▸ Qo e)
 have fs:∀ b,b∈c_ (envOfC qual scope s0.heap.objs.size f cd::outer)↔b=s0.heap.objs.size∨b∈c_ outer:=λb=>by
  unfold c_
  rw [Xd]
  exact Qj
 have un:Un (c_ outer) [] H0 H s0.heap s.heap:=I.base
 have nh:∀ b o,s0.heap.get? b=some o->b∉c_ outer->b∉m8:=λb o e nb z=>by
  rcases hh b z with q | q
  ·rcases (fs b).mp q with q | q
   ·exact Lne b o e q
   ·exact nb q
  ·rw [q.1] at e; cases e
 have um:∀ b u,H b=some u->b∉m8:=λb u e z=>by
  rcases hh b z with q | q
  ·rw [I.gy b q] at e; cases e
  ·rw [q.2] at e; cases e
 have T0:s0.heap.get? T=none/\H T=none:=by
  rcases hT with z | z
  ·rcases hh T z with q | q
   ·exact absurd q nT
   ·exact q
  ·refine ⟨?_,?_⟩
   ·cases q:s0.heap.get? T with
    | none=>rfl
    | some o =>
     obtain ⟨o',e⟩:=un.there T o q (by simp)
     rw [z] at e; cases e
   ·cases q:H T with
    | none=>rfl
    | some u =>
     obtain ⟨o',e⟩:=(I.aq T u q).ko
     rw [show s.heap.get? T=none from z] at e; cases e
 refine ⟨a,T,C,H,rfl,I.os,I.bare,⟨λb o e n nb _=>?_,λb o e n e_ _=>?_,un.free,λb o e _=>?_,un.gq,un.fj,un.gr⟩,λb u e=>?_,fl,Ht,T0.1,jr,T0.2,hE⟩
 ·exact k1 b o (nh b o e nb) (un.keep b o e n nb (by simp))
 ·obtain ⟨sl,q⟩:=un.slot b o e n e_ (by simp)
  obtain ⟨zt,q'⟩:=k2 b _ ((fs b).mpr (.inr e_)) q
  exact ⟨zt,q'⟩
 ·obtain ⟨o',q⟩:=un.there b o e (by simp)
  by_cases e_:b∈c_ outer
  ·obtain ⟨sl,q'⟩:=k2 b _ ((fs b).mpr (.inr e_)) q
   exact ⟨_,q'⟩
  ·exact ⟨o',k1 b o' (nh b o e e_) q⟩
 ·refine (I.aq b u e).cu (λc v hc q=>k1 c v ?_ q) (λ_ q=>q) λ_ _ q=>q
  rcases hc with z | z
  ·rw [z]; exact um b u e
  ·exact um c _ z
theorem fJ:qA (bx P w) (oG (bx P w) P w K mg base N qual scope f cd A outer s0 H0 E) E:=by
 intro aa σ H s e s' I h
 obtain ⟨a,T,C,H',rfl,os,bare,un,aq,fl,na,nT,jr,wc,hE⟩:=h
 have I3:Inv (oG (bx P w) P w K mg base N qual scope f cd A outer s0 H0 E) aa σ H' s':=I.l_ (ch:=[]) os un aq bare (λb z=>absurd z (by simp))
 have FW:Un (c_ outer) [] H0 H s0.heap s.heap:=I.base
 have n0:∀ b,s.heap.get? b=none->s0.heap.get? b=none:=λb z=>by
  cases q:s0.heap.get? b with
  | none=>rfl
  | some o =>
   obtain ⟨o',e⟩:=FW.there b o q (by simp)
   rw [z] at e; cases e
 have hl:s'.heap.FunFrames (Rw s'.heap (a::T::c_ (envOfC qual scope s0.heap.objs.size f cd::outer))) (envOfC qual scope s0.heap.objs.size f cd::outer) :=
  gQ I3.stack λL hL=>Ru _ (Ql _ (Ql _ hL))
 obtain ⟨oe,vs,oT,ts,e1,e2,e3,e4,e6,e7,e8,e9⟩:=fl
 show wpAny (model P w) (A.deeper (envOfC qual scope s0.heap.objs.size f cd)) (leaving (envOfC qual scope s0.heap.objs.size f cd) (.ref a)) _ _ s'
 refine wpAny_leaving_next (base:=Rw s'.heap (a::T::c_ (envOfC qual scope s0.heap.objs.size f cd::outer))) (cls:=.ref C) I3.ok.frames hl rfl
  ⟨oe,vs,T,oT,ts,e1,e2,e3,e4,Ru _ (by simp),e6,e7,e8,e9⟩ (λb o q=>Ur _ q) (Ru _ (by simp)) λh' lf=>?_
 refine QW I3 rfl hl lf (by simp) (λb hb=>?_) hE (n0 a na) jr
 rcases Qj.mp hb with z | hb
 ·rw [z]; exact .inr ⟨n0 a na,jr⟩
 rcases Qj.mp hb with z | hb
 ·rw [z]; exact .inr ⟨n0 T nT,wc⟩
 ·exact .inl hb
theorem xF {σ:St} {vs:List Value} (I:Inv (oG (bx P w) P w K mg base N qual scope f cd A outer s0 H0 E) aa σ H s) (m:Heap.MadeExcOf s.heap h' a (.ref C) vs) (hE:E (.ref C) none H) :
  (oG (bx P w) P w K mg base N qual scope f cd A outer s0 H0 E).xe (.ref a) { s with heap:=h' }:=by
 obtain ⟨t,e1,_,_⟩:=m.there
 have I3:Inv (oG (bx P w) P w K mg base N qual scope f cd A outer s0 H0 E) aa σ H { s with heap:=h' }:=I.kept (t':=s.toks) m.keeps
 have FW:Un (c_ outer) [] H0 H s0.heap s.heap:=I.base
 have a0:s0.heap.get? a=none:=by
  cases q:s0.heap.get? a with
  | none=>rfl
  | some o =>
   obtain ⟨o',e⟩:=FW.there a o q (by simp)
   rw [m.new] at e; cases e
 have jr:H a=none:=by
  cases q:H a with
  | none=>rfl
  | some u =>
   obtain ⟨o',e⟩:=(I.aq a u q).ko
   rw [m.new] at e; cases e
 have hl:h'.FunFrames (Rw h' (a::c_ (envOfC qual scope s0.heap.objs.size f cd::outer))) (envOfC qual scope s0.heap.objs.size f cd::outer) :=
  gQ I3.stack λL hL=>Ru _ (Ql _ hL)
 show wpAny (model P w) (A.deeper (envOfC qual scope s0.heap.objs.size f cd)) (leaving (envOfC qual scope s0.heap.objs.size f cd) (.ref a)) _ _ { s with heap:=h' }
 refine wpAny_leaving_first (base:=Rw h' (a::c_ (envOfC qual scope s0.heap.objs.size f cd::outer))) I3.ok.frames hl rfl e1 (λb o q=>Ur _ q) (Ru _ (by simp)) rfl rfl λh2 lf=>?_
 refine QW (s:={ s with heap:=h' }) I3 rfl hl lf (by simp) (λb hb=>?_) hE a0 jr
 rcases Qj.mp hb with z | hb
 ·rw [z]; exact .inr ⟨a0,jr⟩
 ·exact .inl hb
theorem u_.k9 {k:Nat} (F:u_ K x qual st f fd) (S:ah N ps (aL st)) (len:∀ vs H Q E,sp vs H Q E->vs.length=ps.length) (jg:∀ (bj:Value) (A:Around) (outer:List Env) (s:Shared) (H:Hp) (vs:List V) (Q:VK) (E:XK),ay k (A.deeper (envOfC qual (aL st) s.heap.objs.size f bj))->sp vs H Q E ->
   ∃ t,kc (oG (bx P w) P w K mg base N qual (aL st) f bj A outer s H E) (dU st) t/\t { nx:=λ_ H'=>Q .bw H',rt:=Q } (start N vs) H):af P w K mg base (bx P w) (k+1) f fd ps sp:=by
 obtain ⟨oc,od,kV,doc,pm,an,bj,ct,ql,rfl,lk,jm⟩:=F.ex
 exact JA lk jm S len λA outer s H vs Q E hr oh=>jg bj A outer s H vs Q E hr oh
end
abbrev il:List Value:=[.type "ValueError",.type "Exception",.type "BaseException",.type "object"]
def vc:List Str:=["__init__", "__getattribute__", "__getattr__", "__class__"]
inductive jh (h:Heap) (ni:List Value):List Value->Prop
 | base:jh h ni ni
 | own {A:Addr} {c0:Value} {dd:Option Addr} {cd:ClassData} {sl:Array (Option Value)} {mA:Str->Option Value} {tl:List Value} :
   h.get? A=some { cls:=c0,dict:=dd,data:=.cls cd,slots:=sl }->h.Ns cd.ns mA->(∀ n∈vc,mA n=none)->jh h ni tl->jh h ni (.ref A::tl)
theorem jh.tail {tl:List Value} (T:jh h ni tl):OwnTail h ni tl:=by
 induction T with
 | base=>exact .base
 | own hA hN hq _ ih=>exact .own hA hN (hq _ (.head _)) ih
def i4 (h:Heap) (C:Addr) (bm:List Value):Prop:=∃ N nm q bs hdct sn sub ab col dd k0 k1 k2 k3 k5 mN,h.get? C=some (excClassObj nm q C N bs bm hdct sn sub ab col dd k0 k1 k2 k3 k5 "ValueError.__new__")/\h.Ns N mN/\(∀ n∈vc,mN n=none)/\jh h il bm
section
variable {g:Array GenState} {d:Drawn} {t:Nat}
theorem aF1 {tl:List Value} {n:Str} {y:Option Value} {Q:Option Value->Shared->Prop} (hn:n∈vc) (T:jh h ni tl) (o7:lookupAlong ni n=pure y) (hq:Q y ⟨h,g,d,t,os⟩) :
  wpAny M A (lookupAlong tl n) Q E ⟨h,g,d,t,os⟩:=by
 induction T with
 | base=>rw [o7]; exact Rb hq
 | own hA hN VF _ ih =>
  rw [RaH]
  refine Ra (wpAny_classOwn_cls hA hN ?_)
  rw [VF n hn]
  exact ih
theorem JN {n:Str} {y:Option Value} {Q:Option Value->Shared->Prop} (hn:n∈vc) (x:i4 h C bm) (hB:typeLookup (.type "ValueError") n=pure y) (hq:Q y ⟨h,g,d,t,os⟩):wpAny M A (typeLookup (.ref C) n) Q E ⟨h,g,d,t,os⟩:=by
 obtain ⟨N,nm,q,bs,hdct,sn,sub,ab,col,dd,k0,k1,k2,k3,k5,mN,hC,hN,G5,T⟩:=x
 have o7:lookupAlong il n=pure y:=by rw [typeLookup_eq,PySem.F.excBase_ValueError.mroIs] at hB; exact hB
 rw [typeLookup_eq]
 refine Ra (wpAny_mroOf_exc hC ?_)
 rw [RaH]
 refine Ra (wpAny_classOwn_exc hC hN ?_)
 rw [G5 n hn]
 exact aF1 hn T o7 hq
theorem zR:typeLookup (.type "ValueError") "__class__" = pure (some (.builtin "object.__class__")):=by rw [Rac,Ik]; kernel_rfl
theorem sW {base:Value} {Q:Bool->Shared->Prop} (x:i4 h C bm) (hq:Q ((Value.ref C::bm).contains base) ⟨h,g,d,t,os⟩):wpAny M A (isSubtype (.ref C) base) Q E ⟨h,g,d,t,os⟩:=by
 obtain ⟨N,nm,q,bs,hdct,sn,sub,ab,col,dd,k0,k1,k2,k3,k5,mN,hC,hN,G5,T⟩:=x
 exact wpAny_isSubtype_exc hC hq
theorem i4.has (x:i4 h C bm) (hb:il.contains (.type T)=true):(Value.ref C::bm).contains (.type T)=true:=by
 obtain ⟨N,nm,q,bs,hdct,sn,sub,ab,col,dd,k0,k1,k2,k3,k5,mN,hC,hN,G5,TT⟩:=x
 rw [Yl,TT.tail.hasType hb,Bool.or_true]
theorem zS (x:i4 h C bm) (hx:h.get? a=some o) (hc:o.cls=.ref C) (hq:R (.ok (.ret (.ref C))) ⟨h,g,d,t,os⟩) :
  codeAny (model prog w) A (.call (.builtin "getset_descriptor.__get__") ⟨[.builtin "object.__class__",.ref a,.ref C],[]⟩) R ⟨h,g,d,t,os⟩:=by
 have MU:(⟨h,g,d,t,os⟩:Shared).TypeIs (.builtin "object.__class__") "getset_descriptor" := Vk
 have CQ:(Value.ref C::bm).contains (.type (".".intercalate ("object.__class__".cutAt '.').dropLast))=true:=by
  rw [PySem.F.owner_object_class]; exact x.has (by decide +kernel)
 refine Vr PySem.F.slot_gs_get.plain PySem.F.entry_gs_get (PySem.F.slot_gs_get.check _ _ _ _ _ _ _ _ MU (PySem.F.args_gs_get _ _ _) ?_)
 repeat (any_goals (first | assumption | (with_reducible refine Rt hx ?_; rw [hc]) | (with_reducible refine sW x ?_; rw [CQ]) | wp_step))
 refine ⟨Code.quiet_builtin _ (by decide +kernel),To PySem.F.entry_object_class ?_⟩
 repeat (any_goals (first | assumption | (with_reducible refine Rt hx ?_; rw [hc]) | wp_step))
theorem uV {tk:Tok} {Q:PySem.Fin->Shared->Prop} (x:i4 h C bm) (hx:h.get? a=some o) (hc:o.cls=.ref C) (hq:Q (.done (.ret (.ref C))) ⟨h,g,d,t,os⟩) :
  wpAny (model prog w) A (Builtin.«object.__getattribute__» ⟨[.ref a,.str "__class__" tk],[]⟩) Q E ⟨h,g,d,t,os⟩:=by
 have MU:(⟨h,g,d,t,os⟩:Shared).TypeIs (.builtin "object.__class__") "getset_descriptor" := Vk
 have f5:=Vk
 have f6:=PySem.F.slot_gs_get.lookup
 have f7:=PySem.F.slot_gs_set.lookup
 have hm:("__class__" : Str)∈vc:=.tail _ (.tail _ (.tail _ (.head _)))
 repeat (any_goals (first | assumption | (with_reducible refine Rt hx ?_; rw [hc]) | with_reducible refine JN hm x zR ?_ | wp_step))
 refine zS x hx hc ?_
 repeat (any_goals (first | assumption | wp_step))
theorem aA8 {ze:Value} {Q:Unit->Shared->Prop} (x:i4 h C bm) (hx:h.get? a=some o) (hc:o.cls=.ref C) (hq:Q () ⟨h,g,d,t,os⟩):wpAny M A (checkBuiltinCall "BaseException.__getattribute__" ⟨[.ref a,ze],[]⟩) Q E ⟨h,g,d,t,os⟩:=by
 have hk:builtinKind "BaseException.__getattribute__" = some .slot:=by decide +kernel
 have Bd:splitId "BaseException.__getattribute__" = some ("BaseException", "__getattribute__"):=by decide +kernel
 have CQ:(Value.ref C::bm).contains (.type "BaseException")=true:=x.has (by decide +kernel)
 have ha:=PySem.F.args_bexc_ga (.ref a) ze
 simp only [checkBuiltinCall,hk,Bd]
 refine Ra ?_
 ·unfold isInstance
  repeat (first | (with_reducible refine Rt hx ?_; rw [hc]) | (with_reducible refine sW x ?_; rw [CQ]) | wp_step)
  exact hq
theorem aA9 {tk:Tok} (x:i4 h C bm) (hx:h.get? a=some o) (hc:o.cls=.ref C) (hq:Q (.ref C) ⟨h,g,d,t,os⟩):wpAny (model prog w) A (getAttrBy (.ref a) (.str "__class__" tk) false) Q E ⟨h,g,d,t,os⟩:=by
 have FB:=PySem.F.attrBase_ValueError
 have f3:=FB.ga.bind (.ref a)
 have Gy:(Value.builtin "BaseException.__getattribute__" == Value.builtin "object.__getattribute__")=false:=by decide +kernel
 have Bv:(onTheHeap (Value.ref C) && Value.builtin "BaseException.__getattribute__" == Value.builtin "object.__getattribute__")=false:=by rw [Gy]; rfl
 have m7:("__getattribute__" : Str)∈vc:=.tail _ (.head _)
 have yi:("__getattr__" : Str)∈vc:=.tail _ (.tail _ (.head _))
 repeat (any_goals (first | assumption | (with_reducible refine Rt hx ?_; rw [hc]) | with_reducible refine JN m7 x FB.ga.lookup ?_ | with_reducible refine JN yi x FB.noGetattr ?_ | wp_step))
 refine Vr FB.ga.plain PySem.F.entry_bexc_ga (aA8 x hx hc (uV x hx hc ?_))
 repeat (any_goals (first | assumption | wp_step))
theorem xG {Q:Option Value->Shared->Prop} (x:i4 h C bm) (hx:h.get? a=some o) (hc:o.cls=.ref C) (hq:Q (some (.ref C)) ⟨h,g,d,t+1,os⟩):wpAny (model prog w) A (getAttr? (.ref a) "__class__") Q E ⟨h,g,d,t,os⟩:=by
 unfold getAttr? getAttrBy?
 repeat (any_goals (first | assumption | with_reducible apply aA9 x hx hc | wp_step))
theorem aF2 {qz:Option Addr} {X2:ClassData} {zt:Array (Option Value)} (x:i4 h C bm) (hx:h.get? a=some o) (hc:o.cls=.ref C) (si:h.get? C'=some { cls:=.type "type",dict:=qz,data:=.cls X2,slots:=zt }) (hq:∀ t',Q (.bool ((Value.ref C::bm).contains (.ref C'))) ⟨h,g,d,t',os⟩):wpAny (model prog w) A (call (.builtin "isinstance") [.ref a,.ref C']) Q E ⟨h,g,d,t,os⟩:=by
 have f3:=tc_sub
 have BL:(⟨h,g,d,t,os⟩:Shared).TypeIs (.ref C') "type" := ⟨_,si,rfl⟩
 obtain ⟨N,nm,q,bs,hdct,sn,sub,ab,col,dd,k0,k1,k2,k3,k5,mN,hC,_⟩:=id x
 refine PyProof.Rows.call_isinstance_of ?_ (by intro e; cases e)
 by_cases e:C=C'
 ·subst e
  have hb:(Value.ref C::bm).contains (.ref C)=true:=by simp
  rw [hb] at hq
  unfold Builtin.«isinstance.nested»
  repeat (any_goals (first | assumption | (with_reducible refine Rt hx ?_; rw [hc]) | wp_step))
  exact hq _
 ·have cb:(Value.ref C==Value.ref C')=false:=by simp [e]
  cases hb:(Value.ref C::bm).contains (.ref C') with
  | true =>
   rw [hb] at hq
   unfold Builtin.«isinstance.nested»
   repeat (any_goals (first | assumption | (with_reducible refine Rt hx ?_; rw [hc]) | (with_reducible refine Rt si ?_) | (with_reducible refine sW x ?_; rw [hb]) | wp_step))
   exact hq _
  | false =>
   rw [hb] at hq
   have hTC:∀ t',(⟨h,g,d,t',os⟩:Shared).TypeIs (.ref C) "type" := λ_=>⟨_,hC,rfl⟩
   unfold Builtin.«isinstance.nested»
   repeat (any_goals (first | assumption | (with_reducible refine Rt hx ?_; rw [hc]) | (with_reducible refine Rt si ?_) | (with_reducible refine sW x ?_; rw [hb]) | with_reducible refine xG x hx hc ?_ | (with_reducible refine Rt hC ?_) | wp_step))
   exact hq _
theorem k! (x:i4 h C bm) (hx:h.get? a=some o) (hc:o.cls=.ref C) (hq:∀ t',Q (.bool true) ⟨h,g,d,t',os⟩):wpAny (model prog w) A (call (.builtin "isinstance") [.ref a,.type "ValueError"]) Q E ⟨h,g,d,t,os⟩:=by
 have f3:=tc_sub
 have EN:typeOf (.type "ValueError")=pure (.type "type"):=by kernel_rfl
 have cb:(Value.ref C==Value.type "ValueError")=false:=by rfl
 have hb:(Value.ref C::bm).contains (.type "ValueError")=true:=x.has (by decide +kernel)
 refine PyProof.Rows.call_isinstance_of ?_ (by intro e; cases e)
 unfold Builtin.«isinstance.nested»
 repeat (any_goals (first | assumption | (with_reducible refine Rt hx ?_; rw [hc]) | (with_reducible refine sW x ?_; rw [hb]) | wp_step))
 exact hq _
end
def xb (C a:Addr):HO:=.ext λh=>∃ o,h.get? a=some o/\o.cls=.ref C
theorem Inv.NU {σ:St} (I:Inv X aa σ H s) (h:H a=some (xb C a)):∃ o,s.heap.get? a=some o/\o.cls=.ref C:=(I.aq a _ h).1
theorem xH (hK:X.K=K) (si:∀ h:Heap,K.In h->∃ dd cd sl,h.get? C'=some { cls:=.type "type",dict:=dd,data:=.cls cd,slots:=sl }) :
  eN X (.builtin "isinstance") (λxs H Q=>∃ a C bm,xs = [.ref a,.ref C']/\H a=some (xb C a)/\(∀ h:Heap,K.In h->i4 h C bm)/\Q (.bl ((Value.ref C::bm).contains (.ref C'))) H):=by
 subst hK
 intro aa s σ H xs us Q I r h
 obtain ⟨a,C,bm,rfl,hH,hE,q⟩:=h
 obtain ⟨u,t,rfl,rx,rt⟩:=nR r
 cases rx
 cases rt
 obtain ⟨o,ho,hc⟩:=I.NU hH
 obtain ⟨dd,cd,sl,h2⟩:=si _ I.oa
 obtain ⟨hh,g,d,tk,os⟩:=s
 exact aF2 (hE _ I.oa) ho hc h2 λt'=>⟨.bl _,H,I.tok _,rfl,q⟩
theorem zT (hK:X.K=K) :
  eN X (.builtin "isinstance") (λxs H Q=>∃ a C bm,xs = [.ref a,.ty "ValueError"]/\H a=some (xb C a)/\(∀ h:Heap,K.In h->i4 h C bm)/\Q (.bl true) H):=by
 subst hK
 intro aa s σ H xs us Q I r h
 obtain ⟨a,C,bm,rfl,hH,hE,q⟩:=h
 obtain ⟨u,t,rfl,rx,rt⟩:=nR r
 cases rx
 cases rt
 obtain ⟨o,ho,hc⟩:=I.NU hH
 obtain ⟨hh,g,d,tk,os⟩:=s
 exact k! (hE _ I.oa) ho hc λt'=>⟨.bl _,H,I.tok _,rfl,q⟩
def j? (C:Addr) (E:XK):TS:=λ_ _ H=>E (.ref C) none H
theorem sX {txt:Str} {np:Pos} {k:Nat} {E:XK} (Fb:∀ h:Heap,X.K.In h->i4 h C bm) (hg:Gl X x) (hm:X.mg x=some (.ref C)) (hc:X.calm=true) (hR:∀ (aa:List (Addr×Obj)) (σ:St) (H:Hp) (s:Shared) (h':Heap) (a:Addr) (vs:List Value),Inv X aa σ H s->Heap.MadeExcOf s.heap h' a (.ref C) vs->E (.ref C) none H->X.xe (.ref a) { s with heap:=h' }) (j9:(x==("__debug__" : Str))=false:=by decide) :
  PS X (.Raise (some (.Call (.Name x np) [.Constant (.str txt) k p2] [] dc)) none pos) (j? C E):=by
 intro aa s σ H D I h
 obtain ⟨N,nm,q,bs,hdct,sn,sub,ab,col,dd,k0,k1,k2,k3,k5,mN,hC,hN,hq,T⟩:=Fb _ I.ok.mod.Bt
 refine wpAny_Raise_call_subU (C:=C) (nm:=nm) (q:=q) (N:=N) (bs:=bs) (bm:=bm) (hdct:=hdct) (sn:=sn) (sub:=sub) (ab:=ab) (col:=col) (dd:=dd) (k0:=k0) (k1:=k1) (k2:=k2) (k3:=k3) (k5:=k5) (mN:=mN)
  PySem.F.excBase_ValueError (by decide +kernel) PySem.F.excBase_ValueError (T.tail.hasType (by decide +kernel)) (I.ok.hd hc) rfl (hq _ (.head _)) ?_
 refine mZ I hg hm ⟨rfl,?_⟩ j9
 have ha:PA X [.Constant (.str txt) k p2] (lW (tC (.str txt)) rK):=aA gD aD
 refine Calls.evalArgs_plain (Rp (ha dc aa s σ H (λxs H1=>xs.length=1/\E (.ref C) none H1) I ⟨rfl,h⟩) (λvs ip au=>?_) λ_ _ y=>y)
 obtain ⟨xs,H1,I1,r,z1,z⟩:=au
 have yk:∀ b o,X.base.get? b=some o->ip.heap.get? b=some o:=I1.bk
 have hl:=r.length
 refine ⟨rfl,?_,yk _ _ hC,hN.keeps yk,T.tail.keeps yk,λh' a' m=>hR aa σ H1 ip h' a' _ I1 m z⟩
 show vs.length<=_
 rw [Rg]
 omega
section
variable {l:List Env} {E:XK} {T:Addr}
theorem zU {bs:Heap} (un:Un (c_ l) [] H H' s.heap s'.heap) (os:s'.os=s.os) (bare:AllBare s'.gens) (aq:fw P w H' s'.heap) (na:s.heap.get? a=none) (nT:s.heap.get? T=none) (jr:H' a=none) (wc:H' T=none) (hE:E (.ref C) none H') (hb:bs=Rw s'.heap (a::T::c_ l)) (hl:s'.heap.FunFrames bs l) (we:∀ b∈c_ l,H' b=none) (x:Heap.Left bs l a (.ref C) s'.heap h'):bx P w l H s E (.ref a) { s' with heap:=h' }:=by
 obtain ⟨k1,k2,T',fl,UI,BL⟩:=sV hb hl x (by simp)
 have nh:∀ b o,s.heap.get? b=some o->b∉c_ l->b∉a::T::c_ l:=λb o e nb z=>by
  rcases Qj.mp z with q | z
  ·rw [q,na] at e; cases e
  rcases Qj.mp z with q | z
  ·rw [q,nT] at e; cases e
  ·exact nb z
 have um:∀ b u,H' b=some u->b∉a::T::c_ l:=λb u e z=>by
  rcases Qj.mp z with q | z
  ·rw [q,jr] at e; cases e
  rcases Qj.mp z with q | z
  ·rw [q,wc] at e; cases e
  ·rw [we b z] at e; cases e
 have T0:s.heap.get? T'=none/\H' T'=none:=by
  rcases BL with z | z
  ·rcases Qj.mp z with q | z
   ·rw [q]; exact ⟨na,jr⟩
   rcases Qj.mp z with q | z
   ·rw [q]; exact ⟨nT,wc⟩
   ·exact absurd z UI
  ·refine ⟨?_,?_⟩
   ·cases q:s.heap.get? T' with
    | none=>rfl
    | some o =>
     obtain ⟨o',e⟩:=un.there T' o q (by simp)
     rw [z] at e; cases e
   ·cases q:H' T' with
    | none=>rfl
    | some u =>
     obtain ⟨o',e⟩:=(aq T' u q).ko
     rw [show s'.heap.get? T'=none from z] at e; cases e
 refine ⟨a,T',C,H',rfl,os,bare,⟨λb o e n nb _=>?_,λb o e n e_ _=>?_,un.free,λb o e _=>?_,un.gq,un.fj,un.gr⟩,λb u e=>?_,fl,na,T0.1,jr,T0.2,hE⟩
 ·exact k1 b o (nh b o e nb) (un.keep b o e n nb (by simp))
 ·obtain ⟨sl,q⟩:=un.slot b o e n e_ (by simp)
  obtain ⟨zt,q'⟩:=k2 b _ e_ q
  exact ⟨zt,q'⟩
 ·obtain ⟨o',q⟩:=un.there b o e (by simp)
  by_cases e_:b∈c_ l
  ·obtain ⟨sl,q'⟩:=k2 b _ e_ q
   exact ⟨_,q'⟩
  ·exact ⟨o',k1 b o' (nh b o e e_) q⟩
 ·refine (aq b u e).cu (λc v hc q=>k1 c v ?_ q) (λ_ q=>q) λ_ _ q=>q
  rcases hc with z | z
  ·rw [z]; exact um b u e
  ·exact um c _ z
theorem FG.ug {bs:Heap} {cls:Value} (fl:FG h a cls T) (hT:bs.get? T=none):∃ a0,h.TracedW bs a cls a0:=by
 obtain ⟨oe,vs,oT,ts,e1,e2,e3,e4,e6,e7,e8,e9⟩:=fl
 have hs:1 < vs.size:=(Array.getElem?_eq_some_iff.mp e4).1
 exact ⟨vs[0]'(by omega),oe,vs,T,oT,ts,e1,⟨e2,Array.getElem?_eq_getElem _⟩,e3,e4,hT,e6,e7,e8,e9⟩
end
section
variable {σ:St} {E:XK} {e:Value} {F:Value->Shared->Prop} {L:Addr}
theorem Inv.n9 (I:Inv X aa σ H s) (h:bx X.prog X.w X.stack H s E e s'):∃ (a C:Addr) (H':Hp),e=.ref a/\Inv X aa σ H' s'/\s.heap.get? a=none/\H' a=none/\E (.ref C) none H'/\∃ o,s'.heap.get? a=some o/\o.cls=.ref C:=by
 obtain ⟨a,T,C,H',rfl,os,bare,un,aq,⟨oe,vs,oT,ts,e1,e2,_⟩,na,nT,jr,wc,hE⟩:=h
 exact ⟨a,C,H',rfl,I.l_ (ch:=[]) os un aq bare (λb z=>absurd z (by simp)),na,jr,hE,oe,e1,e2⟩
theorem aEp (gh:X.stack=X.env::X.outer) (hf:X.env.frame=some L) (Hf:A.frames=some X.stack) (I:Inv X aa σ H s) (h:bx X.prog X.w X.stack H s E e s') :
  wpAny M A (noteFrame e X.env) (λ_ s2=>wpAny M A (setFlight e none) (λ_ s3=>bx X.prog X.w X.stack H s E e s3) F s2) F s':=by
 obtain ⟨a,T,C,H',rfl,os,bare,un,aq,fl,na,nT,jr,wc,hE⟩:=h
 have I3:Inv X aa σ H' s':=I.l_ (ch:=[]) os un aq bare (λb z=>absurd z (by simp))
 have hl:s'.heap.FunFrames (Rw s'.heap (a::T::c_ X.stack)) X.stack :=
  gQ I3.stack λL hL=>Ru _ (Ql _ (Ql _ hL))
 obtain ⟨a0,tr⟩:=fl.ug (bs:=Rw s'.heap (a::T::c_ X.stack)) (Ru _ (by simp))
 have fin:=λ(h':Heap)=>zU (P:=X.prog) (w:=X.w) (h':=h') un os bare aq na nT jr wc hE rfl hl I3.gy
 generalize u3:Rw s'.heap (a::T::c_ X.stack)=bs at *
 have kb:bs.StaysIn s'.heap:=λb o q=>by rw [<- u3] at q; exact Ur _ q
 have en:bs.get? a=none:=by rw [<- u3]; exact Ru _ (by simp)
 have oq:=hl
 rw [gh] at oq
 refine wpAny_looks_onW (base:=bs) (outer:=X.outer) (by rw [<- gh]; exact Hf) hf ⟨kb,en,oq,tr⟩ λh1 held up1=>?_
 refine wpAny_landsW held λh2 W4 Sz=>?_
 obtain ⟨f1,f2,f3,f4⟩:=W4.flying
 exact fin h2 ⟨f1,by rw [gh]; exact f3,f4,up1.trans Sz⟩
theorem aF3 (I:Inv X aa σ H s) (h:bx X.prog X.w X.stack H s E e s'):wpAny M A (setFlight e none) (λ_ s3=>bx X.prog X.w X.stack H s E e s3) F s':=by
 obtain ⟨a,T,C,H',rfl,os,bare,un,aq,fl,na,nT,jr,wc,hE⟩:=h
 have I3:Inv X aa σ H' s':=I.l_ (ch:=[]) os un aq bare (λb z=>absurd z (by simp))
 have hl:s'.heap.FunFrames (Rw s'.heap (a::T::c_ X.stack)) X.stack :=
  gQ I3.stack λL hL=>Ru _ (Ql _ (Ql _ hL))
 obtain ⟨a0,tr⟩:=fl.ug (bs:=Rw s'.heap (a::T::c_ X.stack)) (Ru _ (by simp))
 have fin:=λ(h':Heap)=>zU (P:=X.prog) (w:=X.w) (h':=h') un os bare aq na nT jr wc hE rfl hl I3.gy
 generalize u3:Rw s'.heap (a::T::c_ X.stack)=bs at *
 have kb:bs.StaysIn s'.heap:=λb o q=>by rw [<- u3] at q; exact Ur _ q
 refine wpAny_setFlight_noneW kb hl tr.at λh1 k1 k2 k3 k4=>fin h1 ⟨k1,k2,?_,λb o q n=>⟨o.slots,k4 b o q n⟩⟩
 obtain ⟨oe,vs,T,oT,ts,he,hc,r⟩:=k3
 exact ⟨oe,vs,T,oT,ts,he,hc.1,r⟩
theorem Inv.A9 {D:Addr} {u:HO} (I:Inv X aa σ H s) (new:bM X.prog X.w (upd H D u) s.heap D u) (hn:H D=none) (hL:D≠X.env.locals)
  (h1:X.gb.heap.get? D=none) (h2:∀ x c,X.env.cells.lookup x=some c->c≠D) (h3:∀ p∈X.pn++aa,p.1≠D):Inv X aa σ (upd H D u) s:=by
 have ne:∀ b v,H b=some v->b≠D:=λb v e z=>by rw [z,hn] at e; cases e
 refine ⟨I.ok,I.os,I.bare,⟨I.base.keep,I.base.slot,λb o q n hx=>?_,I.base.there,λb xs q=>?_,λb o v q=>?_,λb ps q=>?_⟩,I.loc,I.cell,?_,λx c q=>?_,λp hp=>?_,λb v q=>?_,I.len⟩
 ·rw [aK (λz=>by rw [z,h1] at q; cases q)]; exact I.base.free b o q n hx
 ·have:=I.base.gq b xs q
  rw [aK (ne b _ this)]; exact this
 ·have:=I.base.fj b o v q
  rw [aK (ne b _ this)]; exact this
 ·obtain ⟨more,this⟩:=I.base.gr b ps q
  exact ⟨more,by rw [aK (ne b _ this)]; exact this⟩
 ·rw [aK (Ne.symm hL)]; exact I.free
 ·rw [aK (h2 x c q)]; exact I.cp x c q
 ·obtain ⟨p1,p2,p3⟩:=I.pin p hp
  exact ⟨p1,by rw [aK (h3 p hp)]; exact p2,p3⟩
 ·by_cases hb:b=D
  ·subst hb
   rw [aB] at q; cases q
   exact new
  ·rw [aK hb] at q
   exact (I.aq b v q).cu (λc v _ q=>q) (λc q=>by rw [aK (ne c _ q)]; exact q) λc xs q=>by rw [aK (ne c _ q)]; exact q
theorem aF4 {Q:Unit->Shared->Prop} (I:Inv X aa σ H s) (hN:X.N.Nodup) (hi:X.N[i]?=some x) (hk:X.env.scope.names.lookup x=some .local) (h:∀ s',Inv X aa (σ.set i none) H s'->Q () s'):wpAny M A (do bindName X.env x .none; unbindBehindTheSuite X.env x pos) Q F s:=by
 obtain ⟨m,hn,hl⟩:=id I.loc
 have A6:(X.env.scope.kind==.class || (X.env.scope.kind==.module && X.env.locals !=X.env.globals))=false:=by rw [I.ok.kind]; rfl
 have xp:i < σ.length:=by rw [I.len]; exact (Qd.mp hi).1
 have sk:=I.sk
 obtain ⟨oL,_,_,jv,_⟩:=id hn
 refine wpAny_nameGoes_keeps hk hn A6 λh' v G2 hs=>?_
 refine h _ ⟨I.ok,I.os,I.bare,⟨λb o e n hb hx=>?_,λb o e n hb hx=>?_,I.base.free,λb o e hx=>?_,I.base.gq,I.base.fj,I.base.gr⟩,⟨_,G2,λj y v' e1 e2 e3=>?_⟩,λy c e=>?_,I.free,I.cp,λp hp=>?_,λb ob e=>?_,by simpa using I.len⟩
 ·exact (hs.2 b (Qt (Qr (Qo e) I.ok.above))).trans (I.base.keep b o e n hb hx)
 ·obtain ⟨sl,e1⟩:=I.base.slot b o e n hb hx
  exact ⟨sl,(hs.2 b (Qt (Qr (Qo e) I.ok.above))).trans e1⟩
 ·obtain ⟨o',e1⟩:=I.base.there b o e hx
  exact ⟨o',(hs.2 b (Qt (Qr (Qo e) I.ok.above))).trans e1⟩
 ·by_cases hj:j=i
  ·subst hj
   rw [Zi xp] at e2
   cases e2
  ·rw [Zp (Ne.symm hj)] at e2
   obtain ⟨u',r',q⟩:=hl j y v' e1 e2 e3
   refine ⟨u',r',?_⟩
   rcases q with ⟨k,e⟩ | ⟨k,c,e,z⟩
   ·refine .inl ⟨k,?_⟩
    have:y≠x:=λe=>hj (sH hN e1 (e ▸ hi))
    simp [this,e]
   ·exact .inr ⟨k,c,e,z.sameBut hs (sk _ _ e)⟩
 ·obtain ⟨v',z⟩:=I.cell y c e
  exact ⟨v',z.sameBut hs (sk _ _ e)⟩
 ·obtain ⟨p1,p2,p3,p4⟩:=I.pin p hp
  exact ⟨(hs.2 _ p3).trans p1,p2,p3,p4⟩
 ·refine (I.aq b ob e).cu (λc w' hc q=>(hs.2 c ?_).trans q) (λ_ q=>q) λ_ _ q=>q
  rintro rfl
  rcases hc with z | hc
  ·rw [<- z,I.free] at e; cases e
  ·rw [I.free] at hc; cases hc
end
section
variable {g:Array GenState} {d:Drawn} {t:Nat} {oe:Obj} {Fi:List Value}
theorem Z1 {Q:Bool->Shared->Prop} (x:i4 h C bm) (x':i4 h C' Fi) (he:h.get? a=some oe) (hc:oe.cls=.ref C) (hb:(Value.ref C::bm).contains (.ref C')=true)
  (hq:Q true ⟨h,g,d,t,os⟩):wpAny M A (excMatches (.ref a) (.ref C')) Q E ⟨h,g,d,t,os⟩:=by
 have CQ:(Value.ref C'::Fi).contains (.type "BaseException")=true:=x'.has (by decide +kernel)
 have f:=tc_notTuple
 obtain ⟨N,nm,q,bs,hdct,sn,sub,ab,col,dd,k0,k1,k2,k3,k5,mN,si,_⟩:=id x'
 unfold excMatches
 repeat (first | (with_reducible refine Rt he ?_; rw [hc]) | with_reducible refine Rt si ?_ | (with_reducible refine sW x' ?_; rw [CQ]) | (with_reducible refine sW x ?_; rw [hb]) | wp_step)
 exact hq
end
abbrev TB:=Ends->XK->St->Hp->Prop
def FX (X:Cx) (aa:List (Addr×Obj)) (σ:St) (EX:XK) (e:Value) (s':Shared):Prop:=∃ (H0:Hp) (s1:Shared),Inv X aa σ H0 s1/\bx X.prog X.w X.stack H0 s1 EX e s'
def PB (X:Cx) (st:List Stmt) (t:TB):Prop :=
 ∀ (aa:List (Addr×Obj)) (s:Shared) (σ:St) (H:Hp) (D:Ends) (EX:XK),Inv X aa σ H s->t D EX σ H->wpAny (model X.prog X.w) X.A (execs st X.env) (SP X aa D) (FX X aa σ EX) s
section
variable {k:Nat} {j_:List V} {ds:List Value} {t:TA}
theorem aF5 {σ:St} {Q:VK} {EX:XK} (F:af X.prog X.w X.K X.mg X.base (bx X.prog X.w) k f fd ps sp) (hr:ay k X.A) (hg:Gl X x) (hm:X.mg x=some (.ref f)) (hk:Tt X.K (.ref f)=true) (hb:oU X.K fd ps ds) (hd:bR j_ ds) (ha:PA X.vd (e::es) t) (j9:(x==("__debug__" : Str))=false) (he:starEach (e::es) X.env=(false,eval e X.env)::starEach es X.env) (iq:(backTo pos (starEach es X.env)).any (·.1)=false) (I:Inv X aa σ H s) (h:vM sp j_ EX t σ H Q):wpAny (model X.prog X.w) X.A (eval (.Call (.Name x p) (e::es) [] pos) X.env) (EP X aa σ Q) (FX X aa σ EX) s:=by
 refine Tq (mZ I hg hm ?_ j9)
 refine Rah (h₀:=X.base) I.ok.mod.Bt hk (Rp (ha pos aa s σ H _ (I.jc _) h) (λus s1 ⟨vs,H1,R9,r,q⟩=>⟨R9.oa,?_⟩) λ_ _ z=>False.elim z) he iq
 have I1:Inv X aa σ H1 s1:=R9.d_
 have r2:bR (vs++j_) (us++ds):=r.append hd
 have hl:(us++ds).length=ps.length:=by rw [<- r2.length]; exact F.len _ _ _ _ q
 refine Me (Ui (F.run X.A X.stack s1 H1 ⟨us,[]⟩ (us++ds) (vs++j_) Q EX hr I1.DZ (hb s1 us I1.oa hl) r2 q) λr s' hq=>?_)
 cases r with
 | error e=>exact ⟨H1,s1,I1,hq⟩
 | ok fl =>
  cases fl with
  | ret u=>exact I1.after hq
  | next=>exact False.elim hq
  | brk=>exact False.elim hq
  | cont=>exact False.elim hq
def j! (sp:Sp) (j_:List V) (t:TA):TB:=λD EX σ H=>vM sp j_ EX t σ H λ_ H2=>D.nx σ H2
theorem aF6 (F:af X.prog X.w X.K X.mg X.base (bx X.prog X.w) k f fd ps sp) (hr:ay k X.A) (hg:Gl X x) (hm:X.mg x=some (.ref f)) (hk:Tt X.K (.ref f)=true) (hb:oU X.K fd ps ds) (hd:bR j_ ds) (ha:PA X.vd (e::es) t) (j9:(x==("__debug__" : Str))=false:=by decide) (he:starEach (e::es) X.env=(false,eval e X.env)::starEach es X.env:=by rfl) (iq:(backTo pos (starEach es X.env)).any (·.1)=false:=by rfl) (hs:swapsWith (.Call (.Name x p) (e::es) [] pos) none pos'.line X.env=pure false:=by rfl):PB X [.Expr (.Call (.Name x p) (e::es) [] pos) pos'] (j! sp j_ t):=by
 intro aa s σ H D EX I h
 refine Ms (wpAny_Expr_any (bf (aF5 F hr hg hm hk hb hd ha j9 he iq I h) λv s1 au=>?_) I.quiet hs)
 obtain ⟨x,H1,I1,r1,q1⟩:=au
 exact Vb ⟨σ,H1,I1,q1⟩
def YF (X:Cx) (C':Addr) (i j:Nat) (tb:TB):TS:=λD σ H=>tb D (λcls _ H2=>∃ C bm,cls=.ref C/\(∀ h:Heap,X.K.In h->i4 h C bm)/\(Value.ref C::bm).contains (.ref C')=true/\∀ a,H2 a=none->D.nx ((σ.set i (some (.ref a))).set j none) (upd H2 a (xb C a))) σ H
theorem i? {st:List Stmt} {tb:TB} {dn en cn:Str} {p4 p5 p6:Pos} {L:Addr} {Fi:List Value} (hb:PB X st tb) (gh:X.stack=X.env::X.outer) (hf:X.env.frame=some L) (hex:X.ex = []) (hg:Gl X dn) (hm:X.mg dn=some (.ref C')) (si:∀ h:Heap,X.K.In h->i4 h C' Fi) (hN:X.N.Nodup) (hi:X.N[i]?=some cn) (hj:X.N[j]?=some en) (An:i≠j) (G7:X.env.scope.names.lookup cn=some .local) (hle:X.env.scope.names.lookup en=some .local) (j9:(dn==("__debug__" : Str))=false:=by decide) (hd2:(en==("__debug__" : Str))=false:=by decide) (jm:(en==("__classdict__" : Str))=false:=by decide) (hs:swapsWith (.Name en p3) (some (.Name cn p2)) p4.line X.env=pure false:=by rfl) :
  PS X (.Try st [.ExceptHandler (some (.Name dn p1)) (some en) [.Assign [.Name cn p2] (.Name en p3) p4] p5] [] [] p6) (YF X C' i j tb):=by
 intro aa s σ H D I h
 refine wpAny_Try_except (Rp (hb aa s σ H D _ I h) (λf s1 q=>?_) λe s1 q=>?_)
 ·cases f with
  | next=>exact Vb q
  | ret v=>exact q
  | brk=>exact q
  | cont=>exact q
 obtain ⟨H0,s0,I0,q⟩:=q
 refine Rp (aEp (F:=X.xe) gh hf I.ok.frames I0 q) (λ_ s2 q2=>Rp q2 (λ_ s3 q3=>?_) λ_ _ z=>z) λ_ _ z=>z
 obtain ⟨a,_,_,rfl,_⟩:=I0.n9 q3
 -- the clause is looked at with the exception held
 have TH:({ X with A:=X.A.mark (some (.ref a)),calm:=false,xe:=λ_ _=>False }:Cx).Ok :=
  ⟨I.ok.mod,I.ok.kind,I.ok.glob,I.ok.blt,I.ok.above,I.ok.inj,I.ok.has,I.ok.yw,λz=>Bool.noConfusion (show false=true from z),I.ok.frames,I.ok.Ca,I.ok.C8,I.ok.bs,I.ok.yx,I.ok.ke,I.ok.t9,I.ok.i5,I.ok.we⟩
 have Lc:∀ {ao:St} {H':Hp} {s':Shared},Inv X aa ao H' s'->Inv { X with A:=X.A.mark (some (.ref a)),calm:=false,xe:=λ_ _=>False } aa ao H' s':=λJ=>⟨TH,J.os,J.bare,J.base,J.loc,J.cell,J.free,J.cp,J.pin,J.aq,J.len⟩
 have TK:∀ {ao:St} {H':Hp} {s':Shared},Inv { X with A:=X.A.mark (some (.ref a)),calm:=false,xe:=λ_ _=>False } aa ao H' s'->Inv X aa ao H' s':=λJ=>⟨I.ok,J.os,J.bare,J.base,J.loc,J.cell,J.free,J.cp,J.pin,J.aq,J.len⟩
 refine wpAny_handleBy_cons (codeAny_handlers_test ?_) (by intro q; cases q)
 obtain ⟨a',C,H3,ea,I3,na,jr,⟨C1,bm,eC,Fb,DW,_⟩,o,ho,hc⟩:=I0.n9 q3
 cases ea
 cases eC
 refine mZ (X:={ X with A:=X.A.mark (some (.ref a)),calm:=false,xe:=λ_ _=>False }) (Lc I3) hg hm ?_ j9
 obtain ⟨hh,gg,dd,tt,oo⟩:=s3
 refine Z1 (Fb _ I3.oa) (si _ I3.oa) ho hc DW ?_
 show codeAny _ _ _ _ _
 refine codeAny_handlers_suite_as ?_
 refine Rp (aF3 (F:=λ_ _=>False) I0 q3) (λ_ s4 q4=>?_) λ_ _ z=>False.elim z
 obtain ⟨a',C,H4,ea,I4,na,jr,⟨C1,bm,eC,Fb,DW,VC⟩,o,ho,hc⟩:=I0.n9 q4
 cases ea
 cases eC
 have old:∀ b o,s0.heap.get? b=some o->b≠a:=λb o e z=>by rw [z,na] at e; cases e
 have I5:Inv X aa σ (upd H4 a (xb C a)) s4:=by
  refine I4.A9 ⟨⟨o,ho,hc⟩,⟨o,ho⟩,λh1 h2 ⟨o1,e1,c1⟩ k=>⟨o1,k o1 e1,c1⟩⟩ jr ?_ ?_ (λy c e=>?_) λp hp=>?_
  ·obtain ⟨m,⟨oL,_,_,jv,_⟩,_⟩:=I0.loc
   exact Ne.symm (old _ _ jv)
  ·cases z:X.gb.heap.get? a with
   | none=>rfl
   | some o' =>
    obtain ⟨o2,e⟩:=I0.base.there a o' z (by rw [hex]; simp)
    exact absurd rfl (old _ _ e)
  ·obtain ⟨v,oc,om,_⟩:=I0.cell y c e
   exact old _ _ om
  ·exact old _ _ (I0.pin p hp).1
 refine pX (i:=j) (v:=.ref a) I5 hN hj (.inl hle) rfl (λs5 I6 _=>?_) (.inr hle)
 have P1:kc { X with A:=X.A.mark (some (.ref a)),calm:=false,xe:=λ_ _=>False } [.Assign [.Name cn p2] (.Name en p3) p4] (lT (jB j) (eY i)):=aJ (aT hN hi (.inl G7) (PR hj (.inl hle) hd2 jm) hs (.inr G7))
 have jl:j < σ.length:=by rw [I4.len]; exact (Qd.mp hj).1
 refine Rp (P1 aa s5 _ _ { nx:=λao H'=>ao=(σ.set j (some (.ref a))).set i (some (.ref a))/\H'=upd H4 a (xb C a),rt:=λ_ _=>False } (Lc I6) ⟨.ref a,Zi jl,rfl,rfl⟩) (λfl s6 q6=>?_) λ_ _ z=>False.elim z
 cases fl with
 | next =>
  obtain ⟨ao,H',I7,rfl,rfl⟩:=q6
  refine aF4 (TK I7) hN hj hle λs8 I8=>⟨_,_,I8,?_⟩
  have:=VC a jr
  rw [List.set_comm _ _ An.symm,List.set_set]
  exact this
 | ret v=>obtain ⟨_,_,_,_,_,z⟩:=q6; exact z.elim
 | brk=>obtain ⟨_,_,_,z⟩:=q6; exact z.elim
 | cont=>obtain ⟨_,_,_,z⟩:=q6; exact z.elim
end
theorem vY {bs:List Bool}:∀ {us:List Value},bR (bs.map V.bl) us->us=bs.map Value.bool:=by
 induction bs with
 | nil=>intro us r; rw [Yz] at r; cases r; rfl
 | cons b bs ih =>
  intro us r
  rw [Qv] at r
  cases r with
  | cons r1 r2 =>
   have e:_=Value.bool b:=r1
   rw [Qv,<- ih r2,e]
theorem zV {bs:List Bool} {k:Bool} {y:Value} (hy:y∈bs.map Value.bool) (A:Around) (s:Shared):SeqAt.EqAt A s y (.bool k) (isBoolOf k y):=by
 obtain ⟨b,_,rfl⟩:=Qx.mp hy
 exact SeqAt.EqAt.bool_bool b k
theorem aBa (hK:X.K=K):AF X "list.count" (λx vs H Q=>∃ (a:Addr) (bs:List Bool) (k:Bool),x=.ref a/\vs = [.bl k]/\ak K H a (bs.map V.bl)/\Q (.int (bs.count k:Nat)) H):=by
 subst hK
 intro aa s σ H x xs v us Q I rx r h
 obtain ⟨a,bs,k,rfl,rfl,ha,q⟩:=h
 obtain ⟨u,rfl,e⟩:=gM r
 cases e
 cases rx
 obtain ⟨ae,rv,⟨⟨cls,dd,data,sl⟩,n,ho,hc,V2,hd⟩,pk⟩:=I.list ha
 simp only at hc hd
 subst hc hd
 obtain rfl:=vY rv
 refine Ti Mp ⟨_,ho,rfl⟩ PySem.F.entry_list_count (PySem.F.args_list_count_2 _ _) (SeqAt.list_countAt a (bs.map Value.bool).toArray n dd sl (.bool k) (isBoolOf k)) ⟨ho,λy hy=>zV (by simpa using hy) _ _,?_⟩
 have e:((bs.map Value.bool).toArray.toList.countP (isBoolOf k))=bs.count k:=by
  rw [Wj,List.countP_map]
  rfl
 rw [e]
 exact ⟨.int _,H,I.tok _,⟨_,rfl⟩,q⟩
theorem aBb (hK:X.K=K):AF X "list.index" (λx vs H Q=>∃ (a:Addr) (bs:List Bool) (k:Bool) (j:Nat),x=.ref a/\vs = [.bl k]/\ak K H a (bs.map V.bl)/\bs[j]?=some k/\(∀ m,m < j->bs[m]?≠some k)/\Q (.int (j:Nat)) H):=by
 subst hK
 intro aa s σ H x xs v us Q I rx r h
 obtain ⟨a,bs,k,j,rfl,rfl,ha,hj,h_,q⟩:=h
 obtain ⟨u,rfl,e⟩:=gM r
 cases e
 cases rx
 obtain ⟨ae,rv,⟨⟨cls,dd,data,sl⟩,n,ho,hc,V2,hd⟩,pk⟩:=I.list ha
 simp only at hc hd
 subst hc hd
 obtain rfl:=vY rv
 have yl:j < bs.length:=(Qd.mp hj).1
 have Gs:bs.length<=sizeLine:=by rw [Qc] at pk; exact pk
 have val:∀ m (hm:m < (bs.map Value.bool).toArray.size),isBoolOf k (bs.map Value.bool).toArray[m]=decide (bs[m]?=some k):=λm hm=>by
  have VH:m < bs.length:=by simpa using hm
  have e:(bs.map Value.bool).toArray[m]=Value.bool bs[m]:=by simp
  rw [e,Qb VH]
  unfold isBoolOf
  by_cases z:bs[m]=k
  ·simp [z]
  ·simp [z]
 refine Ti Mq ⟨_,ho,rfl⟩ PySem.F.entry_list_index (PySem.F.args_list_index_2 _ _) (SeqAt.list_indexAt a (bs.map Value.bool).toArray n dd sl (.bool k) (isBoolOf k) j (by simp; omega) (by rw [Rg] at Gs; omega) ?_ ?_) ⟨ho,λy hy=>zV (by simpa using hy) _ _,?_⟩
 ·rw [val,hj]; simp
 ·intro m hm ax
  rw [val]
  exact decide_eq_false (h_ m ax)
 ·exact ⟨.int _,H,I.tok _,⟨_,rfl⟩,q⟩
structure jo (X:Cx) (e:Expr) (t:TE):Prop where
 go:PE X e t
structure Dl (X:Cx) (es:List Expr) (t:TA):Prop where
 go:PA X es t
structure sr (X:Cx) (st:Stmt) (t:TS):Prop where
 go:PS X st t
structure ff (X:Cx) (Bj:List Stmt) (t:TS):Prop where
 go:kc X Bj t
section
variable {a b:Expr} {tb:TE} {t:TA} {gC:List Stmt} {ts us:TS}
theorem bQ:Dl X [] rK:=⟨aD⟩
theorem aO (h:jo X e te) (r:Dl X es t) (hs:starEach (e::es) X.env=(false,eval e X.env)::starEach es X.env):Dl X (e::es) (lW te t):=⟨aA h.go r.go hs⟩
theorem bW {i j}:jo X (.Constant (.int i) j pos) (tC (.int i)):=⟨aI⟩
theorem iC {x j}:jo X (.Constant (.str x) j pos) (tC (.str x)):=⟨gD⟩
theorem fX {k} (h:Dl X es t):jo X (.Tuple es k pos) (Df t):=⟨cL h.go⟩
theorem dX (h:Dl X es t):jo X (.List es pos) (AB t):=⟨cP h.go⟩
theorem sY {op:Operator} (ho:dr X (binaryOp op) r) (ha:jo X a ta) (hb:jo X b tb):jo X (.BinOp a op b pos) (iy r ta tb):=⟨bE ho ha.go hb.go⟩
theorem eQ (h:sr X st ts):ff X [st] ts:=⟨aJ h.go⟩
theorem bI (h:sr X st ts) (r:ff X gC us):ff X (st::gC) (yU ts us):=⟨aG h.go r.go⟩
theorem jY (hN:X.N.Nodup) (hi:X.N[i]?=some x) (hx:Loc X.env.scope x) (he:jo X e te) (hs:swapsWith e (some (.Name x pos')) pos.line X.env=pure false:=by rfl) (hf:X.fn x=true∨X.env.scope.names.lookup x=some .local:=by first | exact .inl rfl | exact .inr rfl | assumption) :
  sr X (.Assign [.Name x pos'] e pos) (lT te (eY i)):=⟨aT hN hi hx he.go hs hf⟩
end
def SQ (K:Rc) (Z:List Addr) (S:St->Prop) (d:PyData):TE:=λσ H Q=>S σ/\Fx Z H/\∀ v H',aE H H'->Den K (Vw Z H') d v->Q v H'
def SR (K:Rc) (Z:List Addr) (S:St->Prop) (ds:List PyData):TA:=λσ H Q=>S σ/\Fx Z H/\∀ vs H',aE H H'->aZ K (Vw Z H') ds vs->Q vs H'
structure Dt (X:Cx) (K:Rc) (Z:List Addr) (S:St->Prop) (e:Expr) (d:PyData):Prop where
 go:PE X e (SQ K Z S d)
structure DA (X:Cx) (K:Rc) (Z:List Addr) (S:St->Prop) (es:List Expr) (ds:List PyData):Prop where
 go:PA X es (SR K Z S ds)
section
variable {S:St->Prop} {a b:Expr}
theorem PE.imp {t t':TE} (h:PE X e t) (q:∀ σ H Q,t' σ H Q->t σ H Q):PE X e t':=λaa s σ H Q I z=>h aa s σ H Q I (q σ H Q z)
theorem PA.imp {t t':TA} (h:PA X es t) (q:∀ σ H Q,t' σ H Q->t σ H Q):PA X es t':=λpos aa s σ H Q I z=>h pos aa s σ H Q I (q σ H Q z)
theorem aN:DA X K Z S [] []:=⟨aD.imp λσ H Q h=>h.2.2 [] H (aE.refl H) (aW.mpr rfl)⟩
theorem aC (h:Dt X K Z S e d) (r:DA X K Z S es ds) (hs:starEach (e::es) X.env=(false,eval e X.env)::starEach es X.env):DA X K Z S (e::es) (d::ds) :=
 ⟨(aA h.go r.go hs).imp λσ H Q h=>⟨h.1,h.2.1,λv H1 s1 hd=>⟨h.1,h.2.1.same s1,λvs H2 s2 fq=>h.2.2 (v::vs) H2 (s1.trans s2) (aS.mpr ⟨v,vs,rfl,(Vw.same s2).den _ _ hd,fq⟩)⟩⟩⟩
theorem aU {i j}:Dt X K Z S (.Constant (.int i) j pos) (.int i):=⟨aI.imp λσ H Q h=>h.2.2 _ H (aE.refl H) (cI.mpr rfl)⟩
theorem IU {i j}:Dt X K Z S (.Constant (.bool i) j pos) (.bool i):=⟨eX.imp λσ H Q h=>h.2.2 _ H (aE.refl H) (oZ.mpr rfl)⟩
theorem qI {j}:Dt X K Z S (.Constant .none j pos) .none:=⟨oC.imp λσ H Q h=>h.2.2 _ H (aE.refl H) (mF.mpr rfl)⟩
theorem mJ {x j}:Dt X K Z S (.Constant (.str x) j pos) (.str x):=⟨gD.imp λσ H Q h=>h.2.2 _ H (aE.refl H) (lC.mpr rfl)⟩
theorem xI {i j p}:Dt X K Z S (.UnaryOp .USub (.Constant (.int i) j p) pos) (.int (-i)):=⟨(sK oF aI).imp λσ H Q h=>⟨i,rfl,h.2.2 _ H (aE.refl H) (cI.mpr rfl)⟩⟩
theorem mK:Dt X K Z S (.Dict [] [] pos) (.dict []):=⟨aEo.imp λσ H Q h p hp=>h.2.2 _ _ (aE.new hp) (zG.mpr ⟨rfl,p,rfl,Vw.at h.2.1 hp⟩)⟩
theorem qJ (h:aZ K H ds vs) (hz:ds.length<=1000):vs.length<=sizeLine:=by rw [aH h,Rg]; omega
theorem aR {k} (h:DA X K Z S es ds) (hz:ds.length<=1000:=by decide):Dt X K Z S (.Tuple es k pos) (.tuple ds) :=
 ⟨(cL h.go).imp λσ H Q h=>⟨h.1,h.2.1,λvs H1 s1 fq=>⟨qJ fq hz,λp hp=>h.2.2 _ _ (s1.trans (aE.new hp)) (bF.mpr ⟨p,vs,rfl,aj.of (Vw.at (h.2.1.same s1) hp),(Vw.same (aE.new hp)).ag _ _ fq⟩)⟩⟩⟩
theorem sZ (h:DA X K Z S es ds) (hz:ds.length<=1000:=by decide):Dt X K Z S (.List es pos) (.list ds) :=
 ⟨(cP h.go).imp λσ H Q h=>⟨h.1,h.2.1,λvs H1 s1 fq=>⟨qJ fq hz,λp hp=>h.2.2 _ _ (s1.trans (aE.new hp)) (eI.mpr ⟨p,vs,rfl,ak.of (Vw.at (h.2.1.same s1) hp),(Vw.same (aE.new hp)).ag _ _ fq⟩)⟩⟩⟩
theorem lF (h:aZ K H ds xs):∀ n,aZ K H (List.replicate n ds).flatten (List.replicate n xs).flatten
 | 0=>aW.mpr rfl
 | n+1=>by
  rw [Xi,Xi,Xq,Xq]
  exact bA h (lF h n)
theorem i! {n:Int} {j} (hK:X.K=K) (h:Dt X K Z S e (.tuple ds)) (h1:1 < n:=by decide) (h2:n<=1000:=by decide) (hz:ds.length<=1000:=by decide):Dt X K Z S (.BinOp e .Mult (.Constant (.int n) j p2) pos) (.tuple (List.replicate n.toNat ds).flatten) :=
 ⟨(bE (QX hK) h.go aI).imp λσ H Q h=>⟨h.1,h.2.1,λv H1 s1 hd=>by
  obtain ⟨a,xs,rfl,ha,fq⟩:=bF.mp hd
  refine ⟨a,n,xs,rfl,rfl,Vw.sub.ai ha,h1,h2,by rw [aH fq]; exact hz,λp H' s2 hq=>h.2.2 _ _ (s1.trans s2) (bF.mpr ⟨p,_,rfl,(h.2.1.same (s1.trans s2)).ai hq,lF ((Vw.same s2).ag _ _ fq) _⟩)⟩⟩⟩
theorem Po {t:TE} (h:PE X e t) (q:∀ σ H Q,S σ->Q v H->t σ H Q) (hd:∀ H,Den K H d v):Dt X K Z S e d:=⟨h.imp λσ H Q z=>q σ H Q z.1 (z.2.2 v H (aE.refl H) (hd _))⟩
def ji (K:Rc) (Z:List Addr) (S:St->Prop) (ds:List PyData):TE:=λσ H Q=>S σ/\Fx Z H/\∀ p xs H',aE H H'->H p=none->H' p=some (.lst xs)->aZ K (Vw Z H') ds xs->Q (.ref p) H'
theorem h! (h:DA X K Z S es ds) (hz:ds.length<=1000:=by decide):PE X (.List es pos) (ji K Z S ds) :=
 (cP h.go).imp λσ H Q h=>⟨h.1,h.2.1,λvs H1 s1 fq=>⟨qJ fq hz,λp hp=>h.2.2 p vs _ (s1.trans (aE.new hp)) (s1.free hp) aB ((Vw.same (aE.new hp)).ag _ _ fq)⟩⟩
theorem ff.ex {Bj:List Stmt} {t:TS} {R:TS->Prop} (h:ff X Bj t) (r:R t):∃ t,kc X Bj t/\R t:=⟨t,h.go,r⟩
theorem lG (h:DA X K Z S es ds) (hz:ds.length<=1000):jo X (.List es pos) (ji K Z S ds):=⟨h! h hz⟩
theorem zW (h:PE X (.Name x pos) (jB i)):jo X (.Name x pos) (jB i):=⟨h⟩
theorem aF7 (h:jo X e te):sr X (.Return (some e) pos) (Fp te):=⟨aY h.go⟩
end
section
variable {l:Expr}
theorem QH {env:Env}:∀ x,foldedSetIterable (.List es p) env x=pure x:=λ_=>rfl
theorem rA (hp:PassesOwn (model X.prog X.w) X.A X.env X.xe) (hc:X.calm=true) (hl:jo X l tl) (hg:PG X tg g) (hb:ff X body tb) (hs:∀ x,foldedSetIterable l X.env x=pure x) :
  sr X (.For tg l body [] pos) (IF (I_ X.K tl) g tb):=⟨eS hp hc (hJ hl.go) hg hb.go hs⟩
end
theorem xJ:∀ {xs:List V},(∀ x∈xs,∃ d,Den K H d x)->∃ ds,aZ K H ds xs
 | [],_=>⟨[],aW.mpr rfl⟩
 | x::r,h=>by
  obtain ⟨d,hd⟩:=h x (Qk ..)
  obtain ⟨ds,fq⟩:=xJ (xs:=r) λy hy=>h y (Ql _ hy)
  exact ⟨d::ds,aS.mpr ⟨x,r,rfl,hd,fq⟩⟩
theorem zX (h:aZ K H ds xs):∀ x∈xs,∃ d,Den K H d x:=λx hx=>by
 obtain ⟨i,hi⟩:=Jd.mp hx
 obtain ⟨d,_,hd⟩:=bS h hi
 exact ⟨d,hd⟩
def zY (e:DictEntry):Bool:=match e.key with
 | .str _ _=>true
 | _=>false
def lg (K:Rc) (C:Addr) (bm:List Value):Bool:=match K.lookup C with
 | some ⟨.type "type", _, .cls cd, sl⟩ => (match sl.toList with
   | [_, _, _, _, some (.builtin n), _] => n == "ValueError.__new__" && cd.mro == .ref C :: bm && !cd.hasDel && (match K.lookup cd.ns with
     | some ⟨_,_,.dict es _,_⟩=>es.toList.all zY && vc.all (λn=>(es.toList.find? (·.key.isStr n)).isNone)
     | _=>false)
   | _=>false)
 | _=>false
theorem IS (X:K.In h) (q:lg K C bm=true):∃ N nm qn bs hdct sn sub ab col dd k0 k1 k2 k3 k5 mN,
  h.get? C=some (excClassObj nm qn C N bs bm hdct sn sub ab col dd k0 k1 k2 k3 k5 "ValueError.__new__")/\h.Ns N mN/\∀ n∈vc,mN n=none:=by
 unfold lg at q
 split at q
 ·rename_i dd cd sl ho
  split at q
  ·rename_i k0 k1 k2 k3 n k5 hs
   split at q
   ·rename_i c1 d1 es ep s1 hN
    simp only [Jc,beq_iff_eq,Bool.not_eq_true',Jm,Option.isNone_iff_eq_none] at q
    obtain ⟨⟨⟨rfl,hm⟩,DV⟩,hk,hq⟩:=q
    obtain ⟨nm,bs,mro,ns,qn,hd,sn,sub,ab,col,del⟩:=cd
    dsimp only at hm DV hN
    subst hm DV
    have LM:sl = #[k0,k1,k2,k3,some (.builtin "ValueError.__new__"),k5]:=by
     obtain ⟨l⟩:=sl
     simp only at hs
     rw [hs]
    subst LM
    refine ⟨ns,nm,qn,bs,hd,sn,sub,ab,col,dd,k0,k1,k2,k3,k5,nsFind es,X _ _ ho,⟨_,es,ep,X _ _ hN,rfl,λe he=>?_,λ_=>rfl⟩,λn hn=>?_⟩
    ·have:=hk e (Array.mem_toList_iff.mpr he)
     unfold zY at this
     split at this
     ·rename_i a b e; exact ⟨a,b,e⟩
     ·cases this
    ·have:=hq n hn
     unfold nsFind findBy
     rw [<- Array.find?_toList,this]
     rfl
   ·simp at q
  ·cases q
 ·cases q
theorem aEt (q:lg K C il=true) (h:Heap) (X:K.In h):i4 h C il:=by
 obtain ⟨N,nm,qn,bs,hdct,sn,sub,ab,col,dd,k0,k1,k2,k3,k5,mN,h1,h2,h3⟩:=IS X q
 exact ⟨N,nm,qn,bs,hdct,sn,sub,ab,col,dd,k0,k1,k2,k3,k5,mN,h1,h2,h3,.base⟩
theorem iD {D:Addr} (qD:lg K D il=true) (q:lg K C (.ref D::il)=true) (h:Heap) (X:K.In h):i4 h C (.ref D::il):=by
 obtain ⟨N,nm,qn,bs,hdct,sn,sub,ab,col,dd,k0,k1,k2,k3,k5,mN,h1,h2,h3⟩:=IS X q
 obtain ⟨_,_,_,_,_,_,_,_,_,_,_,_,_,_,_,mD,e1,e2,e3⟩:=IS X qD
 exact ⟨N,nm,qn,bs,hdct,sn,sub,ab,col,dd,k0,k1,k2,k3,k5,mN,h1,h2,h3,.own e1 e2 e3 .base⟩
def nV:List Int->Nat
 | []=>0
 | k::r=>if k∈r then nV r else nV r+1
def oI (l:List Int):Nat:=nV l.reverse
theorem aC2 (l:List Int) (k:Int):oI (l++[k])=if k∈l then oI l else oI l+1:=by
 unfold oI
 rw [Wk]
 show nV (k::l.reverse)=_
 simp only [nV,List.mem_reverse]
theorem tD:∀ l:List Int,nV l<=l.length
 | []=>Qe _
 | k::r=>by
  have:=tD r
  unfold nV
  split <;> simp <;> omega
theorem aF8 (l:List Int):oI l<=l.length:=by
 have:=tD l.reverse
 rwa [Ze] at this
theorem rB:∀ l:List Int,nV l=l.length↔l.Nodup
 | []=>by simp [nV]
 | k::r=>by
  have h1:=rB r
  have h2:=tD r
  unfold nV
  rw [Jw,<- h1,Jg]
  by_cases hk:k∈r
  ·rw [if_pos hk]
   constructor
   ·intro h; omega
   ·intro h; exact absurd hk h.1
  ·rw [if_neg hk]
   constructor
   ·intro h; exact ⟨hk,by omega⟩
   ·intro h; omega
theorem aBc (l:List Int):oI l=l.length↔l.Nodup:=by
 have h:=rB l.reverse
 rw [Ze] at h
 unfold oI
 rw [h]
 unfold List.Nodup
 rw [List.pairwise_reverse]
 constructor <;> intro h <;> exact h.imp λz=>Ne.symm z
theorem aC3 {S:Int->Bool} {k:Int} {t:Tok} {Q:Bool->Shared->Prop} (hS:s.heap.SetOf (intKind prog w) a S n) (ub:n+1 < scanBound) (h:∀ h',Heap.SameBut a s.heap h'->h'.SetOf (intKind prog w) a (λk'=>S k' || decide (k'=k)) (if S k then n else n+1)->Q (!S k) { s with heap:=h',toks:=s.toks+1 }) :
  wpAny (model prog w) A (setAdd a (.int k t)) Q E s:=by
 have jd:(intKind prog w).is k (.int k t)=true:=by simp [intKind,Value.isInt]
 unfold setAdd
 refine Ra ((intKind prog w).pyHash jd ?_)
 exact wpAny_setAddHashed_of (s:={ s with toks:=s.toks+1 }) jd rfl hS ub λh' Bw wb=>h h' Bw wb
theorem aEu {S:Addr} {wr:List Addr} {P:Nat->Value->Prop} {St:Nat->Heap->Prop} {Z:Nat->Heap->Prop} (W:Walks prog w A.in1 I fp wr ns.length P St) (hP:∀ i v,P i v->∃ k t,ns[i]?=some k/\v=.int k t) (vz:∀ c∈fp,c≠S) (og:S∉wr) (kp:∀ i h h',Z i h->(∀ o,h.get? S=some o->h'.get? S=some o)->Z i h') (ad:∀ i k t {B:Around} {E':Value->Shared->Prop} {s':Shared} {Q':Bool->Shared->Prop},ns[i]?=some k->Z i s'.heap->(∀ h3 b,Heap.SameBut S s'.heap h3->Z (i+1) h3->Q' b { s' with heap:=h3,toks:=s'.toks+1 })->wpAny (model prog w) B (setAdd S (.int k t)) Q' E' s') :
  ∀ (j i:Nat) (s:Shared),i+j=ns.length->St i s.heap->Z i s.heap ->
   (∀ h' tk,Z ns.length h'->(∀ b o,b≠S->b∉wr->s.heap.get? b=some o->h'.get? b=some o)->R (.ok (.ret .none)) { s with heap:=h',toks:=tk }) ->
   codeAny (model prog w) A (.builtin "set.update.loop" ⟨[.ref S,.ref I],[]⟩) R s:=by
 intro j
 induction j with
 | zero =>
  intro i s hi st hS h
  obtain rfl:i=ns.length:=by omega
  exact aEi W st λh' tk k=>h h' tk (kp _ _ _ hS λo e=>k S o og e) λb o _ hb e=>k b o hb e
 | succ j ih =>
  intro i s hi st hS h
  refine aEh W (i:=i) (by omega) st λv h2 FZ hv fh k2=>?_
  obtain ⟨k,t,hk,rfl⟩:=hP i v hv
  refine ad i k t (s':={ s with heap:=h2,toks:=FZ }) hk (kp _ _ _ hS λo e=>k2 S o og e) λh3 b sb As=>?_
  exact ih (i+1) _ (by omega) (W.frame _ _ _ fh λc hc o e=>(sb.2 c (vz c hc)).trans e) As λh' tk wb Cs=>h h' tk wb λb o nb hb e=>Cs b o nb hb ((sb.2 b nb).trans (k2 b o hb e))
set_option maxHeartbeats 3200000 in
theorem tE {l:Addr} {ae:Array Value} {Z:Nat->Heap->Prop} (hh:A.handled=none) (hl:s.heap.IsList l ae) (hi:IntsAre ae.toList ns) (z0:∀ h:Heap,h.get? s.heap.objs.size=some { cls:=.type "set",dict:=none,data:=.set #[] 0 (.fresh 0 0 (Led w)) }->Z 0 h) (kp:∀ i h h',Z i h->(∀ o,h.get? s.heap.objs.size=some o->h'.get? s.heap.objs.size=some o)->Z i h') (ad:∀ i k t {B:Around} {E':Value->Shared->Prop} {s':Shared} {Q':Bool->Shared->Prop},ns[i]?=some k->Z i s'.heap->(∀ h3 b,Heap.SameBut s.heap.objs.size s'.heap h3->Z (i+1) h3->Q' b { s' with heap:=h3,toks:=s'.toks+1 })->wpAny (model prog w) B (setAdd s.heap.objs.size (.int k t)) Q' E' s') (h:∀ (h':Heap) (tk:Nat),Z ns.length h'->(∀ b o,b < s.heap.objs.size->s.heap.get? b=some o->h'.get? b=some o)->Q (.ref s.heap.objs.size) { s with heap:=h',toks:=tk }) :
  wpAny (model prog w) A (call (.type "set") [.ref l]) Q E s:=by
 obtain ⟨c,tl,aak⟩:=PySem.F.called_set.mro
 have Sh:=PySem.F.called_set.made
 have lj:=PySem.F.called_set.sub
 refine Me (Ii ?_)
 show wpAny _ _ (callAny (.type "set") _) _ _ _
 refine Rb ⟨Code.quiet_builtin _ (by decide +kernel),To PySem.F.entry_type_call ?_⟩
 rw [Around.under_plain (weight_type_call_type "set" [.ref l] []) rfl]
 have h1:=PySem.F.called_set.notType
 have h2:=PySem.F.called_set.canCreate
 have hct:=PySem.F.typeCall_set_1 (.ref l)
 repeat (any_goals (first | assumption | wp_step))
 refine Ui (sQ (.ref l) (E:=E) (Q₁:=λobj b_=>obj=.ref s.heap.objs.size/\b_={ s with heap:=s.heap.push { cls:=.type "set",dict:=none,data:=.set #[] 0 (.fresh 0 0 (Led w)) } }) ⟨rfl,rfl⟩) λr b_ hr=>?_
 cases r with
 | error e=>exact hr
 | ok fl =>
  cases fl with
  | ret obj =>
   obtain ⟨rfl,rfl⟩:=hr
   generalize aal:Led w=led at z0 ⊢
   have hS:(s.heap.push { cls:=.type "set",dict:=none,data:=.set #[] 0 (.fresh 0 0 led) }).get? s.heap.objs.size=some { cls:=.type "set",dict:=none,data:=.set #[] 0 (.fresh 0 0 led) }:=Qg _ rfl
   have hT:Shared.TypeIs { s with heap:=s.heap.push { cls:=.type "set",dict:=none,data:=.set #[] 0 (.fresh 0 0 led) } } (.ref s.heap.objs.size) "set" := ⟨_,hS,rfl⟩
   have G6:=PySem.F.called_set.init.lookup
   have hbi:=PySem.F.called_set.init.bind (.ref s.heap.objs.size)
   repeat (any_goals (first | assumption | wp_step))
   refine Ui (Vr (R:=wants (λr ip=>r=.none/\∃ h' tk,ip={ s with heap:=h',toks:=tk }/\Z ns.length h' /\
     (∀ b o,b < s.heap.objs.size->s.heap.get? b=some o->h'.get? b=some o)) E) PySem.F.called_set.init.plain PySem.F.entry_set_init (check_set_init_1 hT ?_)) λS8 ip AW=>?_
   ·obtain ⟨ol,Bz,v9,nl,jk⟩:=hl
    obtain ⟨aac,D',Sf,A'⟩:=ol
    simp only at v9 jk
    subst v9; subst jk
    have Km:(s.heap.push { cls:=.type "set",dict:=none,data:=.set #[] 0 (.fresh 0 0 led) }).get? l=some { cls:=.type "list",dict:=D',data:=.seq ae nl,slots:=A' }:=Qa _ Bz
    have aad:=PySem.F.sub_list_set
    have aae:=PySem.F.sub_list_frozenset
    have cb:(Value.type "list" == Value.type "dict")=false:=by decide
    have vp:(s.heap.push { cls:=.type "set",dict:=none,data:=.set #[] 0 (.fresh 0 0 led) }).IsList l ae:=⟨_,Km,rfl,nl,rfl⟩
    unfold Builtin.«set.__init__» noKeywords Builtin.Frozenset.updateFrom
    generalize WG:pyIter=PI
    wp_walk
    subst WG
    refine Ul vp ?_
    refine Ra (wpAny_runValue ?_)
    have L5:l < s.heap.objs.size:=Qo Bz
    have VS:A.in1.in1.in1.handled=none:=by simp [hh]
    generalize M_:s.heap.push { cls:=.type "set",dict:=none,data:=.set #[] 0 (.fresh 0 0 led) }=H1 at *
    have JZ:H1.objs.size=s.heap.objs.size+1:=by rw [<- M_,Jj]
    have Kr:l≠H1.objs.size:=by rw [JZ]; exact Qt (Jv L5)
    have W:=Walks.list (prog:=prog) (w:=w) VS H1.objs.size l Kr ae
    have hsz:ae.size=ns.length:=by rw [<- hi.length,Array.length_toList]
    rw [hsz] at W
    generalize hS0:s.heap.objs.size=S at *
    have SI:S≠H1.objs.size:=by omega
    have lS:l≠S:=Qt L5
    refine aEu W (λi v hv=>?_) (λc hc=>?_) (by simpa using SI) kp ad ns.length 0 _ (by omega) ⟨⟨_,Qg _ rfl,rfl,rfl⟩,vp.push _⟩ ?_ λh6 SD x6 k6=>?_
    ·have Cy:ae[i]?=some v:=hv
     have L9:i < ae.toList.length:=by
      rw [Array.length_toList]
      exact (Array.getElem?_eq_some_iff.mp Cy).1
     have e1:ae.toList[i]?=some v:=by rw [Array.getElem?_toList]; exact Cy
     obtain ⟨k,t,e2,e3⟩:=IntsAre.at hi i v e1
     exact ⟨k,t,e3,e2⟩
    ·rcases Qj.mp hc with z | z
     ·rw [z]; exact Ne.symm SI
     ·have z':c=l:=by simpa using z
      rw [z']; exact lS
    ·exact z0 _ (Qa _ hS)
    ·show wpAny _ _ _ _ _ _
     refine Rb ?_
     show wpAny _ _ (ret Value.none) _ _ _
     refine Rb ⟨rfl,h6,SD,rfl,x6,λc o hc e=>?_⟩
     have c1:c≠S:=Qt hc
     have c2:c∉[H1.objs.size]:=by
      intro z
      have z':c=H1.objs.size:=by simpa using z
      omega
     exact k6 c o c1 c2 (Qa _ (M_ ▸ Qa _ e))
   ·cases S8 with
    | error e=>exact AW
    | ok W5 =>
     cases W5 with
     | ret r =>
      obtain ⟨rfl,h',tk,rfl,wb,G9⟩:=AW
      repeat (any_goals (first | assumption | wp_step))
      exact h _ _ wb G9
     | _=>exact AW.elim
  | _=>exact hr.elim
theorem uW {l:Addr} {ae:Array Value} (hh:A.handled=none) (hl:s.heap.IsList l ae) (hi:IntsAre ae.toList ns) (hlen:ns.length+1 < scanBound) (h:∀ (h':Heap) (tk:Nat),h'.SetOf (intKind prog w) s.heap.objs.size (λk=>decide (k∈ns)) (oI ns)->(∀ b o,b < s.heap.objs.size->s.heap.get? b=some o->h'.get? b=some o)->Q (.ref s.heap.objs.size) { s with heap:=h',toks:=tk }) :
  wpAny (model prog w) A (call (.type "set") [.ref l]) Q E s:=by
 refine tE (Z:=λi h=>h.SetOf (intKind prog w) s.heap.objs.size (λk=>decide (k∈ns.take i)) (oI (ns.take i))) hh hl hi (λh e=>⟨_,#[],0,_,e,⟨rfl,rfl,rfl⟩,rfl,λe he=>by simp at he,λk=>by simp,by decide,by rfl,rfl⟩) (λi h h' ⟨o,es,ep,t,e,c⟩ k=>⟨o,es,ep,t,k _ e,c⟩) (λi k t _ _ s' Q' hk hS q=>?_) λh' tk z=>h h' tk (by rw [Jq] at z; exact z)
 have hd:=aF8 (ns.take i)
 rw [Qu] at hd
 refine aC3 hS (by omega) λh3 sb As=>q h3 _ sb ?_
 have et:ns.take (i+1)=ns.take i++[k]:=by rw [Js,hk]; rfl
 have e1:(λk_1=>decide (k_1∈ns.take (i+1)))=(λk'=>decide (k'∈ns.take i) || decide (k'=k)):=by
  funext k'
  rw [et]
  simp
 have e2:oI (ns.take (i+1))=if decide (k∈ns.take i)=true then oI (ns.take i) else oI (ns.take i)+1:=by
  rw [et,aC2]
  by_cases z:k∈ns.take i
  ·rw [if_pos z,if_pos (decide_eq_true z)]
  ·rw [if_neg z,if_neg (by simpa using z)]
 rw [e1,e2]
 exact As
theorem qK:∀ {vs:List Value} {ns:List Int},bR (ns.map V.int) vs->IntsAre vs ns
 | [],[],_=>.nil
 | v::vs,n::ns,h=>by
  cases h with
  | cons r t =>
   obtain ⟨k,rfl⟩:=r
   exact .cons n k (qK t)
 | [],n::ns,h=>by cases h
 | v::vs,[],h=>by cases h
theorem aC4 (hK:X.K=K) (hc:X.calm=true):eN X (.type "set") (λxs H Q=>∃ (l:Addr) (ns:List Int),xs = [.ref l]/\ak K H l (ns.map V.int)/\ns.length<=40/\∀ p,H p=none->Q (.ref p) (upd H p (.set (λk=>decide (k∈ns)) (oI ns)))):=by
 subst hK
 intro aa s σ H xs us Q I r h
 obtain ⟨l,ns,rfl,hL,hn,q⟩:=h
 obtain ⟨u,rfl,rx⟩:=gM r
 cases rx
 obtain ⟨ae,rv,pl,hz⟩:=I.list hL
 refine uW (I.ok.hd hc) pl.isList (qK rv) (Zy (Ye hn) (by decide)) λh' tk x kp=>?_
 have Cs:∀ b o,s.heap.get? b=some o->h'.get? b=some o:=λb o e=>kp b o (Qo e) e
 have hf:=I.aq.fresh (Qe s.heap.objs.size)
 exact ⟨.ref s.heap.objs.size,_,I.laid (t':=tk) Cs (Qe _) (show bM X.prog X.w _ _ _ (.set _ _) from x),rfl,q _ hf⟩
theorem uX:eN X (.builtin "len") (λxs H Q=>∃ p S n,xs = [.ref p]/\H p=some (.set S n)/\Q (.int (n:Nat)) H):=by
 intro aa s σ H xs us Q I r h
 obtain ⟨p,S,n,rfl,hp,q⟩:=h
 obtain ⟨u,rfl,rx⟩:=gM r
 cases rx
 obtain ⟨o,es,ep,t,ho,hex,hd,_,_,hb,hf,hn⟩:=I.aq p _ hp
 subst hn
 have e_:es.size < 2^20:=Zv hb (by decide)
 have:(2:Int)^63=9223372036854775808:=by decide
 have:(2:Nat)^20=1048576:=by decide
 exact PySem.call_len_set ho hex hd hf (by omega) ⟨.int es.size,H,I.tok _,⟨_,rfl⟩,q⟩
section
variable {e l:Addr} {P:Nat->Value->Prop} {st:Nat->Heap->Prop}
theorem aEv {old:Value} (S:Sub prog w it l n P st) (BG:e≠it) (yn:l≠e) (he:IsEnum s.heap e it i old) (h1:st i s.heap) (hi:i < n) (hQ:∀ h' x tk,P i x->IsEnumOut h' e it ((i:Int)+1) x s.heap.objs.size->st (i+1) h'->h'.get? s.heap.objs.size=some { cls:=.type "tuple",data:=.seq #[.int i tk,x] } ->
   (∀ c o,c≠e->c≠it->s.heap.get? c=some o->h'.get? c=some o)->Q (.ref s.heap.objs.size) { s with heap:=h',toks:=s.toks+1 }) :
  wpAny (model prog w) A (Builtin.«enumerate.__next__» ⟨[.ref e],[]⟩) (λfin s'=>∃ v,fin=.done (.ret v)/\Q v s') E s:=by
 refine Ra (m:=field (.ref e) 2) (Rm he rfl (x:=.ref it) rfl ?_)
 refine Ra (m:=Builtin.SmallTypes.nextOf (.ref it)) (S.item _ i _ _ _ hi h1 λx g1 px t1 b1=>?_)
 have e1:IsEnum g1 e it i old:=b1.extBut _ _ BG he
 refine Ra (m:=field (.ref e) 3) (Rm e1 rfl (x:=rawInt i) rfl ?_)
 refine Ra (m:=field (.ref e) 4) (Rm e1 rfl (x:=.none) rfl ?_)
 refine Ra (m:=mkInt i) (wpAny_mkInt ?_)
 refine Ra (m:=setField (.ref e) 3 (rawInt ((i:Int)+1))) (Rl e1 (by simp) λg2 e2 b2=>?_)
 have jn:IsEnum g2 e it ((i:Int)+1) old:=e2
 refine Ra (m:=setField (.ref e) 4 .none) (Rl jn (by simp) λg3 e3 b3=>?_)
 have HS:IsEnum g3 e it ((i:Int)+1) old:=e3
 refine Ra (m:=newTuple [.int i s.toks,x]) (Ip ?_)
 have sz:g3.objs.size=s.heap.objs.size:=by rw [b3.1,b2.1,b1.1]
 have e4:IsEnum (g3.push { cls:=.type "tuple",data:=.seq #[.int i s.toks,x] }) e it ((i:Int)+1) old:=Qa _ HS
 have T4:(g3.push { cls:=.type "tuple",data:=.seq #[.int i s.toks,x] }).get? s.heap.objs.size=some { cls:=.type "tuple",data:=.seq #[.int i s.toks,x] }:=by rw [<- sz]; exact Qg _ rfl
 have Cr:∀ c o,c≠e->c≠it->s.heap.get? c=some o->(g3.push { cls:=.type "tuple",data:=.seq #[.int i s.toks,x] }).get? c=some o:=λc o c1 c2 q =>
  Qa _ (b3.extBut _ _ c1 (b2.extBut _ _ c1 (b1.extBut _ _ c2 q)))
 have t4:st (i+1) (g3.push { cls:=.type "tuple",data:=.seq #[.int i s.toks,x] }):=S.keep _ _ _ t1 λc hc o q=>by
  have c1:c≠e:=by rcases hc with r | r <;> rw [r]; exact Ne.symm BG; exact yn
  exact Qa _ (b3.extBut _ _ c1 (b2.extBut _ _ c1 q))
 have elt:s.heap.objs.size≠e:=Xh (Qo he)
 rw [sz]
 generalize g3.push { cls:=.type "tuple",data:=.seq #[.int i s.toks,x] }=g4 at e4 T4 Cr t4 ⊢
 refine Ra (m:=Builtin.SmallTypes.ownedTupleIsFree (.ref e)) ?_
 unfold Builtin.SmallTypes.ownedTupleIsFree
 refine Ra (Rm e4 rfl (x:=.none) rfl (Rb ?_))
 simp only [if_true]
 refine Ra (Uc ?_)
 refine Ra (Rm e4 rfl (x:=old) rfl ?_)
 refine Ra (Rl e4 (by simp) λg5 e5 b5=>?_)
 have HR:IsEnum g5 e it ((i:Int)+1) x:=e5
 refine Ra (m:=Builtin.SmallTypes.ownedTupleHandOut (.ref e) (.ref s.heap.objs.size)) ?_
 unfold Builtin.SmallTypes.ownedTupleHandOut
 refine Ra (Rl HR (by simp) λg6 e6 b6=>?_)
 have HQ:IsEnumOut g6 e it ((i:Int)+1) x s.heap.objs.size:=e6
 refine Rl HQ (by simp) λg7 e7 b7=>?_
 have HP:IsEnumOut g7 e it ((i:Int)+1) x s.heap.objs.size:=e7
 have up:∀ c o,c≠e->g4.get? c=some o->g7.get? c=some o:=λc o c1 q=>b7.extBut _ _ c1 (b6.extBut _ _ c1 (b5.extBut _ _ c1 q))
 refine Ra (Uq (Rb ⟨_,rfl,hQ g7 x s.toks px HP ?_ (up _ _ elt T4) λc o c1 c2 q=>up c o c1 (Cr c o c1 c2 q)⟩))
 exact S.keep _ _ _ t4 λc hc o q=>up c o (by rcases hc with r | r <;> rw [r]; exact Ne.symm BG; exact yn) q
theorem aF9 {old:Value} {Q:Fin->Shared->Prop} (hh:A.handled=none) (S:Sub prog w it l n P st) (he:IsEnum s.heap e it n old) (h1:st n s.heap)
  (hE:∀ h' x,Heap.ExtBut it s.heap h'->(∃ o,h'.get? x=some o/\o.cls=.type "StopIteration")->E (.ref x) { s with heap:=h' }) :
  wpAny (model prog w) A (Builtin.«enumerate.__next__» ⟨[.ref e],[]⟩) Q E s:=by
 refine Ra (m:=field (.ref e) 2) (Rm he rfl (x:=.ref it) rfl ?_)
 exact Ra (m:=Builtin.SmallTypes.nextOf (.ref it)) (S.done _ _ _ _ hh h1 hE)
end
def Dr (K:Rc) (k:Sk) (a:Addr):It :=
 ⟨λi H => ∃ xs x, fi k K H a xs /\ xs[i]? = some x,
  λi H v H'=>∃ p,H p=none/\v=.ref p/\∀ xs,fi k K H a xs->∃ x,xs[i]?=some x/\H'=upd H p (.tup [.int (i:Nat),x]),
  λi H=>∃ xs,fi k K H a xs/\xs.length=i⟩
theorem aC5 {x1} (k:Sk) (a e it:Addr) (BG:e≠it) :
  Turn P w K (.Tuple es x1 pos) (Dr K k a) [e,it] e (λi h=>(∃ old,IsEnum h e it i old)/\jb k h it a i) where
 mem:=by simp
 obj:=λi h st c hc=>by
  obtain ⟨⟨old,he⟩,h1⟩:=st
  simp only [Qj,Qp,or_false] at hc
  rcases hc with rfl | rfl
  ·exact ⟨_,he,λv q=>by cases q⟩
  ·exact h1.obj
 keep:=λi h h' st kp=>by
  obtain ⟨⟨old,he⟩,h1⟩:=st
  exact ⟨⟨old,kp e (by simp) _ he⟩,h1.at λo q=>kp it (by simp) o q⟩
 item:=by
  intro X hP hw hK hc i aa s σ H E I hf st hg
  subst hP hw hK
  obtain ⟨⟨old,he⟩,h1⟩:=st
  obtain ⟨xs,x,ha,hx⟩:=hg
  obtain ⟨ae,rv,pa⟩:=I.gj ha
  obtain ⟨u,hu,ru⟩:=rv.get hx
  have na:∀ c∈[e,it],a≠c:=λc bq=>I.dg ha (hf c bq)
  have hT:s.TypeIs (.ref e) "enumerate" := ⟨_,he,rfl⟩
  have ot:i < ae.toArray.size:=by rw [Qm]; exact (Qd.mp hu).1
  unfold pyNext
  refine Ra (Tj (Rh (name:=Str.ofString "__next__") hT Rv (Rj Rv hT Ud
   (aEv (uT k X.prog X.w it a ae.toArray (na it (by simp))) BG (na e (by simp)) he ⟨h1,pa⟩ ot λh' u' tk pu Hi s1 BL kp=>Rb ?_) (Ua _))))
  have eu:u'=u:=by
   have q:ae[i]?=some u':=by simpa using pu
   rw [hu] at q
   exact (Option.some.inj q).symm
  subst eu
  refine ⟨_,rfl,Raf Hi λh2 CL jj=>?_⟩
  have Te:s.heap.objs.size≠e:=Xh (Qo he)
  have Hu:h2.get? s.heap.objs.size=some { cls:=.type "tuple",data:=.seq #[.int i tk,u'] }:=jj.extBut _ _ Te BL
  have mq:=I.aq.fresh (Qe s.heap.objs.size)
  have fz:=I.i6 (Qe s.heap.objs.size) mq
  have I2:Inv X aa σ H { s with heap:=h2,toks:=s.toks+1 }:=by
   refine I.ft (t':=s.toks+1) [e,it] (λc o bq q=>?_) hf
   simp only [Qj,Qp,or_false,not_or] at bq
   exact jj.extBut _ _ bq.1 (kp c o bq.1 bq.2 q)
  have I3:Inv X aa σ (upd H s.heap.objs.size (.tup [.int (i:Nat),x])) { s with heap:=h2,toks:=s.toks+1 }:=by
   refine I2.kj (show bM X.prog X.w _ _ _ (.tup [.int (i:Nat),x]) from ⟨by show 2<=sizeLine; rw [Rg]; decide,[.int i tk,u'],0,.cons ⟨tk,rfl⟩ (.cons ru .nil),Hu⟩) mq fz.2.1 I.sz fz.2.2.2.2.1 fz.2.2.2.2.2
  refine ⟨.ref s.heap.objs.size,_,I3,rfl,⟨s.heap.objs.size,mq,rfl,λK7 CT=>?_⟩,⟨⟨_,by simpa using CL⟩,s1.1.at λo q=>jj.extBut _ _ (Ne.symm BG) q⟩,λc bq=>?_⟩
  ·rw [I.fm CT ha]
   exact ⟨x,hx,rfl⟩
  ·have cl:c≠s.heap.objs.size:=by
    obtain ⟨o,q⟩:∃ o,s.heap.get? c=some o:=by
     simp only [Qj,Qp,or_false] at bq
     rcases bq with rfl | rfl
     ·exact ⟨_,he⟩
     ·obtain ⟨o,q,_⟩:=h1.obj; exact ⟨o,q⟩
    exact Qt (Qo q)
   rw [aK cl]
   exact (hf c bq).1
 done:=by
  intro X hP hw hK hc i aa s σ H E I hf st hg
  subst hP hw hK
  obtain ⟨⟨old,he⟩,h1⟩:=st
  obtain ⟨xs,ha,hlen⟩:=hg
  obtain ⟨ae,rv,pa⟩:=I.gj ha
  have la:=rv.length
  have na:∀ c∈[e,it],a≠c:=λc bq=>I.dg ha (hf c bq)
  have hT:s.TypeIs (.ref e) "enumerate" := ⟨_,he,rfl⟩
  have ei:i=ae.toArray.size:=by rw [Qm]; omega
  subst ei
  unfold pyNext
  refine Ra (Tj (Rh (name:=Str.ofString "__next__") hT Rv (Rj Rv hT Ud
   (aF9 (I.ok.hd hc) (uT k X.prog X.w it a ae.toArray (na it (by simp))) he ⟨h1,pa⟩ λh' x kp hx=>?_) (Ua _))))
  obtain ⟨oe,vm,yo⟩:=hx
  refine Ra (Ue (T := "StopIteration") (b:=true) ⟨oe,vm,yo⟩ Vi (Rb ⟨rfl,?_⟩))
  refine I.ft (t':=s.toks) [e,it] (λc o bq q=>?_) hf
  simp only [Qj,Qp,or_false,not_or] at bq
  exact kp c o bq.2 q
 self:=λ_ _ _ _ _ st h=>by
  obtain ⟨⟨old,he⟩,_⟩:=st
  exact Vy he h
theorem aC6 (k:Sk) (a:Addr) (xs:Array Value) :
  Meets (Builtin.«enumerate.__new__» ⟨[.type "enumerate",.ref a],[]⟩) (λ_ R s=>qe k s.heap a xs /\
   R (.ok (.ret (.ref (s.heap.push (pj k a)).objs.size))) { s with heap:=(s.heap.push (pj k a)).push { cls:=.type "enumerate",data:=.fields #[.none,.bool false,.ref s.heap.objs.size,rawInt 0,.none,.none] } }) :=
 .of_wp λprog w A R s h=>by
  obtain ⟨hp,g,d,tk,os⟩:=s
  obtain ⟨hl,h⟩:=h
  have lj:=sub_enumerate
  have hA:qe k (Shared.heap ⟨hp,g,d,tk,os⟩) a xs:=hl
  obtain ⟨o,ho,hc⟩:∃ o,hp.get? a=some o/\(o.cls=.type "list" ∨ o.cls=.type "tuple"):=by
   cases k
   ·obtain ⟨o,e,c,_⟩:=hl; exact ⟨o,e,.inl c⟩
   ·obtain ⟨o,e,c,_⟩:=hl; exact ⟨o,e,.inr c⟩
  have jv:(Shared.heap ⟨hp,g,d,tk,os⟩).get? a=some o:=ho
  wp_walk using AutoSeq1.wpAny_loadPart' jv
  refine RaR λst=>Rb ?_
  split
  ·rename_i c _ _ _ _ _
   cases (c==Value.type "enumerate")
   ·wp_walk using AutoSeq1.wpAny_loadPart' jv,zK hA
    exact ⟨_,rfl,h⟩
   ·wp_walk using AutoSeq1.wpAny_loadPart' jv,zK hA
    exact ⟨_,rfl,h⟩
  ·wp_walk using AutoSeq1.wpAny_loadPart' jv,zK hA
   exact ⟨_,rfl,h⟩
def Z0 (K:Rc) (k:Sk) (ta:TA):TI:=λσ H R=>ta σ H λvs H1=>∃ a xs,vs = [.ref a]/\fi k K H1 a xs/\R (Dr K k a) H1
theorem F! (k:Sk) {a:Expr} {ta:TA} (hg:Gl X "enumerate") (hm:X.mg "enumerate" = none) (ha:PA X [a] ta) (hs:starEach [a] X.env = [(false,eval a X.env)]:=by rfl) :
  PI X (.Tuple es x1 xc) (.Call (.Name "enumerate" p) [a] [] pos) (Z0 X.K k ta):=by
 intro aa s σ H R I h
 refine Call_ (jI (u:=.type "enumerate") I hg hm (by decide +kernel) (PyProof.Rows.callWith_type1 (bf (ha pos aa s σ H _ I h) λus s1 au=>?_) hs rfl))
 obtain ⟨vs,H1,I1,r1,q1⟩:=au
 obtain ⟨l,xs,rfl,hA,q⟩:=q1
 obtain ⟨u1,rfl,Cg⟩:=gM r1
 cases Cg
 obtain ⟨ae,rv,pa⟩:=I1.gj hA
 refine Ig Ml (by decide) (Iu _) (Ma _) (λobj=>Vo obj _) Mb (aC6 k l ae.toArray) ⟨pa,?_⟩
 have n1:(s1.heap.push (pj k l)).objs.size=s1.heap.objs.size+1:=Jj ..
 have g2:IsEnum ((s1.heap.push (pj k l)).push { cls:=.type "enumerate",data:=.fields #[.none,.bool false,.ref s1.heap.objs.size,rawInt 0,.none,.none] }) (s1.heap.push (pj k l)).objs.size s1.heap.objs.size 0 .none:=Qg _ rfl
 have g1:jb k ((s1.heap.push (pj k l)).push { cls:=.type "enumerate",data:=.fields #[.none,.bool false,.ref s1.heap.objs.size,rawInt 0,.none,.none] }) s1.heap.objs.size l 0:=(jb.new k s1.heap l).at λo e=>Qa _ e
 have kp:∀ c o,s1.heap.get? c=some o->((s1.heap.push (pj k l)).push { cls:=.type "enumerate",data:=.fields #[.none,.bool false,.ref s1.heap.objs.size,rawInt 0,.none,.none] }).get? c=some o:=λc o e=>Qa _ (Qa _ e)
 generalize (s1.heap.push (pj k l)).push { cls:=.type "enumerate",data:=.fields #[.none,.bool false,.ref s1.heap.objs.size,rawInt 0,.none,.none] }=h2 at g1 g2 kp ⊢
 refine ⟨⟨_,g2,rfl⟩,Vy g2 ?_⟩
 rw [n1] at *
 have I2:Inv X aa σ H1 { s1 with heap:=h2 }:=I1.kept (t':=s1.toks) kp
 refine ⟨s1.heap.objs.size+1,[s1.heap.objs.size+1,s1.heap.objs.size],_,_,H1,rfl,I2,aC5 k l (s1.heap.objs.size+1) s1.heap.objs.size (Nat.succ_ne_self _),⟨⟨_,g2⟩,g1⟩,λc hc=>?_,q⟩
 have bq:s1.heap.objs.size<=c:=by
  simp only [Qj,Qp,or_false] at hc
  rcases hc with r | r
  ·rw [r]; exact Xn _ _
  ·rw [r]; exact Qe _
 exact I1.i6 bq (I1.aq.fresh bq)
theorem aEw {k:Sk} {σ:St} (Pv:Nat->St->Hp->Prop) (h0:Pv 0 σ H) (hl:∀ i σ H,i<=xs.length->Pv i σ H->fi k K H a xs) (hs:∀ i x p σ H,xs[i]?=some x->Pv i σ H->H p=none->g (.ref p) σ (upd H p (.tup [.int (i:Nat),x])) λar H2=>tb { D with nx:=Pv (i+1),ct:=Pv (i+1),bk:=D.nx } ar H2) (hd:∀ σ H,Pv xs.length σ H->D.nx σ H) :
  ∃ W:Nat->Nat->St->Hp->Prop,(∃ m,W 0 m σ H)/\∀ i m σ H,W i m σ H ->
   ((Dr K k a).stop i H/\D.nx σ H)∨((Dr K k a).go i H/\∃ N:St->Hp->Prop,(∀ ao H',N ao H'->∃ m',m' < m/\W (i+1) m' ao H')/\∀ x H',(Dr K k a).kz i H x H'->g x σ H' λar H2=>tb { D with nx:=N,ct:=N,bk:=D.nx } ar H2):=by
 refine ⟨λi m σ H=>m=xs.length - i/\i<=xs.length/\Pv i σ H,⟨xs.length,by simp,Jb _,h0⟩,?_⟩
 rintro i m σ H ⟨rfl,hi,p⟩
 have q:=hl i σ H hi p
 by_cases ax:i < xs.length
 ·refine .inr ⟨⟨xs,xs[i],q,Qb ax⟩,Pv (i+1),λao H' p'=>⟨xs.length - (i+1),by omega,rfl,ax,p'⟩,λx H' y=>?_⟩
  obtain ⟨p1,ib,rfl,y⟩:=y
  obtain ⟨v,hv,rfl⟩:=y xs q
  exact hs i v p1 σ H hv p ib
 ·have e:i=xs.length:=by omega
  subst e
  exact .inl ⟨⟨xs,q,rfl⟩,hd σ H p⟩
theorem JI (h:n<=1000):n<=sizeLine:=by rw [Rg]; omega
section
variable {own:Nat} {σ:St}
theorem E? (h:vs[i]?=some v):vs.take (i+1)=vs.take i++[v]:=by rw [Js,h]; rfl
theorem rV (SH:St->Prop) (hn:n<=1000) (hl:vs.length=n) (gf:SH (dj own fr σ)) (je:∀ H',aE H H'->J.stop n H') (Ao:∀ i H',i < n->aE H H'->J.go i H') (hs:∀ i v x σ H1 H2,i < n->vs[i]?=some v->SH σ->aE H H1->J.kz i H1 x H2->∀ Q:V->St->Hp->Prop,(∀ ar H4,SH ar->aE H1 H4->Q v ar H4)->g x σ H2 λar H3=>te ar H3 λy H4=>Q y ar H4) (hd:∀ H',aE H H'->Qf H' vs) :
  ic J [] (dj own fr σ) H (λys _ H=>Qf H ys) g rN (mw te):=by
 refine pB n (JI hn) SH (λi ys H'=>ys=vs.take i/\aE H H') gf ⟨rfl,aE.refl H⟩ (λi ys H' p=>by rw [p.1,Qu]; omega) (λys H' p=>je H' p.2) (λi ys H' hi p=>Ao i H' hi p.2) ?_ (λys H' p=>?_)
 ·rintro i ys ao x H1 H2 hi sh ⟨rfl,s1⟩ hy hz
  have hv:vs[i]?=some vs[i]:=Qb (by omega)
  have h:=hs i vs[i] x ao H1 H2 hi hv sh s1 hy (λy ar H4=>(vs.take i).length < sizeLine/\SH ar/\(vs.take i++[y]=vs.take (i+1)/\aE H H4)) λar H4 F6 s4=>⟨hz,F6,(E? hv).symm,s1.trans s4⟩
  exact h
 ·obtain ⟨rfl,s1⟩:=p
  rw [Jn (by omega)]
  exact hd H' s1
theorem tF (SH:St->Prop) (hn:xs.length<=1000) (hl:vs.length=xs.length) (ha:ak K H a xs) (gf:SH (dj own fr σ)) (hs:∀ (i:Nat) x v σ H1,xs[i]?=some x->vs[i]?=some v->SH σ->aE H H1->∀ Q:V->St->Hp->Prop,(∀ ar H4,SH ar->aE H1 H4->Q v ar H4)->g x σ H1 λar H2=>te ar H2 λy H4=>Q y ar H4) (hd:∀ H',aE H H'->Qf H' vs) :
  ic (u7 K a) [] (dj own fr σ) H (λys _ H=>Qf H ys) g rN (mw te):=by
 refine rV SH hn hl gf (λH' s=>⟨xs,s.cm ha,Qe _⟩) (λi H' hi s=>⟨xs,xs[i],s.cm ha,Qb hi⟩) (λi v x σ H1 H2 hi hv sh s y Q k=>?_) hd
 obtain ⟨e,y⟩:=y
 subst e
 exact hs i x v σ _ (y xs (s.cm ha)) hv sh s Q k
theorem tG (SH:St->Prop) (hn:xs.length<=1000) (hl:vs.length=xs.length) (ha:aj K H a xs) (gf:SH (dj own fr σ)) (hs:∀ (i:Nat) x v σ H1,xs[i]?=some x->vs[i]?=some v->SH σ->aE H H1->∀ Q:V->St->Hp->Prop,(∀ ar H4,SH ar->aE H1 H4->Q v ar H4)->g x σ H1 λar H2=>te ar H2 λy H4=>Q y ar H4) (hd:∀ H',aE H H'->Qf H' vs) :
  ic (AG K a) [] (dj own fr σ) H (λys _ H=>Qf H ys) g rN (mw te):=by
 refine rV SH hn hl gf (λH' s=>⟨xs,s.ai ha,Qe _⟩) (λi H' hi s=>⟨xs,xs[i],s.ai ha,Qb hi⟩) (λi v x σ H1 H2 hi hv sh s y Q k=>?_) hd
 obtain ⟨e,y⟩:=y
 subst e
 exact hs i x v σ _ (y xs (s.ai ha)) hv sh s Q k
theorem aEx (SH:St->Prop) (hn:xs.length<=1000) (hle:xs.length<=zs.length) (hl:vs.length=xs.length) (ha:∀ H',aE H H'->fi k1 K H' a xs/\fi k2 K H' b zs) (gf:SH (dj own fr σ)) (hs:∀ (i:Nat) x z v p σ H1,xs[i]?=some x->zs[i]?=some z->vs[i]?=some v->H1 p=none->SH σ->aE H H1->∀ Q:V->St->Hp->Prop,(∀ ar H4,SH ar->aE H1 H4->Q v ar H4)->g (.ref p) σ (upd H1 p (.tup [x,z])) λar H2=>te ar H2 λy H4=>Q y ar H4) (hd:∀ H',aE H H'->Qf H' vs) :
  ic (wz K k1 k2 a b) [] (dj own fr σ) H (λys _ H=>Qf H ys) g rN (mw te):=by
 refine rV SH hn hl gf (λH' s=>⟨xs,zs,(ha H' s).1,(ha H' s).2,by omega⟩) (λi H' hi s=>⟨xs,zs,xs[i],zs[i]'(by omega),(ha H' s).1,(ha H' s).2,Qb hi,Qb (by omega)⟩) (λi v x σ H1 H2 hi hv sh s y Q k=>?_) hd
 obtain ⟨q,hq,rfl,hy⟩:=y
 obtain ⟨x,z,h1,h2,rfl⟩:=hy xs zs (ha H1 s).1 (ha H1 s).2
 exact hs i x z v q σ H1 h1 h2 hv hq sh s Q k
end
section
variable {gC:List Stmt} {t u:TS}
end
theorem nW (hK:X.K=K):dr X (compareOp .NotIn) (Ce K true):=by subst hK; exact lA
theorem uY (xs:Array Value):slicePick xs none none (some (-1))=xs.toList.reverse.toArray:=by
 unfold slicePick
 have e1:sliceBounds none none (some (-1)) xs.size=((xs.size:Int) - 1,-1,-1):=by simp [sliceBounds]
 rw [e1,<- zO xs]
 congr 1
 show List.filterMap (λx=>xs[x]?) (sliceRange ((xs.size:Int) - 1) (-1) (-1))=_
 have e2:sliceRange ((xs.size:Int) - 1) (-1) (-1)=(List.range xs.size).map λ(k:Nat)=>((xs.size:Int) - 1+(k:Int)*(-1)).toNat:=by
  unfold sliceRange
  rw [if_neg (by decide)]
  have e3:(if (xs.size:Int) - 1 > -1 then ((xs.size:Int) - 1 - -1 - -1 - 1) / (- -1) else 0).toNat=xs.size:=by
   by_cases h0:xs.size=0
   ·rw [h0]; decide
   ·rw [if_pos (by omega),show (- -1:Int)=1 from rfl,Wv]; omega
  show (List.range (if (xs.size:Int) - 1 > -1 then ((xs.size:Int) - 1 - -1 - -1 - 1) / (- -1) else 0).toNat).map _=_
  rw [e3]
  refine Zd λk _=>?_
  congr 1
  omega
 rw [e2,Wo]
 rfl
def ZZ (K:Rc) (te ts:TE):TE:=λσ H Q=>te σ H λx H1=>ts σ H1 λy H2=>y=.int (-1)/\∃ a xs,x=.ref a/\ak K H2 a xs/\∀ p,H2 p=none->Q (.ref p) (upd H2 p (.lst xs.reverse))
theorem E! {st:Expr} (he:PE X e te) (gh:PE X st ts):PE X (.Subscript e (.Slice none none (some st) p2) pos) (ZZ X.K te ts):=by
 intro aa s σ H Q I h
 refine Ie (bf (he aa s σ H _ I h) λv s1 au=>?_)
 obtain ⟨x,H1,I1,r1,q1⟩:=au
 refine Rav ?_
 rw [Vp]
 refine Rb ?_
 show wpAny _ _ (evalPart none X.env) _ _ s1
 rw [Vp]
 refine Rb ?_
 show wpAny _ _ (evalPart (some st) X.env) _ _ s1
 rw [Rak]
 refine bf (gh aa s1 σ H1 _ I1 q1) λSw s3 au=>?_
 obtain ⟨y,H3,I3,r3,q3⟩:=au
 obtain ⟨rfl,a,xs,rfl,hx,q⟩:=q3
 obtain ⟨tk,rfl⟩:=r3
 cases r1
 have I4:Inv X aa σ H3 { s3 with heap:=s3.heap.push { cls:=.type "slice",data:=.fields #[.none,.none,.int (-1) tk] } }:=I3.kept (t':=s3.toks) λb ob q=>Qa _ q
 obtain ⟨ae,r,ht,hz⟩:=I4.list hx
 have hlen:=r.length
 have hg:wpAny (model X.prog X.w) X.A (getItem (.ref a) (.ref s3.heap.objs.size)) (EP X aa σ Q) X.xe { s3 with heap:=s3.heap.push { cls:=.type "slice",data:=.fields #[.none,.none,.int (-1) tk] } }:=by
  refine Ral ht.isList (Heap.IsSliceOf.new ..) .none .none (.int (-1) tk) (by decide) ?_ (by rw [Qm]; omega)
  rw [uY]
  refine ⟨.ref _,_,I4.laid (t':=s3.toks) (o:=.lst xs.reverse) (λb ob q=>Qa _ q) (Qe _) ?_,rfl,q _ (I4.aq.fresh (Qe _))⟩
  exact ⟨by rw [Ze]; exact hz,ae.reverse,0,r.reverse,Qg _ rfl⟩
 show wpAny (model X.prog X.w) X.A (subscriptTail e (.Slice none none (some st) p2) (.ref a) (.ref s3.heap.objs.size)) (EP X aa σ Q) X.xe { s3 with heap:=s3.heap.push { cls:=.type "slice",data:=.fields #[.none,.none,.int (-1) tk] } }
 exact tail_any (ops:=[.ref a,.ref s3.heap.objs.size]) ht.isList.typeIs slot_list_getitem.lookup hg (by with_unfolding_all rfl)
section
variable {E E':Hp->V->Prop} {σ:St} {tb:TE} {t:TA} {tl th:TO}
instance {a:Addr} {xs:List V}:Mo (λH v=>v=.ref a/\aj K (Vw S H) a xs):=⟨λe h=>⟨h.1,(Vw.same e).ai h.2⟩⟩
end
def IA (e bt:Expr) (env:Env) (D:Addr):Sem Unit:=do
 let x<-eval bt env
 standAt bt.pos
 let x<-foldedSetIterable bt env x
 let i<-holding [x] (pyIter x)
 let _<-runOwn (.compStart e 1 i (.ref D) env) env
section
variable {it acc:Value} {env:Env}
theorem uZ:compTurn (.ListComp elt [⟨tg,iter,[],0⟩,⟨k7,bt,[],0⟩] scope pos) 0 it acc env=(standAt iter.pos >>= λ_=>pyNext it >>= λr=>match r with
   | none=>pure (.done .next)
   | some v=>letOwnedTupleGo tg it v >>= λ_=>assign tg env v >>= λ_ =>
    (eval bt env >>= λx=>standAt bt.pos >>= λ_=>foldedSetIterable bt env x >>= λx=>holding [x] (pyIter x) >>= λi =>
     runOwn (.compStart (.ListComp elt [⟨tg,iter,[],0⟩,⟨k7,bt,[],0⟩] scope pos) 1 i acc env) env >>= λ_ =>
     again (.compLoop (.ListComp elt [⟨tg,iter,[],0⟩,⟨k7,bt,[],0⟩] scope pos) 0 it acc env))):=by rfl
theorem lR
  (h0:codeAny (model prog w) A (.compLoop (.ListComp elt [⟨tg,iter,[],0⟩,⟨k7,bt,[],0⟩] scope pos) 1 it acc env) R s)
  (h:wpAny (model prog w) A (pyIter it) (λvi s'=>codeAny (model prog w) A (.compLoop (.ListComp elt [⟨tg,iter,[],0⟩,⟨k7,bt,[],0⟩] scope pos) 1 vi acc env) R s')
   (notedBy (model prog w) A env λx s'=>R (.error x) s') s) :
  codeAny (model prog w) A (.compStart (.ListComp elt [⟨tg,iter,[],0⟩,⟨k7,bt,[],0⟩] scope pos) 1 it acc env) R s:=by
 refine Ii ?_
 show wpAny _ _ ((compStart (.ListComp elt [⟨tg,iter,[],0⟩,⟨k7,bt,[],0⟩] scope pos) 1 it acc env).onRaise (λx=>do noteFrame x env; standAt theWindowsPlace)) _ _ s
 refine wpAny_notedAt ?_
 unfold compStart
 show wpAny _ _ (ask >>= _) _ _ s
 refine Ra (Uu (wpAny_ite ?_))
 split
 ·first
   | exact Ra (Rb (Rb (And.intro rfl h0)))
   | exact Rb (And.intro rfl h0)
 ·first
   | exact Ra (Uc (Ra (Th (Ra (Rp h (λvi s' h'=>Rb (And.intro rfl h')) λ_ _ x=>x)))))
   | (refine Ra (Uc ?_); show wpAny _ _ (standAt bt.pos >>= _) _ _ s; exact Ra (Th (Ra (Rp h (λvi s' h'=>Rb (And.intro rfl h')) λ_ _ x=>x))))
theorem g?:cz prog w A (.ListComp elt [⟨tg,iter,[],0⟩,⟨k7,bt,[],0⟩] scope pos) 0 tg iter [] (IA (.ListComp elt [⟨tg,iter,[],0⟩,⟨k7,bt,[],0⟩] scope pos) bt) where
 zr:=λ_ _ _=>⟨rfl,rfl⟩
 turn:=λit D env=>by
  rw [uZ]
  refine congrArg (standAt iter.pos >>= ·) (funext λ_=>congrArg (pyNext it >>= ·) (funext λr=>?_))
  cases r with
  | none=>rfl
  | some v =>
   refine congrArg (letOwnedTupleGo tg it v >>= ·) (funext λ_=>congrArg (assign tg env v >>= ·) (funext λ_=>?_))
   simp only [Zh,pure_bind,if_true,IA,bind_assoc]
 start:=Rao
theorem g!:cz prog w A (.ListComp elt [⟨tg,iter,[],0⟩,⟨k7,bt,[],0⟩] scope pos) 1 k7 bt [] (H_ elt) where
 zr:=λ_ _ _=>⟨rfl,rfl⟩
 turn:=λ_ _ _=>rfl
 start:=lR
end
def F1 (pd:TI) (g2:TG) (tb:α->St->Hp->(α->St->Hp->Prop)->Prop) (a:α) (σ:St) (H:Hp) (R:α->St->Hp->Prop):Prop:=pd σ H λJ2 H3=>ic J2 a σ H3 R g2 rN tb
def f? (own:Nat) (fr:List Nat) (wi:TI) (g:TG) (pd:TI) (g2:TG) (te:TE):TE:=λσ H Q=>wi σ H λJ H1=>ic J [] (dj own fr σ) H1 (λys _ H=>∀ p,H p=none->Q (.ref p) (upd H p (.lst ys))) g rN (F1 pd g2 (mw te))
theorem IQ {na:Sem Value} {a0:α} {Ok:Addr->α->Heap->Prop} {tb:α->St->Hp->(α->St->Hp->Prop)->Prop} {pd:TI} (LO:cz Y.prog Y.w Y.A e 1 k7 bt [] bd) (AO:fe Y.prog Y.w Y.A na a0 Ok) (hx:∀ v s',¬ Y.xe v s') (hc:Y.calm=true) (hs:∀ x,foldedSetIterable bt Y.env x=pure x) (hi:PI Y k7 bt pd) (hg:PG Y k7 g2) (hb:kF Y bd Ok tb) :
  kF Y (IA e bt) Ok (F1 pd g2 tb):=by
 intro ps s σ H D o a R dn I pl h
 refine Ra (bf (hi _ s σ H _ I h) λv s1 h1=>Ra (Th (Ra (Vq (hs v) (Ra (Rn (bf h1 λEH s2 h2=>?_)))))))
 obtain ⟨it,fp,tn,J,H2,e,I2,T,fh,f2,hw⟩:=h2
 subst e
 refine Ra (wpAny_runOwn (Ui (vU (R:=λr s'=>match r with
  | .ok _=>∃ ao H' a' o',Inv Y ((D,o')::ps) ao H' s'/\Ok D a' s'.heap/\R a' ao H'
  | .error _=>False) LO AO hx hc T hg eO hb dn I2 (AO.cu I I2 pl) fh f2 hw λs' ao H' a' o' I' ok q=>⟨ao,H',a',o',I',ok,q⟩) λr s5 h5=>?_))
 cases r with
 | ok f=>exact Rb h5
 | error e=>exact False.elim h5
section
variable {wi pd:TI}
theorem aEz (S:br X scope z own fr bc) (hc:X.calm=true) (hi:PI X tg iter wi) (hg:∀ C s0 H0 fp,PG (bN X scope z (own++bc) C s0 H0 fp) tg g) (ym:∀ C s0 H0 fp,PI (bN X scope z (own++bc) C s0 H0 fp) k7 bt pd) (He:∀ C s0 H0 fp,PG (bN X scope z (own++bc) C s0 H0 fp) k7 g2)
  (he:∀ C s0 H0 fp,PE (bN X scope z (own++bc) C s0 H0 fp) elt te) (hs:∀ x,foldedSetIterable iter X.env x=pure x:=by intro _; rfl) (qq:∀ C s0 H0 fp x,foldedSetIterable bt (bN X scope z (own++bc) C s0 H0 fp).env x=pure x:=by intro _ _ _ _ _; rfl) :
  PE X (.ListComp elt [⟨tg,iter,[],0⟩,⟨k7,bt,[],0⟩] scope pos) (f? own.length fr wi g pd g2 te) :=
 oY S rfl g? BZ hc (eval_ListComp ..) hi hg (λ_ _ _ _=>eO) (λC s0 H0 fp=>IQ g! BZ (λ_ _ z=>z) hc (qq C s0 H0 fp) (ym C s0 H0 fp) (He C s0 H0 fp) (IJ (he C s0 H0 fp))) hs λok hn _ q=>Lb ok hn q
end
section
variable {own:Nat} {pd:TI} {σ:St}
def D? (g2:TG) (te:TE) (SH:St->Prop) (vs:List V) (ar:St) (J2:It) (H4:Hp):Prop:=∃ AD:St->Prop,AD ar/\(∀ ik,AD ik->SH ik)/\(∀ H',aE H4 H'->J2.stop vs.length H')/\(∀ j H',j < vs.length->aE H4 H'->J2.go j H') /\
 ∀ j v y ik H5 H6,vs[j]?=some v->AD ik->aE H4 H5->J2.kz j H5 y H6->∀ Q:V->St->Hp->Prop,(∀ rh H7,AD rh->aE H5 H7->Q v rh H7)->g2 y ik H6 λrh H7=>te rh H7 λz H8=>Q z rh H8
theorem vZ (h:f9[i]?=some vs):(f9.take (i+1)).flatten=(f9.take i).flatten++vs:=by
 rw [Js,h,Wl]; simp
theorem aEA (h:f9[i]?=some vs):(f9.take i).flatten.length+vs.length<=f9.flatten.length:=by
 have e:=congrArg List.flatten (Yd (i+1) f9)
 rw [Wl,vZ h] at e
 rw [<- e,Qn,Qn]
 omega
theorem aEB (SH:St->Prop) (hn:f9.flatten.length<=1000) (hl:f9.length=n) (gf:SH (dj own fr σ)) (je:∀ H',aE H H'->J.stop n H') (Ao:∀ i H',i < n->aE H H'->J.go i H') (hs:∀ i vs x σ H1 H2,i < n->f9[i]?=some vs->SH σ->aE H H1->J.kz i H1 x H2->∀ P:St->It->Hp->Prop,(∀ ar J2 H4,aE H1 H4->D? g2 te SH vs ar J2 H4->P ar J2 H4)->g x σ H2 λar H3=>pd ar H3 λJ2 H4=>P ar J2 H4) (hd:∀ H',aE H H'->Qf H' f9.flatten) :
  ic J [] (dj own fr σ) H (λys _ H=>Qf H ys) g rN (F1 pd g2 (mw te)):=by
 refine ⟨λi m ys ao H'=>i<=n/\m=n - i/\ys=(f9.take i).flatten/\SH ao/\aE H H',⟨n,Jb _,rfl,rfl,gf,aE.refl H⟩,?_⟩
 rintro i m ys ao H1 ⟨hi,rfl,rfl,sh,s1⟩
 by_cases e:i=n
 ·subst e
  refine .inl ⟨je H1 s1,?_⟩
  rw [Jn (by omega)]
  exact hd H1 s1
 have ax:i < n:=by omega
 refine .inr ⟨Ao i H1 ax s1,λzq ar H2=>zq=(f9.take (i+1)).flatten/\SH ar/\aE H H2,λzq ar H2 ⟨e1,e2,e3⟩=>⟨n - (i+1),by omega,by omega,rfl,e1,e2,e3⟩,λx H2 hy=>?_⟩
 have hv:f9[i]?=some f9[i]:=Qb (by omega)
 have m9:=aEA hv
 show g x ao H2 λar H3=>pd ar H3 λJ2 H4=>ic J2 _ ar H4 _ g2 rN (mw te)
 refine hs i f9[i] x ao H1 H2 ax hv sh s1 hy _ λar J2 H4 s4 au=>?_
 obtain ⟨AD,F6,hb,fh,go2,IQ⟩:=au
 refine ⟨λj m2 zs ik H5=>j<=(f9[i]).length/\m2=(f9[i]).length - j/\zs=(f9.take i).flatten++(f9[i]).take j/\AD ik/\aE H4 H5,⟨_,Jb _,rfl,by rw [Ym,Xx],F6,aE.refl _⟩,?_⟩
 rintro j m2 zs ik H5 ⟨hj,rfl,rfl,Lj,s5⟩
 by_cases e2:j=(f9[i]).length
 ·refine .inl ⟨e2 ▸ fh H5 s5,?_,hb _ Lj,(s1.trans s4).trans s5⟩
  rw [vZ hv,show (f9[i]).take j=f9[i] from Jn (by omega)]
 ·have yl:j < (f9[i]).length:=by omega
  refine .inr ⟨go2 j H5 yl s5,λK4 rh H6=>K4=(f9.take i).flatten++(f9[i]).take (j+1)/\AD rh/\aE H4 H6,λK4 rh H6 ⟨q1,q2,q3⟩=>⟨(f9[i]).length - (j+1),by omega,by omega,rfl,q1,q2,q3⟩,λy H6 Gx=>?_⟩
  have Cw:(f9[i])[j]?=some (f9[i])[j]:=Qb yl
  show g2 y ik H6 λrh H7=>te rh H7 λz H8=>_/\_
  refine IQ j _ y ik H5 H6 Cw Lj s5 Gx _ λrh H7 SV s7=>⟨JI (n:=((f9.take i).flatten++(f9[i]).take j).length+1) (by rw [Qn,Qu]; omega),?_,SV,s5.trans s7⟩
  rw [Js,Cw,<- Xr]
  rfl
end
section
variable [DecidableEq κ]
def eF (kvs:List (κ×V)) (k:κ):Option V:=(kvs.find? λkv=>decide (kv.1=k)).map (·.2)
def kH (kvs:List (κ×V)) (k:κ) (v:V):List (κ×V) :=
 if (kvs.any λkv=>decide (kv.1=k))=true then kvs.map (λkv=>if kv.1=k then (kv.1,v) else kv) else kvs++[(k,v)]
theorem aEC {k:κ}:eF ([]:List (κ×V)) k=none:=rfl
theorem fM {p:κ×V} {r:List (κ×V)} {k:κ} (e:p.1=k):eF (p::r) k=some p.2:=by simp [eF,Xm,e]
theorem gG {p:κ×V} {r:List (κ×V)} {k:κ} (e:¬ p.1=k):eF (p::r) k=eF r k:=by simp [eF,Xm,e]
theorem iY (k:κ):∀ kvs:List (κ×V),(kvs.any λkv=>decide (kv.1=k))=(eF kvs k).isSome
 | []=>rfl
 | p::r=>by
  rw [Za]
  by_cases e:p.1=k
  ·simp only [fM e,decide_eq_true e,Bool.true_or,Wq]
  ·rw [gG e,decide_eq_false e,Bool.false_or]; exact iY k r
theorem zZ (k j:κ) (y:V):∀ kvs:List (κ×V),eF (kvs.map λkv=>if kv.1=k then (kv.1,y) else kv) j=(eF kvs j).map λx=>if j=k then y else x
 | []=>rfl
 | p::r=>by
  have ih:=zZ k j y r
  rw [Qv]
  by_cases h:p.1=k
  ·rw [if_pos h]
   by_cases e:p.1=j
   ·rw [fM (p:=(p.1,y)) e,fM e,Xl,if_pos (e.symm.trans h)]
   ·rw [gG (p:=(p.1,y)) e,gG e,ih]
  ·rw [if_neg h]
   by_cases e:p.1=j
   ·rw [fM (p:=p) e,fM e,Xl,if_neg (λz=>h (e.trans z))]
   ·rw [gG (p:=p) e,gG e,ih]
theorem qL (k j:κ) (y:V):∀ kvs:List (κ×V),eF kvs k=none->eF (kvs++[(k,y)]) j=if j=k then some y else eF kvs j
 | [],_=>by
  by_cases e:k=j
  ·rw [if_pos e.symm]; exact fM (p:=(k,y)) e
  ·rw [if_neg (λz=>e z.symm)]; exact gG (p:=(k,y)) e
 | p::r,hn=>by
  rw [Yx]
  have hk:¬ p.1=k:=λz=>by rw [fM z] at hn; cases hn
  rw [gG hk] at hn
  have ih:=qL k j y r hn
  by_cases e:p.1=j
  ·rw [fM e,fM e,if_neg (λz=>hk (e.trans z))]
  ·rw [gG e,gG e,ih]
theorem RJ (kvs:List (κ×V)) (k j:κ) (y:V):eF (kH kvs k y) j=if j=k then some y else eF kvs j:=by
 unfold kH
 by_cases a:(kvs.any λkv=>decide (kv.1=k))=true
 ·rw [if_pos a,zZ]
  rw [iY] at a
  by_cases e:j=k
  ·obtain ⟨x,hx⟩:=Yp.mp a
   rw [if_pos e,e,hx,Xl,if_pos rfl]
  ·rw [if_neg e]
   cases eF kvs j with
   | none=>rfl
   | some x=>rw [Xl,if_neg e]
 ·rw [if_neg a]
  refine qL k j y kvs ?_
  rw [iY] at a
  cases q:eF kvs k with
  | none=>rfl
  | some x=>rw [q] at a; exact (a rfl).elim
theorem mL (kvs:List (κ×V)) (k:κ) (v:V):(kH kvs k v).length<=kvs.length+1:=by
 unfold kH
 split
 ·rw [Qc]; omega
 ·rw [Qn,Jg,Yk]; omega
theorem aED {kvs:List (κ×V)} {k:κ} (v:V) (h:eF kvs k=none):kH kvs k v=kvs++[(k,v)]:=by
 unfold kH
 rw [iY,h]
 exact if_neg (by decide)
theorem oS.ij {o:Option V} {u:Option Value} (r:oS o u):o.isSome=u.isSome:=by
 cases o with
 | none => cases u with
   | none=>rfl
   | some _=>exact (show False from r).elim
 | some _ => cases u with
   | none=>exact (show False from r).elim
   | some _=>rfl
theorem KV.val {kvs:List (κ×V)} {vs:List (κ×Value)} (r:KV kvs vs) (k:κ):oS (eF kvs k) (valueAt vs k):=by
 unfold KV at r
 induction r with
 | nil=>exact True.intro
 | @cons p q ps qs h t ih =>
  obtain ⟨h1,h2⟩:=h
  by_cases e:p.1=k
  ·have e':q.1=k:=h1.symm.trans e
   have b:valueAt (q::qs) k=some q.2:=by simp [valueAt,Xm,e']
   rw [fM e,b]; exact h2
  ·have e':¬ q.1=k:=λz=>e (h1.trans z)
   have b:valueAt (q::qs) k=valueAt qs k:=by simp [valueAt,Xm,e']
   rw [gG e,b]; exact ih
theorem KV.any {kvs:List (κ×V)} {vs:List (κ×Value)} (r:KV kvs vs) (k:κ):(kvs.any λkv=>decide (kv.1=k))=vs.any λkv=>decide (kv.1=k):=by
 unfold KV at r
 induction r with
 | nil=>rfl
 | cons h t ih=>rw [Za,Za,ih,h.1]
theorem KV.de {kvs:List (κ×V)} {vs:List (κ×Value)} (r:KV kvs vs) (k:κ) (ry:bY y u) :
  KV (kvs.map λkv=>if kv.1=k then (kv.1,y) else kv) (vs.map λkv=>if kv.1=k then (kv.1,u) else kv):=by
 unfold KV at r ⊢
 induction r with
 | nil=>exact .nil
 | @cons p q ps qs h t ih =>
  rw [Qv,Qv]
  refine .cons ?_ ih
  obtain ⟨h1,h2⟩:=h
  by_cases e:p.1=k
  ·rw [if_pos e,if_pos (h1.symm.trans e)]; exact ⟨h1,ry⟩
  ·rw [if_neg e,if_neg (λz=>e (h1.trans z))]; exact ⟨h1,h2⟩
theorem KV.put {kvs:List (κ×V)} {vs:List (κ×Value)} (r:KV kvs vs) (k:κ) (ry:bY y u):KV (kH kvs k y) (stored vs k u):=by
 unfold kH stored
 rw [r.any k]
 by_cases e:(vs.any λkv=>decide (kv.1=k))=true
 ·rw [if_pos e,if_pos e]; exact r.de k ry
 ·rw [if_neg e,if_neg e]; exact Paired.snoc r ⟨rfl,ry⟩
theorem KV.keys {kvs:List (κ×V)} {vs:List (κ×Value)} (r:KV kvs vs):kvs.map (·.1)=vs.map (·.1):=by
 unfold KV at r
 induction r with
 | nil=>rfl
 | cons h t ih=>rw [Qv,Qv,ih,h.1]
theorem KV.length {kvs:List (κ×V)} {vs:List (κ×Value)} (r:KV kvs vs):kvs.length=vs.length:=Paired.length r
end
theorem Di {k:Key} (r:bY (kV k) u):(cH P w).is k u=true:=by
 cases k with
 | inl i=>obtain ⟨t,e⟩:=(show ∃ t,u=Value.int i t from r); subst e; exact yR P w i t
 | inr x=>obtain ⟨t,e⟩:=(show ∃ t,u=Value.str x t from r); subst e; exact yS P w x t
theorem wA:∀ {ks:List Key} {us:List Value},bR (ks.map kV) us->ItemsAre (cH P w) ks us
 | [],_,r=>by rw [Yz] at r; cases r; exact .nil
 | k::ks,_,r=>by
  rw [Qv] at r
  cases r with
  | cons h t=>exact .cons (Di h) (wA t)
abbrev KT (H:Hp):List (List Key×V)->List (List Key×Addr×Value)->Prop:=Paired λp q=>p.1=q.1/\H q.2.1=some (.tup (p.1.map kV))/\bY p.2 q.2.2
theorem KT.val {xs:List (List Key×Addr×Value)} (r:KT H kvs xs) (k:List Key):oS (eF kvs k) ((atKey xs k).map (·.2)):=by
 induction r with
 | nil=>exact True.intro
 | @cons p q ps qs h t ih =>
  obtain ⟨h1,_,h2⟩:=h
  by_cases e:p.1=k
  ·have e':q.1=k:=h1.symm.trans e
   have b:atKey (q::qs) k=some q.2:=by simp [atKey,Xm,e']
   rw [fM e,b]; exact h2
  ·have e':¬ q.1=k:=λz=>e (h1.trans z)
   have b:atKey (q::qs) k=atKey qs k:=by simp [atKey,Xm,e']
   rw [gG e,b]; exact ih
theorem KT.de {xs:List (List Key×Addr×Value)} (r:KT H kvs xs) (k:List Key) (ry:bY y u) :
  KT H (kvs.map λkv=>if kv.1=k then (kv.1,y) else kv) (xs.map (putAt k u)):=by
 induction r with
 | nil=>exact .nil
 | @cons p q ps qs h t ih =>
  rw [Qv,Qv]
  refine .cons ?_ ih
  obtain ⟨h1,h2,h3⟩:=h
  unfold putAt
  by_cases e:p.1=k
  ·rw [if_pos e,if_pos (h1.symm.trans e)]; exact ⟨h1,h2,ry⟩
  ·rw [if_neg e,if_neg (λz=>e (h1.trans z))]; exact ⟨h1,h2,h3⟩
theorem KT.put {xs:List (List Key×Addr×Value)} (r:KT H kvs xs) (k:List Key) (hb:H b=some (.tup (k.map kV))) (ry:bY y u) :
  KT H (kH kvs k y) (storedH xs k b u):=by
 have e:(kvs.any λkv=>decide (kv.1=k))=(atKey xs k).isSome:=by
  rw [iY,(r.val k).ij,Wu]
 unfold kH storedH
 rw [e]
 by_cases q:(atKey xs k).isSome=true
 ·rw [if_pos q,if_pos q]; exact r.de k ry
 ·rw [if_neg q,if_neg q]; exact Paired.snoc r ⟨rfl,hb,ry⟩
theorem KT.keeps {xs:List (List Key×Addr×Value)} (r:KT H kvs xs) (ht:∀ b ys,H b=some (.tup ys)->H' b=some (.tup ys)):KT H' kvs xs :=
 Paired.DB r λ_ _ z=>⟨z.1,ht _ _ z.2.1,z.2.2⟩
theorem O7 {u:HO} (ok:fw P w H h) (e:Rd H a u):bM P w H h a u:=e.ok ok
theorem FC {kvs:List (Key×V)} (ok:fw P w H h) (e:Rd H a (.dK kvs)):kvs.length<=sizeLine/\(a==sysModules)=false/\∃ vs,KV kvs vs/\h.DictOf (cH P w) a vs :=
 show bM P w H h a (.dK kvs) from O7 ok e
theorem ZY {kvs:List (Key×V)} (ok:fw P w H h) (e:H a=some (.dK kvs)):kvs.length<=sizeLine/\(a==sysModules)=false/\∃ vs,KV kvs vs/\h.DictOf (cH P w) a vs:=FC ok (.inl e)
theorem mM {ks:List Key} (ok:fw P w H h) (e:H a=some (.tup (ks.map kV))):(tupleKind (cH P w)).is h ks a:=by
 obtain ⟨_,ae,n,r,e1⟩:=(show bM P w H h a (.tup (ks.map kV)) from ok a _ e)
 exact ⟨_,ae.toArray,n,e1,rfl,rfl,by simpa using wA r⟩
theorem Dh (ok:fw P w H h) (e:Rd H a (.dT kvs)):kvs.length<=sizeLine/\(a==sysModules)=false /\
  ∃ xs,KT H kvs xs/\h.DictOfH (tupleKind (cH P w)) a xs:=by
 obtain ⟨z,y,xs,r,o,es,ep,h1,h2,h3,h4,h5⟩:=(show bM P w H h a (.dT kvs) from O7 ok e)
 refine ⟨z,y,xs,r,o,es,ep,h1,h2,h3,h4,λx hx=>?_,h5⟩
 have all:∀ {l:List (List Key×V)} {m:List (List Key×Addr×Value)},KT H l m->∀ x∈m,(tupleKind (cH P w)).is h x.1 x.2.1:=by
  intro l m q
  induction q with
  | nil=>intro x hx; exact nomatch hx
  | @cons p q ps qs hq t ih =>
   intro x hx
   rcases Qj.mp hx with e | hx
   ·subst e
    exact mM ok (by rw [<- hq.1]; exact hq.2.1)
   ·exact ih x hx
 exact all r x hx
theorem O6 (ok:fw P w H h) (e:H a=some (.dT kvs)):kvs.length<=sizeLine/\(a==sysModules)=false /\
  ∃ xs,KT H kvs xs/\h.DictOfH (tupleKind (cH P w)) a xs:=Dh ok (.inl e)
def yz (H:Hp) (a:Addr) (y:V) (r:Option V):Prop :=
 (∃ kvs k,Rd H a (.dK kvs)/\y=kV k/\r=eF kvs k)∨∃ kvs k b,Rd H a (.dT kvs)/\y=.ref b/\H b=some (.tup (k.map kV))/\r=eF kvs k
def xK (H:Hp) (a:Addr) (y v:V) (H':Hp):Prop :=
 (∃ kvs k,H a=some (.dK kvs)/\y=kV k/\kvs.length < sizeLine/\H'=upd H a (.dK (kH kvs k v))) ∨
 ∃ kvs k b,H a=some (.dT kvs)/\y=.ref b/\H b=some (.tup (k.map kV))/\kvs.length < sizeLine/\H'=upd H a (.dT (kH kvs k v))
theorem yz.k {kvs:List (Key×V)} {k:Key} (e:H a=some (.dK kvs)):yz H a (kV k) (eF kvs k):=.inl ⟨kvs,k,.inl e,rfl,rfl⟩
theorem xK.k {kvs:List (Key×V)} {k:Key} (e:H a=some (.dK kvs)) (hl:kvs.length < sizeLine):xK H a (kV k) v (upd H a (.dK (kH kvs k v))):=.inl ⟨kvs,k,e,rfl,hl,rfl⟩
theorem xK.t {k:List Key} (e:H a=some (.dT kvs)) (eb:H b=some (.tup (k.map kV))) (hl:kvs.length < sizeLine) :
  xK H a (.ref b) v (upd H a (.dT (kH kvs k v))):=.inr ⟨kvs,k,b,e,rfl,eb,hl,rfl⟩
section
variable {σ:St} {r:Value} {o:Option V}
theorem Inv.big (I:Inv X aa σ H s):sysModules < s.heap.objs.size:=by
 have h:mainGlobals < s.heap.objs.size:=(I.mod.glob.keeps I.bk).lt
 exact Zv (by decide) h
theorem aC7 (hu:A.units+1 < cLine) (I:Inv X aa σ H s) (g:yz H a y (some v)) (ry:bY y u) (h:∀ w' s',Inv X aa σ H s'->bY v w'->Q w' s') :
  wpAny (model X.prog X.w) A (getItem (.ref a) u) Q E s:=by
 rcases g with ⟨kvs,k,e,ey,l⟩ | ⟨kvs,k,b,e,ey,eb,l⟩
 ·subst ey
  obtain ⟨z,hd,vs,rel,dd⟩:=FC I.aq e
  obtain ⟨w',hw,gc⟩:=oS.some_of (v:=v) (o:=valueAt vs k) (by rw [l]; exact rel.val k)
  exact wpAny_getItem_of (Di ry) dd.mapOf hw (h w' _ (I.tok _) gc)
 ·subst ey
  cases (show u=Value.ref b from ry)
  obtain ⟨z,hd,xs,rel,dd⟩:=Dh I.aq e
  obtain ⟨w',hw,gc⟩:=oS.some_of (v:=v) (o:=(atKey xs k).map (·.2)) (by rw [l]; exact rel.val k)
  obtain ⟨p,hp,my⟩:=Option.map_eq_some_iff.mp hw
  refine wpAny_getItem_heap (Vu hu) (mM I.aq eb) dd hp ?_
  rw [my]
  exact h w' _ (I.tok _) gc
theorem D! (hu:A.units+1 < cLine) (I:Inv X aa σ H s) (g:yz H a y o) (ry:bY y u) (h:∀ s',Inv X aa σ H s'->Q (.bool (!o.isSome)) s') :
  wpAny (model X.prog X.w) A (compareOp .NotIn u (.ref a)) Q E s:=by
 rcases g with ⟨kvs,k,e,ey,l⟩ | ⟨kvs,k,b,e,ey,eb,l⟩
 ·subst ey
  obtain ⟨z,hd,vs,rel,dd⟩:=FC I.aq e
  refine wpAny_notIn_of (Di ry) hd dd.mapOf ?_
  rw [<- (rel.val k).ij,<- l]
  exact h _ (I.tok _)
 ·subst ey
  cases (show u=Value.ref b from ry)
  obtain ⟨z,hd,xs,rel,dd⟩:=Dh I.aq e
  refine wpAny_notIn_heap (Vu hu) (mM I.aq eb) hd dd ?_
  have q:=(rel.val k).ij
  rw [Wu] at q
  rw [<- q,<- l]
  exact h _ (I.tok _)
theorem rW {ob:HO} (I:Inv X aa σ H s) (mu:wx (H a)) (hs:Heap.SameBut a s.heap h') (he:∃ q,h'.get? a=some q) (new:bM X.prog X.w (upd H a ob) h' a ob) :
  Inv X aa σ (upd H a ob) { s with heap:=h',toks:=t' } :=
 I.write (x:=a) (e:=a) mu (.inl rfl) (λb q hb z=>(hs.2 b hb).trans z) he new
theorem Pz {kvs:List (Key×V)} {vs:List (Key×Value)} (z:kvs.length<=sizeLine) (hd:(a==sysModules)=false) (rel:KV kvs vs) (dd:h'.DictOf (cH P w) a vs) :
  bM P w H' h' a (.dK kvs):=⟨z,hd,vs,rel,dd⟩
theorem aC8 {Q:Unit->Shared->Prop} (hu:A.units+1 < cLine) (I:Inv X aa σ H s) (g:xK H a y v H') (ry:bY y u) (rv:bY v r) (h:∀ s',Inv X aa σ H' s'->Q () s') :
  wpAny (model X.prog X.w) A (setItem (.ref a) u r) Q E s:=by
 rcases g with ⟨kvs,k,e,ey,l,eH⟩ | ⟨kvs,k,b,e,ey,eb,l,eH⟩
 ·subst ey eH
  obtain ⟨z,hd,vs,rel,dd⟩:=ZY I.aq e
  have hz:vs.length<=sizeLine:=by rw [<- rel.length]; exact z
  have hl:(kH kvs k v).length<=sizeLine:=by have:=mL kvs k v; omega
  refine wpAny_setItem_pairs (hsz:=hz) (Di ry) dd λh' qz hs=>h _ ?_
  have he:∃ q,h'.get? a=some q:=let ⟨q,_,_,hq,_⟩:=qz; ⟨q,hq⟩
  exact rW I (by rw [e]; exact True.intro) hs he (Pz hl hd (rel.put k rv) qz)
 ·subst ey eH
  cases (show u=Value.ref b from ry)
  obtain ⟨z,hd,xs,rel,dd⟩:=O6 I.aq e
  have hz:xs.length<=sizeLine:=by rw [<- Paired.length rel]; exact z
  have hl:(kH kvs k v).length<=sizeLine:=by have:=mL kvs k v; omega
  refine wpAny_setItem_heap (hsz:=hz) (Vu hu) (mM I.aq eb) dd λh' qz hs=>h _ ?_
  obtain ⟨q,es,ep,hq,h2,h3,h4,_,h5⟩:=qz
  refine rW I (by rw [e]; exact True.intro) hs ⟨q,hq⟩ ⟨hl,hd,_,(rel.put k eb rv).keeps λc ys ec=>?_,q,es,ep,hq,h2,h3,h4,h5⟩
  rw [aK (Pc ec e (λz=>nomatch z))]
  exact ec
end
section
variable {σ:St} {kvs:List (Key×V)} {k:Key}
end
def Oy (i:Expr):Prop:=∀ ov iv,subscripted i false ov iv=operate [ov,iv] (getItem ov iv)
theorem C? {env:Env} {slice:Expr} {id:String} (hl:typeLookup (.type T) "__getitem__" = pure (some (.builtin id))) (hs:Oy slice) (h:wpAny (model prog w) A (eval value env) (λo b_=>wpAny (model prog w) A (eval slice env) (λi ip=>ip.TypeIs o T/\wpAny (model prog w) A (getItem o i) Q E ip) E b_) E s) :
  wpAny (model prog w) A (eval (.Subscript value slice pos) env) Q E s:=by
 refine Ie (Rp h (λo b_ jx=>Rp jx (λi ip Aw=>?_) λ_ _ x=>x) λ_ _ x=>x)
 obtain ⟨hT,Aw⟩:=Aw
 unfold subscriptTail
 refine Ra ?_
 rw [getitemInPython_of_ne hT.not_modules]
 refine Ra (RaS hT hl ?_)
 have fin:wpAny (model prog w) A (subscripted slice false o i) (λr yd=>wpAny (model prog w) A (letTemporaryGo value o r >>= λ_=>pure r) Q E yd) E ip:=by
  rw [hs o i]
  exact wpAny_operating (Rp Aw (λr yd Fc=>Ra (wpAny_letTemporaryGo (Rb Fc))) λ_ _ x=>x)
 first
  | exact Rb (Ra fin)
  | exact Ra (Rb (Ra fin))
  | exact Ra fin
theorem aAe {σ:St} {o:Option V} (I:Inv X aa σ H s) (g:yz H a y o):s.TypeIs (.ref a) "dict" := by
 rcases g with ⟨kvs,k,e,_,_⟩ | ⟨kvs,k,b,e,_,_,_⟩
 ·obtain ⟨_,_,vs,_,dd⟩:=FC I.aq e
  exact dd.typeIs
 ·obtain ⟨_,_,xs,_,dd⟩:=Dh I.aq e
  exact dd.typeIs
def ZX (td ty:TE):TE:=λσ H Q=>td σ H λx H1=>ty σ H1 λy H2=>∃ a v,x=.ref a/\yz H2 a y (some v)/\Q v H2
def C! (ty td:TE):TE:=λσ H Q=>ty σ H λy H1=>td σ H1 λx H2=>∃ a o,x=.ref a/\yz H2 a y o/\Q (.bl (!o.isSome)) H2
def ZW (td ty tv:TE):TS:=λD σ H=>tv σ H λv H1=>td σ H1 λx H2=>ty σ H2 λy H3=>∃ a H4,x=.ref a/\xK H3 a y v H4/\D.nx σ H4
section
variable {o i:Expr} {ty:TE}
theorem pE (hu:X.A.units+1 < cLine) (ho:PE X o td) (hi:PE X i ty) (hs:Oy i):PE X (.Subscript o i pos) (ZX td ty):=by
 intro aa s σ H Q I h
 refine C? PySem.F.slot_dict_getitem.lookup hs (bf (ho aa s σ H _ I h) λu s1 ⟨x,H1,I1,rx,q1⟩=>bf (hi aa s1 σ H1 _ I1 q1) λiv s2 au=>?_)
 obtain ⟨y,H2,I2,ry,a,v,ex,g,q2⟩:=au
 subst ex
 obtain rfl:u=Value.ref a:=rx
 exact ⟨aAe I2 g,aC7 hu I2 g ry λw' s3 I3 gc=>⟨v,H2,I3,gc,q2⟩⟩
theorem aC9 (hu:X.A.units+1 < cLine) (hi:PE X i ty) (ho:PE X o td):PC X .NotIn i o (C! ty td):=by
 intro aa s σ H Q I h
 refine bf (hi aa s σ H _ I h) λiv s1 ⟨y,H1,I1,ry,q1⟩=>bf (ho aa s1 σ H1 _ I1 q1) λu s2 au=>?_
 obtain ⟨x,H2,I2,rx,a,ov,ex,g,q2⟩:=au
 subst ex
 obtain rfl:u=Value.ref a:=rx
 exact D! hu I2 g ry λs3 I3=>⟨.bl (!ov.isSome),H2,I3,rfl,q2⟩
theorem xL (hu:X.A.units+1 < cLine) (ho:PE X o td) (hi:PE X i ty) (hv:PE X value tv) (hs:swapsWith value (some (.Subscript o i pos')) pos.line X.env=pure false) :
  PS X (.Assign [.Subscript o i pos'] value pos) (ZW td ty tv):=by
 intro aa s σ H D I h
 refine wpAny_Assign_Subscript (bf (hv aa s σ H _ I h) λr s1 ⟨v,H1,I1,rv,q1⟩=>bf (ho aa s1 σ H1 _ I1 q1) λu s2 ⟨x,H2,I2,rx,q2⟩=>bf (hi aa s2 σ H2 _ I2 q2) λiv s3 au=>?_) hs
 obtain ⟨y,H3,I3,ry,a,H4,ex,g,q3⟩:=au
 subst ex
 obtain rfl:u=Value.ref a:=rx
 exact aC8 hu I3 g ry rv λs4 I4=>⟨σ,H4,I4,q3⟩
end
theorem RI (h:Heap) (hb:sysModules < h.objs.size):bM P w H (h.push { cls:=.type "dict",data:=.dict #[] }) h.objs.size (.dK []) :=
 ⟨Jb _,beq_eq_false_iff_ne.mpr (Ne.symm (Qt hb)),[],.nil,Heap.DictOf.new h⟩
theorem RH (h:Heap) (hb:sysModules < h.objs.size):bM P w H (h.push { cls:=.type "dict",data:=.dict #[] }) h.objs.size (.dT []) :=
 ⟨Jb _,beq_eq_false_iff_ne.mpr (Ne.symm (Qt hb)),[],.nil,_,#[],0,Qg _ rfl,⟨rfl,rfl,rfl⟩,rfl,rfl,Zq⟩
def e?:TE:=λ_ H Q=>∀ p,H p=none->Q (.ref p) (upd H p (.dK []))
def e!:TE:=λ_ H Q=>∀ p,H p=none->Q (.ref p) (upd H p (.dT []))
theorem aEF:PE X (.Dict [] [] pos) e?:=λaa s σ H Q I h =>
 Mt ⟨.ref s.heap.objs.size,_,I.laid (a:=s.heap.objs.size) (o:=.dK []) (t':=s.toks) (λ_ _ q=>Qa _ q) (Qe _) (RI s.heap I.big),rfl,h _ (I.aq.fresh (Qe _))⟩
theorem aEG:PE X (.Dict [] [] pos) e!:=λaa s σ H Q I h =>
 Mt ⟨.ref s.heap.objs.size,_,I.laid (a:=s.heap.objs.size) (o:=.dT []) (t':=s.toks) (λ_ _ q=>Qa _ q) (Qe _) (RH s.heap I.big),rfl,h _ (I.aq.fresh (Qe _))⟩
def NF (H0:Hp) (a:Addr):Prop:=∀ o u,H0 a≠some (.cq o u)
section
variable {σ:St}
theorem Inv.freeze {kvs:List (Key×V)} (I:Inv X aa σ H s) (e:H a=some (.dK kvs)) (ho:s.heap.get? a=some o):Inv X aa σ (upd H a (.cq o (.dK kvs))) s:=by
 have m:wx (H a):=by rw [e]; trivial
 have q:bM X.prog X.w H s.heap a (.dK kvs):=I.aq a _ e
 exact I.write (x:=a) (e:=a) (t':=s.toks) m (.inl rfl) (λb u _ z=>z) ⟨o,ho⟩ ⟨ho,q⟩
theorem Inv.nf {kvs:List (Key×V)} (I:Inv X aa σ H s) (e:H a=some (.dK kvs)):NF X.mv a:=λo u z=>by
 have:=I.base.fj a o u z
 rw [e] at this; cases this
theorem Inv.JY {kvs:List (Key×V)} (I:Inv X aa σ H s) (e:H a=some (.cq o (.dK kvs))) (nf:NF X.mv a):Inv X aa σ (upd H a (.dK kvs)) s:=by
 have ne:∀ b,H b=none->b≠a:=λb n z=>by rw [z,e] at n; cases n
 have nt:∀ b xs,H b=some (.tup xs)->b≠a:=λb xs n z=>by rw [z,e] at n; cases n
 have no:∀ b x,H b=some (.own x)->b≠a:=λb xs n z=>by rw [z,e] at n; cases n
 obtain ⟨ho,q⟩:s.heap.get? a=some o/\bM X.prog X.w H s.heap a (.dK kvs):=I.aq a _ e
 have un:Un X.fs X.ex X.mv (upd H a (.dK kvs)) X.gb.heap s.heap:=by
  refine ⟨I.base.keep,I.base.slot,λb ob q n hx=>?_,I.base.there,λb xs q=>?_,λb ob u q=>?_,λb ps q=>?_⟩
  ·have z:=I.base.free b ob q n hx
   rw [aK (ne b z)]; exact z
  ·have z:=I.base.gq b xs q
   rw [aK (nt b xs z)]; exact z
  ·have z:=I.base.fj b ob u q
   have n:b≠a:=λy=>nf ob u (y ▸ q)
   rw [aK n]; exact z
  ·obtain ⟨m,z⟩:=I.base.gr b ps q
   have n:b≠a:=λy=>by rw [y,e] at z; cases z
   exact ⟨m,by rw [aK n]; exact z⟩
 refine ⟨I.ok,I.os,I.bare,un,I.loc,I.cell,?_,λx c h=>?_,λp hp=>?_,λb u h=>?_,I.len⟩
 ·rw [aK (ne _ I.free)]; exact I.free
 ·have z:=I.cp x c h
  rw [aK (ne _ z)]; exact z
 ·obtain ⟨p1,p2,p3⟩:=I.pin p hp
  exact ⟨p1,by rw [aK (ne _ p2)]; exact p2,p3⟩
 ·by_cases hb:b=a
  ·subst hb
   rw [aB] at h
   cases h
   exact bM.cu q (λ_ _ _ z=>z) (λc z=>by rw [aK (no c _ z)]; exact z) (λc xs z=>by rw [aK (nt c xs z)]; exact z)
  ·rw [aK hb] at h
   exact bM.cu (I.aq b u h) (λ_ _ _ z=>z) (λc z=>by rw [aK (no c _ z)]; exact z) (λc xs z=>by rw [aK (nt c xs z)]; exact z)
end
def Ds (a:Addr) (o:Obj) (kvs:List (Key×V)):It :=
 ⟨λi H=>H a=some (.cq o (.dK kvs))/\i < kvs.length,λi H x H'=>H'=H/\∃ p,kvs[i]?=some p/\x=kV p.1,λi H=>H a=some (.cq o (.dK kvs))/\i=kvs.length⟩
theorem RG {k:Key} (h:(cH P w).is k u=true):bY (kV k) u:=by
 rcases cY h with ⟨i,t,rfl,rfl⟩ | ⟨x,t,rfl,rfl⟩
 ·exact ⟨t,rfl⟩
 ·exact ⟨t,rfl⟩
theorem qM {es:Array DictEntry} {vs:List (Key×Value)} (ho:h.get? a=some o) (hd:o.data=.dict es ep) (d:h.DictOf (cH P w) a vs):h.DictAt (cH P w) a vs ep:=by
 obtain ⟨o',qy,wj,q1,q2,q3,r⟩:=d
 rw [ho] at q1; cases q1
 rw [hd] at q3; cases q3
 exact ⟨o,es,ho,q2,hd,r⟩
theorem aDa (a it:Addr) (o:Obj) (es:Array DictEntry) (ep:Nat) (hd:o.data=.dict es ep) (kvs:List (Key×V)) :
  Turn P w K tg (Ds a o kvs) [it] it (λi h=>h.IsKeyIter it a i kvs.length ep) where
 mem:=by simp
 obj:=λi h st b hb=>by
  have e:b=it:=by simpa using hb
  subst e
  obtain ⟨o,e,c,d⟩:=st
  exact ⟨o,e,λv z=>by rw [d] at z; cases z⟩
 keep:=λi h h' st k=>st.at λo e=>k it (by simp) o e
 item:=by
  intro X hP hw hK hc i aa s σ H E I hf st hg
  subst hP hw hK
  obtain ⟨hA,hi⟩:=hg
  obtain ⟨ho,hz,hs,vs,kv,dd⟩:s.heap.get? a=some o/\bM X.prog X.w H s.heap a (.dK kvs):=I.aq a _ hA
  have da:=qM ho hd dd
  have hl:kvs.length=vs.length:=kv.length
  obtain ⟨f0,f1,f2,f3,f4,f5⟩:=hf it (by simp)
  obtain ⟨⟨k,x⟩,hx⟩:∃ p,vs[i]?=some p:=⟨vs[i]'(by omega),by simp⟩
  rw [hl] at st
  refine wpAny_pyNext_dict_item st da hx λkey h' jd kr sb=>?_
  have I1:Inv X aa σ H { s with heap:=h' }:=I.turned (t':=s.toks) (λb o hb e=>(sb.2 b hb).trans e) f0 f1 f3 f4 f5
  obtain ⟨o',e',c',d'⟩:=id kr
  have hk:kvs[i]?=some (kvs[i]):=Qb hi
  have yk:(kvs[i]).1=k:=by
   have e:=kv.keys
   have e1:(kvs.map (·.1))[i]?=some (kvs[i]).1:=by rw [Qh,hk]; rfl
   have e2:(vs.map (·.1))[i]?=some k:=by rw [Qh,hx]; rfl
   rw [e,e2] at e1
   exact (Option.some.inj e1).symm
  rw [<- hl] at kr
  exact ⟨key,rfl,yV (s:={ s with heap:=h' }) e' c' d' (by decide) ⟨kV k,H,I1,RG jd,⟨rfl,_,hk,by rw [yk]⟩,kr,λb hb=>(hf b hb).1⟩⟩
 done:=by
  intro X hP hw hK hc i aa s σ H E I hf st hg
  subst hP hw hK
  obtain ⟨hA,hi⟩:=hg
  obtain ⟨ho,hz,hs,vs,kv,dd⟩:s.heap.get? a=some o/\bM X.prog X.w H s.heap a (.dK kvs):=I.aq a _ hA
  have da:=qM ho hd dd
  have hl:kvs.length=vs.length:=kv.length
  obtain ⟨f0,f1,f2,f3,f4,f5⟩:=hf it (by simp)
  rw [hl] at st
  exact wpAny_pyNext_dict_end (I.ok.hd hc) st da (by simp; omega) λh' eb=>⟨rfl,I.turned (t':=s.toks) (λb o hb e=>eb b o hb e) f0 f1 f3 f4 f5⟩
 self:=λ_ _ _ _ _ st h=>RaA st h
def ZV (H0:Hp) (td:TE):TI:=λσ H R=>td σ H λx H1=>∃ a kvs,x=.ref a/\H1 a=some (.dK kvs)/\∀ o,NF H0 a->R (Ds a o kvs) (upd H1 a (.cq o (.dK kvs)))
theorem B? {d:Expr} (hl:PE X d td):PI X tg d (ZV X.mv td):=by
 intro aa s σ H R I h
 refine bf (hl aa s σ H _ I h) λv s1 au=>?_
 obtain ⟨x,H1,I1,r1,q1⟩:=au
 obtain ⟨a,kvs,e,hq,q⟩:=q1
 subst e
 cases r1
 obtain ⟨hz,hs,vs,kv,dd⟩:bM X.prog X.w H1 s1.heap a (.dK kvs):=I1.aq a _ hq
 obtain ⟨o,es,ep,ho,oe,hd,r⟩:=id dd
 have da:=qM ho hd dd
 refine RaG hs da ?_
 have I2:=(I1.freeze hq ho).kept (h':=s1.heap.push { cls:=.type "dict_keyiterator",data:=.fields #[.ref a,.int 0 0,.int vs.length 0,.int ep 0] }) (t':=s1.toks) λb o e=>Qa _ e
 have nA:a≠s1.heap.objs.size:=Qt (Qo ho)
 refine ⟨s1.heap.objs.size,[s1.heap.objs.size],_,_,_,rfl,I2,aDa a _ o es ep hd kvs,?_,λb hb=>?_,q o (I1.nf hq)⟩
 ·refine ⟨_,Qg _ rfl,rfl,?_⟩
  rw [kv.length]; rfl
 ·have e:b=s1.heap.objs.size:=by simpa using hb
  subst e
  exact I1.i6 (Qe _) (by rw [aK (Ne.symm nA)]; exact I1.aq.fresh (Qe _))
def ZU (H0:Hp) (t:TS):TS:=λD σ H=>t { D with nx:=λao H'=>∃ a o kvs,H' a=some (.cq o (.dK kvs))/\NF H0 a/\D.nx ao (upd H' a (.dK kvs)) } σ H
theorem B! {t:TS} (h:PS X st t):PS X st (ZU X.mv t):=by
 intro aa s σ H D I q
 refine bf (h aa s σ H _ I q) λf s1 z=>?_
 cases f with
 | next =>
  obtain ⟨ao,H',I',a,o,kvs,e,nf,k⟩:=z
  exact ⟨ao,_,I'.JY e nf,k⟩
 | brk=>exact z
 | cont=>exact z
 | ret u=>exact z
theorem aEH {kvs:List (Key×V)} {σ:St} (Pv:Nat->St->Hp->Prop) (h0:Pv 0 σ H) (hl:∀ i σ H,i<=kvs.length->Pv i σ H->H a=some (.cq o (.dK kvs))) (hs:∀ i p σ H,kvs[i]?=some p->Pv i σ H->g (kV p.1) σ H λar H2=>tb { D with nx:=Pv (i+1),ct:=Pv (i+1),bk:=D.nx } ar H2) (hd:∀ σ H,Pv kvs.length σ H->D.nx σ H) :
  ∃ W:Nat->Nat->St->Hp->Prop,(∃ m,W 0 m σ H)/\∀ i m σ H,W i m σ H ->
   ((Ds a o kvs).stop i H/\D.nx σ H)∨((Ds a o kvs).go i H/\∃ N:St->Hp->Prop,(∀ ao H',N ao H'->∃ m',m' < m/\W (i+1) m' ao H')/\∀ x H',(Ds a o kvs).kz i H x H'->g x σ H' λar H2=>tb { D with nx:=N,ct:=N,bk:=D.nx } ar H2):=by
 refine ⟨λi m σ H=>m=kvs.length - i/\i<=kvs.length/\Pv i σ H,⟨kvs.length,by simp,Jb _,h0⟩,?_⟩
 rintro i m σ H ⟨rfl,hi,p⟩
 have q:=hl i σ H hi p
 by_cases ax:i < kvs.length
 ·refine .inr ⟨⟨q,ax⟩,Pv (i+1),λao H' p'=>⟨kvs.length - (i+1),by omega,rfl,ax,p'⟩,λx H' y=>?_⟩
  obtain ⟨rfl,v,hv,rfl⟩:=y
  exact hs i v σ H' hv p
 ·have e:i=kvs.length:=by omega
  subst e
  exact .inl ⟨⟨q,rfl⟩,hd σ H p⟩
def d? (tk tv:TE):TE:=λσ H Q=>∀ p,H p=none->tk σ (upd H p (.dK [])) λx H1=>tv σ H1 λy H2=>∃ k,x=kV k/\H2 p=some (.dK [])/\Q (.ref p) (upd H2 p (.dK [(k,y)]))
section
variable {ek ev:Expr}
theorem aEI (hk:PE X ek tk) (hv:PE X ev tv) (he:evalEachOpt [some ek] X.env = [some (eval ek X.env)]:=by rfl) (CL:evalEach [ev] X.env = [eval ev X.env]:=by rfl):PE X (.Dict [some ek] [ev] pos) (d? tk tv):=by
 intro aa s σ H Q I h
 have I0:Inv X aa σ (upd H s.heap.objs.size (.dK [])) { s with heap:=s.heap.push { cls:=.type "dict",data:=.dict #[] } }:=I.laid (a:=s.heap.objs.size) (o:=.dK []) (t':=s.toks) (λ_ _ q=>Qa _ q) (Qe _) (RI s.heap I.big)
 have h0:=h s.heap.objs.size (I.aq.fresh (Qe _))
 refine wpAny_Dict_pairs (knd:=cH X.prog X.w) (pairs:=[(eval ek X.env,do let x<-eval ev X.env; standAt pos; pure x)]) (by rw [he,CL]; rfl) (by simp) (by simp) ?_
 refine evalPairs_cons (bf (hk aa _ σ _ _ I0 h0) λkv s1 au=>?_)
 obtain ⟨x,H1,I1,r1,q1⟩:=au
 refine Ra (bf (hv aa _ σ _ _ I1 q1) λvv s2 au=>?_)
 obtain ⟨y,H2,I2,r2,q2⟩:=au
 refine Ra (Th (Rb (evalPairs_nil ?_)))
 obtain ⟨k,rfl,hp,q⟩:=q2
 obtain ⟨hz,hs,vs,UO,dd⟩:bM X.prog X.w H2 s2.heap s.heap.objs.size (.dK []):=I2.aq _ _ hp
 have XC:vs = []:=by
  have:=UO.length
  exact Jz.mp this.symm
 subst XC
 refine ⟨[(k,vv)],⟨Di r1,rfl,trivial⟩,dd,λh' qz sb=>?_⟩
 have em:merged ([]:List (Key×Value)) [(k,vv)] = [(k,vv)]:=by simp [merged,stored]
 rw [em] at qz
 obtain ⟨o',qy,wj,gn,_⟩:=id qz
 have mu:wx (H2 s.heap.objs.size):=by rw [hp]; trivial
 refine ⟨.ref s.heap.objs.size,_,rW (t':=s2.toks+1) I2 mu sb ⟨_,gn⟩ (Pz (kvs:=[(k,y)]) (by simp [Rg]) hs (.cons ⟨rfl,r2⟩ .nil) qz),rfl,q⟩
end
def kI (h:Heap) (u:Value) (i:Int) (v:Value):Prop:=∃ p,u=.ref p/\((∃ ae:Array Value,h.IsTuple p ae/\0<=i/\i < 1000/\ae[i.toNat]?=some v)∨∃ ae:Array Value,h.IsList p ae/\0<=i/\i < 1000/\ae[i.toNat]?=some v)
theorem kI.keeps {i:Int} {v:Value} (x:kI h u i v) (k:∀ b o,h.get? b=some o->h'.get? b=some o):kI h' u i v:=by
 obtain ⟨p,rfl,⟨ae,⟨o,ho,r⟩,q⟩ | ⟨ae,⟨o,ho,r⟩,q⟩⟩:=x
 ·exact ⟨p,rfl,.inl ⟨ae,⟨o,k _ _ ho,r⟩,q⟩⟩
 ·exact ⟨p,rfl,.inr ⟨ae,⟨o,k _ _ ho,r⟩,q⟩⟩
theorem pF {i:Int} (h0:0<=i) (h1:i.toNat < n):seqIndex? i n=some i.toNat:=by
 unfold seqIndex?
 have e:¬ (i < 0):=by omega
 simp only [e,if_false]
 have e2:(decide (0<=i) && decide (i < (n:Int)))=true:=by simp; omega
 rw [if_pos e2]
theorem A? {env:Env} {m:Str->Option Value} {v:Value} {i:Int} {t:Tok} (hk:env.scope.kind=.function) (hv:env.kindOf vn=some .free) (hx:env.kindOf xn=some .local) (hc:env.cells.lookup vn=some c) (hC:s.heap.IsCell c (some u)) (hn:s.heap.Ns env.locals m) (hm:m xn=some (.int i t)) (hI:kI s.heap u i v) (h:Q v s) (d1:(vn==("__debug__" : Str))=false) (d2:(vn==("__classdict__" : Str))=false) (d3:(xn==("__debug__" : Str))=false) :
  wpAny (model prog w) A (eval (.Subscript (.Name vn p1) (.Name xn p2) p3) env) Q E s:=by
 refine Ie (Mc (RaB hk hv hc hC ?_ d2) d1)
 refine Mc (Rau hk hx hn hm ?_) d3
 obtain ⟨p,rfl,⟨ae,hp,i0,i1,e⟩ | ⟨ae,hp,i0,i1,e⟩⟩:=hI
 ·have ax:i.toNat < ae.size:=(Array.getElem?_eq_some_iff.mp e).1
  exact Vg (x:=v) hp.typeIs slot_tuple_getitem.lookup
   (getItem_tuple (j:=i.toNat) (Q:=λr s'=>r=v/\Q r s') hp (by omega) (by omega) (pF i0 ax) e ⟨rfl,h⟩)
 ·have ax:i.toNat < ae.size:=(Array.getElem?_eq_some_iff.mp e).1
  exact Vg (x:=v) hp.typeIs slot_list_getitem.lookup
   (wpAny_getItem_list (Q:=λr s'=>r=v/\Q r s') hp (by omega) (by omega) e ⟨rfl,h⟩)
theorem aEJ {c':Addr} {q nm:Str} {ow v:Value} {i:Int} {t:Tok} (ub:A.depth < recursionLimit) (t7:s.heap.NoLimit) (hf:s.heap.get? f=some { cls:=.type "function",data:=.func (Uy nm q params (.Subscript (.Name vn p1) (.Name xn p2) p3) scope cl pm (.ref c') ow) }) (jm:s.heap.CodeRec (.ref c') q) (l8:bindArgs (Uy nm q params (.Subscript (.Name vn p1) (.Name xn p2) p3) scope cl pm (.ref c') ow) ⟨[.int i t],[]⟩=pure [(xn,.int i t)]) (hx:scope.names.lookup xn=some .local) (hv:scope.names.lookup vn=some .free) (Hl:scope.isCoroutine=false) (A1:scope.isGenerator=false) (hk:scope.kind=.function) (fc:∀ x∈scope.names,x.2≠.cell) (hc:cl.lookup vn=some c) (hC:s.heap.IsCell c (some u)) (hI:kI s.heap u i v) (h:∀ h' tk,(∀ b o,s.heap.get? b=some o->h'.get? b=some o)->Q v { s with heap:=h',toks:=tk }) (d1:(vn==("__debug__" : Str))=false) (d2:(vn==("__classdict__" : Str))=false) (d3:(xn==("__debug__" : Str))=false) :
  wpAny (model prog w) A (call (.ref f) [.int i t]) Q E s:=by
 refine Me (PySem.W.kla_callFunE ub hf rfl Hl A1 rfl jm ?_)
 rw [l8]
 refine Rb (Ray fc (λy hy=>by rw [Qq.mp hy]; exact hx) (λjx iz Bw=>⟨t7.fresh _ Bw,?_⟩) hk)
 have A0:∀ b o,s.heap.get? b=some o->jx.get? b=some o:=λb o e=>Bw.extBut b o (Qt (Qo e)) (Qa _ e)
 obtain ⟨oc,om,CO⟩:=hC
 refine PySem.W.kla_codeExpr (A? (env:=newEnv scope s.heap.objs.size mainGlobals cl (q ++ ".<locals>.") (some f) (.ref c') none builtinsNs) (m:=λx=>[(xn,Value.int i t)].reverse.lookup x) (t:=t) hk hv hx hc ⟨oc,A0 _ _ om,CO⟩ iz ?_ (hI.keeps A0) (h jx _ A0) d1 d2 d3)
 simp [List.lookup]
section
variable {wr:List Addr} {Pv:Nat->Value->Prop} {St:Nat->Heap->Prop} {kf:Nat->Int} {L:List (Addr×Obj)}
def IW (prog:Program) (w:World) (A:Around) (f:Addr) (L:List (Addr×Obj)) (n:Nat) (Pv:Nat->Value->Prop) (kf:Nat->Int):Prop :=
 ∀ i v (s:Shared) (Q:Value->Shared->Prop) (E:Value->Shared->Prop),i < n->Pv i v->(∀ p∈L,s.heap.get? p.1=some p.2) ->
  (∀ h' tk t,(∀ b o,s.heap.get? b=some o->h'.get? b=some o)->Q (.int (kf i) t) { s with heap:=h',toks:=tk })->wpAny (model prog w) A (call (.ref f) [v]) Q E s
abbrev js (kf:Nat->Int):Nat->Nat->Bool:=λi j=>decide (kf i < kf j)
theorem xM (W:Walks prog w A.in1 I fp wr n Pv St) (jd:IW prog w A.in1 f L n Pv kf) (S:Addr) (yp:S∉fp) (hL:∀ p∈L,p.1∉wr/\p.1≠S) :
  ∀ (k j:Nat) (s:Shared) (vb:Value) (t:Tok) (c:Nat),n - (j+1)=k->j+1<=n->St (j+1) s.heap->Pv (argBest (js kf) j) vb ->
  s.heap.get? S=some { cls:=.type "list",dict:=none,data:=.seq #[vb,.int (kf (argBest (js kf) j)) t] c,slots:=#[] }->(∀ p∈L,s.heap.get? p.1=some p.2) ->
  (∀ v h' tk,Pv (argBest (js kf) (n - 1)) v->(∀ b o,b∉wr->b≠S->s.heap.get? b=some o->h'.get? b=some o)->R (.ok (.ret v)) { s with heap:=h',toks:=tk }) ->
  codeAny (model prog w) A (.builtin "min.loop" ⟨[.ref I,.ref f,.ref S],[]⟩) R s:=by
 have E7:S∉wr:=λh=>yp (W.sub _ h)
 have j4:(toString "min" ++ toString ".loop" : String) = "min.loop" := by decide
 intro k
 induction k with
 | zero =>
  intro j s vb t c hk hj gh Hx hS u4 hR
  have EZ:j+1=n:=by omega
  refine To F.entry_min_loop ?_
  rw [Around.under_plainId F.plain_min_loop _]
  show wpAny _ A.in1 (seqItems? (.ref S) >>= _) _ _ s
  refine Ra (Tn hS rfl ?_)
  show wpAny _ A.in1 (tryCatch (pyNext (.ref I)) _ >>= _) _ _ s
  refine Ra (Vj (W.done s _ _ (EZ ▸ gh) λh' tk kk=>?_))
  have wb:=kk S _ E7 hS
  show wpAny _ A.in1 (updateSeq S (λ_=>#[]) >>= _) _ _ _
  refine Ra ?_
  refine Vs wb rfl (Ra (Uq (Rb ?_)))
  exact hR vb _ _ (by rw [<- EZ]; exact Hx) λb o hb v_ e=>(Je _ _ (Ne.symm v_)).trans (kk b o hb e)
 | succ k ih =>
  intro j s vb t c hk hj gh Hx hS u4 hR
  have ax:j+1 < n:=by omega
  refine To F.entry_min_loop ?_
  rw [Around.under_plainId F.plain_min_loop _]
  show wpAny _ A.in1 (seqItems? (.ref S) >>= _) _ _ s
  refine Ra (Tn hS rfl ?_)
  show wpAny _ A.in1 (tryCatch (pyNext (.ref I)) _ >>= _) _ _ s
  refine Ra (Vj (W.item (j+1) s _ _ ax gh λv h1 SF hP AV Ad=>?_))
  have Hv:=Ad S _ E7 hS
  show wpAny _ A.in1 (tryCatch (holding [v] (call (.ref f) [v])) _ >>= _) _ _ _
  refine Ra (Vj (Rn (jd (j+1) v _ _ _ ax hP (λp hp=>Ad _ _ (hL p hp).1 (u4 p hp)) λh2 FZ t2 Ac=>?_)))
  have BM:=Ac S _ Hv
  have xj:St (j+1+1) h2:=W.frame _ _ _ AV λb _ o e=>Ac b o e
  show wpAny _ A.in1 (tryCatch (holding [v,.int (kf (j+1)) t2] (richCompare .Lt (.int (kf (j+1)) t2) (.int (kf (argBest (js kf) j)) t) >>= _)) _ >>= _) _ _ _
  have KC:CmpOf prog w A.in1 .Lt (λi u=>∃ t,u=.int (kf i) t) (js kf):=CmpOf.ints_lt kf λi v h=>h
  refine Ra (Vj (Rn (Ra (KC (j+1) (argBest (js kf) j) _ _ _ _ _ ⟨_,rfl⟩ ⟨_,rfl⟩ ?_))))
  refine Ra (Rn (Ry ?_))
  refine Ra (Uq (Rb ?_))
  have kk:∀ b o,b∉wr->s.heap.get? b=some o->h2.get? b=some o:=λb o hb e=>Ac b o (Ad b o hb e)
  cases hb:js kf (j+1) (argBest (js kf) j) with
  | true =>
   simp only [if_true]
   refine Ra ?_
   refine Vs BM rfl (Ra (Uq ?_))
   rw [j4]
   have eb:argBest (js kf) (j+1)=j+1:=by simp only [argBest,hb,if_true]
   refine Rb ⟨Ub F.plain_min_loop _,ih (j+1) _ v t2 _ (by omega) ax (W.frame _ _ _ xj λb CS o e=>?_) (by rw [eb]; exact hP) (by rw [eb]; exact Jx _ BM rfl) (λp hp=>?_) λv' h' tk qc Ae=>?_⟩
   ·exact (Je _ _ (λh:S=b=>yp (by rw [h]; exact CS))).trans e
   ·exact (Je _ _ (Ne.symm (hL p hp).2)).trans (kk _ _ (hL p hp).1 (u4 p hp))
   ·exact hR v' h' tk qc λb o hb v_ e=>Ae b o hb v_ ((Je _ _ (Ne.symm v_)).trans (kk b o hb e))
  | false =>
   simp only [Ji,if_false]
   refine Ra (Uq ?_)
   rw [j4]
   have eb:argBest (js kf) (j+1)=argBest (js kf) j:=by simp only [argBest,hb,Ji,if_false]
   refine Rb ⟨Ub F.plain_min_loop _,ih (j+1) _ vb t c (by omega) ax xj (by rw [eb]; exact Hx) (by rw [eb]; exact BM) (λp hp=>kk _ _ (hL p hp).1 (u4 p hp)) λv' h' tk qc Ae=>?_⟩
   exact hR v' h' tk qc λb o hb v_ e=>Ae b o hb v_ (kk b o hb e)
theorem vA (W:Walks prog w A.in1 I fp wr n Pv St) (jd:IW prog w A.in1 f L n Pv kf) (S:Addr) (yp:S∉fp) (hL:∀ p∈L,p.1∉wr/\p.1≠S) (hn:0 < n) {c:Nat} (gh:St 0 s.heap) (hS:s.heap.get? S=some { cls:=.type "list",dict:=none,data:=.seq #[] c,slots:=#[] }) (u4:∀ p∈L,s.heap.get? p.1=some p.2) (hR:∀ v h' tk,Pv (argBest (js kf) (n - 1)) v->(∀ b o,b∉wr->b≠S->s.heap.get? b=some o->h'.get? b=some o)->R (.ok (.ret v)) { s with heap:=h',toks:=tk }) :
  codeAny (model prog w) A (.builtin "min.loop" ⟨[.ref I,.ref f,.ref S],[]⟩) R s:=by
 have E7:S∉wr:=λh=>yp (W.sub _ h)
 have j4:(toString "min" ++ toString ".loop" : String) = "min.loop" := by decide
 refine To F.entry_min_loop ?_
 rw [Around.under_plainId F.plain_min_loop _]
 show wpAny _ A.in1 (seqItems? (.ref S) >>= _) _ _ s
 refine Ra (Tn hS rfl ?_)
 show wpAny _ A.in1 (tryCatch (pyNext (.ref I)) _ >>= _) _ _ s
 refine Ra (Vj (W.item 0 s _ _ hn gh λv h1 SF hP AV Ad=>?_))
 have Hv:=Ad S _ E7 hS
 show wpAny _ A.in1 (tryCatch (holding [v] (call (.ref f) [v])) _ >>= _) _ _ _
 refine Ra (Vj (Rn (jd 0 v _ _ _ hn hP (λp hp=>Ad _ _ (hL p hp).1 (u4 p hp)) λh2 FZ t2 Ac=>?_)))
 have BM:=Ac S _ Hv
 have xj:St (0+1) h2:=W.frame _ _ _ AV λb _ o e=>Ac b o e
 show wpAny _ A.in1 (updateSeq S (λ_=>#[v,.int (kf 0) t2]) >>= _) _ _ _
 refine Ra ?_
 refine Vs BM rfl ?_
 rw [j4]
 have kk:∀ b o,b∉wr->s.heap.get? b=some o->h2.get? b=some o:=λb o hb e=>Ac b o (Ad b o hb e)
 refine Rb ⟨Ub F.plain_min_loop _,xM W jd S yp hL _ 0 _ v t2 _ rfl hn (W.frame _ _ _ xj λb CS o e=>?_) hP (Jx _ BM rfl) (λp hp=>?_) λv' h' tk qc Ae=>?_⟩
 ·exact (Je _ _ (λh:S=b=>yp (by rw [h]; exact CS))).trans e
 ·exact (Je _ _ (Ne.symm (hL p hp).2)).trans (kk _ _ (hL p hp).1 (u4 p hp))
 ·exact hR v' h' tk qc λb o hb v_ e=>Ae b o hb v_ ((Je _ _ (Ne.symm v_)).trans (kk b o hb e))
theorem xN (a k:Value):argsOk "min" ⟨[a],[(Str.ofString "key",k)]⟩:=by unfold argsOk; kernel_rfl
theorem xO {id:String} {b:Builtin} {args:List Value} {kw:List (Str×Value)} (hk:builtinKind id=none) (hp:plainId id=true) (hb:entryFor table id=some b) (ha:argsOk id ⟨args,kw⟩) (hc:wpAny (model prog w) A.in1 (b ⟨args,kw⟩) (λfin s'=>match fin with
   | .done f=>(match (Except.ok f:Result) with | .ok (.ret v)=>Q v s' | .ok _=>False | .error e=>E e s')
   | .again c'=>c'.quiet=true/\codeAny (model prog w) A c' (λr s'=>match r with | .ok (.ret v)=>Q v s' | .ok _=>False | .error e=>E e s') s') E s) :
  wpAny (model prog w) A (call (.builtin id) args kw) Q E s:=by
 refine Me (Vr hp hb ?_)
 simp only [checkBuiltinCall,hk]
 cases Ki:Manifest.signature? id with
 | none=>exact Rb hc
 | some sig =>
  simp only [argsOk,Ki] at ha
  have h2:Bind.checkArgs id sig ⟨args,kw⟩=pure ():=ha
  show wpAny _ A.in1 (Bind.checkArgs id sig ⟨args,kw⟩) _ _ s
  rw [h2]; exact Rb hc
theorem xP {x:Value} (h:wpAny (model prog w) A.in1 (pyIter x) (λit ip=>∃ I fp wr n Pv St kf L,it=.ref I/\Walks prog w A.in1 I fp wr n Pv St/\St 0 ip.heap/\(∀ b∈fp,b < ip.heap.objs.size)/\0 < n/\IW prog w A.in1 f L n Pv kf /\
   (∀ p∈L,p.1∉wr)/\(∀ p∈L,ip.heap.get? p.1=some p.2) /\
   ∀ v h' tk,Pv (argBest (js kf) (n - 1)) v->(∀ b o,b∉wr->ip.heap.get? b=some o->h'.get? b=some o)->Q v { ip with heap:=h',toks:=tk }) E s) :
  wpAny (model prog w) A (call (.builtin "min") [x] [(Str.ofString "key",.ref f)]) Q E s:=by
 have j4:(toString "min" ++ toString ".loop" : String) = "min.loop" := by decide
 refine xO F.kind_min F.plain_min F.entry_min (xN _ _) ?_
 show wpAny _ A.in1 (Builtin.Builtins.bindParams "min" ["key", "default"] 0 ⟨[],[(Str.ofString "key",.ref f)]⟩ >>= _) _ _ s
 refine Ra (Vq (show Builtin.Builtins.bindParams "min" ["key", "default"] 0 ⟨[],[(Str.ofString "key",.ref f)]⟩=pure [some (.ref f),none] from rfl) ?_)
 refine Ra (Rb ?_)
 refine Ra (Rp h (λit ip Aw=>?_) λ_ _ e=>e)
 obtain ⟨I,fp,wr,n,Pv,St,kf,L,rfl,W,gh,vz,hn,jd,WJ,u4,hQ⟩:=Aw
 refine Ra (Ri ?_)
 have yp:ip.heap.objs.size∉fp:=λhm=>Jo _ (vz _ hm)
 rw [j4]
 refine Rb ⟨Ub F.plain_min_loop _,vA W jd ip.heap.objs.size yp (λp hp=>⟨WJ p hp,Qt (Qo (u4 p hp))⟩) hn (W.frame _ _ _ gh λb _ o e=>Qa _ e) (Qg _ rfl) (λp hp=>Qa _ (u4 p hp)) λv h' tk hP hk=>?_⟩
 exact hQ v h' tk hP λb o Hm e=>hk b o Hm (Qt (Qo e)) (Qa _ e)
end
structure Lm (K:Rc) (mg:Str->Option Value) (base:Heap) (c P:Addr):Prop where
 hd:Iq K c P=true
 gP:mainGlobals≠P
 bu:base.BuiltinsAt mg P
theorem nX {p0:Pos} {c cv:Value}:∀ {l:List Value},TriplesOk l->codeAmong pos (l++[rawInt p0.line,rawInt p0.col,c])=some cv->codeAmong pos l=some cv∨cv=c
 | [],_,e=>by
  simp only [Zk,rawInt,codeAmong] at e
  split at e
  ·exact .inr (Option.some.inj e).symm
  ·cases e
 | .int a t::.int b u::x::r,h,e=>by
  simp only [Yx,codeAmong] at e ⊢
  split
  ·rename_i hc
   rw [if_pos hc] at e
   exact .inl e
  ·rename_i hc
   rw [if_neg hc] at e
   exact nX (show TriplesOk r from h) e
section
variable {σ:St} {P c':Addr} {q:Str} {ps:Array Value}
theorem Inv.grown {p0:Pos} (I:Inv X aa σ H s) (hT:H P=some (.tab q)) (hx:Heap.ExtBut P s.heap h') (r_:s.heap.objs.size<=c') (BI:h'.CodeRec (.ref c') q) (WI:s.heap.get? P=some (Tc ps)) (yq:h'.get? P=some (Tc (ps++#[rawInt p0.line,rawInt p0.col,.ref c']))) :
  Inv X aa σ (upd H c' (.own P)) { s with heap:=h',toks:=t' }:=by
 have hf:H c'=none:=I.aq.fresh r_
 have hn:∀ b,H b=none->b≠P:=λb n z=>by rw [z,hT] at n; cases n
 have hc:∀ b u,H b=some u->b≠c':=λb u n z=>by rw [z,hf] at n; cases n
 have ax:∀ b o,s.heap.get? b=some o->b≠c':=λb o e=>Qt (Qr (Qo e) r_)
 obtain ⟨c2,oc,vs,tq,ec,om,CO,hv⟩:=BI
 cases ec
 refine I.un ⟨λb o e n _ _=>hx b o (hn b n) e,λb o e n _ _=>⟨o.slots,hx b o (hn b n) e⟩,λb o e n _=>by rw [aK (ax b o e)]; exact n,λb o e _=>?_,λb xs e=>by rw [aK (hc b _ e)]; exact e,λb o u e=>by rw [aK (hc b _ e)]; exact e,λb ps e=>⟨#[],by rw [aK (hc b _ e),e]; simp⟩⟩ ?_
 ·by_cases hb:b=P
  ·subst hb; exact ⟨_,yq⟩
  ·exact ⟨o,hx b o hb e⟩
 ·intro b u e
  by_cases hb:b=c'
  ·subst hb
   rw [aB] at e; cases e
   exact ⟨oc,om⟩
  ·rw [aK hb] at e
   by_cases E3:b=P
   ·subst E3
    rw [hT] at e; cases e
    obtain ⟨ps0,e0,tr,r⟩:∃ ps:Array Value,s.heap.get? b=some { cls:=.none,data:=.fields ps }/\TriplesOk ps.toList/\∀ (pos:Pos) (cv:Value),codeAmong pos ps.toList=some cv->∃ (c:Addr) (o:Obj) (vs:Array Value) (t:Tok),cv=.ref c/\H c=some (.own b)/\s.heap.get? c=some o/\o.data=.fields vs/\(vs[1]?:Option Value)=some (.str q t):=I.aq b _ hT
    rw [WI] at e0
    cases e0
    have el:(ps++#[rawInt p0.line,rawInt p0.col,Value.ref c']).toList=ps.toList++[rawInt p0.line,rawInt p0.col,.ref c']:=by simp
    refine ⟨_,yq,by rw [el]; exact TriplesOk_snoc _ _ _ _ tr,λpos cv z=>?_⟩
    rw [el] at z
    rcases nX tr z with z | rfl
    ·obtain ⟨c3,o3,Sx,t3,r1,r2,r3,r4⟩:=r pos cv z
     have n3:c3≠b:=λy=>by rw [y,hT] at r2; cases r2
     exact ⟨c3,o3,Sx,t3,r1,by rw [aK (hc _ _ r2)]; exact r2,hx _ _ n3 r3,r4⟩
    ·exact ⟨c',oc,vs,tq,rfl,aB,om,CO,hv⟩
   ·refine (I.aq b u e).cu (λd v hd z=>hx d v ?_ z) (λd z=>by rw [aK (hc _ _ z)]; exact z) λd xs z=>by rw [aK (hc _ _ z)]; exact z
    rcases hd with rfl | hd
    ·exact E3
    ·intro z
     rw [z,hT] at hd; cases hd
theorem aEL {body:Expr} (I:Inv X aa σ H s) (Z:Lm X.K X.mg X.base c P) (o8:X.env.code=.ref c) (hT:H P=some (.tab q)) (hq:X.env.qual ++ "<lambda>" = q) (A5:defaultsOf params X.env=([],[])) (v9:closureFor scope X.env=pure cl) (h:∀ f c' ow pm s' H',Inv X aa σ H' s'->aE H H'->(∀ b o,b≠P->s.heap.get? b=some o->s'.heap.get? b=some o) ->
   s'.heap.get? f=some { cls:=.type "function",data:=.func (Uy "<lambda>" q params body scope cl pm (.ref c') ow) }->s'.heap.CodeRec (.ref c') q->Q (.ref f) s') :
  wpAny (model X.prog X.w) X.A (eval (.Lambda params body scope pos) X.env) Q E s:=by
 obtain ⟨ps,hP,tr,r⟩:∃ ps:Array Value,s.heap.get? P=some { cls:=.none,data:=.fields ps }/\TriplesOk ps.toList/\∀ (pos:Pos) (cv:Value),codeAmong pos ps.toList=some cv->∃ (c:Addr) (o:Obj) (vs:Array Value) (t:Tok),cv=.ref c/\H c=some (.own P)/\s.heap.get? c=some o/\o.data=.fields vs/\(vs[1]?:Option Value)=some (.str q t):=I.aq P _ hT
 have hg:s.heap.Ns mainGlobals X.mg:=I.mod.glob.keeps I.bk
 have C:Ia s.heap c P:=Rad I.oa Z.hd
 have hb:s.heap.BuiltinsAt X.mg P:=by
  obtain ⟨bm,o,e1,e2,e3,e4,e5,e6⟩:=Z.bu
  exact ⟨bm,o,e1,e2,e3,e4,I.bk _ _ e5,e6⟩
 refine PySem.W.kla_eval A5 ?_
 rw [hq]
 cases hf:codeAmong pos ps.toList with
 | none =>
  refine PySem.W.kla_makeFunction v9 I.ok.glob hg o8 C hP tr hf Z.gP hb λc' ow h' tk hx r_ ax BI yq=>?_
  have I1:Inv X aa σ (upd H c' (.own P)) { s with heap:=h',toks:=tk }:=I.grown hT hx r_ BI hP yq
  have I2:=I1.kept (h':=h'.push (PySem.W.kla_obj "<lambda>" q params body scope cl ((X.mg "__name__").getD .none) c' ow)) (t':=tk) λb o e=>Qa _ e
  refine h _ c' ow _ _ _ I2 (aE.new (I.aq.fresh r_)) (λb o E3 e=>Qa _ (hx b o E3 e)) (Qg _ rfl) ?_
  obtain ⟨c2,oc,vs,tq,ec,om,r⟩:=BI
  exact ⟨c2,oc,vs,tq,ec,Qa _ om,r⟩
 | some cv =>
  obtain ⟨c',o,vs,t,rfl,r2,r3,r4,r5⟩:=r pos cv hf
  refine PySem.W.kla_makeFunctionHit v9 I.ok.glob hg o8 C hP tr hf hb λow h' tk kk hsz=>?_
  have I2:=I.kept (h':=h'.push { cls:=.type "function",data:=.func (Uy "<lambda>" q params body scope cl ((X.mg "__name__").getD .none) (.ref c') ow) }) (t':=tk) λb o e=>Qa _ (kk b o e)
  exact h _ c' ow _ _ _ I2 (aE.refl H) (λb o _ e=>Qa _ (kk b o e)) (Qg _ rfl) ⟨c',o,vs,t,rfl,Qa _ (kk _ _ r3),r4,r5⟩
end
theorem nY (num:Nat->Int):∀ k,∀ l,l < argBest (js num) k->num (argBest (js num) k) < num l
 | 0=>λl hl=>by simp [argBest] at hl
 | k+1=>λl hl=>by
  have h2:=(RaC num k).2
  simp only [argBest] at hl ⊢
  by_cases hc:num (k+1) < num (argBest (js num) k)
  ·rw [if_pos (show js num (k+1) (argBest (js num) k)=true from decide_eq_true hc)] at hl ⊢
   have:=h2 l (by omega)
   show num (k+1) < num l
   have e:num (argBest (λi j=>decide (num i < num j)) k)=num (argBest (js num) k):=rfl
   omega
  ·rw [if_neg (show ¬ js num (k+1) (argBest (js num) k)=true from λz=>hc (of_decide_eq_true z))] at hl ⊢
   exact nY num k l hl
def Fz (K:Rc) (H:Hp) (x:V) (ns:List Int):Prop:=∃ a,x=.ref a/\(ak K H a (ns.map V.int)∨aj K H a (ns.map V.int)∨∃ kvs:List (Key×V),H a=some (.dK kvs)/\kvs.map (·.1)=ns.map Sum.inl)
def Fy (K:Rc) (H:Hp) (u:V) (n k:Int):Prop:=0<=n/\n < 1000/\∃ a xs,u=.ref a/\(aj K H a xs∨ak K H a xs)/\xs[n.toNat]?=some (.int k)
def A! (K:Rc) (P:Addr) (q:Str) (iv:Nat) (te:TE):TE:=λσ H Q=>te σ H λx H1=>∃ (ns:List Int) (kf:Int->Int) (u:V),Fz K H1 x ns/\0 < ns.length/\H1 P=some (.tab q)/\σ[iv]?=some (some u)/\(∀ n∈ns,Fy K H1 u n (kf n)) /\
 ∀ (j:Nat) (m:Int) (H2:Hp),aE H1 H2->ns[j]?=some m->(∀ n∈ns,kf m<=kf n)->(∀ (l:Nat) (n:Int),l < j->ns[l]?=some n->kf m < kf n)->Q (.int m) H2
section
variable {σ:St}
theorem aBe {x:V} (hh:A.handled=none) (I:Inv X aa σ H s) (hx:Fz X.K H x ns) (r:bY x u) (h:∀ (It:Addr) fp (Pv:Nat->Value->Prop) St s2,Walks X.prog X.w A It fp [It] ns.length Pv St->(∀ i v,Pv i v->∃ n t,ns[i]?=some n/\v=.int n t)->St 0 s2.heap->(∀ b∈fp,b < s2.heap.objs.size)->s.heap.objs.size<=It ->
   (∀ b o,s.heap.get? b=some o->s2.heap.get? b=some o)->(∃ h2,s2={ s with heap:=h2 })->Q (.ref It) s2):wpAny (model X.prog X.w) A (pyIter u) Q E s:=by
 obtain ⟨a,rfl,hx⟩:=hx
 cases r
 rcases hx with hx | hx | ⟨kvs,hx,hk⟩
 ·obtain ⟨ae,rv,p,hz⟩:=I.list hx
  have hl:=rv.length
  rw [Qc] at hl
  have ht:=p.isList
  have ax:a < s.heap.objs.size:=by obtain ⟨o,e,_⟩:=ht; exact Qo e
  have cb:a≠s.heap.objs.size:=Qt ax
  have W0:=Walks.list (prog:=X.prog) (w:=X.w) (A:=A) hh s.heap.objs.size a cb ae.toArray
  rw [show ae.toArray.size=ns.length by rw [Qm,hl]] at W0
  refine Ul ht (h s.heap.objs.size [s.heap.objs.size,a] _ _ { s with heap:=s.heap.push { cls:=.type "list_iterator",data:=.fields #[.ref a,.int 0 0] } } W0 (λi v e=>?_) ⟨⟨_,Qg _ rfl,rfl,rfl⟩,ht.push _⟩ (λb hb=>?_) (Qe _) (λb o e=>Qa _ e) ⟨_,rfl⟩)
  ·have e':ae[i]?=some v:=by simpa using e
   obtain ⟨hi,_⟩:=Qd.mp e'
   obtain ⟨w',ew,gc⟩:=rv.get (i:=i) (x:=.int (ns[i]'(by omega))) (by rw [Qh,Qb (show i < ns.length by omega)]; rfl)
   rw [e'] at ew; cases ew
   obtain ⟨t,rfl⟩:=gc
   exact ⟨_,t,Qb (show i < ns.length by omega),rfl⟩
  ·show b < (s.heap.push _).objs.size
   rw [Jj]
   simp only [Qj,Qp,or_false] at hb
   rcases hb with hb | hb
   ·rw [hb]; exact Xu _
   ·rw [hb]; exact Jv ax
 ·obtain ⟨ae,rv,p,hz⟩:=I.tuple hx
  have hl:=rv.length
  rw [Qc] at hl
  have ht:s.heap.IsTuple a ae.toArray:=p
  have ax:a < s.heap.objs.size:=by obtain ⟨o,e,_⟩:=ht; exact Qo e
  have cb:a≠s.heap.objs.size:=Qt ax
  have W0:=Walks.tuple (prog:=X.prog) (w:=X.w) (A:=A) hh s.heap.objs.size a cb ae.toArray
  rw [show ae.toArray.size=ns.length by rw [Qm,hl]] at W0
  refine Md ht (h s.heap.objs.size [s.heap.objs.size,a] _ _ { s with heap:=s.heap.push { cls:=.type "tuple_iterator",data:=.fields #[.ref a,.int 0 0] } } W0 (λi v e=>?_) ⟨⟨_,Qg _ rfl,rfl,rfl⟩,ht.push _⟩ (λb hb=>?_) (Qe _) (λb o e=>Qa _ e) ⟨_,rfl⟩)
  ·have e':ae[i]?=some v:=by simpa using e
   obtain ⟨hi,_⟩:=Qd.mp e'
   obtain ⟨w',ew,gc⟩:=rv.get (i:=i) (x:=.int (ns[i]'(by omega))) (by rw [Qh,Qb (show i < ns.length by omega)]; rfl)
   rw [e'] at ew; cases ew
   obtain ⟨t,rfl⟩:=gc
   exact ⟨_,t,Qb (show i < ns.length by omega),rfl⟩
  ·show b < (s.heap.push _).objs.size
   rw [Jj]
   simp only [Qj,Qp,or_false] at hb
   rcases hb with hb | hb
   ·rw [hb]; exact Xu _
   ·rw [hb]; exact Jv ax
 ·obtain ⟨hz,hs,vs,kv,dd⟩:bM X.prog X.w H s.heap a (.dK kvs):=I.aq a _ hx
  obtain ⟨ep,da⟩:=dd.dictAt
  have hl:kvs.length=vs.length:=kv.length
  have L1:vs.length=ns.length:=by
   have:=congrArg Yj hk
   rw [Qc,Qc] at this
   omega
  have ax:=da.lt_size
  have cb:a≠s.heap.objs.size:=Qt ax
  have W0:=Walks.dictKeys (prog:=X.prog) (w:=X.w) (A:=A) (knd:=cH X.prog X.w) hh s.heap.objs.size a cb vs ep
  rw [L1] at W0
  refine RaG hs da (h s.heap.objs.size [s.heap.objs.size,a] _ _ { s with heap:=s.heap.push { cls:=.type "dict_keyiterator",data:=.fields #[.ref a,.int 0 0,.int vs.length 0,.int ep 0] } } W0 (λi v e=>?_) ⟨⟨_,Qg _ rfl,rfl,by rw [L1]; rfl⟩,da.push _⟩ (λb hb=>?_) (Qe _) (λb o e=>Qa _ e) ⟨_,rfl⟩)
  ·obtain ⟨k,x,hi,G8⟩:=e
   have e1:(vs.map (·.1))[i]?=some k:=by rw [Qh,hi]; rfl
   rw [<- kv.keys,hk,Qh] at e1
   cases q:ns[i]? with
   | none=>rw [q] at e1; cases e1
   | some n =>
    rw [q] at e1
    have:k=Sum.inl n:=(Option.some.inj e1).symm
    subst this
    obtain ⟨t,rfl⟩:bY (.int n) v:=RG G8
    exact ⟨n,t,rfl,rfl⟩
  ·show b < (s.heap.push _).objs.size
   rw [Jj]
   simp only [Qj,Qp,or_false] at hb
   rcases hb with hb | hb
   ·rw [hb]; exact Xu _
   ·rw [hb]; exact Jv ax
theorem QG {u:V} {uv:Value} {n k:Int} (I:Inv X aa σ H s) (hk:Fy X.K H u n k) (r:bY u uv):∃ t,kI s.heap uv n (.int k t):=by
 obtain ⟨h0,h1,a,xs,rfl,hx | hx,he⟩:=hk
 ·cases r
  obtain ⟨ae,rv,p,hz⟩:=I.tuple hx
  obtain ⟨w',ew,t,rfl⟩:=rv.get he
  exact ⟨t,a,rfl,.inl ⟨ae.toArray,p,h0,h1,by simpa using ew⟩⟩
 ·cases r
  obtain ⟨ae,rv,p,hz⟩:=I.list hx
  obtain ⟨w',ew,t,rfl⟩:=rv.get he
  exact ⟨t,a,rfl,.inr ⟨ae.toArray,p.isList,h0,h1,by simpa using ew⟩⟩
theorem kI.obj {i:Int} {v:Value} (x:kI h u i v):∃ p o,u=.ref p/\h.get? p=some o/\∀ h':Heap,h'.get? p=some o->kI h' u i v:=by
 obtain ⟨p,rfl,⟨ae,⟨o,ho,r⟩,q⟩ | ⟨ae,⟨o,ho,r⟩,q⟩⟩:=x
 ·exact ⟨p,o,rfl,ho,λh' e=>⟨p,rfl,.inl ⟨ae,⟨o,e,r⟩,q⟩⟩⟩
 ·exact ⟨p,o,rfl,ho,λh' e=>⟨p,rfl,.inr ⟨ae,⟨o,e,r⟩,q⟩⟩⟩
theorem aDb {Ka:Pos} {P:Addr} {q:Str} (iv:Nat) (hc:X.calm=true) (hr:ay 1 X.A) (hg:Gl X "min") (hm:X.mg "min" = none) (Z:Lm X.K X.mg X.base c P) (o8:X.env.code=.ref c) (hq:X.env.qual ++ "<lambda>" = q) (he:PE X e te) (hN:X.N[iv]?=some vn) (Am:X.env.kindOf vn=some .cell) (A5:defaultsOf params X.env=([],[]):=by rfl) (v9:fZ X.env scope.names []=(match X.env.cells.lookup vn with | some c=>[(vn,c)] | none=>[]):=by rfl) (Hf:∀ y∈scope.names,y.2=.free->y.1=vn:=by decide +kernel) (l8:∀ (cl:List (Str×Addr)) (pm bj ow:Value) (i:Int) (t:Tok),bindArgs (Uy "<lambda>" q params (.Subscript (.Name vn p1) (.Name xn p2) p3) scope cl pm bj ow) ⟨[.int i t],[]⟩=pure [(xn,.int i t)]:=by intro _ _ _ _ _ _; rfl) (hx:scope.names.lookup xn=some .local:=by rfl) (hv:scope.names.lookup vn=some .free:=by rfl) (Hl:scope.isCoroutine=false:=by rfl) (A1:scope.isGenerator=false:=by rfl) (hk:scope.kind=.function:=by rfl) (fc:∀ x∈scope.names,x.2≠.cell:=by decide +kernel) (d1:(vn==("__debug__" : Str))=false:=by decide) (d2:(vn==("__classdict__" : Str))=false:=by decide) (d3:(xn==("__debug__" : Str))=false:=by decide) (GP:starEach [e] X.env = [(false,eval e X.env)]:=by rfl) :
  PE X (.Call (.Name "min" p) [e] [⟨some "key",.Lambda params (.Subscript (.Name vn p1) (.Name xn p2) p3) scope Ka,xf⟩] pos) (A! X.K P q iv te):=by
 intro aa s σ H Q I h
 refine Tq (jI (u:=.builtin "min") I hg hm (by decide +kernel) ?_)
 have GY:PA X [e] (lW te rK):=aA he aD GP
 refine callWith_kw (bf (GY pos aa s σ H (λvs H1=>match vs with
   | [x] => ∃ (ns : List Int) (kf : Int -> Int) (u : V), Fz X.K H1 x ns /\ 0 < ns.length /\ H1 P = some (.tab q) /\ σ[iv]? = some (some u) /\ (∀ n ∈ ns, Fy X.K H1 u n (kf n)) /\
       ∀ (j:Nat) (m:Int) (H2:Hp),aE H1 H2->ns[j]?=some m->(∀ n∈ns,kf m<=kf n)->(∀ (l:Nat) (n:Int),l < j->ns[l]?=some n->kf m < kf n)->Q (.int m) H2
   | _=>False) I h) λus s1 ⟨vs,H1,I1,r1,q1⟩=>?_) (by rw [GP]; rfl) (by rw [GP]; rfl)
 match vs,r1,q1 with
 | [x],r1,q1 =>
  obtain ⟨ns,kf,u,hit,qf,hT,hu,Ef,k⟩:=q1
  obtain ⟨xv,rfl,rx⟩:=gM r1
  -- the cell of the name
  obtain ⟨m1,aaj,vp⟩:=id I1.loc
  obtain ⟨uv,ru,lk⟩:=vp iv vn u hN hu (.inr (.inl Am))
  obtain ⟨cc,Aq,WN⟩:∃ cc,X.env.cells.lookup vn=some cc/\s1.heap.IsCell cc (some uv):=by
   rcases lk with ⟨z,_⟩ | ⟨_,z⟩
   ·rw [Am] at z; cases z
   ·exact z
  have KD:closureFor scope X.env=pure [(vn,cc)]:=by
   rw [Pu λy hy z=>⟨cc,by rw [Hf y hy z]; exact Aq⟩,v9,Aq]
  refine kws_cons (aEL I1 Z o8 hT hq A5 KD λf c' ow pm s2 H2 I2 sm kk hf BI=>kws_nil ?_)
  show wpAny (model X.prog X.w) X.A (call (.builtin "min") [xv] [(Str.ofString "key",.ref f)]) _ _ _
  have Kx:Fz X.K H2 x ns:=by
   obtain ⟨a,rfl,z | z | ⟨kvs,z,y⟩⟩:=hit
   ·exact ⟨a,rfl,.inl (sm.cm z)⟩
   ·exact ⟨a,rfl,.inr (.inl (sm.ai z))⟩
   ·exact ⟨a,rfl,.inr (.inr ⟨kvs,sm _ _ z,y⟩)⟩
  have uh:∀ n∈ns,Fy X.K H2 u n (kf n):=λn hn=>by
   obtain ⟨h0,h1,a,xs,rfl,z | z,y⟩:=Ef n hn
   ·exact ⟨h0,h1,a,xs,rfl,.inl (sm.ai z),y⟩
   ·exact ⟨h0,h1,a,xs,rfl,.inr (sm.cm z),y⟩
  -- what stays through the loop
  obtain ⟨fo,XI,hf⟩:∃ fo:Obj,fo={ cls:=.type "function",data:=.func (Uy "<lambda>" q params (.Subscript (.Name vn p1) (.Name xn p2) p3) scope [(vn,cc)] pm (.ref c') ow) }/\s2.heap.get? f=some fo:=⟨_,rfl,hf⟩
  obtain ⟨c2,oc,X1,tq,ec,om,CO,V7⟩:=BI
  cases ec
  obtain ⟨Gh,DQ,Kz⟩:s2.heap.IsCell cc (some uv):=by
   obtain ⟨o,ho,hd⟩:=WN
   have nP:cc≠P:=λz=>by rw [z] at Aq; have:=I1.cp _ _ Aq; rw [hT] at this; cases this
   exact ⟨o,kk _ _ nP ho,hd⟩
  obtain ⟨mc,⟨oL,XD,XF,jv,V4,rL⟩,t7⟩:=I2.nolimit
  have n0:ns[0]?=some (ns[0]):=Qb qf
  obtain ⟨t0,UT⟩:=QG I2 (uh _ (Qi n0)) ru
  obtain ⟨pu,ou,eu,GZ,_⟩:=UT.obj
  refine xP (f:=f) (aBe (A:=X.A.in1) (I2.ok.hd hc) I2 Kx rx λIt fp Pv St s3 W MX gh vz M8 BB au=>?_)
  obtain ⟨h3,e3⟩:=au
  subst e3
  refine ⟨It,fp,[It],ns.length,Pv,St,λi=>kf (ns.getD i 0),[(f,fo),(c',oc),(cc,Gh),(cStatics,oL),(pu,ou)],rfl,W,gh,vz,qf,?_,?_,?_,λv h' tk hP Ae=>?_⟩
  ·intro i v s4 Q4 E4 hi WE hL WC
   obtain ⟨n,t,hn,rfl⟩:=MX i v WE
   have eg:ns.getD i 0=n:=by rw [Jk,hn]; rfl
   obtain ⟨tk,UR⟩:=QG I2 (uh _ (Qi hn)) ru
   have US:kI s4.heap uv n (.int (kf n) tk):=by
    obtain ⟨p',o',e',gn,hh⟩:=UR.obj
    rw [eu] at e'; cases e'
    rw [GZ] at gn; cases gn
    exact hh _ (hL (pu,ou) (by simp))
   have rm:X.A.in1.depth < recursionLimit:=(ay.in1 hr).depth
   refine aEJ (cl:=[(vn,cc)]) (c:=cc) rm ⟨mc,⟨oL,XD,XF,hL (cStatics,oL) (by simp),V4,rL⟩,t7⟩ (by rw [<- XI]; exact hL (f,fo) (by simp)) ⟨c',oc,X1,tq,rfl,hL (c',oc) (by simp),CO,V7⟩ (l8 _ _ _ _ _ _) hx hv Hl A1 hk fc (by simp [List.lookup]) ⟨Gh,hL (cc,Gh) (by simp),Kz⟩ US (λh5 SE k5=>?_) d1 d2 d3
   have:=WC h5 SE tk k5
   dsimp only at this
   rw [eg] at this
   exact this
  ·intro pr Aj hz
   have ax:∀ b o,s2.heap.get? b=some o->b≠It:=λb o e=>Qt (Qr (Qo e) M8)
   simp only [Qq] at hz
   simp only [Qj,Qp,or_false] at Aj
   rcases Aj with rfl | rfl | rfl | rfl | rfl
   ·exact ax _ _ hf hz
   ·exact ax _ _ om hz
   ·exact ax _ _ DQ hz
   ·exact ax _ _ jv hz
   ·exact ax _ _ GZ hz
  ·intro pr Aj
   simp only [Qj,Qp,or_false] at Aj
   rcases Aj with rfl | rfl | rfl | rfl | rfl
   ·exact BB _ _ hf
   ·exact BB _ _ om
   ·exact BB _ _ DQ
   ·exact BB _ _ jv
   ·exact BB _ _ GZ
  ·obtain ⟨n,t,hn,rfl⟩:=MX _ v hP
   have I3:Inv X aa σ H2 { s2 with heap:=h',toks:=tk }:=I2.kept λb o e=>Ae b o (by simp; exact Qt (Qr (Qo e) M8)) (BB b o e)
   have b1:=RaC (λi=>kf (ns.getD i 0)) (ns.length - 1)
   have b2:=nY (λi=>kf (ns.getD i 0)) (ns.length - 1)
   have j':∀ i y,ns[i]?=some y->ns.getD i 0=y:=λi y e=>by rw [Jk,e]; rfl
   refine ⟨.int n,H2,I3,⟨t,rfl⟩,k _ n H2 sm hn (λy hy=>?_) (λl y hl hy=>?_)⟩
   ·obtain ⟨i,hi⟩:=Jd.mp hy
    have:=b1.2 i (by have:=(Qd.mp hi).1; omega)
    have e1:=j' _ _ hn
    have e2:=j' _ _ hi
    show kf n<=kf y
    rw [<- e1,<- e2]; exact this
   ·have:=b2 l hl
    have e1:=j' _ _ hn
    have e2:=j' _ _ hy
    rw [<- e1,<- e2]; exact this
end
def IV (ts:List (Addr×Str)) (H:Hp):Prop:=(∀ b,H b=none∨(∃ o xs,H b=some (.cq o (.lst xs)))∨∃ q,H b=some (.tab q)/\(b,q)∈ts)/\∀ p∈ts,H p.1=some (.tab p.2)
theorem tH {P:Addr} (C:Ia h c P) (e:h.get? P=some (Tc #[])):isCodeTable h P:=(C.tab e).isCodeTable
theorem aDc {mb:Str->Option Value} {k:Nat} {fa:Addr} {b_:Shared} {vs:List Value} {ts:List (Addr×Str)} (KX:K.In b_.heap) (iz:b_.heap.Ns mainGlobals mg) (hb:b_.heap.Ns builtinsNs mb) (V':∀ x:Str,x ≠ "__name__" -> mb x=bootBuiltins x) (t7:b_.heap.NoLimit) (Kt:∃ mm,b_.heap.Ns sysModules mm) (hg:b_.gens = #[]) (V9:∃ bm ob,mg "__builtins__" = some (.ref bm)/\bm≠builtinsNs/\b_.heap.get? bm=some ob/\ob.cls=.type "module" /\ ob.dict=some builtinsNs/\ob.data=.plain) (rn:∀ p∈ts,b_.heap.get? p.1=some (Tc #[])/\K.lookup p.1=none/\∃ c,Ia b_.heap c p.1) (yg:(ts.map (·.1)).Nodup) (ha:b_.heap.get? a=some { cls:=.type "list",data:=.seq vs.toArray }) (hi:IntsAre vs ns) (hl:ns.length<=sizeLine) (hr:ay k callerA) (F:∀ base:Heap,K.In base->base.Ns mainGlobals mg->(∀ p∈ts,base.BuiltinsAt mg p.1)->af P w K mg base CX k fa fd [x] sp) (l8:∀ (s:Shared) (u:Value),BindsTo s fd ⟨[u],[]⟩ [(x,u)]) (oh:∀ H:Hp,IV ts H->ak K H a (ns.map V.int)->sp [.ref a] H (λv H'=>v=.bl true/\∀ p∈ts,H' p.1=some (.tab p.2)) λ_ _ _=>False) (HB:∀ H e s',CX [] H b_ (λ_ _ _=>False) e s'->False) :
  codeAny (model P w) callerA (.call (.ref fa) ⟨[.ref a],[]⟩) (λr s'=>r=.ok (.ret (.bool true))/\OldK b_.heap s'.heap/\s'.os=b_.os/\AllBare s'.gens) b_:=by
 have rv:=nC hi
 have Kb:=hi.length
 have na:∀ p∈ts,p.1≠a:=λp hp z=>by
  have:=(rn p hp).1
  rw [z,ha] at this; cases this
 -- from an abstract heap in which nothing but the script and the tables may be tracked
 have core:∀ H:Hp,IV ts H->ak K H a (ns.map V.int)->fw P w H b_.heap->(∀ b,H b≠none->b=a∨∃ q,(b,q)∈ts)->(H a≠none->K.lookup a=none) ->
   codeAny (model P w) callerA (.call (.ref fa) ⟨[.ref a],[]⟩) (λr s'=>r=.ok (.ret (.bool true))/\OldK b_.heap s'.heap/\s'.os=b_.os/\AllBare s'.gens) b_:=by
  intro H hO hS aq hA hK
  have base_of:∀ {b:Addr} {o:Obj},b_.heap.get? b=some o->H b=none->(uM b_.heap H).get? b=some o:=λe n=>aDP e n
  have Ck:∀ {b:Addr} {o:Obj} {es:Array DictEntry} {ep:Nat},b_.heap.get? b=some o->o.data=.dict es ep->H b=none:=λ{b o es ep} e d=>by
   cases q:H b with
   | none=>rfl
   | some u =>
    rcases hA b (by rw [q]; simp) with e' | ⟨q',e'⟩
    ·subst e'
     rw [ha] at e; cases e
     have d':Data.seq vs.toArray _=Data.dict es ep:=d
     cases d'
    ·have:=(rn _ e').1
     have e2:b_.heap.get? b=some (Tc #[]):=this
     rw [e] at e2; cases e2
     have d':Data.fields _=Data.dict es ep:=d
     cases d'
  have Cj:∀ {b:Addr} {m:Str->Option Value},b_.heap.Ns b m->(uM b_.heap H).Ns b m:=λ{b m} ⟨o,es,ep,e,d,r⟩=>⟨o,es,ep,base_of e (Ck e d),d,r⟩
  have M6:K.In (uM b_.heap H):=λb o e=>base_of (KX b o e) (by
   cases q:H b with
   | none=>rfl
   | some u =>
    rcases hA b (by rw [q]; simp) with e' | ⟨q',e'⟩
    ·subst e'
     rw [hK (by rw [q]; simp)] at e; cases e
    ·have:=(rn _ e').2.1
     have e2:K.lookup b=none:=this
     rw [e] at e2; cases e2)
  have HE:∀ p∈ts,(uM b_.heap H).BuiltinsAt mg p.1:=λp hp=>by
   obtain ⟨bm,ob,b1,b2,b3,b4,b5,b6⟩:=V9
   have hn:H bm=none:=by
    cases q:H bm with
    | none=>rfl
    | some u =>
     rcases hA bm (by rw [q]; simp) with e' | ⟨q',e'⟩
     ·subst e'
      rw [ha] at b3; cases b3
      have d':Data.seq vs.toArray _=Data.plain:=b6
      cases d'
     ·have e2:b_.heap.get? bm=some (Tc #[]):=(rn _ e').1
      rw [b3] at e2; cases e2
      have d':Data.fields _=Data.plain:=b6
      cases d'
   refine ⟨bm,ob,b1,b2,λz=>?_,λz=>?_,base_of b3 hn,b4,b5,b6⟩
   ·obtain ⟨o,es,ep,e,d,r⟩:=iz
    rw [<- z,b3] at e; cases e
    rw [b6] at d; cases d
   ·have e2:b_.heap.get? p.1=some (Tc #[]):=(rn _ hp).1
    rw [<- z,b3] at e2; cases e2
    have d':Data.fields _=Data.plain:=b6
    cases d'
  have hM:Mod K mg (uM b_.heap H):=⟨M6,Cj iz,⟨mb,Cj hb,V'⟩,let ⟨mc,h1,h2⟩:=t7; ⟨mc,Cj h1,h2⟩,let ⟨mm,h1⟩:=Kt; ⟨mm,Cj h1⟩⟩
  have e0:x3 P w K mg (uM b_.heap H) callerA [] b_ H:=⟨rfl,hM,λb o e=>aFN e,Nat.le_of_eq (aCO _ _),trivial,λb hb=>absurd (show b∈([]:List Addr) from hb) (by simp),aq,.of_eq hg⟩
  refine Ui ((F _ M6 (Cj iz) HE).run callerA [] b_ H ⟨[.ref a],[]⟩ [.ref a] [.ref a] _ _ hr e0 (l8 b_ (.ref a)) (.cons rfl .nil) (oh H hO hS)) λr s' h=>?_
  cases r with
  | error e=>exact (HB H e s' h).elim
  | ok fl =>
   cases fl with
   | next=>exact False.elim h
   | brk=>exact False.elim h
   | cont=>exact False.elim h
   | ret u =>
    obtain ⟨v,H',os,bare,un,DO,r',q,qt⟩:=h
    have q':v=.bl true:=q
    subst q'
    obtain rfl:u=Value.bool true:=r'
    have keep:∀ b o,(∀ q,(b,q)∉ts)->b_.heap.get? b=some o->s'.heap.get? b=some o:=λb o hb e=>by
     cases q:H b with
     | none=>exact un.keep b o e q (by intro z; exact absurd (show b∈([]:List Addr) from z) (by simp)) (by simp)
     | some u =>
      rcases hO.1 b with z | ⟨ob,xs,z⟩ | ⟨q',z,zm⟩
      ·rw [q] at z; cases z
      ·have z2:=un.fj b ob _ z
       obtain ⟨e1,_⟩:=aq b _ z
       obtain ⟨e2,_⟩:=DO b _ z2
       rw [e] at e1; cases e1
       exact e2
      ·exact absurd zm (hb q')
    have grown:∀ b o q,(b,q)∈ts->b_.heap.get? b=some o->isCodeTable b_.heap b/\o=Tc #[]/\∃ ps,s'.heap.get? b=some (Tc ps):=λb o q hm e=>by
     obtain ⟨h1,h2,c,h3⟩:=rn _ hm
     have Nv:b_.heap.get? b=some (Tc #[]):=h1
     rw [e] at Nv
     obtain ⟨ps,GX,_⟩:bM P w H' s'.heap b (.tab q):=DO b _ (qt _ hm)
     exact ⟨tH h3 h1,Option.some.inj Nv,ps,GX⟩
    refine ⟨rfl,⟨λb o e=>?_,λb o e=>?_⟩,os,bare⟩
    ·by_cases hb:∃ q,(b,q)∈ts
     ·obtain ⟨q,hm⟩:=hb
      obtain ⟨ht,rfl,ps,hP⟩:=grown b o q hm e
      exact .inr (.inl ⟨ht,rfl,#[],ps,rfl,by rw [Array.empty_append]; exact hP⟩)
     ·exact .inl (keep b o (λq z=>hb ⟨q,z⟩) e)
    ·by_cases hb:∃ q,(b,q)∈ts
     ·obtain ⟨q,hm⟩:=hb
      obtain ⟨_,_,ps,hP⟩:=grown b o q hm e
      exact ⟨_,hP⟩
     ·exact ⟨o,keep b o (λq z=>hb ⟨q,z⟩) e⟩
 -- the tables
 have look:∀ {b:Addr} {q:Str},ts.lookup b=some q->(b,q)∈ts:=λ{b q} e=>by
  clear rn yg oh core na F
  induction ts with
  | nil=>cases e
  | cons p r ih =>
   rw [Ju] at e
   cases hb:b==p.1 with
   | true=>rw [hb] at e; cases e; rw [eq_of_beq hb]; exact .head _
   | false=>rw [hb] at e; exact .tail _ (ih e)
 have zf:∀ {b:Addr} {q:Str},(b,q)∈ts->ts.lookup b=some q:=λ{b q} e=>by
  clear rn oh core na look F
  induction ts with
  | nil=>cases e
  | cons p r ih =>
   rw [Ju]
   rw [Qv,Jw] at yg
   rcases Qj.mp e with rfl | e
   ·simp
   ·have:(b==p.1)=false:=by
     rw [beq_eq_false_iff_ne]
     intro z
     exact yg.1 (Qx.mpr ⟨(b,q),e,z⟩)
    rw [this]
    exact ih yg.2 e
 have za:∀ (H:Hp) (b:Addr) (q:Str),(b,q)∈ts->bM P w H b_.heap b (.tab q):=λH b q hm=>⟨#[],(rn _ hm).1,trivial,λpos cv z=>by simp [codeAmong] at z⟩
 cases hk:K.lookup a with
 | some o =>
  have e:=KX a o hk
  rw [ha] at e
  cases e
  refine core (λb=>(ts.lookup b).map HO.tab) ⟨λb=>?_,λp hp=>by show (ts.lookup p.1).map HO.tab=_; rw [zf (q:=p.2) hp]; rfl⟩ (.inr ⟨_,vs.toArray,_,hk,rfl,rfl,rfl,by rw [Qm,Kb]; exact hl,by simpa using rv⟩) (λb u z=>?_) (λb z=>?_) λz=>?_
  ·cases q:ts.lookup b with
   | none=>exact .inl (by show (ts.lookup b).map HO.tab=none; rw [q]; rfl)
   | some y=>exact .inr (.inr ⟨y,by show (ts.lookup b).map HO.tab=_; rw [q]; rfl,look q⟩)
  ·have z':(ts.lookup b).map HO.tab=some u:=z
   cases q:ts.lookup b with
   | none=>rw [q] at z'; cases z'
   | some y=>rw [q] at z'; cases z'; exact za _ _ _ (look q)
  ·have z':(ts.lookup b).map HO.tab≠none:=z
   cases q:ts.lookup b with
   | none=>rw [q] at z'; exact absurd rfl z'
   | some y=>exact .inr ⟨y,look q⟩
  ·exfalso
   have z':(ts.lookup a).map HO.tab≠none:=z
   cases q:ts.lookup a with
   | none=>rw [q] at z'; exact absurd rfl z'
   | some y=>exact na _ (look q) rfl
 | none =>
  have noa:ts.lookup a=none:=by
   cases q:ts.lookup a with
   | none=>rfl
   | some y=>exact absurd rfl (na _ (look q))
  refine core (λb=>if b=a then some (.cq { cls:=.type "list",data:=.seq vs.toArray } (.lst (ns.map V.int))) else (ts.lookup b).map HO.tab) ⟨λb=>?_,λp hp=>?_⟩ (.inl (.inr ⟨{ cls:=.type "list",data:=.seq vs.toArray },if_pos rfl⟩)) (λb u z=>?_) (λb z=>?_) λ_=>hk
  ·by_cases hb:b=a
   ·exact .inr (.inl ⟨_,_,if_pos hb⟩)
   ·cases q:ts.lookup b with
    | none=>exact .inl ((if_neg hb).trans (by rw [q]; rfl))
    | some y=>exact .inr (.inr ⟨y,(if_neg hb).trans (by rw [q]; rfl),look q⟩)
  ·exact (if_neg (na p hp)).trans (by rw [zf (q:=p.2) hp]; rfl)
  ·by_cases hb:b=a
   ·have z':=(if_pos hb).symm.trans z
    cases z'
    subst hb
    exact ⟨ha,by rw [Qc]; exact hl,vs,_,rv,ha⟩
   ·have z':=(if_neg hb).symm.trans z
    cases q:ts.lookup b with
    | none=>rw [q] at z'; cases z'
    | some y=>rw [q] at z'; cases z'; exact za _ _ _ (look q)
  ·by_cases hb:b=a
   ·exact .inl hb
   ·cases q:ts.lookup b with
    | none=>exact absurd ((if_neg hb).trans (by rw [q]; rfl)) z
    | some y=>exact .inr ⟨y,look q⟩
theorem aEN {l:Iv} {k:Nat} {d:DefRec} {K:Params->Rc} {CX:World->y9} {sp:World->Sp} {ts:List (Addr×Str)} (hn:l.most=some n) (VG:n<=sizeLine) (CN:d.params.defaults = []) (hr:ay k callerA) (hq:importsNone q=true) (hY:∀ (w:World) (h:Heap),YP w h->(K w.params).In h) (rn:∀ (w:World) (h:Heap),YP w h->∀ p∈ts,h.get? p.1=some (Tc #[])/\(K w.params).lookup p.1=none/\∃ c,Ia h c p.1) (yg:(ts.map (·.1)).Nodup) (F:∀ (w:World) (mg:Str->Option Value) (fa:Addr) (h:Heap),(K w.params).In h->h.Ns mainGlobals mg->mg d.name=some (.ref fa) ->
   ∃ fd:FuncData,(∀ (s:Shared) (u:Value),BindsTo s fd ⟨[u],[]⟩ [(x,u)]) /\
    ∀ base:Heap,(K w.params).In base->base.Ns mainGlobals mg->(∀ p∈ts,base.BuiltinsAt mg p.1)->af l.prog w (K w.params) mg base (CX w) k fa fd [x] (sp w)) (oh:∀ (w:World) (H:Hp) (a:Addr) (ns:List Int),ns.length<=n->IV ts H->ak (K w.params) H a (ns.map V.int)->sp w [.ref a] H (λv H'=>v=.bl true/\∀ p∈ts,H' p.1=some (.tab p.2)) λ_ _ _=>False) (HB:∀ (w:World) (H:Hp) (s:Shared) (e:Value) (s':Shared),CX w [] H s (λ_ _ _=>False) e s'->False) :
  Ras q loose XP YP l.row.toRowW d [] (λf vs=>Ram f vs):=by
 refine Se.mf hn CN λw gb b_ mg mb fa o pm cd doc a vs ns G Y ho hd jm yh AY hints hlen hg=>?_
 have KX:=hY w _ Y
 obtain ⟨fd,hb,hF⟩:=F w mg fa _ KX G.T.g yh
 exact aDc KX G.T.g G.T.b G.T.builtins G.T.nolimit (let ⟨mm,h1,_⟩:=(G.T.seer hq).mods; ⟨mm,h1⟩) hg G.T.bmain (rn w _ Y) yg AY hints (Jl hlen VG) hr hF hb (λH hO hS=>oh w H a ns hlen hO hS) λH e s'=>HB w H b_ e s'
theorem u_.TJ {k:Nat} (F:u_ K x qual st f fd) (hc:fd.code=.ref c) (S:ah N ps (aL st)) (len:∀ vs H Q E,sp vs H Q E->vs.length=ps.length) (jg:∀ (A:Around) (outer:List Env) (s:Shared) (H:Hp) (vs:List V) (Q:VK) (E:XK),ay k (A.deeper (envOfC qual (aL st) s.heap.objs.size f (.ref c)))->sp vs H Q E ->
   ∃ t,kc (oG a_ P w K mg base N qual (aL st) f (.ref c) A outer s H E).vd (dU st) t/\t { nx:=λ_ H'=>Q .bw H',rt:=Q } (start N vs) H):af P w K mg base a_ (k+1) f fd ps sp:=by
 obtain ⟨oc,od,kV,doc,pm,an,bj,ct,ql,rfl,lk,jm⟩:=F.ex
 have e:bj=.ref c:=hc
 subst e
 refine JA lk jm S len λA outer s H vs Q E hr oh=>?_
 obtain ⟨t,h,q⟩:=jg A outer s H vs Q E hr oh
 exact ⟨t,h.vd,q⟩
section
variable {z TI TO:Addr} {n1:Nat}
structure o9 (h:Heap) (z TI TO i1 i2:Addr):Prop where
 hz:∃ f0 f1,F0 f0/\iA h z TI TO f0 f1
 ti:IsPair h TI (.ref i1) (.ref i2)
 to:∃ a b,IsPair h TO a b
theorem aAi {e:Addr} {old:Value} (D:ZipApart z TI TO i1 i2 l1 l2) (S1:Sub prog w i1 l1 n1 P1 mi) (S2:Sub prog w i2 l2 n2 P2 fh) (he:IsEnum s.heap e z i old) (Z:o9 s.heap z TI TO i1 i2) (h1:mi i s.heap) (h2:fh i s.heap) (k1:i < n1) (k2:i < n2) (ne:e≠z/\e≠TI/\e≠TO/\e≠i1/\e≠i2/\e≠l1/\e≠l2) (hQ:∀ h' x y tk,P1 i x->P2 i y->IsEnumOut h' e z ((i:Int)+1) (.ref s.heap.objs.size) (s.heap.objs.size+1)->o9 h' z TI TO i1 i2->mi (i+1) h'->fh (i+1) h'->IsPair h' s.heap.objs.size x y ->
   h'.get? (s.heap.objs.size+1)=some { cls:=.type "tuple",data:=.seq #[.int i tk,.ref s.heap.objs.size] } ->
   (∀ c o,c≠e->c≠z->c≠TO->c≠i1->c≠i2->s.heap.get? c=some o->h'.get? c=some o)->Q (.ref (s.heap.objs.size+1)) { s with heap:=h',toks:=s.toks+1 }) :
  wpAny (model prog w) A (Builtin.«enumerate.__next__» ⟨[.ref e],[]⟩) (λfin s'=>∃ v,fin=.done (.ret v)/\Q v s') E s:=by
 obtain ⟨⟨f0,f1,hf,hz⟩,i9,⟨a,b,i_⟩⟩:=Z
 obtain ⟨ne1,ne2,ne3,ne4,ne5,UE,Ey⟩:=ne
 have CV:s.TypeIs (.ref z) "zip" := ⟨_,hz,rfl⟩
 refine Ra (m:=field (.ref e) 2) (Rm he rfl (x:=.ref z) rfl ?_)
 refine Ra (m:=Builtin.SmallTypes.nextOf (.ref z)) ?_
 unfold Builtin.SmallTypes.nextOf
 refine Ra (Rh (name:=Str.ofString "__next__") CV Rz (Rj Rz CV Ux
  (zJ D S1 S2 hz hf i9 i_ h1 h2 k1 k2 λg1 x y Ff HJ _ px py MA Cu ki t1 t2 hp hsz kp=>?_) (Ut _)))
 refine Rb ?_
 have e1:IsEnum g1 e z i old:=kp _ _ ne1 ne3 ne4 ne5 he
 refine Ra (m:=field (.ref e) 3) (Rm e1 rfl (x:=rawInt i) rfl ?_)
 refine Ra (m:=field (.ref e) 4) (Rm e1 rfl (x:=.none) rfl ?_)
 refine Ra (m:=mkInt i) (wpAny_mkInt ?_)
 refine Ra (m:=setField (.ref e) 3 (rawInt ((i:Int)+1))) (Rl e1 (by simp) λg2 e2 b2=>?_)
 have jn:IsEnum g2 e z ((i:Int)+1) old:=e2
 refine Ra (m:=setField (.ref e) 4 .none) (Rl jn (by simp) λg3 e3 b3=>?_)
 have HS:IsEnum g3 e z ((i:Int)+1) old:=e3
 refine Ra (m:=newTuple [.int i s.toks,.ref s.heap.objs.size]) (Ip ?_)
 have sz:g3.objs.size=s.heap.objs.size+1:=by rw [b3.1,b2.1,hsz]
 have e4:IsEnum (g3.push { cls:=.type "tuple",data:=.seq #[.int i s.toks,.ref s.heap.objs.size] }) e z ((i:Int)+1) old:=Qa _ HS
 have T4:(g3.push { cls:=.type "tuple",data:=.seq #[.int i s.toks,.ref s.heap.objs.size] }).get? (s.heap.objs.size+1)=some { cls:=.type "tuple",data:=.seq #[.int i s.toks,.ref s.heap.objs.size] }:=by rw [<- sz]; exact Qg _ rfl
 have K_:∀ c o,c≠e->g1.get? c=some o->(g3.push { cls:=.type "tuple",data:=.seq #[.int i s.toks,.ref s.heap.objs.size] }).get? c=some o:=λc o c1 q=>Qa _ (b3.extBut _ _ c1 (b2.extBut _ _ c1 q))
 have elt:s.heap.objs.size+1≠e:=Xh (Jv (Qo he))
 have KS:s.heap.objs.size≠e:=Xh (Qo he)
 rw [sz]
 generalize g3.push { cls:=.type "tuple",data:=.seq #[.int i s.toks,.ref s.heap.objs.size] }=g4 at e4 T4 K_ ⊢
 refine Ra (m:=Builtin.SmallTypes.ownedTupleIsFree (.ref e)) ?_
 unfold Builtin.SmallTypes.ownedTupleIsFree
 refine Ra (Rm e4 rfl (x:=.none) rfl (Rb ?_))
 simp only [if_true]
 refine Ra (Uc ?_)
 refine Ra (Rm e4 rfl (x:=old) rfl ?_)
 refine Ra (Rl e4 (by simp) λg5 e5 b5=>?_)
 have HR:IsEnum g5 e z ((i:Int)+1) (.ref s.heap.objs.size):=e5
 refine Ra (m:=Builtin.SmallTypes.ownedTupleHandOut (.ref e) (.ref (s.heap.objs.size+1))) ?_
 unfold Builtin.SmallTypes.ownedTupleHandOut
 refine Ra (Rl HR (by simp) λg6 e6 b6=>?_)
 have HQ:IsEnumOut g6 e z ((i:Int)+1) (.ref s.heap.objs.size) (s.heap.objs.size+1):=e6
 refine Rl HQ (by simp) λg7 e7 b7=>?_
 have HP:IsEnumOut g7 e z ((i:Int)+1) (.ref s.heap.objs.size) (s.heap.objs.size+1):=e7
 have up:∀ c o,c≠e->g4.get? c=some o->g7.get? c=some o:=λc o c1 q=>b7.extBut _ _ c1 (b6.extBut _ _ c1 (b5.extBut _ _ c1 q))
 have all:∀ c o,c≠e->g1.get? c=some o->g7.get? c=some o:=λc o c1 q=>up c o c1 (K_ c o c1 q)
 obtain ⟨a',b',ki⟩:=ki
 refine Ra (Uq (Rb ⟨_,rfl,hQ g7 x y s.toks px py HP ⟨⟨_,_,MA,all _ _ ne1.symm Cu⟩,all _ _ ne2.symm (kp _ _ D.TIz D.TITO D.TIi1 D.TIi2 i9),⟨_,_,all _ _ ne3.symm ki⟩⟩ (S1.keep _ _ _ t1 λc hc o q=>all c o ?_ q) (S2.keep _ _ _ t2 λc hc o q=>all c o ?_ q) (all _ _ KS hp) (up _ _ elt T4) λc o c0 c1 c2 c3 c4 q=>all c o c0 (kp c o c1 c2 c3 c4 q)⟩))
 ·rcases hc with r | r <;> rw [r]
  ·exact ne4.symm
  ·exact UE.symm
 ·rcases hc with r | r <;> rw [r]
  ·exact ne5.symm
  ·exact Ey.symm
theorem aBf {e:Addr} {old:Value} {Q:Fin->Shared->Prop} (hh:A.handled=none) (D:ZipApart z TI TO i1 i2 l1 l2) (S1:Sub prog w i1 l1 n1 P1 mi) (S2:Sub prog w i2 l2 n2 P2 fh) (he:IsEnum s.heap e z i old) (Z:o9 s.heap z TI TO i1 i2) (h1:mi i s.heap) (h2:fh i s.heap) (lu:i=n1/\i<=n2∨i=n2/\i < n1) (hE:∀ h' x,(∀ c o,c≠z->c≠TO->c≠i1->c≠i2->s.heap.get? c=some o->h'.get? c=some o)->(∃ o,h'.get? x=some o/\o.cls=.type "StopIteration")->E (.ref x) { s with heap:=h' }) :
  wpAny (model prog w) A (Builtin.«enumerate.__next__» ⟨[.ref e],[]⟩) Q E s:=by
 obtain ⟨⟨f0,f1,hf,hz⟩,i9,⟨a,b,i_⟩⟩:=Z
 have CV:s.TypeIs (.ref z) "zip" := ⟨_,hz,rfl⟩
 refine Ra (m:=field (.ref e) 2) (Rm he rfl (x:=.ref z) rfl ?_)
 refine Ra (m:=Builtin.SmallTypes.nextOf (.ref z)) ?_
 unfold Builtin.SmallTypes.nextOf
 exact Ra (Rh (name:=Str.ofString "__next__") CV Rz (Rj Rz CV Ux
  (QZ hh D S1 S2 hz hf i9 i_ h1 h2 lu λh' x kp hx=>hE h' x kp hx) (Ut _)))
end
def Dd (K:Rc) (k1 k2:Sk) (a b:Addr):It :=
 ⟨λi H => ∃ xs ys x y, fi k1 K H a xs /\ fi k2 K H b ys /\ xs[i]? = some x /\ ys[i]? = some y,
  λi H v H'=>∃ p q,H p=none/\H q=none/\q≠p/\v=.ref q/\∀ xs ys,fi k1 K H a xs->fi k2 K H b ys->∃ x y,xs[i]?=some x/\ys[i]?=some y/\H'=upd (upd H p (.tup [x,y])) q (.tup [.int (i:Nat),.ref p]),
  λi H=>∃ xs ys,fi k1 K H a xs/\fi k2 K H b ys/\min xs.length ys.length=i⟩
theorem xQ {x1} (k1 k2:Sk) (a b e z TI TO i1 i2:Addr) (D:∀ l1 l2:Addr,(∀ c∈[e,z,TI,TO,i1,i2],l1≠c)->(∀ c∈[e,z,TI,TO,i1,i2],l2≠c)->ZipApart z TI TO i1 i2 l1 l2) (ne:e≠z/\e≠TI/\e≠TO/\e≠i1/\e≠i2) :
  Turn P w K (.Tuple es x1 pos) (Dd K k1 k2 a b) [e,z,TI,TO,i1,i2] e (λi h=>(∃ old,IsEnum h e z i old)/\o9 h z TI TO i1 i2/\jb k1 h i1 a i/\jb k2 h i2 b i) where
 mem:=by simp
 obj:=λi h st c hc=>by
  obtain ⟨⟨old,he⟩,⟨⟨f0,f1,hf,hz⟩,i9,⟨x,y,i_⟩⟩,h1,h2⟩:=st
  simp only [Qj,Qp,or_false] at hc
  rcases hc with rfl | rfl | rfl | rfl | rfl | rfl
  ·exact ⟨_,he,λv q=>by cases q⟩
  ·exact ⟨_,hz,λv q=>by cases q⟩
  ·exact ⟨_,i9,λv q=>by cases q⟩
  ·exact ⟨_,i_,λv q=>by cases q⟩
  ·exact h1.obj
  ·exact h2.obj
 keep:=λi h h' st k=>by
  obtain ⟨⟨old,he⟩,⟨⟨f0,f1,hf,hz⟩,i9,⟨x,y,i_⟩⟩,h1,h2⟩:=st
  exact ⟨⟨old,k e (by simp) _ he⟩,⟨⟨f0,f1,hf,k z (by simp) _ hz⟩,k TI (by simp) _ i9,⟨x,y,k TO (by simp) _ i_⟩⟩,h1.at λo e=>k i1 (by simp) o e,h2.at λo e=>k i2 (by simp) o e⟩
 item:=by
  intro X hP hw hK hc i aa s σ H E I hf st hg
  subst hP hw hK
  obtain ⟨⟨old,he⟩,Z,h1,h2⟩:=st
  obtain ⟨xs,ys,x,y,ha,hb,hx,hy⟩:=hg
  obtain ⟨ae,rv,pa⟩:=I.gj ha
  obtain ⟨mx,gc,pb⟩:=I.gj hb
  obtain ⟨u,hu,ru⟩:=rv.get hx
  obtain ⟨v,hv,Ga⟩:=gc.get hy
  have na:∀ c∈[e,z,TI,TO,i1,i2],a≠c:=λc bq=>I.dg ha (hf c bq)
  have nb:∀ c∈[e,z,TI,TO,i1,i2],b≠c:=λc bq=>I.dg hb (hf c bq)
  have DD:=D a b na nb
  have hT:s.TypeIs (.ref e) "enumerate" := ⟨_,he,rfl⟩
  have ot:i < ae.toArray.size:=by rw [Qm]; exact (Qd.mp hu).1
  have ym:i < mx.toArray.size:=by rw [Qm]; exact (Qd.mp hv).1
  unfold pyNext
  refine Ra (Tj (Rh (name:=Str.ofString "__next__") hT Rv (Rj Rv hT Ud
   (aAi DD (uT k1 X.prog X.w i1 a ae.toArray (na i1 (by simp))) (uT k2 X.prog X.w i2 b mx.toArray (nb i2 (by simp))) he Z ⟨h1,pa⟩ ⟨h2,pb⟩ ot ym
    ⟨ne.1,ne.2.1,ne.2.2.1,ne.2.2.2.1,ne.2.2.2.2,(na e (by simp)).symm,(nb e (by simp)).symm⟩ λh' u' v' tk pu pv Hi Z' s1 s2 ib my kp=>Rb ?_) (Ua _))))
  have eu:u'=u:=by
   have q:ae[i]?=some u':=by simpa using pu
   rw [hu] at q
   exact (Option.some.inj q).symm
  have ev:v'=v:=by
   have q:mx[i]?=some v':=by simpa using pv
   rw [hv] at q
   exact (Option.some.inj q).symm
  subst eu ev
  refine ⟨_,rfl,Raf Hi λk_ CL jj=>?_⟩
  have T0:s.heap.objs.size≠e:=Xh (Qo he)
  have T1:s.heap.objs.size+1≠e:=Xh (Jv (Qo he))
  have Kl:IsPair k_ s.heap.objs.size u' v':=jj.extBut _ _ T0 ib
  have Kk:k_.get? (s.heap.objs.size+1)=some { cls:=.type "tuple",data:=.seq #[.int i tk,.ref s.heap.objs.size] }:=jj.extBut _ _ T1 my
  have mq:=I.aq.fresh (Qe s.heap.objs.size)
  have Ap:=I.aq.fresh (Wi s.heap.objs.size)
  have fz:=I.i6 (Qe s.heap.objs.size) mq
  have HG:=I.i6 (Wi s.heap.objs.size) Ap
  have I2:Inv X aa σ H { s with heap:=k_,toks:=s.toks+1 }:=by
   refine I.ft (t':=s.toks+1) [e,z,TO,i1,i2] (λc o bq q=>?_) (λc bq=>hf c ?_)
   ·simp only [Qj,Qp,or_false,not_or] at bq
    exact jj.extBut _ _ bq.1 (kp c o bq.1 bq.2.1 bq.2.2.1 bq.2.2.2.1 bq.2.2.2.2 q)
   ·simp only [Qj,Qp,or_false] at bq ⊢
    rcases bq with r | r | r | r | r
    ·exact .inl r
    ·exact .inr (.inl r)
    ·exact .inr (.inr (.inr (.inl r)))
    ·exact .inr (.inr (.inr (.inr (.inl r))))
    ·exact .inr (.inr (.inr (.inr (.inr r))))
  have I3:Inv X aa σ (upd H s.heap.objs.size (.tup [x,y])) { s with heap:=k_,toks:=s.toks+1 }:=by
   refine I2.kj (show bM X.prog X.w _ _ _ (.tup [x,y]) from ⟨by show 2<=sizeLine; rw [Rg]; decide,[u',v'],0,.cons ru (.cons Ga .nil),Kl⟩) mq fz.2.1 I.sz fz.2.2.2.2.1 fz.2.2.2.2.2
  have nn:s.heap.objs.size+1≠s.heap.objs.size:=Nat.succ_ne_self _
  have I4:Inv X aa σ (upd (upd H s.heap.objs.size (.tup [x,y])) (s.heap.objs.size+1) (.tup [.int (i:Nat),.ref s.heap.objs.size])) { s with heap:=k_,toks:=s.toks+1 }:=by
   refine I3.kj (show bM X.prog X.w _ _ _ (.tup [.int (i:Nat),.ref s.heap.objs.size]) from ⟨by show 2<=sizeLine; rw [Rg]; decide,[.int i tk,.ref s.heap.objs.size],0,.cons ⟨tk,rfl⟩ (.cons rfl .nil),Kk⟩) (by rw [aK nn]; exact Ap) HG.2.1 (Jl I.sz (Wi _)) HG.2.2.2.2.1 HG.2.2.2.2.2
  obtain ⟨⟨g0,g1,hg,Cu⟩,KJ,⟨a',b',ki⟩⟩:=Z'
  refine ⟨.ref (s.heap.objs.size+1),_,I4,rfl,⟨s.heap.objs.size,s.heap.objs.size+1,mq,Ap,nn,rfl,λK7 zq CT e_=>?_⟩,⟨⟨_,by simpa using CL⟩,⟨⟨g0,g1,hg,jj.extBut _ _ ne.1.symm Cu⟩,jj.extBut _ _ ne.2.1.symm KJ,⟨_,_,jj.extBut _ _ ne.2.2.1.symm ki⟩⟩,s1.1.at λo q=>jj.extBut _ _ ne.2.2.2.1.symm q,s2.1.at λo q=>jj.extBut _ _ ne.2.2.2.2.symm q⟩,λc bq=>?_⟩
  ·rw [I.fm CT ha,I.fm e_ hb]
   exact ⟨x,y,hx,hy,rfl⟩
  ·have cl:c < s.heap.objs.size:=by
    obtain ⟨o,q⟩:∃ o,s.heap.get? c=some o:=by
     obtain ⟨⟨f0,f1,MA,hz⟩,i9,⟨x',y',i_⟩⟩:=Z
     simp only [Qj,Qp,or_false] at bq
     rcases bq with rfl | rfl | rfl | rfl | rfl | rfl
     ·exact ⟨_,he⟩
     ·exact ⟨_,hz⟩
     ·exact ⟨_,i9⟩
     ·exact ⟨_,i_⟩
     ·obtain ⟨o,q,_⟩:=h1.obj; exact ⟨o,q⟩
     ·obtain ⟨o,q,_⟩:=h2.obj; exact ⟨o,q⟩
    exact Qo q
   rw [aK (Qt (Jv cl)),aK (Qt cl)]
   exact (hf c bq).1
 done:=by
  intro X hP hw hK hc i aa s σ H E I hf st hg
  subst hP hw hK
  obtain ⟨⟨old,he⟩,Z,h1,h2⟩:=st
  obtain ⟨xs,ys,ha,hb,tw⟩:=hg
  obtain ⟨ae,rv,pa⟩:=I.gj ha
  obtain ⟨mx,gc,pb⟩:=I.gj hb
  have la:=rv.length
  have lb:=gc.length
  have na:∀ c∈[e,z,TI,TO,i1,i2],a≠c:=λc bq=>I.dg ha (hf c bq)
  have nb:∀ c∈[e,z,TI,TO,i1,i2],b≠c:=λc bq=>I.dg hb (hf c bq)
  have DD:=D a b na nb
  have hT:s.TypeIs (.ref e) "enumerate" := ⟨_,he,rfl⟩
  unfold pyNext
  refine Ra (Tj (Rh (name:=Str.ofString "__next__") hT Rv (Rj Rv hT Ud
   (aBf (I.ok.hd hc) DD (uT k1 X.prog X.w i1 a ae.toArray (na i1 (by simp))) (uT k2 X.prog X.w i2 b mx.toArray (nb i2 (by simp))) he Z ⟨h1,pa⟩ ⟨h2,pb⟩ (by rw [Qm,Qm]; omega) λh' x kp hx=>?_) (Ua _))))
  obtain ⟨oe,vm,yo⟩:=hx
  refine Ra (Ue (T := "StopIteration") (b:=true) ⟨oe,vm,yo⟩ Vi (Rb ⟨rfl,?_⟩))
  refine I.ft (t':=s.toks) [z,TO,i1,i2] (λc o bq q=>?_) (λc bq=>hf c ?_)
  ·simp only [Qj,Qp,or_false,not_or] at bq
   exact kp c o bq.1 bq.2.1 bq.2.2.1 bq.2.2.2 q
  ·simp only [Qj,Qp,or_false] at bq ⊢
   rcases bq with r | r | r | r
   ·exact .inr (.inl r)
   ·exact .inr (.inr (.inr (.inl r)))
   ·exact .inr (.inr (.inr (.inr (.inl r))))
   ·exact .inr (.inr (.inr (.inr (.inr r))))
 self:=λ_ _ _ _ _ st h=>by
  obtain ⟨⟨old,he⟩,_⟩:=st
  exact Vy he h
theorem vB (z TI TO:Addr) :
  Meets (Builtin.«enumerate.__new__» ⟨[.type "enumerate",.ref z],[]⟩) (λ_ R s=>IsZip s.heap z TI TO .none /\
   R (.ok (.ret (.ref s.heap.objs.size))) { s with heap:=s.heap.push { cls:=.type "enumerate",data:=.fields #[.none,.bool false,.ref z,rawInt 0,.none,.none] } }) :=
 .of_wp λprog w A R s h=>by
  obtain ⟨hp,g,d,tk,os⟩:=s
  obtain ⟨hl,h⟩:=h
  have lj:=sub_enumerate
  have hZ:IsZip (Shared.heap ⟨hp,g,d,tk,os⟩) z TI TO .none:=hl
  wp_walk using AutoSeq1.wpAny_loadPart' hZ
  refine RaR λst=>Rb ?_
  split
  ·rename_i c _ _ _ _ _
   cases (c==Value.type "enumerate")
   ·wp_walk using AutoSeq1.wpAny_loadPart' hZ,Vm hZ
    exact ⟨_,rfl,h⟩
   ·wp_walk using AutoSeq1.wpAny_loadPart' hZ,Vm hZ
    exact ⟨_,rfl,h⟩
  ·wp_walk using AutoSeq1.wpAny_loadPart' hZ,Vm hZ
   exact ⟨_,rfl,h⟩
def aEP (K:Rc) (k1 k2:Sk) (ta:TA):TI:=λσ H R=>ta σ H λvs H1=>∃ a b xs ys,vs = [.ref a,.ref b]/\fi k1 K H1 a xs/\fi k2 K H1 b ys/\R (Dd K k1 k2 a b) H1
theorem aBg (k1 k2:Sk) {a b:Expr} {ta:TA} {p':Pos} (hg:Gl X "enumerate") (hm:X.mg "enumerate" = none) (He:Gl X "zip") (yi:X.mg "zip" = none) (ha:PA X [a,b] ta) (hs:starEach [a,b] X.env = [(false,eval a X.env),(false,eval b X.env)]:=by rfl) (qq:starEach [b] X.env = [(false,eval b X.env)]:=by rfl) (LP:starEach [Expr.Call (.Name "zip" p') [a,b] [] pos'] X.env = [(false,eval (.Call (.Name "zip" p') [a,b] [] pos') X.env)]:=by rfl) :
  PI X (.Tuple es x1 xc) (.Call (.Name "enumerate" p) [.Call (.Name "zip" p') [a,b] [] pos'] [] pos) (aEP X.K k1 k2 ta):=by
 intro aa s σ H R I h
 refine Call_ (jI (u:=.type "enumerate") I hg hm (by decide +kernel) (PyProof.Rows.callWith_type1 ?_ LP rfl))
 rw [LP]
 show wpAny _ _ (spliced ((false,eval (.Call (.Name "zip" p') [a,b] [] pos') X.env)::[])) _ _ s
 refine Calls.spliced_cons ?_
 refine Call_ (jI (u:=.type "zip") I He yi (by decide +kernel) (PyProof.Rows.callWith_type1 (bf (ha pos' aa s σ H _ I h) λus s1 au=>?_) (by rw [hs,qq]) (by rw [qq]; rfl)))
 obtain ⟨vs,H1,I1,r1,q1⟩:=au
 obtain ⟨l1,l2,xs,ys,rfl,hA,hB,q⟩:=q1
 obtain ⟨u1,u2,rfl,Cg,Gb⟩:=nR r1
 cases Cg
 cases Gb
 obtain ⟨ae,rv,pa⟩:=I1.gj hA
 obtain ⟨mx,gc,pb⟩:=I1.gj hB
 refine Ig Rai (by decide) (Mv _ _) (My _ _) (λobj=>Mg obj _ _) Mz (zL k1 k2 l1 l2 ae.toArray mx.toArray) ⟨pa,pb,?_⟩
 have n1:(uj k1 s1.heap l1).objs.size=s1.heap.objs.size+1:=Jj ..
 have n2:(x_ k1 k2 s1.heap l1 l2).objs.size=s1.heap.objs.size+2:=by rw [Jj,n1]
 have n3:(x9 k1 k2 s1.heap l1 l2).objs.size=s1.heap.objs.size+3:=by rw [Jj,n2]
 have n4:(Bg k1 k2 s1.heap l1 l2).objs.size=s1.heap.objs.size+4:=by rw [Jj,n3]
 have n5:(mh k1 k2 s1.heap l1 l2).objs.size=s1.heap.objs.size+5:=by rw [Jj,n4]
 have g5:IsZip (mh k1 k2 s1.heap l1 l2) (Bg k1 k2 s1.heap l1 l2).objs.size (x_ k1 k2 s1.heap l1 l2).objs.size (x9 k1 k2 s1.heap l1 l2).objs.size .none:=Qg _ rfl
 have g4:IsPair (mh k1 k2 s1.heap l1 l2) (x9 k1 k2 s1.heap l1 l2).objs.size .none .none:=Qa _ (Qg _ rfl)
 have g3:IsPair (mh k1 k2 s1.heap l1 l2) (x_ k1 k2 s1.heap l1 l2).objs.size (.ref s1.heap.objs.size) (.ref (uj k1 s1.heap l1).objs.size):=Qa _ (Qa _ (Qg _ rfl))
 have g2:jb k2 (mh k1 k2 s1.heap l1 l2) (uj k1 s1.heap l1).objs.size l2 0:=(jb.new k2 (uj k1 s1.heap l1) l2).at λo e=>Qa _ (Qa _ (Qa _ e))
 have g1:jb k1 (mh k1 k2 s1.heap l1 l2) s1.heap.objs.size l1 0:=(jb.new k1 s1.heap l1).at λo e=>Qa _ (Qa _ (Qa _ (Qa _ e)))
 have kp:∀ c o,s1.heap.get? c=some o->(mh k1 k2 s1.heap l1 l2).get? c=some o:=λc o e=>Qa _ (Qa _ (Qa _ (Qa _ (Qa _ e))))
 refine ⟨⟨_,g5,rfl⟩,Calls.spliced_nil ?_⟩
 rw [n1,n2,n3,n4] at *
 generalize mh k1 k2 s1.heap l1 l2=Bu at *
 refine Ig Ml (by decide) (Iu _) (Ma _) (λobj=>Vo obj _) Mb (vB (s1.heap.objs.size+4) (s1.heap.objs.size+2) (s1.heap.objs.size+3)) ⟨g5,?_⟩
 have ge:IsEnum (Bu.push { cls:=.type "enumerate",data:=.fields #[.none,.bool false,.ref (s1.heap.objs.size+4),rawInt 0,.none,.none] }) Bu.objs.size (s1.heap.objs.size+4) 0 .none:=Qg _ rfl
 have Aa:∀ c o,Bu.get? c=some o->(Bu.push { cls:=.type "enumerate",data:=.fields #[.none,.bool false,.ref (s1.heap.objs.size+4),rawInt 0,.none,.none] }).get? c=some o:=λc o e=>Qa _ e
 rw [n5] at ge
 show (∃ _,_)/\_
 rw [n5]
 generalize Bu.push { cls:=.type "enumerate",data:=.fields #[.none,.bool false,.ref (s1.heap.objs.size+4),rawInt 0,.none,.none] }=h6 at ge Aa ⊢
 refine ⟨⟨_,ge,rfl⟩,Vy ge ?_⟩
 have I2:Inv X aa σ H1 { s1 with heap:=h6 }:=I1.kept (t':=s1.toks) λc o e=>Aa c o (kp c o e)
 have d:∀ i j:Nat,i≠j->s1.heap.objs.size+i≠s1.heap.objs.size+j:=λi j h=>by omega
 refine ⟨s1.heap.objs.size+5,[s1.heap.objs.size+5,s1.heap.objs.size+4,s1.heap.objs.size+2,s1.heap.objs.size+3,s1.heap.objs.size,s1.heap.objs.size+1],_,_,H1,rfl,I2,xQ k1 k2 l1 l2 _ _ _ _ _ _ ?_ ⟨d 5 4 (by decide),d 5 2 (by decide),d 5 3 (by decide),d 5 0 (by decide),d 5 1 (by decide)⟩,⟨⟨_,ge⟩,⟨⟨_,_,.inl rfl,Aa _ _ g5⟩,Aa _ _ g3,⟨_,_,Aa _ _ g4⟩⟩,g1.at λo e=>Aa _ _ e,g2.at λo e=>Aa _ _ e⟩,λc hc=>?_,q⟩
 ·intro m1 m2 h1 h2
  exact ⟨d 2 4 (by decide),d 3 4 (by decide),d 0 4 (by decide),d 1 4 (by decide),d 2 3 (by decide),d 2 0 (by decide),d 2 1 (by decide),d 3 0 (by decide),d 3 1 (by decide),d 0 1 (by decide),
   h1 _ (by simp),h1 _ (by simp),h1 _ (by simp),h1 _ (by simp),h2 _ (by simp),h2 _ (by simp),h2 _ (by simp),h2 _ (by simp)⟩
 ·have bq:s1.heap.objs.size<=c:=by
   simp only [Qj,Qp,or_false] at hc
   rcases hc with r | r | r | r | r | r <;> rw [r]
   all_goals first | exact Qe _ | exact Xn _ _
  exact I1.i6 bq (I1.aq.fresh bq)
theorem aAj {σ:St} (Pv:Nat->St->Hp->Prop) (heq:xs.length=ys.length) (h0:Pv 0 σ H) (hl:∀ i σ H,i<=xs.length->Pv i σ H->fi k1 K H a xs/\fi k2 K H b ys) (hs:∀ i x y p q σ H,xs[i]?=some x->ys[i]?=some y->Pv i σ H->H p=none->H q=none->q≠p->g (.ref q) σ (upd (upd H p (.tup [x,y])) q (.tup [.int (i:Nat),.ref p])) λar H2=>tb { D with nx:=Pv (i+1),ct:=Pv (i+1),bk:=D.nx } ar H2) (hd:∀ σ H,Pv xs.length σ H->D.nx σ H) :
  ∃ W:Nat->Nat->St->Hp->Prop,(∃ m,W 0 m σ H)/\∀ i m σ H,W i m σ H ->
   ((Dd K k1 k2 a b).stop i H/\D.nx σ H)∨((Dd K k1 k2 a b).go i H/\∃ N:St->Hp->Prop,(∀ ao H',N ao H'->∃ m',m' < m/\W (i+1) m' ao H')/\∀ x H',(Dd K k1 k2 a b).kz i H x H'->g x σ H' λar H2=>tb { D with nx:=N,ct:=N,bk:=D.nx } ar H2):=by
 refine ⟨λi m σ H=>m=xs.length - i/\i<=xs.length/\Pv i σ H,⟨xs.length,by simp,Jb _,h0⟩,?_⟩
 rintro i m σ H ⟨rfl,hi,p⟩
 obtain ⟨q1,q2⟩:=hl i σ H hi p
 by_cases ax:i < xs.length
 ·refine .inr ⟨⟨xs,ys,xs[i],ys[i]'(by omega),q1,q2,Qb ax,Qb (by omega)⟩,Pv (i+1),λao H' p'=>⟨xs.length - (i+1),by omega,rfl,ax,p'⟩,λx H' y=>?_⟩
  obtain ⟨p1,S9,ib,vk,cb,rfl,hy⟩:=y
  obtain ⟨x,y,h1,h2,rfl⟩:=hy xs ys q1 q2
  exact hs i x y p1 S9 σ H h1 h2 p ib vk cb
 ·have e:i=xs.length:=by omega
  subst e
  exact .inl ⟨⟨xs,ys,q1,q2,by rw [<- heq,Wy]⟩,hd σ H p⟩
end L2
namespace L2
open PySem
def d! (K:Rc):List V->Hp->VK->Prop:=λxs H Q=>∃ p ys,xs = [.ref p]/\((ak K H p ys/\∀ l,H l=none->Q (.ref l) (upd H l (.tup ys)))∨(aj K H p ys/\Q (.ref p) H))
theorem c! (hK:X.K=K):eN X (.type "tuple") (d! K):=by subst hK; exact cC
section
variable {γ δ ε ζ η θ ι:Type}
end
end L2
namespace L2
open PySem PySem.Spec PyProof.Rows
section
variable {own:Nat} {σ:St}
end
theorem aEQ {xs:Array Nat} (hs:xs.toList.Pairwise (· < ·)):∀ (fuel lo hi:Nat),hi - lo<=fuel->lo<=hi->hi<=xs.size->(∀ i v,i < lo->xs[i]?=some v->v < j)->(∀ i v,hi<=i->xs[i]?=some v->j<=v) ->
  SetTable.below.go xs j fuel lo hi<=xs.size/\(∀ i v,i < SetTable.below.go xs j fuel lo hi->xs[i]?=some v->v < j)/\(∀ i v,SetTable.below.go xs j fuel lo hi<=i->xs[i]?=some v->j<=v):=by
 have mono:∀ i k u v,i < k->xs[i]?=some u->xs[k]?=some v->u < v:=λi k u v BC hu hv=>by
  rw [<- Array.getElem?_toList] at hu hv
  obtain ⟨h1,e1⟩:=Qd.mp hu
  obtain ⟨h2,e2⟩:=Qd.mp hv
  rw [<- e1,<- e2]
  exact Xw.mp hs i k h1 h2 BC
 intro fuel
 induction fuel with
 | zero =>
  intro lo hi h1 h2 h3 h4 h5
  have e:hi=lo:=by omega
  subst e
  exact ⟨h3,h4,h5⟩
 | succ fuel ih =>
  intro lo hi h1 h2 h3 h4 h5
  have e:SetTable.below.go xs j (fuel+1) lo hi=if lo < hi then (if xs.getD ((lo+hi) / 2) j < j then SetTable.below.go xs j fuel ((lo+hi) / 2+1) hi else SetTable.below.go xs j fuel lo ((lo+hi) / 2)) else lo:=rfl
  rw [e]
  by_cases ax:lo < hi
  ·rw [if_pos ax]
   have hm:(lo+hi) / 2 < xs.size:=by omega
   have hg:xs[(lo+hi) / 2]?=some (xs.getD ((lo+hi) / 2) j):=by
    rw [Array.getD_eq_getD_getElem?,Array.getElem?_eq_getElem hm]; rfl
   by_cases hc:xs.getD ((lo+hi) / 2) j < j
   ·rw [if_pos hc]
    refine ih _ _ (by omega) (by omega) h3 (λi v vy hv=>?_) h5
    rcases Wc i ((lo+hi) / 2) with z | z
    ·exact Zv (mono _ _ _ _ z hv hg) hc
    ·have:i=(lo+hi) / 2:=by omega
     subst this
     rw [hg] at hv
     rw [<- Option.some.inj hv]; exact hc
   ·rw [if_neg hc]
    refine ih _ _ (by omega) (by omega) (by omega) h4 (λi v vy hv=>?_)
    rcases Wc ((lo+hi) / 2) i with z | z
    ·have:=mono _ _ _ _ z hg hv
     omega
    ·have:i=(lo+hi) / 2:=by omega
     subst this
     rw [hg] at hv
     rw [<- Option.some.inj hv]; omega
  ·rw [if_neg ax]
   have e:hi=lo:=by omega
   subst e
   exact ⟨h3,h4,h5⟩
theorem wB {xs:Array Nat} (hs:xs.toList.Pairwise (· < ·)) (j:Nat):SetTable.below xs j<=xs.size/\(∀ i v,i < SetTable.below xs j->xs[i]?=some v->v < j)/\(∀ i v,SetTable.below xs j<=i->xs[i]?=some v->j<=v) :=
 aEQ hs xs.size 0 xs.size (by omega) (Jb _) (Qe _) (λi v h=>absurd h (Zm _)) (λi v h e=>by rw [Array.getElem?_eq_none h] at e; cases e)
def nZ (xs:Array Nat) (i:Nat):Nat:=if i=0 then 0 else (xs[i - 1]?).getD 0+1
theorem aBh {xs:Array Nat} (hs:xs.toList.Pairwise (· < ·)) (hi:i<=xs.size):SetTable.below xs (nZ xs i)=i:=by
 obtain ⟨h1,h2,h3⟩:=wB hs (nZ xs i)
 have mono:∀ i k u v,i < k->xs[i]?=some u->xs[k]?=some v->u < v:=λi k u v BC hu hv=>by
  rw [<- Array.getElem?_toList] at hu hv
  obtain ⟨h1,e1⟩:=Qd.mp hu
  obtain ⟨h2,e2⟩:=Qd.mp hv
  rw [<- e1,<- e2]
  exact Xw.mp hs i k h1 h2 BC
 rcases Nat.lt_trichotomy (SetTable.below xs (nZ xs i)) i with z | z | z
 ·exfalso
  have ax:i - 1 < xs.size:=by omega
  have e:xs[i - 1]?=some xs[i - 1]:=Array.getElem?_eq_getElem ax
  have:=h3 (i - 1) _ (by omega) e
  unfold nZ at this
  rw [if_neg (by omega),e] at this
  have:xs[i - 1]+1<=xs[i - 1]:=this
  omega
 ·exact z
 ·exfalso
  have ax:i < xs.size:=by omega
  have e:xs[i]?=some xs[i]:=Array.getElem?_eq_getElem ax
  have:=h2 i _ z e
  unfold nZ at this
  by_cases h0:i=0
  ·rw [if_pos h0] at this; omega
  ·have Ku:i - 1 < xs.size:=by omega
   have e':xs[i - 1]?=some xs[i - 1]:=Array.getElem?_eq_getElem Ku
   rw [if_neg h0,e'] at this
   have this:xs[i] < xs[i - 1]+1:=this
   have:=mono (i - 1) i _ _ (by omega) e' e
   omega
def vf (mask:Nat):Nat->Nat×Nat->Nat×Nat
 | 0,p=>p
 | n+1,p=>vf mask n (SetTable.leap mask p.1 p.2)
theorem QF (mask:Nat):∀ (a b:Nat) (p:Nat×Nat),vf mask (a+b) p=vf mask b (vf mask a p)
 | 0,b,p=>by rw [Nat.zero_add]; rfl
 | a+1,b,p=>by
  rw [show a+1+b=(a+b)+1 by omega]
  exact QF mask a b _
theorem RF (mask:Nat):∀ (k:Nat) (p:Nat×Nat),p.2 < 32^k->p.1<=mask->∃ i,i<=mask/\vf mask k p=(i,0)
 | 0,p,h,hi=>⟨p.1,hi,by
   obtain ⟨a,b⟩:=p
   have:b=0:=by have h:b < 32^0:=h; omega
   subst this; rfl⟩
 | k+1,p,h,hi=>by
  refine RF mask k _ ?_ ?_
  ·show p.2 / 32 < 32^k
   rw [Nat.pow_succ] at h
   omega
  ·show (p.1*5+1+p.2 / 32) % (mask+1)<=mask
   have:=Nat.mod_lt (p.1*5+1+p.2 / 32) (show 0 < mask+1 by omega)
   omega
theorem UN:∀ i j:Fin 8,∃ n:Fin 8,(vf 7 n.val (i.val,0)).1=j.val:=by decide +kernel
theorem ZT {mask:Nat} (hm:mask=7) {pt:Nat} (hi:i<=mask) (hp:pt < 2^64) (hj:j<=mask):∃ n,n<=mask+13/\(vf mask n (i,pt)).1=j:=by
 obtain ⟨i',vy,e⟩:=RF mask 13 (i,pt) (show pt < 32^13 by omega) hi
 subst hm
 obtain ⟨n,hn⟩:=UN ⟨i',by omega⟩ ⟨j,by omega⟩
 exact ⟨13+n.val,by have:=n.isLt; omega,by rw [QF,e]; exact hn⟩
def xR (t:SetTable):Nat->SetTable.Probe->SetTable.Probe
 | 0,p=>p
 | n+1,p=>xR t n (t.advance p)
theorem RE (t:SetTable):∀ (a b:Nat) (p:SetTable.Probe),xR t (a+b) p=xR t b (xR t a p)
 | 0,b,p=>by rw [Nat.zero_add]; rfl
 | a+1,b,p=>by
  rw [show a+1+b=(a+b)+1 by omega]
  exact RE t a b _
theorem aDd (t:SetTable) (p:SetTable.Probe):(t.advance p).dummy=p.dummy:=by
 unfold SetTable.advance
 split <;> rfl
theorem xS (j:Nat):SetTable.has #[] j=false:=rfl
theorem tI {t:SetTable} (hd:t.dummies = #[]) (j:Nat):t.slot j=.empty∨∃ i,t.slot j=.live i:=by
 unfold SetTable.slot
 dsimp only
 by_cases h:(t.place[SetTable.below t.place j]?==some j)=true
 ·rw [if_pos h]; exact .inr ⟨_,rfl⟩
 ·rw [if_neg h,hd,xS]
  exact .inl (if_neg (by decide))
theorem RD {t:SetTable} (hd:t.dummies = #[]) {hashAt:Nat->Int} {h:Int} (hh:∀ i,(hashAt i==h)=false):∀ (fuel:Nat) (p:SetTable.Probe) (n:Nat),n < fuel->p.dummy=none->t.slot (xR t n p).j=.empty->∃ j,SetTable.probe.go t hashAt h fuel p=some (.empty j none)/\t.slot j=.empty
 | 0,p,n,hn,_,_=>absurd hn (Zm _)
 | fuel+1,p,n,hn,hp,hs=>by
  have e:SetTable.probe.go t hashAt h (fuel+1) p=(match t.slot p.j with
   | .empty=>some (.empty p.j p.dummy)
   | .dummy=>SetTable.probe.go t hashAt h fuel (t.advance { p with dummy:=some p.j })
   | .live i=>if (hashAt i==h)=true then some (.candidate p.j i (t.advance p)) else SetTable.probe.go t hashAt h fuel (t.advance p)):=rfl
  rcases tI hd p.j with q | ⟨i,q⟩
  ·refine ⟨p.j,?_,q⟩
   rw [e,q,hp]
  ·rw [e,q]
   simp only [hh,Ji,if_false]
   cases n with
   | zero=>rw [show xR t 0 p=p from rfl,q] at hs; cases hs
   | succ n=>exact RD hd hh fuel (t.advance p) n (by omega) (by rw [aDd]; exact hp) hs
def B1 (mask:Nat) (p:Nat×Nat):SetTable.Probe:={ j:=p.1,more:=SetTable.runEnd mask p.1 - p.1,i:=p.1,perturb:=p.2,dummy:=none }
theorem QE (t:SetTable) (i pt:Nat):∀ (m j:Nat),xR t (m+1) { j:=j,more:=m,i:=i,perturb:=pt,dummy:=none }=B1 t.mask (SetTable.leap t.mask i pt)
 | 0,j=>rfl
 | m+1,j=>QE t i pt m (j+1)
theorem b? (mask i:Nat):SetTable.runEnd mask i - i<=9:=by
 unfold SetTable.runEnd
 split <;> omega
theorem wC (t:SetTable):∀ (k:Nat) (p:Nat×Nat),∃ n,n<=10*k/\xR t n (B1 t.mask p)=B1 t.mask (vf t.mask k p)
 | 0,p=>⟨0,Qe _,rfl⟩
 | k+1,p=>by
  obtain ⟨n,hn,e⟩:=wC t k (SetTable.leap t.mask p.1 p.2)
  refine ⟨(SetTable.runEnd t.mask p.1 - p.1+1)+n,by have:=b? t.mask p.1; omega,?_⟩
  rw [RE]
  have e2:xR t (SetTable.runEnd t.mask p.1 - p.1+1) (B1 t.mask p)=B1 t.mask (SetTable.leap t.mask p.1 p.2):=QE t p.1 p.2 _ _
  rw [e2]
  exact e
theorem z? (h:Int):SetTable.bits h < 2^64:=by
 unfold SetTable.bits
 have h1:=Xb h (show (0:Int) < 2^64 by decide)
 have h2:=Xf h (show (2^64:Int)≠0 by decide)
 omega
theorem z! {t:SetTable} (hm:t.mask=7) (hd:t.dummies = #[]) {j0:Nat} (hj:j0<=t.mask) (hs:t.slot j0=.empty) (h:Int):∃ j,t.freeSlot h=some (j,false)/\t.slot j=.empty:=by
 have ax:=Nat.mod_lt (SetTable.bits h) (show 0 < t.mask+1 by omega)
 obtain ⟨k,hk,e⟩:=ZT hm (i:=SetTable.bits h % (t.mask+1)) (pt:=SetTable.bits h) (by omega) (z? h) hj
 obtain ⟨n,hn,e2⟩:=wC t k (SetTable.bits h % (t.mask+1),SetTable.bits h)
 obtain ⟨j,e3,e4⟩:=RD hd (hashAt:=λ_=>h+1) (h:=h) (λi=>beq_eq_false_iff_ne.mpr (by omega)) (10*SetTable.turns t.mask) (B1 t.mask (SetTable.bits h % (t.mask+1),SetTable.bits h)) n (by unfold SetTable.turns; omega) rfl (by
  rw [e2]
  show t.slot (vf t.mask k (SetTable.bits h % (t.mask+1),SetTable.bits h)).1=_
  rw [e]; exact hs)
 refine ⟨j,?_,e4⟩
 have e5:t.probe (λx=>h+1) h (t.probeStart h)=some (.empty j none):=e3
 unfold SetTable.freeSlot
 rw [e5]
 rfl
theorem gap:∀ (l:List Nat) (b:Nat),l.Pairwise (· < ·)->(∀ x∈l,b<=x)->∃ j,b<=j/\j<=b+l.length/\j∉l
 | [],b,_,_=>⟨b,Qe _,Qe _,Qp⟩
 | x::r,b,h,hb=>by
  obtain ⟨h1,h2⟩:=Xv.mp h
  by_cases z:x=b
  ·obtain ⟨j,j1,j2,j3⟩:=gap r (b+1) h2 λy hy=>by have:=h1 y hy; omega
   refine ⟨j,by omega,by rw [Jg]; omega,λm=>?_⟩
   rcases Qj.mp m with m | m
   ·omega
   ·exact j3 m
  ·refine ⟨b,Qe _,by omega,λm=>?_⟩
   have hx:=hb x (Qk ..)
   rcases Qj.mp m with m | m
   ·exact z m.symm
   ·have:=h1 b m; omega
theorem aBi {t:SetTable} (hd:t.dummies = #[]) (h:j∉t.place.toList):t.slot j=.empty:=by
 rcases tI hd j with q | ⟨i,q⟩
 ·exact q
 ·exfalso
  unfold SetTable.slot at q
  dsimp only at q
  by_cases z:(t.place[SetTable.below t.place j]?==some j)=true
  ·have z':=eq_of_beq z
   rw [<- Array.getElem?_toList] at z'
   exact h (Qi z')
  ·rw [if_neg z,hd,xS] at q
   simp at q
theorem aER {t:SetTable} (h:t.slot j=.empty):t.place[SetTable.below t.place j]?≠some j:=λz=>by
 unfold SetTable.slot at h
 dsimp only at h
 rw [if_pos (by rw [z]; exact beq_self_eq_true _)] at h
 cases h
theorem jZ (xs:Array α) (p:Nat) (x:α):(SetTable.insertAt xs p x).toList=xs.toList.take p++x::xs.toList.drop p:=by
 unfold SetTable.insertAt
 rw [Array.toList_append,Array.toList_push,Array.toList_extract,Array.toList_extract]
 simp only [List.extract_eq_drop_take,Yn,Wx]
 rw [Xr]
 congr 1
 rw [Wd]
 congr 1
 rw [Jn]
 rw [Jp,Array.length_toList]
 exact Qe _
theorem vC {xs:Array Nat} (hs:xs.toList.Pairwise (· < ·)) (h:xs[SetTable.below xs j]?≠some j):(SetTable.insertAt xs (SetTable.below xs j) j).toList.Pairwise (· < ·):=by
 obtain ⟨h1,h2,h3⟩:=wB hs j
 rw [jZ]
 have L_:∀ y∈xs.toList.drop (SetTable.below xs j),j < y:=λy hy=>by
  obtain ⟨i,hi⟩:=Jd.mp hy
  rw [Wr,Array.getElem?_toList] at hi
  have hle:=h3 _ _ (Xn _ _) hi
  rcases Wc j y with z | z
  ·exact z
  ·exfalso
   have e:y=j:=by omega
   subst e
   cases i with
   | zero=>exact h hi
   | succ i =>
    have ax:SetTable.below xs y < xs.size:=by
     have:=(Array.getElem?_eq_some_iff.mp hi).1
     omega
    have e1:xs[SetTable.below xs y]?=some xs[SetTable.below xs y]:=Array.getElem?_eq_getElem ax
    have h4:=h3 _ _ (Qe _) e1
    have h5:xs[SetTable.below xs y] < y:=by
     rw [<- Array.getElem?_toList] at hi e1
     obtain ⟨q1,r1⟩:=Qd.mp e1
     obtain ⟨q2,r2⟩:=Qd.mp hi
     have:=Xw.mp hs _ _ q1 q2 (by omega)
     rw [r1,r2] at this
     exact this
    omega
 have ax:∀ y∈xs.toList.take (SetTable.below xs j),y < j:=λy hy=>by
  obtain ⟨i,hi⟩:=Jd.mp hy
  have ym:i < SetTable.below xs j:=by
   have:=(Qd.mp hi).1
   rw [Qu] at this
   omega
  rw [Zu ym,Array.getElem?_toList] at hi
  exact h2 _ _ ym hi
 refine Wg.mpr ⟨hs.sublist (List.take_sublist _ _),Xv.mpr ⟨L_,hs.sublist (List.drop_sublist _ _)⟩,λa ha b hb=>?_⟩
 rcases Qj.mp hb with rfl | hb
 ·exact ax a ha
 ·exact Zv (ax a ha) (L_ b hb)
structure Tb (L:Bool) (t:SetTable) (n:Nat):Prop where
 mask:t.mask=7
 yr:n<=4
 t_:t.dummies = #[]
 plain:t.plain=true
 led:t.led=L
 size:t.place.size=n
 rise:t.place.toList.Pairwise (· < ·)
theorem Tb.fits {t:SetTable} (T:Tb L t n):t.fits n=true:=by
 unfold SetTable.fits SetTable.fill
 rw [T.size,T.t_]
 have:n+(#[]:Array Nat).size<=t.mask:=by
  show n+0<=_
  have:=T.mask
  have:=T.yr
  omega
 rw [decide_eq_true this,beq_self_eq_true]
 rfl
theorem Tb.full {t:SetTable} (T:Tb L t n):t.tooFull=false:=by
 have e:t.tooFull=decide (n*5≥t.mask*3):=by
  unfold SetTable.tooFull SetTable.fill
  rw [T.size,T.t_]; rfl
 have:=T.yr
 rw [e,T.mask]
 exact decide_eq_false (by omega)
theorem Tb.lay {t:SetTable} {es:Array (Int×Value)} (T:Tb L t es.size) (hn:es.size<=3) (h:Int) (x:Value) :
  ∃ qy t',layNew t es h x=(qy,t',false,false)/\qy.toList.Perm ((h,x)::es.toList)/\Tb L t' qy.size/\qy.size=es.size+1:=by
 have hm:=T.mask
 obtain ⟨j0,_,j2,j3⟩:=gap t.place.toList 0 T.rise λx _=>Jb _
 rw [Array.length_toList,T.size] at j2
 obtain ⟨j,ej,hj⟩:=z! hm T.t_ (by omega) (aBi T.t_ j3) h
 have HL:(SetTable.insertAt es (SetTable.below t.place j) (h,x)).size=es.size+1:=by
  rw [<- Array.length_toList,jZ,Qn,Jg,Qu,Jp,Array.length_toList]
  omega
 have KR:t.put j=({ t with place:=SetTable.insertAt t.place (SetTable.below t.place j) j,dummies:=#[] },SetTable.below t.place j):=by
  unfold SetTable.put
  dsimp only
  rw [T.t_,xS]
  rfl
 have T':Tb L { t with place:=SetTable.insertAt t.place (SetTable.below t.place j) j,dummies:=#[] } (es.size+1):=by
  refine ⟨hm,by omega,rfl,T.plain,T.led,?_,vC T.rise (aER hj)⟩
  show (SetTable.insertAt t.place _ j).size=_
  rw [<- Array.length_toList,jZ,Qn,Jg,Qu,Jp,Array.length_toList,T.size]
  omega
 refine ⟨SetTable.insertAt es (SetTable.below t.place j) (h,x),_,?_,?_,by rw [HL]; exact T',HL⟩
 ·unfold layNew
  rw [ej]
  dsimp only
  rw [KR]
  dsimp only
  rw [HL]
  unfold SetTable.orStandIn
  rw [T'.fits]
  rfl
 ·rw [jZ]
  exact List.perm_middle.trans (List.Perm.cons _ (by rw [Yd]))
theorem QD (next:Nat->Nat):∀ (fuel k:Nat) (left:List α) (out:Array α),left.length<=fuel->(pickOrder.go next fuel k left out).toList.Perm (out.toList++left)
 | 0,k,left,out,h=>by
  have:left = []:=Jz.mp (by omega)
  subst this
  rw [Xx]; exact List.Perm.refl _
 | fuel+1,k,left,out,h=>by
  have e:pickOrder.go next (fuel+1) k left out=(match left[next k % left.length]? with
   | some x=>pickOrder.go next fuel (k+1) (left.eraseIdx (next k % left.length)) (out.push x)
   | none=>out):=rfl
  rw [e]
  cases q:left[next k % left.length]? with
  | none =>
   have hl:left.length=0:=by
    rcases Nat.eq_zero_or_pos left.length with z | z
    ·exact z
    ·have:=Nat.mod_lt (next k) z
     rw [Qb this] at q; cases q
   rw [Jz.mp hl,Xx]
  | some x =>
   obtain ⟨hi,ex⟩:=Qd.mp q
   refine (QD next fuel (k+1) _ (out.push x) (by rw [List.length_eraseIdx_of_lt hi]; omega)).trans ?_
   rw [Array.toList_push,Xr]
   refine List.Perm.append_left _ ?_
   rw [List.eraseIdx_eq_take_drop_succ,Wd,<- ex]
   refine List.perm_middle.symm.trans ?_
   rw [List.getElem_cons_drop hi]
   first | done | rw [Yd]
theorem aDe (next:Nat->Nat) (xs:Array α):(pickOrder next xs).toList.Perm xs.toList:=by
 have:=QD next xs.size 0 xs.toList #[] (by rw [Array.length_toList]; exact Qe _)
 exact this
def ent (p:Int×Tok):Int×Value:=(hashInt p.1,.int p.1 p.2)
def SG (L:Bool) (h:Heap) (a:Addr) (ks:List (Int×Tok)):Prop:=∃ o ep es t,h.get? a=some o/\o.ExactSet/\o.data=.set es ep t/\es.toList.Perm (ks.map ent)/\Tb L t es.size
theorem SG.keep {l:List (Int×Tok)} (x:SG L h a l) (k:∀ o,h.get? a=some o->h'.get? a=some o):SG L h' a l:=by
 obtain ⟨o,ep,es,t,e,r⟩:=x
 exact ⟨o,ep,es,t,k o e,r⟩
theorem aDf (prog:Program) (w:World) {es:Array (Int×Value)} (h:es.toList.Perm (ks.map ent)):ElemsOf (intKind prog w) es.toList:=by
 intro e he
 obtain ⟨p,hp,rfl⟩:=Qx.mp (h.mem_iff.mp he)
 exact ⟨⟨p.1,Rag _ _ _ _,rfl⟩,rfl⟩
theorem Py {k:Int} {t:Tok} {Q:Bool->Shared->Prop} (hS:SG L s.heap a ks) (hlen:ks.length<=3) (hQ:∀ h' b,Heap.SameBut a s.heap h'->((∃ p∈ks,p.1=k)->SG L h' a ks)->((∀ p∈ks,p.1≠k)->SG L h' a ((k,t)::ks))->Q b { s with heap:=h',toks:=s.toks+1 }) :
  wpAny (model prog w) A (setAdd a (.int k t)) Q E s:=by
 obtain ⟨o,ep,es,tb,ho,hex,hd,hp,T⟩:=hS
 unfold setAdd
 refine Rn (Ra ((intKind prog w).pyHash (k:=k) (Rag _ _ _ _) ?_))
 have yn:=aDf prog w hp
 have hsz:es.size=ks.length:=by rw [<- Array.length_toList,hp.length_eq,Qc]
 have nv:=T.fits
 have Ea:byScan (.int k t) es=true:=byScan_of (knd:=intKind prog w) rfl (by rw [hsz]; unfold scanBound; omega) yn
 unfold setAddHashed setAddHashedIn
 refine Rn (Ra (Ts (s:={ s with toks:=s.toks+1 }) ho hd nv ?_))
 dsimp only
 rw [Ea]
 simp only [↓reduceIte]
 unfold setAddByScan
 refine Ra ?_
 refine Ra (Uc ?_)
 refine Ra (wpAny_setScan_of (knd:=intKind prog w) (k:=k) (Rag _ _ _ _) ho hd nv yn ?_)
 cases hr:List.findIdx? (λe=>(intKind prog w).is k e.2) es.toList with
 | some j =>
  dsimp only
  obtain ⟨hj,LS,_⟩:=List.findIdx?_eq_some_iff_getElem.mp hr
  have Bc:∃ p∈ks,p.1=k:=by
   obtain ⟨p,rq,e⟩:=Qx.mp (hp.mem_iff.mp (Jt hj))
   refine ⟨p,rq,?_⟩
   rw [<- e] at LS
   obtain ⟨t',e2⟩:=Value.isInt_shape (show Value.isInt k (Value.int p.1 p.2)=true from LS)
   injection e2
  refine Rb (Rb ?_)
  exact hQ s.heap false (Heap.SameBut.refl a s.heap) (λ_=>⟨o,ep,es,tb,ho,hex,hd,hp,T⟩) λhn=>by
   obtain ⟨p,hp,e⟩:=Bc
   exact absurd e (hn p hp)
 | none =>
  dsimp only
  have h_:∀ p∈ks,p.1≠k:=λp rq e=>by
   have:=List.findIdx?_eq_none_iff.mp hr (ent p) (hp.mem_iff.mpr (Qx.mpr ⟨p,rq,rfl⟩))
   have h2:(intKind prog w).is k (Value.int k p.2)=true:=Rag _ _ _ _
   simp only [ent,e] at this
   rw [h2] at this
   cases this
  obtain ⟨Fg,t1,e1,p1,T1,z1⟩:=T.lay (by omega) ((intKind prog w).hash k) (.int k t)
  have U_:Fg.toList.Perm (((k,t)::ks).map ent):=p1.trans (List.Perm.cons _ hp)
  rw [e1]
  dsimp only
  refine Ra (Rb ?_)
  rw [if_pos T1.plain,hashByValue_scannable 8 (x:=.int k t) rfl]
  refine Ra (Rb ?_)
  rw [if_pos (show plainKind (.int k t)=true from rfl)]
  refine Ra (wpAny_storeSet_of (s:={ s with toks:=s.toks+1 }) ho hd ?_ (by rw [z1,Rg]; omega))
  have g1:=Jx (Obj.putSet Fg t1) ho (by rw [putSet_of _ _ hd]; rfl)
  rw [putSet_of _ _ hd] at g1
  rw [T1.full]
  simp only [Bool.not_false,Zr,Ji,if_false]
  refine Rb (Rb ?_)
  exact hQ (s.heap.update a (Obj.putSet Fg t1)) true (Heap.SameBut.update _ _ _) (λ⟨p,hp,e⟩=>absurd e (h_ p hp)) λ_=>⟨_,_,Fg,t1,g1,hex,rfl,U_,T1⟩
structure K1 (ks:List (Int×Tok)) (ns:List Int):Prop where
 nd:(ks.map (·.1)).Nodup
 mem:∀ k,k∈ks.map (·.1)↔k∈ns
 len:ks.length<=ns.length
def rO (w:World) (S:Addr) (ep:Nat) (es:Array (Int×Value)):Array (Int×Value):=if w.params.followText "set-order" then pickOrder (w.params.setOrder S ep) es else es
def jF (w:World) (t:SetTable) (i:Nat):Nat:=if w.params.followText "set-order" then 0 else nZ t.place i
theorem qN (w:World) (S:Addr) (ep:Nat) (es:Array (Int×Value)):(rO w S ep es).toList.Perm es.toList:=by
 unfold rO
 split
 ·exact aDe _ _
 ·exact List.Perm.refl _
theorem qO (w:World) (S:Addr) (ep:Nat) (es:Array (Int×Value)):(rO w S ep es).size=es.size:=by
 rw [<- Array.length_toList,(qN w S ep es).length_eq,Array.length_toList]
section
variable {S:Addr} {es:Array (Int×Value)} {t:SetTable}
theorem rC {Q:Option (Value×Nat)->Shared->Prop} (T:Tb (Led w) t es.size) (ho:s.heap.get? S=some o) (hd:o.data=.set es ep t) (hi:i<=es.size) (h:Q (((rO w S ep es)[i]?).map λe=>(e.2,jF w t (i+1))) s):wpAny (model prog w) A (setNext S (jF w t i) i ep) Q E s:=by
 have nv:=T.fits
 unfold setNext
 refine Ra (Ts ho hd nv ?_)
 dsimp only
 refine Ra (qF ?_)
 cases hb:w.params.followText "set-order" with
 | true =>
  have e1:rO w S ep es=pickOrder (w.params.setOrder S ep) es:=by unfold rO; rw [hb]; rfl
  have e2:∀ i,jF w t i=0:=λi=>by unfold jF; rw [hb]; rfl
  rw [e1,e2] at h
  rw [e2]
  simp only [if_true,bne_self_eq_false,Ji,if_false]
  refine Ra ?_
  unfold setWalk
  refine Ra (Ts ho hd nv ?_)
  dsimp only
  refine Ra (qF ?_)
  rw [hb]
  simp only [if_true]
  refine Ra (Uu (Rb (Rb h)))
 | false =>
  have e1:rO w S ep es=es:=by unfold rO; rw [hb]; rfl
  have e2:∀ i,jF w t i=nZ t.place i:=λi=>by unfold jF; rw [hb]; rfl
  have eL:t.led=true:=by rw [T.led]; unfold Led; rw [hb]; rfl
  rw [e1,e2] at h
  rw [e2]
  simp only [Ji,if_false]
  have Ho:=aBh T.rise (i:=i) (by rw [T.size]; exact hi)
  refine Tx (λqb=>absurd (show (!t.plain && decide (es.size > 1))=true from qb) (by rw [T.plain]; simp)) (λ_=>?_)
  refine Ra ?_
  show wpAny _ _ (if (!t.led && !es.isEmpty)=true then unsupported "set:maker-not-led" else pure ()) _ _ _
  rw [eL]
  refine Rb (Rb ?_)
  rw [Ho]
  cases q:es[i]? with
  | none=>rw [q] at h; exact h
  | some p =>
   rw [q] at h
   have ax:i < t.place.size:=by rw [T.size]; exact (Array.getElem?_eq_some_iff.mp q).1
   rw [Array.getElem?_eq_getElem ax]
   have e5:nZ t.place (i+1)=t.place[i]+1:=by
    unfold nZ
    rw [if_neg (by omega),Nat.add_sub_cancel,Array.getElem?_eq_getElem ax]
    rfl
   rw [e5] at h
   exact h
def pG (w:World) (h:Heap) (I S:Addr) (t:SetTable) (n ep i:Nat):Prop :=
 h.get? I=some { cls:=.type "set_iterator",data:=.fields #[rawInt (jF w t i:Nat),rawInt (i:Nat),.ref S,rawInt (n:Nat),rawInt (ep:Nat)] }
theorem aDg (hh:A.handled=none) (I S:Addr) (cb:S≠I) (o:Obj) (ep:Nat) (es:Array (Int×Value)) (t:SetTable) (T:Tb (Led w) t es.size) (hd:o.data=.set es ep t) :
  Walks prog w A I [I,S] [I] es.size (λi v=>∃ k,(rO w S ep es)[i]?=some (k,v)) (λi h=>pG w h I S t es.size ep i/\h.get? S=some o) where
 sub:=λb hb=>by simp at hb; simp [hb]
 frame:=λ_ _ _ st hk=>⟨hk I (by simp) _ st.1,hk S (by simp) _ st.2⟩
 item:=λi s Q E hi st hQ=>by
  obtain ⟨hit,hS⟩:=st
  have hT:s.TypeIs (.ref I) "set_iterator" := ⟨_,hit,rfl⟩
  unfold pyNext
  refine Ra (Tj (Rh (name:=Str.ofString "__next__") hT bZ
   (Rj bZ hT gX ?_ (gO _))))
  unfold Builtin.«set_iterator.__next__» slotArgs
  simp only [Yf,Wt,Ji,↓reduceIte,Yk,bne_self_eq_false]
  refine Ra (Rb ?_)
  dsimp only
  refine Ra (Tr hit rfl ?_)
  show wpAny _ _ (setEntries S >>= _) _ _ s
  refine Ra (Ra (Ts hS hd (T.fits) (Rb ?_)))
  dsimp only
  refine Tx (λqb=>absurd qb (by simp)) (λ_=>?_)
  show wpAny _ _ (setNext S (jF w t i:Int).toNat (i:Int).toNat (ep:Int).toNat >>= _) _ _ s
  rw [Jf,Jf,Jf]
  refine Ra (rC T hS hd (by omega) ?_)
  obtain ⟨⟨k,v⟩,Am⟩:∃ e,(rO w S ep es)[i]?=some e:=⟨_,Array.getElem?_eq_getElem (by rw [qO]; exact hi)⟩
  rw [Am]
  show wpAny _ _ (setField (Value.ref I) 0 (rawInt ↑(jF w t (i+1))) >>= _) _ _ s
  refine Ra (Rl hit (by show 0 < 5; decide) λh1 g1 Em=>?_)
  refine Ra (Rl g1 (by show 1 < 5; decide) λh2 g2 jj=>?_)
  refine Rb ⟨v,rfl,Rb ?_⟩
  refine hQ v h2 s.toks ⟨k,Am⟩ ⟨?_,(jj.2 S cb).trans ((Em.2 S cb).trans hS)⟩ λb ob hb e=>?_
  ·unfold pG
   rw [g2]
   congr 1
  ·have e_:b≠I:=by simpa using hb
   exact (jj.2 b e_).trans ((Em.2 b e_).trans e)
 done:=λs Q E st hQ=>by
  obtain ⟨hit,hS⟩:=st
  have hT:s.TypeIs (.ref I) "set_iterator" := ⟨_,hit,rfl⟩
  unfold pyNext
  refine Ra (Tj (Rh (name:=Str.ofString "__next__") hT bZ
   (Rj bZ hT gX ?_ (gO _))))
  unfold Builtin.«set_iterator.__next__» slotArgs
  simp only [Yf,Wt,Ji,↓reduceIte,Yk,bne_self_eq_false]
  refine Ra (Rb ?_)
  dsimp only
  refine Ra (Tr hit rfl ?_)
  show wpAny _ _ (setEntries S >>= _) _ _ s
  refine Ra (Ra (Ts hS hd (T.fits) (Rb ?_)))
  dsimp only
  refine Tx (λqb=>absurd qb (by simp)) (λ_=>?_)
  show wpAny _ _ (setNext S (jF w t es.size:Int).toNat (es.size:Int).toNat (ep:Int).toNat >>= _) _ _ s
  rw [Jf,Jf,Jf]
  refine Ra (rC T hS hd (Qe _) ?_)
  have Am:(rO w S ep es)[es.size]?=none:=by rw [Array.getElem?_eq_none]; rw [qO]; exact Qe _
  rw [Am]
  show wpAny _ _ (setField (Value.ref I) 2 Value.none >>= _) _ _ s
  refine Ra (Rl hit (by show 2 < 5; decide) λh1 g1 Em=>?_)
  show wpAny _ _ (newExc (.type "StopIteration") [] >>= _) _ _ _
  refine Ra ?_
  simp only [newExc,newTuple]
  refine Ra (Ri ?_ (by size_fits))
  refine Ra (m:=firstArgMember _ _) (Vq (a:=Value.none) (by first | rfl | (simp only [firstArgMember]; rfl)) ?_)
  refine Ri ?_ (by size_fits)
  simp only [raiseNew]
  refine Ra (Iy ?_)
  first | rw [show A.in1.handled=none from hh] | rw [hh]
  refine Ra (Rb (Mw ?_))
  refine Ra (Ue (T := "StopIteration") (b:=true) ⟨_,Qg _ rfl,rfl⟩ Vi ?_)
  refine Rb (hQ _ s.toks λb ob hb e=>?_)
  have e_:b≠I:=by simpa using hb
  exact Qa _ (Qa _ ((Em.2 b e_).trans e))
 self:=λi s Q E st h=>by
  obtain ⟨hit,hS⟩:=st
  have hT:s.TypeIs (.ref I) "set_iterator" := ⟨_,hit,rfl⟩
  refine Vz hT hX (Rj hX hT kP ?_ (kG _))
  show wpAny _ _ (ret (.ref I)) _ _ s
  exact Rb ⟨_,rfl, "set_iterator",_,hT,bZ.lookup,h⟩
theorem aAn (T:Tb (Led w) t es.size) (ho:s.heap.get? S=some o) (hex:o.ExactSet) (hd:o.data=.set es ep t) (h:Q (.ref s.heap.objs.size) { s with heap:=s.heap.push { cls:=.type "set_iterator",data:=.fields #[rawInt (jF w t 0:Nat),rawInt ((0:Nat):Int),.ref S,rawInt (es.size:Nat),rawInt (ep:Nat)] } }):wpAny (model prog w) A (pyIter (.ref S)) Q E s:=by
 have hT:s.TypeIs (.ref S) "set" := ⟨o,ho,hex.1⟩
 refine Vz hT Raa (Rj Raa hT sR ?_ (PySem.F.args_set_iter_1 _))
 unfold Builtin.«frozenset.__iter__» Builtin.Frozenset.slot0 slotArgs
 simp only [Yf,Wt,Ji,↓reduceIte,bind_assoc,Yk,bne_self_eq_false]
 refine Ra (Rb ?_)
 dsimp only
 refine Ra (m:=Builtin.Frozenset.addrOf (.ref S)) (Rb ?_)
 unfold Builtin.Frozenset.sizeOf setEntries
 refine Ra (Ra (Ra (Ts ho hd (T.fits) (Rb (Rb ?_)))))
 dsimp only
 unfold setDrawn
 refine Ra (Ra (Ts ho hd (T.fits) (Ra (qF (Rb ?_)))))
 have hb:∀ b:Bool,(!b && false)=false:=by decide
 refine Tx (λqb=>absurd (show (!(w.params.followText "set-order") && (!t.plain && decide (es.size > 1)))=true from qb) (by rw [T.plain]; rw [show (!true && decide (es.size > 1))=false from rfl,hb]; decide)) (λ_=>?_)
 refine Ra (Rb ?_)
 unfold setEpoch
 refine Ra (Ra (Ts ho hd (T.fits) (Rb ?_)))
 dsimp only
 have e0:jF w t 0=0:=by unfold jF nZ; split <;> rfl
 refine Ra (Ri (Rb ⟨_,rfl, "set_iterator",_,⟨_,Qg _ rfl,rfl⟩,bZ.lookup,?_⟩))
 rw [e0] at h
 exact h
theorem aDh {Q:Bool->Shared->Prop} (T:Tb (Led w) t es.size) (ho:s.heap.get? S=some o) (hex:o.ExactSet) (hd:o.data=.set es ep t)
  (h:∀ b,Q b s):wpAny (model prog w) A (Builtin.List.listLengthHint (.ref S)) Q E s:=by
 have hT:s.TypeIs (.ref S) "set" := ⟨o,ho,hex.1⟩
 unfold Builtin.List.listLengthHint
 refine Ra (RaS hT PySem.F.slot_set_len.lookup ?_)
 generalize m8:("set.__len__" : String)=UU
 wp_delta
 rw [show splitId UU=some ("set", "__len__") from by subst m8; decide +kernel]
 subst m8
 refine Ra (Ue (T := "set") (b:=true) hT (by rw [Rae]; kernel_rfl) ?_)
 refine Tx (λqb=>absurd qb (by decide)) (λ_=>?_)
 refine Tx (λ_=>?_) (λqb=>absurd (by decide +kernel) qb)
 refine Ra (Vf hT ?_)
 exact Rb (h false)
theorem xT {Q:List Value->Shared->Prop} (hh:A.handled=none) (T:Tb (Led w) t es.size) (ho:s.heap.get? S=some o) (hex:o.ExactSet) (hd:o.data=.set es ep t)
  (h:∀ h' tk vs,(∀ b o,s.heap.get? b=some o->h'.get? b=some o)->vs=(rO w S ep es).toList.map (·.2)->Q vs { s with heap:=h',toks:=tk }):wpAny (model prog w) A (collect (.ref S)) Q E s:=by
 refine sO λR hR=>?_
 generalize hD:s.heap.objs.size=D at *
 have E8 : @LT.lt Nat instLTNat S D:=by rw [<- hD]; exact Qo ho
 generalize E_:s.heap.push { cls:=.type "list",data:=.seq ([]:List Value).toArray }=H0
 have aab:H0.objs.size=D+1:=by rw [<- E_,Jj,hD]
 have gn:H0.get? S=some o:=by rw [<- E_]; exact Qa _ ho
 have WR:H0.get? D=some { cls:=.type "list",data:=.seq #[] 0 }:=by rw [<- E_,<- hD]; exact Qg _ rfl
 have J6:∀ b ob,s.heap.get? b=some ob->H0.get? b=some ob:=λb ob e=>by rw [<- E_]; exact Qa _ e
 unfold Builtin.List.listExtendWith
 refine Ra (Vf (T := "set") ⟨o,gn,hex.1⟩ ?_)
 have h1:Builtin.List.listSameRef (.ref D) (.ref S)=false:=by simp [Builtin.List.listSameRef]; exact Xh E8
 have h2:(Value.type "set" == Value.type "list")=false:=by decide
 have h3:(Value.type "set" == Value.type "tuple")=false:=by decide
 simp only [h1,h2,h3,Bool.or_false,Ji,if_false]
 refine Ra (aAn (s:={ s with heap:=H0 }) T gn hex hd ?_)
 generalize hI:H0.objs.size=I at *
 have W:=(aDg (prog:=prog) (w:=w) (A:=A.in1) hh I S (Qt (by omega)) o ep es t T hd).toS
 have key:∀ (hp:Heap) (c tk:Nat),pG w hp I S t es.size ep 0->hp.get? S=some o->(∀ b ob,b≠D->H0.get? b=some ob->hp.get? b=some ob)->hp.get? D=some { cls:=.type "list",data:=.seq #[] c } ->
   codeAny (model prog w) A (.builtin "list.extend.loop" ⟨[.ref D,.ref I,.ref D],[]⟩) R { s with heap:=hp,toks:=tk }:=by
  intro hp c tk hit hS hk KN
  refine codeAny_extend_loopS W (by rw [Rg]; have:=T.yr; omega) D (by
   simp only [Qj,Qq,Qp,or_false,not_or]
   exact ⟨Qt (by omega),Xh E8⟩) (.ref D) es.size 0 _ #[] c rfl (Jb _) ⟨hit,hS⟩ KN (ItemsOf.nil _) λs' ny c' hm wb xu=>?_
  rw [Moved.eq_with hm]
  refine hR { s with heap:=s'.heap,toks:=s'.toks } ny c' wb (h s'.heap s'.toks ny.toList (λb ob e=>hm.heap b ob (λkh=>?_) (hk b ob ?_ (J6 b ob e))) ?_)
  ·have hb : @LT.lt Nat instLTNat b D:=by rw [<- hD]; exact Qo e
   rcases Qj.mp kh with z | z
   ·exact absurd z (Qt hb)
   ·have z':b=I:=by simpa using z
    exact absurd z' (Qt (by omega))
  ·have hb : @LT.lt Nat instLTNat b D:=by rw [<- hD]; exact Qo e
   exact Qt hb
  ·obtain ⟨hs,hi⟩:=xu
   apply List.ext_getElem?
   intro j
   rw [Qh,Array.getElem?_toList,Array.getElem?_toList]
   cases e:ny[j]? with
   | none =>
    have hj:es.size<=j:=by
     rw [<- hs]
     exact Array.getElem?_eq_none_iff.mp e
    rw [Array.getElem?_eq_none (by rw [qO]; exact hj)]
    rfl
   | some v =>
    obtain ⟨k,hk⟩:=hi j v e
    rw [hk]
    rfl
 have DU:pG w (H0.push { cls:=.type "set_iterator",data:=.fields #[rawInt (jF w t 0:Nat),rawInt ((0:Nat):Int),.ref S,rawInt (es.size:Nat),rawInt (ep:Nat)] }) I S t es.size ep 0:=by
  rw [<- hI]; exact Qg _ rfl
 have HA:=Qa { cls:=.type "set_iterator",data:=.fields #[rawInt (jF w t 0:Nat),rawInt ((0:Nat):Int),.ref S,rawInt (es.size:Nat),rawInt (ep:Nat)] } WR
 refine Ra (Rn (aDh (s:={ s with heap:=H0.push { cls:=.type "set_iterator",data:=.fields #[rawInt (jF w t 0:Nat),rawInt ((0:Nat):Int),.ref S,rawInt (es.size:Nat),rawInt (ep:Nat)] } }) T (Qa _ gn) hex hd λbb=>?_))
 have DI:D≠I:=Qt (by omega)
 refine Tx (λ_=>?_) (λ_=>Rb ⟨Ub Mh _,key _ 0 _ DU (Qa _ gn) (λb ob _ e=>Qa _ e) HA⟩)
 refine Ra (Uc ?_)
 refine Ra ?_
 show wpAny _ _ (updateSeq D (·.push .none) >>= λ_=>updateSeq D (·.pop)) _ _ _
 refine Ra (Vs HA rfl ?_)
 have DX:=Jx (Obj.mapSeq (·.push Value.none)) HA rfl
 refine Vs (hz:=by seq_fits) DX rfl ?_
 have KL:=Jx (Obj.mapSeq (·.pop)) DX rfl
 refine Rb ⟨Ub Mh _,key _ _ _ ?_ ?_ (λb ob hb e=>?_) KL⟩
 ·exact (Je _ _ DI).trans ((Je _ _ DI).trans DU)
 ·exact (Je _ _ (Xh E8)).trans ((Je _ _ (Xh E8)).trans (Qa _ gn))
 ·exact (Je _ _ (Ne.symm hb)).trans ((Je _ _ (Ne.symm hb)).trans (Qa _ e))
end
def tJ (out ns:List Int):Prop:=out.Pairwise (· < ·)/\∀ k,k∈out↔k∈ns
def Ay (w:World) (p:Addr) (ns:List Int):HO:=.ext λh=>∃ ks,SG (Led w) h p ks/\K1 ks ns
theorem wD:∀ {l:List (Int×Value)} {ks:List (Int×Tok)},l=ks.map ent->IntsAre (l.map (·.2)) (ks.map (·.1))
 | _,[],rfl=>.nil
 | _,p::ks,rfl=>.cons _ p.2 (wD rfl)
theorem aDi:∀ {l l':List (Int×Value)},l.Perm l'->(∀ e∈l',∃ p,e=ent p)->∃ ks:List (Int×Tok),l=ks.map ent:=λ{l l'} h q=>by
 have q':∀ e∈l,∃ p,e=ent p:=λe he=>q e (h.mem_iff.mp he)
 clear h q
 induction l with
 | nil=>exact ⟨[],rfl⟩
 | cons e r ih =>
  obtain ⟨p,rfl⟩:=q' e (Qk ..)
  obtain ⟨ks,rfl⟩:=ih λy hy=>q' y (Ql _ hy)
  exact ⟨p::ks,rfl⟩
theorem aET {Bs:List (Int×Tok)} (h:(ks.map ent).Perm (Bs.map ent)):(ks.map (·.1)).Perm (Bs.map (·.1)):=by
 have e:∀ l:List (Int×Tok),l.map (·.1)=(l.map ent).map λe=>match e.2 with | .int k _=>k | _=>0:=λl=>by rw [Xp]; rfl
 rw [e,e]
 exact h.map _
theorem pH (hc:X.calm=true):eN X (.builtin "sorted") (λxs H Q=>∃ (p:Addr) (ns:List Int),xs = [.ref p]/\H p=some (Ay X.w p ns)/\ns.length<=12/\∀ q out,tJ out ns->H q=none->Q (.ref q) (upd H q (.lst (out.map V.int)))):=by
 intro aa s σ H xs us Q I r h
 obtain ⟨p,ns,rfl,hp,hn,q⟩:=h
 obtain ⟨u,rfl,rx⟩:=gM r
 cases rx
 obtain ⟨⟨ks,⟨o,ep,es,t,ho,hex,hd,ET,T⟩,hk⟩,_,_⟩:=I.aq p _ hp
 obtain ⟨Bs,e'⟩:=aDi ((qN X.w p ep es).trans ET) λe he=>by
  obtain ⟨y,_,rfl⟩:=Qx.mp he
  exact ⟨y,rfl⟩
 have yk:(Bs.map (·.1)).Perm (ks.map (·.1)):=aET (by rw [<- e']; exact (qN X.w p ep es).trans ET)
 have jt:=hk.len
 have hlen:(Bs.map (·.1)).length<=12:=by rw [yk.length_eq,Qc]; omega
 refine aCY (ns:=Bs.map (·.1)) (by omega) (λQ' jw=>?_) λh1 h' tk out j8 k1 k2 pl vy rq gn=>?_
 ·exact xT (A:=X.A.in1) (I.ok.hd hc) T ho hex hd λh' tk vs kp e=>jw h' tk vs kp (by rw [e]; exact wD e')
 ·have I1:Inv X aa σ H { s with heap:=h1,toks:=tk }:=I.kept k1
  have hf:=I1.aq.fresh (Qe _)
  have LR:=rq.trans yk
  have hs:tJ j8 ns:=by
   refine ⟨?_,λk=>LR.mem_iff.trans (hk.mem k)⟩
   have nd:j8.Nodup:=LR.nodup_iff.mpr hk.nd
   exact (List.Pairwise.and gn nd).imp λ⟨a,b⟩=>by omega
  have oq:j8.length<=12:=by rw [rq.length_eq]; exact hlen
  obtain ⟨n,e⟩:=pl
  have I2:Inv X aa σ (upd H h1.objs.size (.lst (j8.map V.int))) { s with heap:=h',toks:=tk } :=
   I1.laid (t':=tk) k2 (Qe _) (show bM X.prog X.w _ _ _ (.lst _) from ⟨by rw [Qc,Rg]; omega,out.toList,n,nC vy,by simpa using e⟩)
  exact ⟨.ref h1.objs.size,_,I2,rfl,q _ _ hs hf⟩
open PySem.AutoSeq1 (wpAny_loadPart')
theorem oA (l:Addr) (items:Array Value) (n:Nat) (dd:Option Addr) (sl:Array (Option Value)) (u:Tok) :
  Meets (Builtin.«tuple.__mul__» ⟨[.ref l,.int 1 u],[]⟩) (λ_ R s=>s.heap.get? l=some { cls:=.type "tuple",dict:=dd,data:=.seq items n,slots:=sl }/\R (.ok (.ret (Value.ref l))) s) :=
 .of_wp λprog w A R s h=>by
  obtain ⟨hp,g,d,tk,os⟩:=s
  obtain ⟨hl,h⟩:=h
  have f1:=AutoSeq1.idx_int
  have f2:=AutoSeq1.sub_tuple_tuple
  wp_walk using Rq hl
  exact ⟨_,rfl,h⟩
theorem tK (l:Addr) (items:Array Value) (n:Nat) (dd:Option Addr) (sl:Array (Option Value)) (u:Tok) (cb:items.isEmpty=false) :
  Meets (Builtin.«tuple.__mul__» ⟨[.ref l,.int 0 u],[]⟩) (λ_ R s=>s.heap.get? l=some { cls:=.type "tuple",dict:=dd,data:=.seq items n,slots:=sl }/\R (.ok (.ret (Value.ref s.heap.objs.size))) { s with heap:=s.heap.push { cls:=Value.type "tuple",data:=Data.seq #[] } }) :=
 .of_wp λprog w A R s h=>by
  obtain ⟨hp,g,d,tk,os⟩:=s
  obtain ⟨hl,h⟩:=h
  have f1:=AutoSeq1.idx_int
  have f2:=AutoSeq1.sub_tuple_tuple
  wp_walk using Rq hl
  exact ⟨_,rfl,h⟩
theorem rP (l:Addr) (items:Array Value) (n:Nat) (dd:Option Addr) (sl:Array (Option Value)) (u:Tok) (cb:items.isEmpty=true) :
  Meets (Builtin.«tuple.__mul__» ⟨[.ref l,.int 0 u],[]⟩) (λ_ R s=>s.heap.get? l=some { cls:=.type "tuple",dict:=dd,data:=.seq items n,slots:=sl }/\R (.ok (.ret (Value.ref l))) s) :=
 .of_wp λprog w A R s h=>by
  obtain ⟨hp,g,d,tk,os⟩:=s
  obtain ⟨hl,h⟩:=h
  have f1:=AutoSeq1.idx_int
  have f2:=AutoSeq1.sub_tuple_tuple
  wp_walk using Rq hl
  exact ⟨_,rfl,h⟩
def O5 (K:Rc):R2:=λx y H Q=>∃ a,∃ k:Nat,∃ xs,x=.ref a/\y=.int k/\aj K H a xs/\k<=1000/\xs.length<=1000/\∀ p H',aE H H'->aj K H' p (List.replicate k xs).flatten->Q (.ref p) H'
theorem y? (hK:X.K=K):dr X (binaryOp .Mult) (O5 K):=by
 intro aa s σ H x y v u Q I rx ry h
 obtain ⟨a,k,xs,rfl,rfl,ha,h2,hz,q⟩:=h
 by_cases h1:1 < k
 ·exact QX hK aa s σ H _ _ v u Q I rx ry ⟨a,k,xs,rfl,rfl,ha,by omega,by omega,hz,q⟩
 subst hK
 cases rx
 obtain ⟨t,rfl⟩:=ry
 obtain ⟨ae,r,⟨⟨cls,dd,data,sl⟩,ho,hc,n,hd⟩,pk⟩:=I.tuple ha
 simp only at hc hd
 subst hc hd
 refine Uv (T := "tuple") (U := "int") (by decide) ⟨_,ho,rfl⟩ (λs'=>Ve s' k t) iO Vx Tu lE PySem.F.slot_int_index.lookup
  (Ti Tu (Ve s k t) Vv (Vt _ _) (jN k t a ae.toArray n dd sl) ⟨ho,rfl,⟨_,ho,rfl⟩,?_⟩)
 rcases (show k=0∨k=1 by omega) with rfl | rfl
 ·by_cases hx:ae = []
  ·subst hx
   cases r
   refine Ti PySem.F.slot_tuple_mul ⟨_,ho,rfl⟩ Tg (Ta _ _) (rP a _ n dd sl t rfl) ⟨ho,?_⟩
   exact ⟨.ref a,H,I,rfl,q a H (aE.refl H) ha⟩
  ·have cb:ae.toArray.isEmpty=false:=by
    cases ae with
    | nil=>exact absurd rfl hx
    | cons _ _=>rfl
   refine Ti PySem.F.slot_tuple_mul ⟨_,ho,rfl⟩ Tg (Ta _ _) (tK a ae.toArray n dd sl t cb) ⟨ho,?_⟩
   refine ⟨.ref _,_,I.laid (t':=s.toks) (o:=.tup []) (λb ob q=>Qa _ q) (Qe _) ?_,rfl,q _ _ (aE.new (I.aq.fresh (Qe _))) (aj.of aB)⟩
   exact ⟨Jb _,[],0,.nil,Qg _ rfl⟩
 ·refine Ti PySem.F.slot_tuple_mul ⟨_,ho,rfl⟩ Tg (Ta _ _) (oA a ae.toArray n dd sl t) ⟨ho,?_⟩
  exact ⟨.ref a,H,I,rfl,q a H (aE.refl H) (by simpa using ha)⟩
section
variable {z TI TO i3 l3:Addr} {n3:Nat} {P3:Nat->Value->Prop} {Cb:Nat->Heap->Prop}
end
section
variable (k1 k2 k3:Sk) (h:Heap) (a b d:Addr)
end
section
variable {own:Nat} {σ:St}
theorem aDj (SH:St->Prop) (hn:zs.length<=1000) (hle:zs.length<=xs.length) (hl:vs.length=zs.length) (ha:∀ H',aE H H'->fi k1 K H' a xs/\fi k2 K H' b zs) (gf:SH (dj own fr σ)) (hs:∀ (i:Nat) x z v p σ H1,xs[i]?=some x->zs[i]?=some z->vs[i]?=some v->H1 p=none->SH σ->aE H H1->∀ Q:V->St->Hp->Prop,(∀ ar H4,SH ar->aE H1 H4->Q v ar H4)->g (.ref p) σ (upd H1 p (.tup [x,z])) λar H2=>te ar H2 λy H4=>Q y ar H4) (hd:∀ H',aE H H'->Qf H' vs) :
  ic (wz K k1 k2 a b) [] (dj own fr σ) H (λys _ H=>Qf H ys) g rN (mw te):=by
 refine rV SH hn hl gf (λH' s=>⟨xs,zs,(ha H' s).1,(ha H' s).2,by omega⟩) (λi H' hi s=>⟨xs,zs,xs[i]'(by omega),zs[i],(ha H' s).1,(ha H' s).2,Qb (by omega),Qb hi⟩) (λi v x σ H1 H2 hi hv sh s y Q k=>?_) hd
 obtain ⟨q,hq,rfl,hy⟩:=y
 obtain ⟨x,z,h1,h2,rfl⟩:=hy xs zs (ha H1 s).1 (ha H1 s).2
 exact hs i x z v q σ H1 h1 h2 hv hq sh s Q k
end
def Ej (P:α->V->V->Hp->(α->Hp->Prop)->Prop) (tk tv:TE) (ys:α) (σ:St) (H:Hp) (R:α->St->Hp->Prop):Prop:=tk σ H λx H4=>tv σ H4 λy H5=>P ys x y H5 λa H=>R a σ H
def Oj (kx vx:Expr) (env:Env) (D:Addr):Sem Unit:=do
 let kv<-eval kx env
 let vv<-holding [kv] (eval vx env)
 standAt { kx.pos with endLine:=vx.pos.endLine,endCol:=vx.pos.endCol }
 holding [kv,vv] (dictSet D kv vv)
section
variable {a0:α} {Ok:Addr->α->Heap->Prop}
theorem ZS:cz P w A (.DictComp kx vx [⟨tg,iter,ifs,0⟩] scope pos) 0 tg iter ifs (Oj kx vx) where
 zr:=λ_ _ _=>⟨rfl,rfl⟩
 turn:=λit D env=>compTurn_dict kx vx tg iter ifs scope pos it D env
 start:=codeAny_compStart_dict
theorem ο {p:α->V->V->Hp->(α->Hp->Prop)->Prop} (AO:fe Y.prog Y.w Y.A newDict a0 Ok) (hk:PE Y kx tk) (he:PE Y vx tv) (st:∀ {D:Addr} {a:α} {s:Shared} {H:Hp} {x y:V} {kv vv:Value} {R:α->Hp->Prop},fw Y.prog Y.w H s.heap->Ok D a s.heap->bY x kv->bY y vv->p a x y H R->wpAny (model Y.prog Y.w) Y.A (dictSet D kv vv) (λ_ s'=>∃ h' tk a',s'={ s with heap:=h',toks:=tk }/\Heap.SameBut D s.heap h'/\Ok D a' h'/\R a' H) Y.xe s) :
  kF Y (Oj kx vx) Ok (Ej p tk tv):=by
 intro ps s σ H D o ys R dn I pl h
 refine Ra (bf (hk _ s σ H _ I h) λkv s1 hx=>?_)
 obtain ⟨xv,H1,I1,r1,q1⟩:=hx
 refine Ra (Rn (bf (he _ s1 σ H1 _ I1 q1) λvv s2 hx=>?_))
 obtain ⟨yv,H2,I2,r2,q2⟩:=hx
 refine Ra (Th (Rn (bf (st I2.aq (AO.cu I I2 pl) r1 r2 q2) λ_ s3 hx=>?_)))
 obtain ⟨h',tk,a',rfl,sb,ok,r⟩:=hx
 obtain ⟨o',I'⟩:=dn.put (t:=tk) AO I2 sb ok
 exact ⟨σ,H2,a',o',I',ok,r⟩
end
def ξ:Obj:={ cls:=.type "dict",dict:=none,data:=.dict #[] }
section
variable {wi:TI}
end
def SK (t:TE):TE:=λσ H Q=>∃ P:V->Hp->Prop,t σ H P/\∀ x H1,P x H1->Q x H1
section
variable {d:Expr} {t:TE}
theorem O4 (h:PE X e t):PE X e (SK t):=by
 intro aa s σ H Q I q
 obtain ⟨P,h1,h2⟩:=q
 refine bf (h aa s σ H P I h1) λv s1 hx=>?_
 obtain ⟨x,H1,I1,r1,q1⟩:=hx
 exact ⟨x,H1,I1,r1,h2 _ _ q1⟩
end
section
variable {d:Addr} {es:Array DictEntry}
theorem aEU (hs:(d==sysModules)=false) (g:s.heap.get? d=some ob) (gx:ob.ExactDict) (gd:ob.data=.dict es ep) (k:Q (.ref s.heap.objs.size) { s with heap:=s.heap.push { cls:=.type "dict_keyiterator",data:=.fields #[.ref d,.int 0 0,.int es.size 0,.int ep 0] } }):wpAny (model P w) A (pyIter (.ref d)) Q E s:=by
 have ty:s.TypeIs (.ref d) "dict" := ⟨ob,g,gx.1⟩
 refine Vz ty F.slot_dict_iter (Rj F.slot_dict_iter ty F.entry_dict_iter ?_ (F.args_dict_iter_1 _))
 unfold Builtin.«dict.__iter__»
 refine Ra ?_
 unfold Builtin.Dict.dictSlotNone
 refine Ra (Rar ty (Rb ?_))
 show wpAny _ _ (Builtin.Dict.showsAll d >>= _) _ _ s
 unfold Builtin.Dict.showsAll
 rw [if_neg (show ¬ (d==sysModules)=true by rw [hs]; decide)]
 refine Ra (Rb (Ra (Um g gd (Ra (Vd g gd ?_)))))
 exact Ra (Ri (Rb ⟨_,rfl, "dict_keyiterator",_,⟨_,Qg _ rfl,rfl⟩,F.slot_dict_keyiterator_next.lookup,by simpa [rawInt] using k⟩))
theorem aEV {Q:Option Value->Shared->Prop} (st:s.heap.IsKeyIter it d i es.size ep) (g:s.heap.get? d=some ob) (gd:ob.data=.dict es ep) (lt:i < es.size)
  (k:∀ h',h'.IsKeyIter it d (i+1) es.size ep->Heap.SameBut it s.heap h'->Q (some es[i].key) { s with heap:=h' }):wpAny (model P w) A (pyNext (.ref it)) Q E s:=by
 obtain ⟨oi,gi,ci,di⟩:=id st
 unfold pyNext
 refine Ra (Tj (Rh (name:=Str.ofString "__next__") st.typeIs F.slot_dict_keyiterator_next (Rj F.slot_dict_keyiterator_next st.typeIs F.entry_dict_keyiterator_next ?_ (F.args_dict_keyiterator_next_1 _))))
 refine Ra (Rb (Ra (Ra ?_)))
 first
  | refine Ra (Ug st.typeIs (Rb (Ra (Tr gi di ?_))))
  | refine Ra (Uz st.typeIs (Rb (Ra (Tr gi di ?_))))
 simp only [show Builtin.Dict_items.ownsTuple "dict_keyiterator" = false by decide,Ji,if_false]
 show wpAny _ _ (if (Value.ref d==Value.none)=true then _ else _) _ _ s
 rw [if_neg (λz:(Value.ref d==Value.none)=true=>Qs z)]
 refine Ra (Rb (Ra (Um g gd ?_)))
 rw [if_neg (by simp)]
 refine Ra (Rb (Ra (Vd g gd ?_)))
 rw [if_neg (by simp)]
 refine Rb ?_
 simp only [show ¬ ((i:Int) < 0) from by omega,if_false,Jf,Array.getElem?_eq_getElem lt]
 refine Ra ?_
 first
  | refine Ra (Ug st.typeIs (Rb (Ra (Il st.typeIs ?_))))
  | refine Ra (Uz st.typeIs (Rb (Ra (Il st.typeIs ?_))))
 show wpAny _ _ (setField (.ref it) 1 (rawInt ((i:Int)+1)) >>= _) _ _ s
 refine Ra (Vh gi di (by simp) ?_)
 have fh:(s.heap.update it (Obj.mapFields (·.setIfInBounds 1 (rawInt ((i:Int)+1))))).IsKeyIter it d (i+1) es.size ep :=
  ⟨_,Jx _ gi (Obj.isFreed_of_fields (Obj.data_mapFields di _)),(Obj.cls_mapFields ..).trans ci,by rw [Obj.data_mapFields di]; simp [rawInt]⟩
 refine Ra (Rn (Ra (Il (s:={ s with heap:=s.heap.update it (Obj.mapFields (·.setIfInBounds 1 (rawInt ((i:Int)+1)))) }) fh.typeIs ?_)))
 show wpAny _ _ (pure es[i].key) _ _ _
 exact Rb (Rb ⟨_,rfl,Rb (k _ fh (Heap.SameBut.update ..))⟩)
theorem y! {Q:Option Value->Shared->Prop} (hh:A.handled=none) (st:s.heap.IsKeyIter it d i es.size ep) (g:s.heap.get? d=some ob) (gd:ob.data=.dict es ep) (ge:es.size<=i)
  (k:∀ h',Heap.ExtBut it s.heap h'->Q none { s with heap:=h' }):wpAny (model P w) A (pyNext (.ref it)) Q E s:=by
 obtain ⟨oi,gi,ci,di⟩:=id st
 unfold pyNext
 refine Ra (Tj (Rh (name:=Str.ofString "__next__") st.typeIs F.slot_dict_keyiterator_next (Rj F.slot_dict_keyiterator_next st.typeIs F.entry_dict_keyiterator_next ?_ (F.args_dict_keyiterator_next_1 _))))
 refine Ra (Rb (Ra (Ra ?_)))
 first
  | refine Ra (Ug st.typeIs (Rb (Ra (Tr gi di ?_))))
  | refine Ra (Uz st.typeIs (Rb (Ra (Tr gi di ?_))))
 simp only [show Builtin.Dict_items.ownsTuple "dict_keyiterator" = false by decide,Ji,if_false]
 show wpAny _ _ (if (Value.ref d==Value.none)=true then _ else _) _ _ s
 rw [if_neg (λz:(Value.ref d==Value.none)=true=>Qs z)]
 refine Ra (Rb (Ra (Um g gd ?_)))
 rw [if_neg (by simp)]
 refine Ra (Rb (Ra (Vd g gd ?_)))
 rw [if_neg (by simp)]
 refine Rb ?_
 simp only [show ¬ ((i:Int) < 0) from by omega,if_false,Jf,Array.getElem?_eq_none ge]
 refine Ra ?_
 first
  | refine Ra (Ug st.typeIs (Rb ?_))
  | refine Ra (Uz st.typeIs (Rb ?_))
 show wpAny _ _ (setField (.ref it) 0 .none >>= _) _ _ s
 refine Ra (Vh gi di (by simp) ?_)
 show wpAny _ _ (newExc (.type "StopIteration") [] >>= _) _ _ _
 refine Ra ?_
 simp only [newExc,newTuple]
 refine Ra (Ri (Ra (m:=firstArgMember _ _) (Vq (a:=Value.none) (by first | rfl | (simp only [firstArgMember]; rfl)) (Ri ?_ (by size_fits)))) (by size_fits))
 simp only [raiseNew]
 refine Ra (Iy ?_)
 rw [show A.in1.handled=none from hh]
 refine Ra (Rb (Mw ?_))
 exact Ra (Ue (T := "StopIteration") (b:=true) ⟨_,Qg _ rfl,rfl⟩ Vi (Rb (k _ (((Heap.SameBut.update ..).extBut.push _).push _))))
end
section
variable {σ:St}
theorem Inv.x5 (I:Inv X aa σ H s) (e:H a=some (.dT kvs)) (ho:s.heap.get? a=some o):Inv X aa σ (upd H a (.cq o (.dT kvs))) s:=by
 have m:wx (H a):=by rw [e]; trivial
 have q:bM X.prog X.w H s.heap a (.dT kvs):=I.aq a _ e
 exact I.write (x:=a) (e:=a) (t':=s.toks) m (.inl rfl) (λb u _ z=>z) ⟨o,ho⟩ ⟨ho,bM.cu q (λ_ _ _ z=>z) (λc z=>by rw [aK (λy=>by rw [y,e] at z; cases z)]; exact z) (λc xs z=>by rw [aK (λy=>by rw [y,e] at z; cases z)]; exact z)⟩
theorem Inv.UC (I:Inv X aa σ H s) (e:H a=some (.dT kvs)):NF X.mv a:=λo u z=>by
 have y:=I.base.fj a o u z
 rw [e] at y
 cases y
theorem Inv.y_ (I:Inv X aa σ H s) (e:H a=some (.cq o (.dT kvs))) (nf:NF X.mv a):Inv X aa σ (upd H a (.dT kvs)) s:=by
 have ne:∀ b,H b=none->b≠a:=λb n z=>by rw [z,e] at n; cases n
 have nt:∀ b xs,H b=some (.tup xs)->b≠a:=λb xs n z=>by rw [z,e] at n; cases n
 have no:∀ b x,H b=some (.own x)->b≠a:=λb xs n z=>by rw [z,e] at n; cases n
 obtain ⟨ho,q⟩:s.heap.get? a=some o/\bM X.prog X.w H s.heap a (.dT kvs):=I.aq a _ e
 have un:Un X.fs X.ex X.mv (upd H a (.dT kvs)) X.gb.heap s.heap:=by
  refine ⟨I.base.keep,I.base.slot,λb ob q n hx=>?_,I.base.there,λb xs q=>?_,λb ob u q=>?_,λb ps q=>?_⟩
  ·have z:=I.base.free b ob q n hx
   rw [aK (ne b z)]; exact z
  ·have z:=I.base.gq b xs q
   rw [aK (nt b xs z)]; exact z
  ·have z:=I.base.fj b ob u q
   have n:b≠a:=λy=>nf ob u (y ▸ q)
   rw [aK n]; exact z
  ·obtain ⟨m,z⟩:=I.base.gr b ps q
   have n:b≠a:=λy=>by rw [y,e] at z; cases z
   exact ⟨m,by rw [aK n]; exact z⟩
 refine ⟨I.ok,I.os,I.bare,un,I.loc,I.cell,?_,λx c h=>?_,λp hp=>?_,λb u h=>?_,I.len⟩
 ·rw [aK (ne _ I.free)]; exact I.free
 ·have z:=I.cp x c h
  rw [aK (ne _ z)]; exact z
 ·obtain ⟨p1,p2,p3⟩:=I.pin p hp
  exact ⟨p1,by rw [aK (ne _ p2)]; exact p2,p3⟩
 ·by_cases hb:b=a
  ·subst hb
   rw [aB] at h
   cases h
   exact bM.cu q (λ_ _ _ z=>z) (λc z=>by rw [aK (no c _ z)]; exact z) (λc xs z=>by rw [aK (nt c xs z)]; exact z)
  ·rw [aK hb] at h
   exact bM.cu (I.aq b u h) (λ_ _ _ z=>z) (λc z=>by rw [aK (no c _ z)]; exact z) (λc xs z=>by rw [aK (nt c xs z)]; exact z)
end
def w_ (a:Addr) (o:Obj) (kvs:List (List Key×V)):It :=
 ⟨λi H=>H a=some (.cq o (.dT kvs))/\i < kvs.length,λi H x H'=>H'=H/\∃ p b,kvs[i]?=some p/\x=.ref b/\H b=some (.tup (p.1.map kV)),λi H=>H a=some (.cq o (.dT kvs))/\i=kvs.length⟩
theorem KT.length {xs:List (List Key×Addr×Value)} (r:KT H kvs xs):kvs.length=xs.length:=by
 induction r with
 | nil=>rfl
 | cons _ _ ih=>rw [Jg,Jg,ih]
theorem KT.at {xs:List (List Key×Addr×Value)} (r:KT H kvs xs):∀ {i:Nat} {p:List Key×V} {x:List Key×Addr×Value},kvs[i]?=some p->xs[i]?=some x->p.1=x.1/\H x.2.1=some (.tup (p.1.map kV)):=by
 induction r with
 | nil=>intro i p x h; simp at h
 | cons h1 _ ih =>
  intro i p x hp hx
  cases i with
  | zero =>
   simp only [Yt,Option.some.injEq] at hp hx
   subst hp hx
   exact ⟨h1.1,h1.2.1⟩
  | succ j =>
   simp only [Yu] at hp hx
   exact ih hp hx
theorem aBk (a it:Addr) (o:Obj) (es:Array DictEntry) (ep:Nat) (hd:o.data=.dict es ep) (kvs:List (List Key×V)) :
  Turn P w K tg (w_ a o kvs) [it] it (λi h=>h.IsKeyIter it a i kvs.length ep) where
 mem:=by simp
 obj:=λi h st b hb=>by
  have e:b=it:=by simpa using hb
  subst e
  obtain ⟨o,e,c,d⟩:=st
  exact ⟨o,e,λv z=>by rw [d] at z; cases z⟩
 keep:=λi h h' st k=>st.at λo e=>k it (by simp) o e
 item:=by
  intro X hP hw hK hc i aa s σ H E I hf st hg
  subst hP hw hK
  obtain ⟨hA,hi⟩:=hg
  obtain ⟨ho,hz,hs,xs,kt,o',qy,wj,q1,q2,q3,q4,q5⟩:s.heap.get? a=some o/\bM X.prog X.w H s.heap a (.dT kvs):=I.aq a _ hA
  rw [ho] at q1
  cases q1
  rw [hd] at q3
  cases q3
  have hl:kvs.length=xs.length:=KT.length kt
  have uw:es.size=xs.length:=Uk q4
  have EI:es.size=kvs.length:=uw.trans hl.symm
  obtain ⟨f0,f1,f2,f3,f4,f5⟩:=hf it (by simp)
  have lt:i < es.size:=by omega
  rw [<- EI] at st
  refine aEV st ho hd lt λh' kr sb=>?_
  have I1:Inv X aa σ H { s with heap:=h' }:=I.turned (t':=s.toks) (λb o hb e=>(sb.2 b hb).trans e) f0 f1 f3 f4 f5
  obtain ⟨oi,e',c',d'⟩:=id kr
  have hk:kvs[i]?=some (kvs[i]):=Qb hi
  have hx:xs[i]?=some (xs[i]'(by omega)):=Qb (by omega)
  have j':=KT.at kt hk hx
  have ek:es[i].key=.ref (xs[i]'(by omega)).2.1:=by
   have z:=entry_at q4 i
   rw [hx,Array.getElem?_eq_getElem lt] at z
   rw [Option.some.inj z]
   rfl
  rw [EI] at kr
  rw [ek]
  exact ⟨_,rfl,yV (s:={ s with heap:=h' }) e' c' d' (by decide) ⟨.ref (xs[i]'(by omega)).2.1,H,I1,rfl,⟨rfl,_,_,hk,rfl,j'.2⟩,kr,λb hb=>(hf b hb).1⟩⟩
 done:=by
  intro X hP hw hK hc i aa s σ H E I hf st hg
  subst hP hw hK
  obtain ⟨hA,hi⟩:=hg
  obtain ⟨ho,hz,hs,xs,kt,o',qy,wj,q1,q2,q3,q4,q5⟩:s.heap.get? a=some o/\bM X.prog X.w H s.heap a (.dT kvs):=I.aq a _ hA
  rw [ho] at q1
  cases q1
  rw [hd] at q3
  cases q3
  have EI:es.size=kvs.length:=(Uk q4).trans (KT.length kt).symm
  obtain ⟨f0,f1,f2,f3,f4,f5⟩:=hf it (by simp)
  rw [<- EI] at st
  exact y! (I.ok.hd hc) st ho hd (by omega) λh' eb=>⟨rfl,I.turned (t':=s.toks) (λb o hb e=>eb b o hb e) f0 f1 f3 f4 f5⟩
 self:=λ_ _ _ _ _ st h=>RaA st h
def b! (H0:Hp) (td:TE):TI:=λσ H R=>td σ H λx H1=>∃ a kvs,x=.ref a/\H1 a=some (.dT kvs)/\∀ o,NF H0 a->R (w_ a o kvs) (upd H1 a (.cq o (.dT kvs)))
theorem tL {d:Expr} (hl:PE X d td):PI X tg d (b! X.mv td):=by
 intro aa s σ H R I h
 refine bf (hl aa s σ H _ I h) λv s1 au=>?_
 obtain ⟨x,H1,I1,r1,q1⟩:=au
 obtain ⟨a,kvs,e,hq,q⟩:=q1
 subst e
 cases r1
 obtain ⟨hz,hs,xs,kt,o,es,ep,ho,ox,hd,q4,q5⟩:bM X.prog X.w H1 s1.heap a (.dT kvs):=I1.aq a _ hq
 refine aEU hs ho ox hd ?_
 have I2:=(I1.x5 hq ho).kept (h':=s1.heap.push { cls:=.type "dict_keyiterator",data:=.fields #[.ref a,.int 0 0,.int es.size 0,.int ep 0] }) (t':=s1.toks) λb o e=>Qa _ e
 have nA:a≠s1.heap.objs.size:=Qt (Qo ho)
 refine ⟨s1.heap.objs.size,[s1.heap.objs.size],_,_,_,rfl,I2,aBk a _ o es ep hd kvs,?_,λb hb=>?_,q o (I1.UC hq)⟩
 ·refine ⟨_,Qg _ rfl,rfl,?_⟩
  rw [KT.length kt,<- Uk q4]
  rfl
 ·have e:b=s1.heap.objs.size:=by simpa using hb
  subst e
  exact I1.i6 (Qe _) (by rw [aK (Ne.symm nA)]; exact I1.aq.fresh (Qe _))
def a! (H0:Hp) (t:TS):TS:=λD σ H=>t { D with nx:=λao H'=>∃ a o kvs,H' a=some (.cq o (.dT kvs))/\NF H0 a/\D.nx ao (upd H' a (.dT kvs)) } σ H
theorem aEW {t:TS} (h:PS X st t):PS X st (a! X.mv t):=by
 intro aa s σ H D I q
 refine bf (h aa s σ H _ I q) λf s1 z=>?_
 cases f with
 | next =>
  obtain ⟨ao,H',I',a,o,kvs,e,nf,k⟩:=z
  exact ⟨ao,_,I'.y_ e nf,k⟩
 | brk=>exact z
 | cont=>exact z
 | ret u=>exact z
theorem aDk {σ:St} (Pv:Nat->St->Hp->Prop) (h0:Pv 0 σ H) (hl:∀ i σ H,i<=kvs.length->Pv i σ H->H a=some (.cq o (.dT kvs))) (hs:∀ i p b σ H,kvs[i]?=some p->H b=some (.tup (p.1.map kV))->Pv i σ H->g (.ref b) σ H λar H2=>tb { D with nx:=Pv (i+1),ct:=Pv (i+1),bk:=D.nx } ar H2) (hd:∀ σ H,Pv kvs.length σ H->D.nx σ H) :
  ∃ W:Nat->Nat->St->Hp->Prop,(∃ m,W 0 m σ H)/\∀ i m σ H,W i m σ H ->
   ((w_ a o kvs).stop i H/\D.nx σ H)∨((w_ a o kvs).go i H/\∃ N:St->Hp->Prop,(∀ ao H',N ao H'->∃ m',m' < m/\W (i+1) m' ao H')/\∀ x H',(w_ a o kvs).kz i H x H'->g x σ H' λar H2=>tb { D with nx:=N,ct:=N,bk:=D.nx } ar H2):=by
 refine ⟨λi m σ H=>m=kvs.length - i/\i<=kvs.length/\Pv i σ H,⟨kvs.length,by simp,Jb _,h0⟩,?_⟩
 rintro i m σ H ⟨rfl,hi,p⟩
 have q:=hl i σ H hi p
 by_cases ax:i < kvs.length
 ·refine .inr ⟨⟨q,ax⟩,Pv (i+1),λao H' p'=>⟨kvs.length - (i+1),by omega,rfl,ax,p'⟩,λx H' y=>?_⟩
  obtain ⟨rfl,v,b,hv,rfl,hb⟩:=y
  exact hs i v b σ H' hv hb p
 ·have e:i=kvs.length:=by omega
  subst e
  exact .inl ⟨⟨q,rfl⟩,hd σ H p⟩
def x? (tk tv:TE):TE:=λσ H Q=>∀ p,H p=none->tk σ (upd H p (.dT [])) λx H1=>tv σ H1 λy H2=>∃ k b,x=.ref b/\H2 b=some (.tup (k.map kV))/\H2 p=some (.dT [])/\Q (.ref p) (upd H2 p (.dT [(k,y)]))
section
variable {ek ev:Expr}
theorem aDl (hu:X.A.units+1 < cLine) (hk:PE X ek tk) (hv:PE X ev tv) (he:pairTrees [some ek] [ev] X.env pos = [(eval ek X.env,do let x<-eval ev X.env; standAt pos; pure x)]:=by rfl):PE X (.Dict [some ek] [ev] pos) (x? tk tv):=by
 intro aa s σ H Q I h
 have I0:Inv X aa σ (upd H s.heap.objs.size (.dT [])) { s with heap:=s.heap.push { cls:=.type "dict",data:=.dict #[] } }:=I.laid (a:=s.heap.objs.size) (o:=.dT []) (t':=s.toks) (λ_ _ q=>Qa _ q) (Qe _) (RH s.heap I.big)
 have h0:=h s.heap.objs.size (I.aq.fresh (Qe _))
 refine wpAny_Dict_any rfl rfl (by simp) (by simp) ?_
 rw [he]
 refine evalPairs_cons (bf (hk aa _ σ _ _ I0 h0) λkv s1 au=>?_)
 obtain ⟨x,H1,I1,r1,q1⟩:=au
 refine Ra (bf (hv aa _ σ _ _ I1 q1) λvv s2 au=>?_)
 obtain ⟨y,H2,I2,r2,q2⟩:=au
 refine Ra (Th (Rb (evalPairs_nil ?_)))
 obtain ⟨k,b,rfl,hb,hp,q⟩:=q2
 cases (show kv=Value.ref b from r1)
 obtain ⟨z,hd,xs,rel,dd⟩:=O6 I2.aq hp
 have x0:xs = []:=Jz.mp (KT.length rel).symm
 subst x0
 unfold storeAll
 rw [Zl]
 refine Ra (Ra (RaD (hsz:=Jb _) (show X.A.units < cLine by omega) (mM I2.aq hb) dd λh' qz hs=>Rb ?_))
 dsimp only
 rw [Zh]
 refine Rb ?_
 obtain ⟨qo,es,ep,hq,h2,h3,h4,_,h5⟩:=qz
 have mu:wx (H2 s.heap.objs.size):=by rw [hp]; trivial
 have put:=KT.keeps (H':=upd H2 s.heap.objs.size (.dT [(k,y)])) (KT.put (kvs:=[]) (xs:=[]) .nil k hb r2) λc ys ec=>by
  rw [aK (Pc ec hp (λz=>nomatch z))]
  exact ec
 exact ⟨.ref s.heap.objs.size,_,rW (ob:=.dT [(k,y)]) I2 mu hs ⟨_,hq⟩ ⟨by rw [Rg]; simp,hd,_,put,qo,es,ep,hq,h2,h3,h4,h5⟩,rfl,q⟩
end
abbrev KE:=List Key×Addr×V
def EG (e:KE):List Key×V:=(e.1,e.2.2)
def Kp (ys:List KE) (H:Hp):Prop:=∀ e∈ys,H e.2.1=some (.tup (e.1.map kV))
def KY (ys:List KE) (ae:List (List Key×Addr×Value)):Prop:=Paired (λ(p:KE) (q:List Key×Addr×Value)=>p.1=q.1/\p.2.1=q.2.1/\bY p.2.2 q.2.2) ys ae
def DH (P:Program) (w:World) (h:Heap) (D:Addr) (ae:List (List Key×Addr×Value)):Prop:=∃ o es ep,h.get? D=some o/\o.ExactDict/\o.data=.dict es ep/\es.toList=ae.map (entryOfKey (tupleKind (cH P w)))/\(ae.map (·.1)).Nodup
theorem Kp.wr {ys:List KE} {D:Addr} {o:HO} (h:Kp ys H) (n:H D=none):Kp ys (upd H D o):=λe he=>by
 rw [aK (λz=>by have q:=h e he; rw [z,n] at q; cases q)]
 exact h e he
theorem KY.length {ys:List KE} (r:KY ys ae):ys.length=ae.length:=by
 induction r with
 | nil=>rfl
 | cons _ _ ih=>rw [Jg,Jg,ih]
theorem KY.kt {ys:List KE} (r:KY ys ae):Kp ys H->KT H (ys.map EG) ae:=by
 induction r with
 | nil=>intro _; exact .nil
 | cons h1 _ ih=>intro hp; exact .cons ⟨h1.1,by rw [<- h1.2.1]; exact hp _ (Qk ..),h1.2.2⟩ (ih λe he=>hp e (Ql _ he))
theorem KY.snoc {ys:List KE} {k:List Key} {v:Value} (r:KY ys ae) (h:bY y v):KY (ys++[(k,b,y)]) (ae++[(k,b,v)]):=by
 induction r with
 | nil=>exact .cons ⟨rfl,rfl,h⟩ .nil
 | cons h1 _ ih=>exact .cons h1 ih
theorem KY.keys {ys:List KE} (r:KY ys ae):ys.map (·.1)=ae.map (·.1):=by
 induction r with
 | nil=>rfl
 | cons h1 _ ih=>rw [Qv,Qv,ih,h1.1]
theorem KY.D_ {ys:List KE} {k:List Key} (r:KY ys ae) (n:k∉ys.map (·.1)):atKey ae k=none:=by
 rw [r.keys] at n
 exact atKey_none_of_get λj p h=>n (Qx.mpr ⟨_,Qi h,rfl⟩)
theorem DH.at {D:Addr} (d:DH P w h D ae) (k:∀ o,h.get? D=some o->h'.get? D=some o):DH P w h' D ae:=let ⟨o,es,ep,h1,r⟩:=d; ⟨o,es,ep,k _ h1,r⟩
theorem DH.of {D:Addr} (d:h.DictOfH (tupleKind (cH P w)) D ae):DH P w h D ae:=let ⟨o,es,ep,h1,h2,h3,h4,_,h5⟩:=d; ⟨o,es,ep,h1,h2,h3,h4,h5⟩
theorem DH.TL {D:Addr} {ys:List KE} (d:DH P w h D ae) (r:KY ys ae) (kp:Kp ys H) (ok:fw P w H h):h.DictOfH (tupleKind (cH P w)) D ae:=by
 obtain ⟨o,es,ep,h1,h2,h3,h4,h5⟩:=d
 refine ⟨o,es,ep,h1,h2,h3,h4,?_,h5⟩
 clear h1 h2 h3 h4 h5
 induction r with
 | nil=>intro x hx; cases hx
 | @cons p q ps qs hq _ ih =>
  intro x hx
  rcases Qj.mp hx with e | hx
  ·subst e
   exact mM ok (by rw [<- hq.1,<- hq.2.1]; exact kp _ (Qk ..))
  ·exact ih (λe he=>kp e (Ql _ he)) x hx
def JS (ys:List KE) (x y:V) (H:Hp) (R:List KE->Hp->Prop):Prop:=∃ k b,x=.ref b/\H b=some (.tup (k.map kV))/\Kp ys H/\k∉ys.map (·.1)/\ys.length < sizeLine/\R (ys++[(k,b,y)]) H
def OkT (P:Program) (w:World) (D:Addr) (ys:List KE) (h:Heap):Prop:=ys.length<=sizeLine/\∃ ae,KY ys ae/\DH P w h D ae
theorem OY:fe P w A newDict [] (OkT P w) where
 new:=⟨ξ,λv z=>(by cases z),rfl,λh D e=>⟨Jb _,[],.nil,_,#[],0,e,⟨rfl,rfl,rfl⟩,rfl,rfl,Zq⟩,λh=>Ri h⟩
 keep:=λ⟨hl,ae,v,d⟩ k=>⟨hl,ae,v,d.at k⟩
 obj:=λ⟨_,_,_,o,es,ep,h1,h2,h3,_⟩=>⟨o,h1,λv z=>by rw [h3] at z; cases z⟩
def x! (own:Nat) (fr:List Nat) (wi:TI) (g:TG) (tt:TT) (tk tv:TE):TE:=λσ H Q=>wi σ H λJ H1=>ic J [] (dj own fr σ) H1 (λys _ H=>Kp ys H/\∀ p,H p=none->Q (.ref p) (upd H p (.dT (ys.map EG)))) g tt (Ej JS tk tv)
section
variable {wi:TI}
theorem aDm (hu:X.A.units+1 < cLine) (S:br X scope z own fr bc) (hc:X.calm=true) (hi:PI X tg iter wi) (hg:∀ C s0 H0 fp,PG (bN X scope z (own++bc) C s0 H0 fp) tg g) (ht:∀ C s0 H0 fp,PF (bN X scope z (own++bc) C s0 H0 fp) ifs tt)
  (hk:∀ C s0 H0 fp,PE (bN X scope z (own++bc) C s0 H0 fp) kx tk) (he:∀ C s0 H0 fp,PE (bN X scope z (own++bc) C s0 H0 fp) vx tv) (hs:∀ x,foldedSetIterable iter X.env x=pure x:=by intro _; rfl) :
  PE X (.DictComp kx vx [⟨tg,iter,ifs,0⟩] scope pos) (x! own.length fr wi g tt tk tv) :=
 oY S rfl ZS OY hc (arm_eval_DictComp ..) hi hg ht (λC s0 H0 fp=>ο OY (hk C s0 H0 fp) (he C s0 H0 fp) λ{D a s H x y kv vv R} ok ⟨hl,ae,v,d⟩ r1 r2 ⟨k,b,ek,hb,kp,nk,lt,q⟩=>by
  subst ek
  cases (show kv=Value.ref b from r1)
  have CH:=v.length
  refine RaD (hsz:=by rw [<- CH]; exact Yc lt) (show X.A.units < cLine by omega) (mM ok hb) (d.TL v kp ok) λC2 D3 sy=>?_
  rw [storedH_new (v.D_ nk)] at D3
  exact ⟨C2,_,_,rfl,sy,⟨by rw [Qn]; exact lt,_,v.snoc r2,DH.of D3⟩,q⟩) hs
  λ⟨hl,ae,v,d⟩ hn hm q=>⟨.dT _,⟨by rw [Qc]; exact hl,hm,ae,v.kt (q.1.wr hn),d⟩,q.2 _ hn⟩
end
def w? (H0:Hp) (t:TE):TE:=λσ H Q=>t σ H λx H'=>∃ a o kvs,H' a=some (.cq o (.dT kvs))/\NF H0 a/\Q x (upd H' a (.dT kvs))
def w! (own:Nat) (fr:List Nat) (td:TE) (g:TG) (tt:TT) (tk tv:TE):TE:=λσ H Q=>td σ H λx H1=>∃ a kvs,x=.ref a/\H1 a=some (.dT kvs)/\∀ o:Obj,ic (w_ a o kvs) [] (dj own fr σ) (upd H1 a (.cq o (.dT kvs))) (λys _ H=>Kp ys H/\∀ p,H p=none->Q (.ref p) (upd (upd H p (.dT (ys.map EG))) a (.dT kvs))) g tt (Ej JS tk tv)
section
variable {d:Expr} {t:TE}
theorem RB (h:PE X e t):PE X e (w? X.mv t):=by
 intro aa s σ H Q I q
 refine bf (h aa s σ H _ I q) λv s1 hx=>?_
 obtain ⟨x,H1,I1,r1,a,o,kvs,ea,nf,k⟩:=hx
 exact ⟨x,_,I1.y_ ea nf,r1,k⟩
theorem aDn (hu:X.A.units+1 < cLine) (S:br X scope z own fr bc) (hc:X.calm=true) (hi:PE X d td) (hg:∀ C s0 H0 fp,PG (bN X scope z (own++bc) C s0 H0 fp) tg g) (ht:∀ C s0 H0 fp,PF (bN X scope z (own++bc) C s0 H0 fp) ifs tt)
  (hk:∀ C s0 H0 fp,PE (bN X scope z (own++bc) C s0 H0 fp) kx tk) (he:∀ C s0 H0 fp,PE (bN X scope z (own++bc) C s0 H0 fp) vx tv) (hs:∀ x,foldedSetIterable d X.env x=pure x:=by intro _; rfl) :
  PE X (.DictComp kx vx [⟨tg,d,ifs,0⟩] scope pos) (w! own.length fr td g tt tk tv):=by
 intro aa s σ H Q I h
 refine RB (aDm hu S hc (tL (O4 hi)) hg ht hk he hs) aa s σ H Q I ⟨_,h,λx H1 q=>?_⟩
 obtain ⟨a,kvs,ex,hx,k⟩:=q
 refine ⟨a,kvs,ex,hx,λo nf=>?_⟩
 obtain ⟨W,w0,wk⟩:=k o
 refine ⟨W,w0,λi m ys ao H' w=>?_⟩
 rcases wk i m ys ao H' w with ⟨st,kp,q⟩ | z
 ·refine .inl ⟨st,kp,λp hp=>⟨a,o,kvs,?_,nf,q p hp⟩⟩
  rw [aK (λz=>by rw [<- z,st.1] at hp; cases hp)]
  exact st.1
 ·exact .inr z
end
theorem aAp {own:Nat} {σ:St} {Q:Hp->List KE->Prop} (SH:St->Prop) (Pv:Nat->List KE->Hp->Prop) (hn:kvs.length<=sizeLine) (gf:SH (dj own fr σ)) (h0:Pv 0 [] H) (hlen:∀ i ys H,Pv i ys H->ys.length<=i) (hl:∀ i ys H,Pv i ys H->H a=some (.cq o (.dT kvs))/\Kp ys H) (hs:∀ i ys σ p b H,kvs[i]?=some p->H b=some (.tup (p.1.map kV))->SH σ->Pv i ys H->ys.length < sizeLine->g (.ref b) σ H λar H2=>tt ar H2 λc H3=>if c=true then tk ar H3 λx H4=>tv ar H4 λy H5=>∃ k b,x=.ref b/\H5 b=some (.tup (k.map kV))/\Kp ys H5/\k∉ys.map (·.1)/\ys.length < sizeLine/\SH ar/\Pv (i+1) (ys++[(k,b,y)]) H5 else SH ar/\Pv (i+1) ys H3) (hd:∀ ys H,Pv kvs.length ys H->Q H ys) :
  ic (w_ a o kvs) [] (dj own fr σ) H (λys _ H=>Kp ys H/\Q H ys) g tt (Ej JS tk tv) :=
 xE (Q:=λH ys=>Kp ys H/\Q H ys) kvs.length SH Pv gf h0 (λys H p=>⟨(hl _ _ _ p).1,rfl⟩) (λi ys H hi p=>⟨(hl _ _ _ p).1,hi⟩) (λi ys σ x H H' hi sh p y=>by
  obtain ⟨rfl,v,b,hv,rfl,hb⟩:=y
  exact hs i ys σ v b _ hv hb sh p (by have:=hlen i ys _ p; omega)) λys H p=>⟨(hl _ _ _ p).2,hd _ _ p⟩
section
variable {d v:Addr} {es:Array DictEntry}
theorem aDo (hv:s.heap.IsValuesView v d) (g:s.heap.get? d=some ob) (gd:ob.data=.dict es ep) (k:Q (.ref s.heap.objs.size) { s with heap:=s.heap.push { cls:=.type "dict_valueiterator",data:=.fields #[.ref d,.int 0 0,.int es.size 0,.int ep 0] } }):wpAny (model P w) A (pyIter (.ref v)) Q E s:=by
 obtain ⟨ov,gv,cv,dv⟩:=id hv
 refine Vz hv.typeIs F.slot_dict_values_iter (Rj F.slot_dict_values_iter hv.typeIs F.entry_dict_values_iter ?_ (F.args_dict_values_iter_1 _))
 unfold Builtin.«dict_values.__iter__»
 refine Ra (Rb (Ra ?_))
 unfold Builtin.Dict_items.dictOf
 refine Ra (Rm gv dv (x:=.ref d) rfl (Rb (Ra ?_)))
 unfold Builtin.Dict_items.newIterator
 refine Ra (Um g gd (Ra (Vd g gd ?_)))
 simp only [show Builtin.Dict_items.ownsTuple "dict_valueiterator" = false by decide,Ji,if_false]
 exact Ri (Rb ⟨_,rfl, "dict_valueiterator",_,⟨_,Qg _ rfl,rfl⟩,F.slot_dict_valueiterator_next.lookup,by simpa [rawInt] using k⟩)
theorem aDp {Q:Option Value->Shared->Prop} (st:s.heap.IsValIter it d i es.size ep) (g:s.heap.get? d=some ob) (gd:ob.data=.dict es ep) (lt:i < es.size)
  (k:∀ h',h'.IsValIter it d (i+1) es.size ep->Heap.SameBut it s.heap h'->Q (some es[i].val) { s with heap:=h' }):wpAny (model P w) A (pyNext (.ref it)) Q E s:=by
 obtain ⟨oi,gi,ci,di⟩:=id st
 unfold pyNext
 refine Ra (Tj (Rh (name:=Str.ofString "__next__") st.typeIs F.slot_dict_valueiterator_next (Rj F.slot_dict_valueiterator_next st.typeIs F.entry_dict_valueiterator_next ?_ (F.args_dict_valueiterator_next_1 _))))
 refine Ra (Rb (Ra (Ra ?_)))
 first
  | refine Ra (Uh st.typeIs (Rb (Ra (Tr gi di ?_))))
  | refine Ra (Va st.typeIs (Rb (Ra (Tr gi di ?_))))
 simp only [show Builtin.Dict_items.ownsTuple "dict_valueiterator" = false by decide,Ji,if_false]
 show wpAny _ _ (if (Value.ref d==Value.none)=true then _ else _) _ _ s
 rw [if_neg (λz:(Value.ref d==Value.none)=true=>Qs z)]
 refine Ra (Rb (Ra (Um g gd ?_)))
 rw [if_neg (by simp)]
 refine Ra (Rb (Ra (Vd g gd ?_)))
 rw [if_neg (by simp)]
 refine Rb ?_
 simp only [show ¬ ((i:Int) < 0) from by omega,if_false,Jf,Array.getElem?_eq_getElem lt]
 refine Ra ?_
 first
  | refine Ra (Uh st.typeIs (Rb (Ra (Vl st.typeIs ?_))))
  | refine Ra (Va st.typeIs (Rb (Ra (Vl st.typeIs ?_))))
 show wpAny _ _ (setField (.ref it) 1 (rawInt ((i:Int)+1)) >>= _) _ _ s
 refine Ra (Vh gi di (by simp) ?_)
 have fh:(s.heap.update it (Obj.mapFields (·.setIfInBounds 1 (rawInt ((i:Int)+1))))).IsValIter it d (i+1) es.size ep :=
  ⟨_,Jx _ gi (Obj.isFreed_of_fields (Obj.data_mapFields di _)),(Obj.cls_mapFields ..).trans ci,by rw [Obj.data_mapFields di]; simp [rawInt]⟩
 refine Ra (Rn (Ra (Vl (s:={ s with heap:=s.heap.update it (Obj.mapFields (·.setIfInBounds 1 (rawInt ((i:Int)+1)))) }) fh.typeIs ?_)))
 refine Ra (Vl (s:={ s with heap:=s.heap.update it (Obj.mapFields (·.setIfInBounds 1 (rawInt ((i:Int)+1)))) }) fh.typeIs ?_)
 show wpAny _ _ (pure es[i].val) _ _ _
 exact Rb (Rb ⟨_,rfl,Rb (k _ fh (Heap.SameBut.update ..))⟩)
theorem aEX {Q:Option Value->Shared->Prop} (hh:A.handled=none) (st:s.heap.IsValIter it d i es.size ep) (g:s.heap.get? d=some ob) (gd:ob.data=.dict es ep) (ge:es.size<=i)
  (k:∀ h',Heap.ExtBut it s.heap h'->Q none { s with heap:=h' }):wpAny (model P w) A (pyNext (.ref it)) Q E s:=by
 obtain ⟨oi,gi,ci,di⟩:=id st
 unfold pyNext
 refine Ra (Tj (Rh (name:=Str.ofString "__next__") st.typeIs F.slot_dict_valueiterator_next (Rj F.slot_dict_valueiterator_next st.typeIs F.entry_dict_valueiterator_next ?_ (F.args_dict_valueiterator_next_1 _))))
 refine Ra (Rb (Ra (Ra ?_)))
 first
  | refine Ra (Uh st.typeIs (Rb (Ra (Tr gi di ?_))))
  | refine Ra (Va st.typeIs (Rb (Ra (Tr gi di ?_))))
 simp only [show Builtin.Dict_items.ownsTuple "dict_valueiterator" = false by decide,Ji,if_false]
 show wpAny _ _ (if (Value.ref d==Value.none)=true then _ else _) _ _ s
 rw [if_neg (λz:(Value.ref d==Value.none)=true=>Qs z)]
 refine Ra (Rb (Ra (Um g gd ?_)))
 rw [if_neg (by simp)]
 refine Ra (Rb (Ra (Vd g gd ?_)))
 rw [if_neg (by simp)]
 refine Rb ?_
 simp only [show ¬ ((i:Int) < 0) from by omega,if_false,Jf,Array.getElem?_eq_none ge]
 refine Ra ?_
 first
  | refine Ra (Uh st.typeIs (Rb ?_))
  | refine Ra (Va st.typeIs (Rb ?_))
 show wpAny _ _ (setField (.ref it) 0 .none >>= _) _ _ s
 refine Ra (Vh gi di (by simp) ?_)
 show wpAny _ _ (newExc (.type "StopIteration") [] >>= _) _ _ _
 refine Ra ?_
 simp only [newExc,newTuple]
 refine Ra (Ri (Ra (m:=firstArgMember _ _) (Vq (a:=Value.none) (by first | rfl | (simp only [firstArgMember]; rfl)) (Ri ?_ (by size_fits)))) (by size_fits))
 simp only [raiseNew]
 refine Ra (Iy ?_)
 rw [show A.in1.handled=none from hh]
 refine Ra (Rb (Mw ?_))
 exact Ra (Ue (T := "StopIteration") (b:=true) ⟨_,Qg _ rfl,rfl⟩ Vi (Rb (k _ (((Heap.SameBut.update ..).extBut.push _).push _))))
theorem aBl (hh:A.handled=none) (cb:d≠it) (gd:ob.data=.dict es ep) :
  Walks P w A it [it,d] [it] es.size (λi v=>∃ e,es[i]?=some e/\v=e.val) (λi h=>h.IsValIter it d i es.size ep/\h.get? d=some ob) where
 sub:=λb hb=>by simp at hb; simp [hb]
 frame:=λ_ _ _ st hk=>⟨st.1.at λo e=>hk it (by simp) o e,hk d (by simp) _ st.2⟩
 item:=λi s Q E hi st hQ=>aDp st.1 st.2 gd hi λh' kr sb=>hQ _ h' s.toks ⟨_,Array.getElem?_eq_getElem hi,rfl⟩ ⟨kr,(sb.2 d cb).trans st.2⟩ λb o hb e=>sb.extBut b o (λh=>hb (by simp [h])) e
 done:=λs Q E st hQ=>aEX hh st.1 st.2 gd (Qe _) λh' eb=>hQ h' s.toks λb o hb e=>eb b o (λh=>hb (by simp [h])) e
 self:=λ_ _ _ _ st hQ=>wpAny_pyIter_valiter st.1 hQ
theorem aAq (d:Addr) (hd:(d==sysModules)=false):MeetsIn P w (Builtin.«dict.values» ⟨[.ref d],[]⟩) (λ_ R s=>s.TypeIs (.ref d) "dict" /\ R (.ok (.ret (.ref s.heap.objs.size))) { s with heap:=s.heap.push { cls:=.type "dict_values",data:=.fields #[.ref d] } }) :=
 .of_wp λA R s ⟨ty,h⟩=>by
  refine Ra ?_
  unfold Builtin.Dict.noArgs
  refine Ra (Rar ty (Rb ?_))
  show wpAny _ _ (Builtin.Dict.showsAll d >>= _) _ _ s
  unfold Builtin.Dict.showsAll
  rw [if_neg (show ¬ (d==sysModules)=true by rw [hd]; decide)]
  exact Ra (Rb (Ra (Ri (Rb ⟨_,rfl,h⟩))))
end
def ν (te:TE):TE:=λσ H Q=>te σ H λx H1=>∃ (a:Addr) (kvs:List (List Key×V)) (ns:List Int),x=.ref a/\H1 a=some (.dT kvs)/\kvs.map (·.2)=ns.map V.int/\(∀ n∈ns,0<=n/\n < 10000000000)/\ns.length<=10000000/\Q (.int (iW ns)) H1
theorem KT.vals {xs:List (List Key×Addr×Value)} (r:KT H kvs xs):∀ {i:Nat} {p:List Key×V} {x:List Key×Addr×Value},kvs[i]?=some p->xs[i]?=some x->bY p.2 x.2.2:=by
 induction r with
 | nil=>intro i p x h; simp at h
 | cons h1 _ ih =>
  intro i p x hp hx
  cases i with
  | zero =>
   simp only [Yt,Option.some.injEq] at hp hx
   subst hp hx
   exact h1.2.2
  | succ j =>
   simp only [Yu] at hp hx
   exact ih hp hx
theorem aDq (ms:List Int) (hh:∀ n∈ms,0<=n/\n < 10000000000):0<=iW ms/\iW ms<=ms.length*10000000000:=by
 induction ms with
 | nil=>exact ⟨Zb _,Zb _⟩
 | cons a l ih =>
  have h1:=hh a Qk
  have h2:=ih λn hn=>hh n (Ql _ hn)
  have e:iW (a::l)=a+iW l:=rfl
  rw [e,Jg,Wa]
  omega
section
variable {o:Expr}
theorem QC (hc:X.calm=true) (hg:Gl X "sum") (hm:X.mg "sum" = none) (hv:bootBuiltins "sum" = some (.builtin "sum")) (ho:PE X o to) (l9:attributeBase o "values" X.env (eval o X.env)=eval o X.env:=by rfl) (lx:(apos.endLine==dc.line)=true:=by rfl)
  (hs:starEach [.Call (.Attribute o "values" apos) [] [] dc] X.env = [(false,eval (.Call (.Attribute o "values" apos) [] [] dc) X.env)]:=by rfl):PE X (.Call (.Name "sum" p) [.Call (.Attribute o "values" apos) [] [] dc] [] pos) (ν to):=by
 intro aa s σ H Q I h
 refine Tq (jI I hg hm hv ?_ (by decide) (by decide))
 refine PyProof.Rows.callWith_builtin1 ?_ hs rfl
 rw [hs]
 show wpAny _ _ (spliced ((false,eval (.Call (.Attribute o "values" apos) [] [] dc) X.env)::backTo pos [])) _ _ s
 refine Calls.spliced_cons ?_
 refine wpAny_Call_method0_late l9 lx (bf (ho aa s σ H _ I h) λv s1 au=>?_)
 obtain ⟨x,H1,I1,r1,a,kvs,ns,ex,ha,hk,hb,hl,q⟩:=au
 subst ex
 cases r1
 obtain ⟨h1,h2⟩:=PU (T := "dict") I1 (show bY (.ref a) (.ref a) from rfl) (.inr (.inr (.inl ⟨rfl,.inr ⟨_,ha⟩⟩)))
 obtain ⟨hz,hs,xs,kt,ob,es,ep,g,gx,gd,q4,q5⟩:bM X.prog X.w H1 s1.heap a (.dT kvs):=I1.aq a _ ha
 refine ⟨"dict", "dict.values",Mr,Mm,PySem.F.type_dict_values,h1,h2,Calls.callWith_builtin rfl (PySem.evalArgs_none ?_)⟩
 have ty:s1.TypeIs (.ref a) "dict" := ⟨ob,g,gx.1⟩
 refine call_meetsIn Mm ty PySem.F.entry_dict_values (PySem.F.args_dict_values_1 _) (aAq a hs) ⟨ty,?_⟩
 refine Calls.spliced_nil ?_
 have G1:ns.length=kvs.length:=by
  have z:=congrArg Yj hk
  rw [Qc,Qc] at z
  exact z.symm
 have uw:es.size=ns.length:=(Uk q4).trans ((KT.length kt).symm.trans G1.symm)
 have ax:a < s1.heap.objs.size:=Qo g
 have lh:∀ (i:Nat) (v:Int),ns[i]?=some v->(ns[i]?).getD 0=v:=λi v e=>by rw [e]; rfl
 have gp:(s1.heap.push { cls:=.type "dict_values",data:=.fields #[.ref a] }).get? a=some ob:=Qa _ g
 refine call_sum_walk (aDo (v:=s1.heap.objs.size) ⟨_,Qg _ rfl,rfl,rfl⟩ gp gd ?_)
 have xi:(s1.heap.push { cls:=.type "dict_values",data:=.fields #[.ref a] }).objs.size=s1.heap.objs.size+1:=Jj ..
 refine ⟨(s1.heap.push { cls:=.type "dict_values",data:=.fields #[.ref a] }).objs.size,_,_,_,_,_,λi=>(ns[i]?).getD 0,rfl,aBl (A:=X.A.in1) (d:=a) (I1.ok.hd hc) (Qt (by rw [xi]; exact Jv ax)) gd,⟨⟨_,Qg _ rfl,rfl,rfl⟩,Qa _ gp⟩,?_,?_,?_,λh' tk t' G8=>?_⟩
 ·intro b e_
  show b < (Heap.push _ _).objs.size
  rw [Jj,xi]
  rcases Qj.mp e_ with e | e
  ·rw [e,xi]; exact Xu _
  ·have e':b=a:=by simpa using e
   rw [e']; exact Jv (Jv ax)
 ·intro i v hP
  obtain ⟨e,he,rfl⟩:=hP
  have hi:i < es.size:=by
   rcases Wc i es.size with h | h
   ·exact h
   ·rw [Array.getElem?_eq_none h] at he; cases he
  have BC:kvs[i]?=some (kvs[i]'(by omega)):=Qb (by omega)
  have L8:xs[i]?=some (xs[i]'(by have:=Uk q4; omega)):=Qb (by have:=Uk q4; omega)
  have rv:=KT.vals kt BC L8
  have z:=entry_at q4 i
  rw [L8,he] at z
  have ev:e.val=(xs[i]'(by have:=Uk q4; omega)).2.2:=by rw [Option.some.inj z]; rfl
  have kn:(kvs[i]'(by omega)).2=.int (ns[i]'(by omega)):=by
   have y:(kvs.map (·.2))[i]?=(ns.map V.int)[i]?:=by rw [hk]
   rw [Qh,Qh,BC,Qb (show i < ns.length by omega)] at y
   exact Option.some.inj y
  rw [kn] at rv
  obtain ⟨t,et⟩:=rv
  exact ⟨t,by rw [ev,et]; show Value.int _ t=Value.int ((ns[i]?).getD 0) t; rw [Qb (show i < ns.length by omega)]; rfl⟩
 ·intro j hj
  have CJ:j < ns.length:=by omega
  have e:ns[j]?=some ns[j]:=Qb CJ
  have h1:=hb _ (Jt CJ)
  have h2:=aDq (ns.take (j+1)) λn hn=>hb n (Xa hn)
  rw [iX ns _ lh (j+1) (by omega)]
  have h3:(ns.take (j+1)).length<=10000000:=by rw [Qu]; omega
  unfold InLong
  have e5:(λi:Nat=>(ns[i]?).getD 0) j=ns[j]:=by show (ns[j]?).getD 0=_; rw [e]; rfl
  rw [e5]
  have h4:((ns.take (j+1)).length:Int)*10000000000<=10000000*10000000000:=by omega
  omega
 ·have e:preSum (λi=>(ns[i]?).getD 0) es.size=iW ns:=by
   rw [uw,iX ns _ lh ns.length (Qe _),Jq]
  rw [e]
  refine ⟨.int _,H1,I1.kept (h':=h') λb o e=>G8 b o ?_ (Qa _ (Qa _ e)),⟨_,rfl⟩,q⟩
  intro z
  have z':b=s1.heap.objs.size+1:=by rw [<- xi]; simpa using z
  have y:=Qo e
  rw [z'] at y
  exact Jo _ (Zv y (Xu _))
end
structure su (ks:List (Int×Tok)) (ns:List Int):Prop where
 nd:(ks.map (·.1)).Nodup
 mem:∀ k,k∈ks.map (·.1)↔k∈ns
theorem lH:∀ {l m:List Int},l.Nodup->(∀ x∈l,x∈m)->l.length<=m.length
 | [],m,_,_=>Jb _
 | x::l,m,h,k=>by
  obtain ⟨h1,h2⟩:=Jw.mp h
  have hx:=k x (Qk ..)
  have hl:=lH (l:=l) (m:=m.erase x) h2 λy hy=>(List.mem_erase_of_ne (a:=y) (b:=x) (λe=>h1 (by rw [<- e]; exact hy))).mpr (k y (Ql _ hy))
  have he:=Yq hx
  have hp:0 < m.length:=List.length_pos_of_mem hx
  rw [Jg]
  omega
theorem su.yr (h:su ks ns) (hU:U.length<=3) (k:∀ n∈ns,n∈U):ks.length<=3:=by
 have:=lH h.nd λx hx=>k x ((h.mem x).mp hx)
 rw [Qc] at this
 omega
theorem su.old {k:Int} (h:su ks ns) (q:∃ p∈ks,p.1=k):su ks (ns++[k]):=⟨h.nd,λx=>by
 rw [h.mem,Qw,Qq]
 refine ⟨.inl,λz=>?_⟩
 rcases z with z | z
 ·exact z
 ·obtain ⟨p,hp,e⟩:=q
  rw [z,<- e]
  exact (h.mem _).mp (Qx.mpr ⟨p,hp,rfl⟩)⟩
theorem su.new {k:Int} {t:Tok} (h:su ks ns) (q:∀ p∈ks,p.1≠k):su ((k,t)::ks) (ns++[k]):=⟨by
 rw [Qv]
 refine Jw.mpr ⟨λm=>?_,h.nd⟩
 obtain ⟨p,hp,e⟩:=Qx.mp m
 exact q p hp e,λx=>by
 rw [Qv,Qj,h.mem,Qw,Qq]
 exact Or.comm⟩
theorem aEY (h:Q (.ref s.heap.objs.size) { s with heap:=s.heap.push { cls:=.type "set",dict:=none,data:=.set #[] 0 (.fresh 0 0 (Led w)) } }):wpAny (model prog w) A (newSet (.type "set")) Q E s:=by
 unfold newSet setsByText
 refine Ra (Ra (Uu (Rb ?_)))
 dsimp only
 simp only [newObj]
 exact Ra (Raz (Rb h))
theorem aAr {k:Int} {t:Tok} (hS:SG L s.heap a ks) (hlen:ks.length<=3) (hQ:∀ h',Heap.SameBut a s.heap h'->((∃ p∈ks,p.1=k)->SG L h' a ks)->((∀ p∈ks,p.1≠k)->SG L h' a ((k,t)::ks))->Q .none { s with heap:=h',toks:=s.toks+1 }) :
  wpAny (model prog w) A (call (.builtin "set.add") [.ref a,.int k t]) Q E s:=by
 obtain ⟨o,ep,es,tb,ho,hex,_⟩:=id hS
 have ty:s.TypeIs (.ref a) "set" := ⟨o,ho,hex.1⟩
 refine Rj F.slot_set_add ty F.entry_set_add ?_ (F.args_set_add_2 _ _)
 unfold Builtin.«set.add» Builtin.Frozenset.oneOther
 simp only [Yf,bind_assoc]
 unfold Builtin.Frozenset.addrOf
 refine Ra (Rb ?_)
 try dsimp only
 refine Ra (Rb ?_)
 try dsimp only
 refine Ra (Py hS (by omega) λh' b sb x1 x2=>?_)
 show wpAny _ _ (ret Value.none) _ _ _
 exact Rb ⟨_,rfl,hQ h' sb x1 x2⟩
theorem xU (elt target iter:Expr) (ifs:List Expr) (scope:Scope) (pos:Pos) (it:Value) (D:Addr) (env:Env) :
  compTurn (.SetComp elt [⟨target,iter,ifs,0⟩] scope pos) 0 it (.ref D) env=(do
   standAt iter.pos
   match<-pyNext it with
   | none=>pure (.done .next)
   | some v =>
    letOwnedTupleGo target it v
    assign target env v
    let mut ok:=true
    for c in ifs do
     if ok then ok<-isTrue c env (eval c env)
    if ok then
     (do
      let u<-eval elt env
      standAt elt.pos
      let _<-call (.builtin "set.add") [.ref D,u])
    again (.compLoop (.SetComp elt [⟨target,iter,ifs,0⟩] scope pos) 0 it (.ref D) env)):=by rfl
theorem vD {elt target iter ifs gC scope pos it acc env} (h0:codeAny (model prog w) A (.compLoop (.SetComp elt (⟨target,iter,ifs,0⟩::gC) scope pos) 0 it acc env) R s) (h:wpAny (model prog w) A (pyIter it) (λvi s'=>codeAny (model prog w) A (.compLoop (.SetComp elt (⟨target,iter,ifs,0⟩::gC) scope pos) 0 vi acc env) R s') (notedBy (model prog w) A env λx s'=>R (.error x) s') s) :
  codeAny (model prog w) A (.compStart (.SetComp elt (⟨target,iter,ifs,0⟩::gC) scope pos) 0 it acc env) R s:=by
 refine Ii ?_
 show wpAny _ A ((compStart (.SetComp elt (⟨target,iter,ifs,0⟩::gC) scope pos) 0 it acc env).onRaise (λx=>do noteFrame x env; standAt theWindowsPlace)) _ _ s
 refine wpAny_notedAt ?_
 unfold compStart
 show wpAny _ A (ask >>= _) _ _ s
 refine Ra (Uu (wpAny_ite ?_))
 split
 ·first
   | exact Ra (Rb (Rb (And.intro rfl h0)))
   | exact Rb (And.intro rfl h0)
 ·first
   | exact Ra (Uc (Ra (Th (Ra (Rp h (λvi s' h'=>Rb (And.intro rfl h')) λ_ _ x=>x)))))
   | (refine Ra (Uc ?_); show wpAny _ _ (standAt iter.pos >>= _) _ _ s; exact Ra (Th (Ra (Rp h (λvi s' h'=>Rb (And.intro rfl h')) λ_ _ x=>x))))
def FJ (U:List Int) (te:TE) (ys:List Int) (σ:St) (H:Hp) (R:List Int->St->Hp->Prop):Prop:=te σ H λy H4=>∃ k,y=.int k/\k∈U/\R (ys++[k]) σ H4
def Ω (w:World) (own:Nat) (fr:List Nat) (wi:TI) (g:TG) (tt:TT) (te:TE) (U:List Int):TE:=λσ H Q=>wi σ H λJ H1=>ic J [] (dj own fr σ) H1 (λys _ H=>∀ p us,H p=none->us.Nodup->(∀ k,k∈us↔k∈ys)->us.length<=3->Q (.ref p) (upd H p (Ay w p us))) g tt (FJ U te)
def JT (w:World) (U:List Int) (D:Addr) (ys:List Int) (h:Heap):Prop:=(∀ n∈ys,n∈U)/\∃ ae,su ae ys/\SG (Led w) h D ae
section
variable {wi:TI}
def Oi (elt:Expr) (env:Env) (D:Addr):Sem Unit:=do
 let u<-eval elt env
 standAt elt.pos
 let _<-call (.builtin "set.add") [.ref D,u]
theorem μ:cz P w A (.SetComp elt [⟨tg,iter,ifs,0⟩] scope pos) 0 tg iter ifs (Oi elt) where
 zr:=λ_ _ _=>⟨rfl,rfl⟩
 turn:=λit D env=>xU elt tg iter ifs scope pos it D env
 start:=vD
theorem IK:fe P w A (newSet (.type "set")) [] (JT w U) where
 new:=⟨{ cls:=.type "set",dict:=none,data:=.set #[] 0 (.fresh 0 0 (Led w)) },λv z=>(by cases z),rfl,λh D e=>⟨λ_ h=>(Qp h).elim,[],⟨Zq,λk=>by simp⟩,_,0,#[],_,e,⟨rfl,rfl,rfl⟩,rfl,List.Perm.refl _,⟨rfl,Jb _,rfl,rfl,rfl,rfl,List.Pairwise.nil⟩⟩,λh=>aEY h⟩
 keep:=λ⟨hl,ae,v,d⟩ f=>⟨hl,ae,v,d.keep f⟩
 obj:=λ⟨_,ae,_,o,ep,es,tb,h1,h2,h3,_⟩=>⟨o,h1,λv z=>by rw [h3] at z; cases z⟩
theorem Z_ (hU:U.length<=3) (he:PE Y elt te):kF Y (Oi elt) (JT Y.w U) (FJ U te):=by
 intro ps s σ H D o ys R dn I pl h
 refine Ra (bf (he _ s σ H _ I h) λy s1 hx=>Ra (Th (Ra ?_)))
 obtain ⟨yv,H1,I1,r1,k,ek,VP,q⟩:=hx
 subst ek
 obtain ⟨tk,rfl⟩:∃ t,y=Value.int k t:=r1
 obtain ⟨z5,ae,v,d⟩:=IK.cu I I1 pl
 refine aAr d (v.yr hU z5) λC2 sy x1 x2=>Rb ?_
 have ok:JT Y.w U D (ys++[k]) C2:=by
  refine ⟨λn hn=>?_,?_⟩
  ·rcases Qw.mp hn with h | h
   ·exact z5 n h
   ·rw [Qq.mp h]; exact VP
  by_cases yj:∃ p∈ae,p.1=k
  ·exact ⟨ae,v.old yj,x1 yj⟩
  ·exact ⟨(k,tk)::ae,v.new λp hp e=>yj ⟨p,hp,e⟩,x2 λp hp e=>yj ⟨p,hp,e⟩⟩
 obtain ⟨o',I'⟩:=dn.put IK I1 sy ok
 exact ⟨σ,H1,_,o',I',ok,q⟩
theorem aEZ (hU:U.length<=3) (S:br X scope z own fr bc) (hc:X.calm=true) (hi:PI X tg iter wi) (hg:∀ C s0 H0 fp,PG (bN X scope z (own++bc) C s0 H0 fp) tg g) (ht:∀ C s0 H0 fp,PF (bN X scope z (own++bc) C s0 H0 fp) ifs tt)
  (he:∀ C s0 H0 fp,PE (bN X scope z (own++bc) C s0 H0 fp) elt te) (hs:∀ x,foldedSetIterable iter X.env x=pure x:=by intro _; rfl) :
  PE X (.SetComp elt [⟨tg,iter,ifs,0⟩] scope pos) (Ω X.w own.length fr wi g tt te U) :=
 oY S rfl μ IK hc (arm_eval_SetComp ..) hi hg ht (λC s0 H0 fp=>Z_ hU (he C s0 H0 fp)) hs λ{D a H h Q} ⟨z5,ae,v,d⟩ hn _ q=>⟨Ay X.w D (ae.map (·.1)),by
  obtain ⟨o,ep,es,t,e1,r1⟩:=id d
  exact ⟨⟨ae,d,⟨v.1,λk=>Iff.rfl,by rw [Qc]; exact Qe _⟩⟩,⟨o,e1⟩,λh1 h2 ⟨ks,z,y⟩ k=>⟨ks,z.keep k,y⟩⟩,q D _ hn v.1 v.2 (by rw [Qc]; exact v.yr hU z5)⟩
end
def QB (w:World) (own:Nat) (fr:List Nat) (td:TE) (g:TG) (tt:TT) (te:TE):TE:=λσ H Q=>∃ U:List Int,U.length<=3/\td σ H λx H1=>∃ a kvs,x=.ref a/\H1 a=some (.dT kvs)/\∀ o:Obj,ic (w_ a o kvs) [] (dj own fr σ) (upd H1 a (.cq o (.dT kvs))) (λys _ H=>∀ p us,H p=none->us.Nodup->(∀ k,k∈us↔k∈ys)->us.length<=3->Q (.ref p) (upd (upd H p (Ay w p us)) a (.dT kvs))) g tt (FJ U te)
section
variable {d:Expr}
theorem aDr (S:br X scope z own fr bc) (hc:X.calm=true) (hi:PE X d td) (hg:∀ C s0 H0 fp,PG (bN X scope z (own++bc) C s0 H0 fp) tg g) (ht:∀ C s0 H0 fp,PF (bN X scope z (own++bc) C s0 H0 fp) ifs tt)
  (he:∀ C s0 H0 fp,PE (bN X scope z (own++bc) C s0 H0 fp) elt te) (hs:∀ x,foldedSetIterable d X.env x=pure x:=by intro _; rfl) :
  PE X (.SetComp elt [⟨tg,d,ifs,0⟩] scope pos) (QB X.w own.length fr td g tt te):=by
 intro aa s σ H Q I ⟨U,hU,h⟩
 refine RB (aEZ hU S hc (tL (O4 hi)) hg ht he hs) aa s σ H Q I ⟨_,h,λx H1 q=>?_⟩
 obtain ⟨a,kvs,ex,hx,k⟩:=q
 refine ⟨a,kvs,ex,hx,λo nf=>?_⟩
 obtain ⟨W,w0,wk⟩:=k o
 refine ⟨W,w0,λi m ys ao H' w=>?_⟩
 rcases wk i m ys ao H' w with ⟨st,q⟩ | z
 ·refine .inl ⟨st,λp us hp h1 h2 h3=>⟨a,o,kvs,?_,nf,q p us hp h1 h2 h3⟩⟩
  rw [aK (λz=>by rw [<- z,st.1] at hp; cases hp)]
  exact st.1
 ·exact .inr z
end
theorem aAs {own:Nat} {σ:St} {Q:Hp->List Int->Prop} (SH:St->Prop) (Pv:Nat->List Int->Hp->Prop) (gf:SH (dj own fr σ)) (h0:Pv 0 [] H) (hl:∀ i ys H,Pv i ys H->H a=some (.cq o (.dT kvs))) (hs:∀ i ys σ p b H,kvs[i]?=some p->H b=some (.tup (p.1.map kV))->SH σ->Pv i ys H->g (.ref b) σ H λar H2=>tt ar H2 λc H3=>if c=true then te ar H3 λy H4=>∃ k,y=.int k/\k∈U/\SH ar/\Pv (i+1) (ys++[k]) H4 else SH ar/\Pv (i+1) ys H3) (hd:∀ ys H,Pv kvs.length ys H->Q H ys) :
  ic (w_ a o kvs) [] (dj own fr σ) H (λys _ H=>Q H ys) g tt (FJ U te) :=
 xE kvs.length SH Pv gf h0 (λys H p=>⟨hl _ _ _ p,rfl⟩) (λi ys H hi p=>⟨hl _ _ _ p,hi⟩) (λi ys σ x H H' hi sh p y=>by
  obtain ⟨rfl,v,b,hv,rfl,hb⟩:=y
  exact hs i ys σ v b _ hv hb sh p) hd
def Z9:V->List V->Hp->VK->Prop:=λx vs H Q=>∃ (a b:Addr) (kvs:List (List Key×V)) (k:List Key) (df:V),x=.ref a/\vs = [.ref b,df]/\Rd H a (.dT kvs)/\H b=some (.tup (k.map kV))/\Q ((eF kvs k).getD df) H
theorem v? (hu:X.A.units+1 < cLine):AF X "dict.get" Z9:=by
 intro aa s σ H x vs v us Q I rx rv h
 obtain ⟨a,b,kvs,k,df,rfl,rfl,e,eb,q⟩:=h
 cases rx
 obtain ⟨u,ud,rfl,ru,rd⟩:=nR rv
 cases (show u=Value.ref b from ru)
 obtain ⟨z,hd,xs,rel,dd⟩:=Dh I.aq e
 refine call_meetsIn Rab dd.typeIs PySem.F.entry_dict_get (PySem.F.args_dict_get_3 _ _ _) (meetsH_dict_get_default (tupleKind (cH X.prog X.w)) a b hd ud) ⟨Vu hu,k,xs,mM I.aq eb,dd,?_⟩
 have Dy:=rel.val k
 cases hv:eF kvs k with
 | some y =>
  rw [hv] at q
  obtain ⟨w',hw,gc⟩:=oS.some_of (v:=y) (o:=(atKey xs k).map (·.2)) (by rw [<- hv]; exact Dy)
  exact ⟨y,H,I.tok _,by rw [hw]; exact gc,q⟩
 | none =>
  rw [hv] at q
  have hn:(atKey xs k).map (·.2)=none:=oS.none_of (by rw [<- hv]; exact Dy)
  exact ⟨df,H,I.tok _,by rw [hn]; exact rd,q⟩
def IZ (K:Rc):R2:=λx y H Q=>∃ a b xs ys,x=.ref a/\y=.ref b/\aj K H a xs/\aj K H b ys/\xs.length+ys.length<=sizeLine/\(xs = []->Q (.ref b) H)/\(xs≠[]->ys = []->Q (.ref a) H)/\(xs≠[]->ys≠[]->∀ p,H p=none->Q (.ref p) (upd H p (.tup (xs++ys))))
theorem QA (hK:X.K=K):dr X (binaryOp .Add) (IZ K):=by
 subst hK
 intro aa s σ H x y v u Q I rx ry h
 obtain ⟨a,b,xs,ys,rfl,rfl,ha,hb,hz,q1,q2,q3⟩:=h
 by_cases hx:xs = []
 ·have q:=q1 hx
  subst hx
  cases rx
  cases ry
  obtain ⟨ae,r1,⟨⟨cls,dd,data,sl⟩,ho,hc,n,hd⟩,_⟩:=I.tuple ha
  obtain ⟨tj,r2,⟨⟨D4,yu,data2,yc⟩,mz,se,n2,hd2⟩,_⟩:=I.tuple hb
  simp only at hc hd se hd2
  subst hc hd se hd2
  cases r1
  exact Mi ⟨_,ho,rfl⟩ ⟨_,mz,rfl⟩ Ib Iw Uw Us (Up _ _) (nU a b _ _ n n2 dd yu sl yc rfl) ⟨ho,mz,⟨.ref b,H,I,rfl,q⟩⟩
 ·exact Q3 aa s σ H _ _ v u Q I rx ry ⟨a,b,xs,ys,rfl,rfl,ha,hb,hx,hz,λe=>q2 hx e,λe p hp=>q3 hx e p hp⟩
theorem v! {Q:VK} (ha:aj K H a xs) (hb:H b=some (.tup [y])) (hz:xs.length<=1000) (k:∀ p H',aE H H'->H' p=some (.tup (xs++[y]))->Q (.ref p) H'):IZ K (.ref a) (.ref b) H Q :=
 ⟨a,b,xs,[y],rfl,rfl,ha,aj.of hb,by rw [Rg]; show _+1<=_; omega,λe=>k b H (aE.refl H) (by rw [e]; exact hb),λ_ e=>absurd e (by simp),λ_ _ p hp=>k p _ (aE.new hp) aB⟩
theorem aE1 {Q:VK} (ha:H a=some (.tup xs)) (hx:xs≠[]) (hb:aj K H b ys) (hz:xs.length+ys.length<=1000) (k:∀ p H',aE H H'->H' p=some (.tup (xs++ys))->Q (.ref p) H'):IZ K (.ref a) (.ref b) H Q :=
 ⟨a,b,xs,ys,rfl,rfl,aj.of ha,hb,by rw [Rg]; omega,λe=>absurd e hx,λ_ e=>k a H (aE.refl H) (by rw [e,Xx]; exact ha),λ_ _ p hp=>k p _ (aE.new hp) aB⟩
def Z8:R2:=λx y H Q=>∃ a,∃ k:Nat,∃ xs,x=.ref a/\y=.int k/\H a=some (.tup xs)/\xs≠[]/\1<=k/\k<=1000/\xs.length<=1000/\∀ p H',aE H H'->H' p=some (.tup (List.replicate k xs).flatten)->Q (.ref p) H'
theorem u?:dr X (binaryOp .Mult) Z8:=by
 intro aa s σ H x y v u Q I rx ry h
 obtain ⟨a,k,xs,rfl,rfl,ha,hx,h1,h2,hz,q⟩:=h
 cases rx
 obtain ⟨t,rfl⟩:=ry
 obtain ⟨ae,r,⟨⟨cls,dd,data,sl⟩,ho,hc,n,hd⟩,pk⟩:=I.tuple (aj.of ha)
 simp only at hc hd
 subst hc hd
 have hl:=r.length
 refine Uv (T := "tuple") (U := "int") (by decide) ⟨_,ho,rfl⟩ (λs'=>Ve s' k t) iO Vx Tu lE PySem.F.slot_int_index.lookup
  (Ti Tu (Ve s k t) Vv (Vt _ _) (jN k t a ae.toArray n dd sl) ⟨ho,rfl,⟨_,ho,rfl⟩,?_⟩)
 by_cases L7:k=1
 ·subst L7
  refine Ti PySem.F.slot_tuple_mul ⟨_,ho,rfl⟩ Tg (Ta _ _) (oA a ae.toArray n dd sl t) ⟨ho,?_⟩
  exact ⟨.ref a,H,I,rfl,q a H (aE.refl H) (by simpa using ha)⟩
 ·have cb:ae.toArray.isEmpty=false:=by
   cases ae with
   | nil=>cases r; exact absurd rfl hx
   | cons _ _=>rfl
  refine Ti PySem.F.slot_tuple_mul ⟨_,ho,rfl⟩ Tg (Ta _ _) (mI a ae.toArray n dd sl k t (by omega) (by omega) cb (by rw [Qm]; omega)) ⟨ho,?_⟩
  have tu:List.foldl (λx1 x2=>x1++x2) #[] (List.replicate ((k:Int)).toNat ae.toArray)=(List.replicate k ae).flatten.toArray:=by
   have z:=kN ae k []
   rw [Zk] at z
   rw [Jf]
   exact z
  rw [tu]
  have hlen:(List.replicate k xs).flatten.length<=sizeLine:=by
   rw [rR,Rg]
   have:k*xs.length<=1000*1000:=Wh h2 hz
   omega
  refine ⟨.ref _,_,I.laid (t':=s.toks) (o:=.tup (List.replicate k xs).flatten) (λb ob q=>Qa _ q) (Qe _) ?_,rfl,q _ _ (aE.new (I.aq.fresh (Qe _))) aB⟩
  exact ⟨hlen,(List.replicate k ae).flatten,0,r.rep k,Qg _ rfl⟩
theorem xV {l:Addr} {ae:Array Value} (hh:A.handled=none) (hl:s.heap.IsList l ae) (hi:IntsAre ae.toList ns) (hU:U.length<=3) (hlen:∀ n∈ns,n∈U) (h:∀ (h':Heap) (tk:Nat) (ks:List (Int×Tok)),SG (Led w) h' s.heap.objs.size ks->su ks ns->(∀ b o,b < s.heap.objs.size->s.heap.get? b=some o->h'.get? b=some o)->Q (.ref s.heap.objs.size) { s with heap:=h',toks:=tk }) :
  wpAny (model prog w) A (call (.type "set") [.ref l]) Q E s:=by
 refine tE (Z:=λi h=>∃ ks,SG (Led w) h s.heap.objs.size ks/\su ks (ns.take i)) hh hl hi (λh e=>⟨[],⟨_,0,#[],_,e,⟨rfl,rfl,rfl⟩,rfl,List.Perm.refl _,⟨rfl,Jb _,rfl,rfl,rfl,rfl,List.Pairwise.nil⟩⟩,Zq,λk=>by simp⟩) (λi h h' ⟨ks,z,y⟩ k=>⟨ks,z.keep k,y⟩) (λi k t _ _ s' Q' hn hS q=>?_) λh' tk ⟨ks,z,y⟩=>h h' tk ks z (by rw [Jq] at y; exact y)
 obtain ⟨ks,hS,hk⟩:=hS
 have hl:=hk.yr hU λn hn=>hlen n (Xa hn)
 have et:ns.take (i+1)=ns.take i++[k]:=by rw [Js,hn]; rfl
 refine Py hS (by omega) λh3 b sb x1 x2=>q h3 b sb ?_
 by_cases yj:∃ p∈ks,p.1=k
 ·exact ⟨ks,x1 yj,by rw [et]; exact hk.old yj⟩
 ·have h_:∀ p∈ks,p.1≠k:=λp hp e=>yj ⟨p,hp,e⟩
  exact ⟨(k,t)::ks,x2 h_,by rw [et]; exact hk.new h_⟩
theorem aBm (hw:X.w=w) (hK:X.K=K) (hc:X.calm=true):eN X (.type "set") (λxs H Q=>∃ (l:Addr) (ns U:List Int),xs = [.ref l]/\ak K H l (ns.map V.int)/\U.length<=3/\(∀ n∈ns,n∈U)/\∀ p us,H p=none->us.Nodup->(∀ k,k∈us↔k∈ns)->us.length<=3->Q (.ref p) (upd H p (Ay w p us))):=by
 subst hK hw
 intro aa s σ H xs us Q I r h
 obtain ⟨l,ns,U,rfl,hL,hU,hn,q⟩:=h
 obtain ⟨u,rfl,rx⟩:=gM r
 cases rx
 obtain ⟨ae,rv,pl,hz⟩:=I.list hL
 refine xV (I.ok.hd hc) pl.isList (qK rv) hU hn λh' tk ks x y kp=>?_
 have Cs:∀ b o,s.heap.get? b=some o->h'.get? b=some o:=λb o e=>kp b o (Qo e) e
 have hf:=I.aq.fresh (Qe s.heap.objs.size)
 refine ⟨.ref s.heap.objs.size,_,I.laid (t':=tk) Cs (Qe _) ?_,rfl,q _ (ks.map (·.1)) hf y.1 y.2 (by rw [Qc]; exact y.yr hU hn)⟩
 refine ⟨⟨ks,x,⟨y.1,λk=>Iff.rfl,by rw [Qc]; exact Qe _⟩⟩,?_,λh1 h2 ⟨ks,z,y⟩ k=>⟨ks,z.keep k,y⟩⟩
 obtain ⟨o,ep,es,t,e,_⟩:=x
 exact ⟨o,e⟩
structure Fn (K:Rc) (mg:Str->Option Value) (x:Str) (st:Stmt) (ps:List Str) (f:Addr) (fd:FuncData):Prop where
 fn:u_ K x x st f fd
 Cp:mg x=some (.ref f)
 kp:Tt K (.ref f)=true
 bd:oU K fd ps []
theorem bH {k:Nat} {t:TA} (G:Fn X.K X.mg x st ps f fd) (ok:af X.prog X.w X.K X.mg X.base a_ k f fd ps sp) (hr:ay k X.A) (hg:Gl X x) (ha:PA X (e::es) t) (j9:(x==("__debug__" : Str))=false:=by decide) (he:starEach (e::es) X.env=(false,eval e X.env)::starEach es X.env:=by rfl) (iq:(backTo pos (starEach es X.env)).any (·.1)=false:=by rfl) :
  PE X (.Call (.Name x p) (e::es) [] pos) (vM sp [] E0 t):=Q6 ok hr hg G.Cp G.kp G.bd .nil Pa ha j9 he iq
structure Bl (mg:Str->Option Value):Prop where
 isinstance:mg "isinstance" = none
 int:mg "int" = none
 bool:mg "bool" = none
 tuple:mg "tuple" = none
 list:mg "list" = none
 len:mg "len" = none
 all:mg "all" = none
 zip:mg "zip" = none
 range:mg "range" = none
 sorted:mg "sorted" = none
 set:mg "set" = none
 sum:mg "sum" = none
 repr:mg "repr" = none
 enumerate:mg "enumerate" = none
 min:mg "min" = none
 any:mg "any" = none
 ve:mg "ValueError" = none
 j5:∃ t,mg "MOST_HANDS" = some (.int 6 t)
 D9:∃ t,mg "MOST_WORKS" = some (.int 12 t)
theorem mO:bootBuiltins "isinstance" = some (.builtin "isinstance"):=by decide +kernel
theorem O3:bootBuiltins "int" = some (.type "int"):=by decide +kernel
theorem s?:bootBuiltins "bool" = some (.type "bool"):=by decide +kernel
theorem dZ:bootBuiltins "tuple" = some (.type "tuple"):=by decide +kernel
theorem JH:bootBuiltins "list" = some (.type "list"):=by decide +kernel
theorem gY:bootBuiltins "len" = some (.builtin "len"):=by decide +kernel
theorem tM:bootBuiltins "all" = some (.builtin "all"):=by decide +kernel
theorem u!:bootBuiltins "range" = some (.type "range"):=by decide +kernel
theorem RA:bootBuiltins "sorted" = some (.builtin "sorted"):=by decide +kernel
theorem O2:bootBuiltins "set" = some (.type "set"):=by decide +kernel
theorem IY:bootBuiltins "sum" = some (.builtin "sum"):=by decide +kernel
end L2
namespace Ab
open PySem L2
def top (i:Nat):Stmt:=PySem.Challenge.pw_ablehands_k13_no_ways.main.body.getD i (.Pass ⟨0,0,0,0⟩)
abbrev oJ:Stmt:=top 16
abbrev tN:Stmt:=top 17
abbrev tO:Stmt:=top 18
abbrev tP:Stmt:=top 19
abbrev xW:Stmt:=top 20
abbrev JG:Stmt:=top 21
abbrev JF:Stmt:=top 22
abbrev mP:Stmt:=top 24
abbrev JE:Stmt:=top 25
abbrev pI:Stmt:=top 26
abbrev mQ:Stmt:=top 28
abbrev pJ:Stmt:=top 29
abbrev xX:Stmt:=top 30
abbrev tQ:Stmt:=top 32
abbrev vE:Stmt:=top 33
abbrev oK:Stmt:=top 34
abbrev wE:Stmt:=top 35
abbrev pK:Stmt:=top 36
abbrev nD:Stmt:=top 38
abbrev yy:Stmt:=top 39
abbrev gZ:Stmt:=top 40
abbrev gR:Stmt:=top 41
abbrev rX:Stmt:=top 43
abbrev qP:Stmt:=top 44
abbrev xY:Stmt:=top 45
abbrev iE:Stmt:=top 46
abbrev iF:Stmt:=top 47
abbrev mR:Stmt:=top 48
abbrev Fw:Stmt:=top 50
abbrev lI:Stmt:=top 51
abbrev wF:Stmt:=top 52
abbrev Fv:Stmt:=top 53
abbrev Dg:Stmt:=top 54
abbrev tR:Stmt:=top 55
abbrev Fu:Stmt:=top 56
abbrev iG:Stmt:=top 57
abbrev Fm:Stmt:=top 58
abbrev xZ:Stmt:=top 59
abbrev kS:Stmt:=top 60
abbrev pL:Stmt:=top 61
abbrev rY:Stmt:=top 62
abbrev De:Stmt:=top 63
def iV:PyData->Bool
 | .int _=>true
 | _=>false
def jO:PyData->Bool
 | .int i=>decide (1<=i) && decide (i<=6)
 | _=>false
def eK (j5:Int):Int->List PyData->Bool
 | _,[]=>true
 | last,.int i::r=>decide (last < i) && decide (i < j5) && eK j5 i r
 | _,_::_=>false
def cT (j5:Int):PyData->Bool
 | .tuple ds=>!ds.isEmpty && eK j5 (-1) ds
 | _=>false
def r?:PyData->PyData->Bool
 | .int h,.tuple ws=>decide (1<=h) && decide (h<=6) && decide (ws.length<=12) && ws.all (cT h)
 | _,_=>false
def bU:PyData->Bool
 | .tuple [dh,dw]=>r? dh dw
 | _=>false
def nE (K:Rc):Sp:=λvs H Q _=>∃ x d,vs = [x]/\Den K H d x/\Q (.bl (iV d)) H
theorem t?:ah ["thing"] ["thing"] (aL oJ):=⟨rfl,rfl,rfl,by decide +kernel,rfl,by decide +kernel,by decide +kernel⟩
theorem mS (G:Fn K mg "is_whole" oJ ["thing"] f fd) (B:Bl mg):af P w K mg base a_ 1 f fd ["thing"] (nE K):=by
 refine G.fn.ok t? (λvs H Q E h=>?_) (λbj A outer s H vs Q E hr h=>?_)
 ·obtain ⟨x,d,rfl,_⟩:=h
  rfl
 ·obtain ⟨x,d,rfl,hd,k⟩:=h
  refine ⟨_,aJ (aY (pY (aV xD rfl B.isinstance mO (aA (pv 0) (aA (iT (v:=.ty "int") rfl B.int O3 rfl) aD)))
   (sI (Δ (aV uO rfl B.isinstance mO (aA (pv 0) (aA (iT (v:=.ty "bool") rfl B.bool s? rfl) aD))))))),?_⟩
  refine ⟨_,rfl,x,lP d,rfl,hd.kd,_,rfl,?_⟩
  refine cR (λc=>?_) (λc=>?_)
  ·refine ⟨_,rfl,x,lP d,rfl,hd.kd,_,rfl,?_⟩
   have e:(!decide (lP d=Kd.bl))=iV d:=by
    cases d <;> first | rfl | (exfalso; simp [lP] at c)
   rw [e]
   exact k
  ·have e:false=iV d:=by
    cases d <;> first | rfl | (exfalso; simp [lP] at c)
   rw [e]
   exact k
def P_ (K:Rc):Sp:=λvs H Q _=>∃ x d,vs = [x]/\Den K H d x/\Q (.bl (jO d)) H
theorem t!:ah ["thing"] ["thing"] (aL tN):=⟨rfl,rfl,rfl,by decide +kernel,rfl,by decide +kernel,by decide +kernel⟩
theorem aE4 (G:Fn K mg "are_hands" tN ["thing"] f fd) (B:Bl mg) (W:Fn K mg "is_whole" oJ ["thing"] fW C4):af P w K mg base a_ 2 f fd ["thing"] (P_ K):=by
 have GW:af P w K mg base a_ 1 fW C4 ["thing"] (nE K):=mS W B
 obtain ⟨t6,h6⟩:=B.j5
 refine G.fn.ok t! (λvs H Q E h=>?_) (λbj A outer s H vs Q E hr h=>?_)
 ·obtain ⟨x,d,rfl,_⟩:=h
  rfl
 ·obtain ⟨x,d,rfl,hd,k⟩:=h
  refine ⟨_,aJ (aY (pY (bH W GW hr rfl (aA (pv 0) aD))
   (sI (aD0 vL vL aI (pv 0) (wY (v:=.int 6) rfl h6 ⟨t6,rfl⟩))))),?_⟩
  refine ⟨_,rfl,x,d,rfl,hd,_,rfl,?_⟩
  refine cR (λc=>?_) (λc=>?_)
  ·obtain ⟨i,rfl⟩:∃ i,d=.int i:=by cases d <;> first | exact ⟨_,rfl⟩ | (exfalso; simp [iV] at c)
   obtain rfl:=cI.mp hd
   refine ⟨_,rfl,_,_,rfl,rfl,_,rfl,?_⟩
   refine cR (λc1=>?_) (λc1=>?_)
   ·refine ⟨_,_,rfl,rfl,?_⟩
    have e:decide (i<=6)=jO (.int i):=by
     show _=(decide (1<=i) && decide (i<=6))
     rw [c1,Xo]
    show Q (.bl (decide (i<=6))) H
    rw [e]; exact k
   ·have e:false=jO (.int i):=by
     show _=(decide (1<=i) && decide (i<=6))
     have c2:decide (1<=i)=false:=by simpa using c1
     rw [c2,Zg]
    rw [e]; exact k
  ·have e:false=jO d:=by cases d <;> first | rfl | (exfalso; simp [iV] at c)
   rw [e]; exact k
theorem jE (h l i:Int) (r:List PyData):eK h l (.int i::r)=(decide (l < i) && decide (i < h) && eK h i r):=by rw [eK]
theorem tS (h l:Int) (d:PyData) (r:List PyData) (n:iV d=false):eK h l (d::r)=false:=by
 cases d <;> first | rfl | (simp [iV] at n)
def P9 (K:Rc):Sp:=λvs H Q _=>∃ n x d,vs = [.int n,x]/\Den K H d x/\Q (.bl (cT n d)) H
theorem rZ:ah ["hands", "thing", "last", "hand"] ["hands", "thing"] (aL tO):=⟨rfl,rfl,rfl,by decide +kernel,rfl,by decide +kernel,by decide +kernel⟩
theorem aE5 (G:Fn K mg "is_work" tO ["hands", "thing"] f fd) (B:Bl mg) (W:Fn K mg "is_whole" oJ ["thing"] fW C4):af P w K mg base a_ 2 f fd ["hands", "thing"] (P9 K):=by
 have GW:af P w K mg base a_ 1 fW C4 ["thing"] (nE K):=mS W B
 refine G.fn.ok rZ (λvs H Q E h=>?_) (λbj A outer s H vs Q E hr h=>?_)
 ·obtain ⟨n,x,d,rfl,_⟩:=h
  rfl
 ·obtain ⟨n,x,d,rfl,hd,k⟩:=h
  refine ⟨_,aG (bT (PW.pt (kL (eM (eJ (aV eP rfl B.isinstance mO (aA (pv 1) (aA (iT (v:=.ty "tuple") rfl B.tuple dZ rfl) aD)))))
    (jC (bB gL (aV bL rfl B.len gY (aA (pv 1) aD)) aI (bD _))))) (aJ (aY eX)) bG)
   (aG (aT (i:=2) rZ.nd rfl (Or.inl rfl) (sK oF aI))
   (aG (eS PassesOwn.never rfl (iK (pv 1)) (aQ (i:=3) rZ.nd rfl (Or.inl rfl))
    (aG (bT (PW.pt (kL (eM (eJ (bH W GW hr rfl (aA (pv 3) aD)))) (kL (bB vL (pv 3) (pv 2) (bD _)) (jC (bB yX (pv 3) (pv 0) (bD _)))))) (aJ (aY eX)) bG)
    (aJ (aT (i:=2) rZ.nd rfl (Or.inl rfl) (pv 3)))))
   (aJ (aY eX)))),?_⟩
  refine ⟨_,rfl,x,lP d,rfl,hd.kd,_,rfl,?_⟩
  refine cR (λc=>?_) (λc=>?_)
  ·-- not a tuple
   refine jD ?_
   have e:false=cT n d:=by
    cases d <;> first | rfl | (exfalso; simp [lP] at c)
   rw [e]; exact k
  ·obtain ⟨ds,rfl⟩:∃ ds,d=.tuple ds:=by cases d <;> first | exact ⟨_,rfl⟩ | (exfalso; simp [lP] at c)
   obtain ⟨a,xs,rfl,ha,fq⟩:=bF.mp hd
   have hl:=aH fq
   refine ⟨_,rfl,a,xs,rfl,.inr ha,rfl,_,rfl,?_⟩
   refine cR (λc2=>?_) (λc2=>?_)
   ·have e:false=cT n (.tuple ds):=by
     have e1:ds = []:=by
      have:(xs.length:Int)=0:=by simpa using c2
      exact Jz.mp (by omega)
     rw [e1]; rfl
    rw [e]; exact k
   ·have cb:ds≠[]:=by
     intro z
     apply c2
     rw [z] at hl
     simp [hl]
    have e0:cT n (.tuple ds)=eK n (-1) ds:=by
     show (!ds.isEmpty && eK n (-1) ds)=_
     cases ds with
     | nil=>exact absurd rfl cb
     | cons _ _=>rfl
    rw [e0] at k
    refine ⟨_,rfl,?_⟩
    refine ⟨_,rfl,a,rfl,⟨xs,ha⟩,xA (K:=K) (a:=a) (xs:=xs) (λi σ H2=>∃ (last:Int) (v:Option V),σ = [some (.int n),some (.ref a),some (.int last),v]/\H2=H/\eK n (-1) ds=eK n last (ds.drop i))
     ⟨-1,none,rfl,rfl,rfl⟩ (λi σ H2 _ ⟨_,_,_,e,_⟩=>by rw [e]; exact ha) ?_ ?_⟩
    ·rintro i y σ H2 hi ⟨last,v,rfl,rfl,fg⟩
     obtain ⟨dy,CM,qj⟩:=bS fq hi
     have lz:ds.drop i=dy::ds.drop (i+1):=by
      obtain ⟨ax,e⟩:=Qd.mp CM
      rw [Yo ax,e]
     rw [lz] at fg
     refine ⟨_,rfl,y,dy,rfl,qj,_,rfl,?_⟩
     refine cR (λc3=>?_) (λc3=>?_)
     ·refine jD ?_
      have e:false=eK n (-1) ds:=by rw [fg,tS]; simpa using c3
      rw [e]; exact k
     ·obtain ⟨j,rfl⟩:∃ j,dy=.int j:=by cases dy <;> first | exact ⟨_,rfl⟩ | (exfalso; simp [iV] at c3)
      obtain rfl:=cI.mp qj
      rw [jE] at fg
      refine ⟨_,rfl,_,rfl,_,_,rfl,rfl,_,rfl,?_⟩
      refine cR (λc4=>?_) (λc4=>?_)
      ·refine jD ?_
       have Og:j<=last:=of_decide_eq_true c4
       have e:false=eK n (-1) ds:=by rw [fg,decide_eq_false (by omega:¬ last < j)]; rfl
       rw [e]; exact k
      ·have Og:¬ j<=last:=λz=>c4 (decide_eq_true z)
       refine ⟨_,rfl,_,rfl,_,_,rfl,rfl,_,rfl,?_⟩
       refine cR (λc5=>?_) (λc5=>?_)
       ·have X4:n<=j:=of_decide_eq_true c5
        have e:false=eK n (-1) ds:=by rw [fg,decide_eq_false (by omega:¬ j < n),Zr]; rfl
        rw [e]; exact k
       ·have X4:¬ n<=j:=λz=>c5 (decide_eq_true z)
        refine ⟨_,rfl,j,some (.int j),rfl,rfl,?_⟩
        rw [fg,decide_eq_true (by omega:last < j),decide_eq_true (by omega:j < n)]
        rfl
    ·rintro σ H2 ⟨last,v,rfl,rfl,fg⟩
     have e:true=eK n (-1) ds:=by
      rw [fg,hl,List.drop_length]
      rfl
     show Q (.bl true) _
     rw [e]; exact k
theorem S! {σ:St} {A B:Hp->Prop} (h:A H):rN σ H λb H3=>if b=true then A H3 else B H3:=by
 show if true=true then A H else B H
 exact jD h
theorem eT {x:V} {σ:St} {A B:St->Hp->Prop} (h:A (σ.set i (some x)) H):eY i x σ H λar H2=>rN ar H2 λb H3=>if b=true then A ar H3 else B ar H3:=by
 show if true=true then A (σ.set i (some x)) H else B (σ.set i (some x)) H
 exact jD h
def yA (K:Rc):Sp:=λvs H Q _=>∃ x d,vs = [x]/\Den K H d x/\∀ H',aE H H'->Q (.bl (bU d)) H'
theorem yB:ah ["thing", "hands", "works"] ["thing"] (aL tP):=⟨rfl,rfl,rfl,by decide +kernel,rfl,by decide +kernel,by decide +kernel⟩
theorem Q_ {NA C6:FuncData} (G:Fn K mg "is_book" tP ["thing"] f fd) (B:Bl mg) (W:Fn K mg "is_whole" oJ ["thing"] fW C4) (GH:Fn K mg "are_hands" tN ["thing"] fH NA) (GK:Fn K mg "is_work" tO ["hands", "thing"] fK C6):af P w K mg base a_ 3 f fd ["thing"] (yA K):=by
 have OH:af P w K mg base a_ 2 fH NA ["thing"] (P_ K):=aE4 GH B W
 have OK:af P w K mg base a_ 2 fK C6 ["hands", "thing"] (P9 K):=aE5 GK B W
 obtain ⟨F3,Fd⟩:=B.D9
 refine G.fn.ok yB (λvs H Q E h=>?_) (λbj A outer s H vs Q E hr h=>?_)
 ·obtain ⟨x,d,rfl,_⟩:=h
  rfl
 ·obtain ⟨x,d,rfl,hd,k⟩:=h
  refine ⟨_,aG (bT (PW.pt (kL (eM (eJ (aV eP rfl B.isinstance mO (aA (pv 0) (aA (iT (v:=.ty "tuple") rfl B.tuple dZ rfl) aD)))))
    (jC (bB lV (aV bL rfl B.len gY (aA (pv 0) aD)) aI (bD _))))) (aJ (aY eX)) bG)
   (aG (gU (pv 0) (gE rfl (aX (aQ (i:=1) yB.nd rfl (Or.inr rfl)) (aX (aQ (i:=2) yB.nd rfl (Or.inl rfl)) cU))))
   (aG (bT (eM (eJ (bH GH OH hr rfl (aA (pv 1) aD)))) (aJ (aY eX)) bG)
   (aG (bT (PW.pt (kL (eM (eJ (aV eP rfl B.isinstance mO (aA (pv 2) (aA (iT (v:=.ty "tuple") rfl B.tuple dZ rfl) aD)))))
    (jC (bB FF (aV bL rfl B.len gY (aA (pv 2) aD)) (wY (v:=.int 12) rfl Fd ⟨F3,rfl⟩) (bD _))))) (aJ (aY eX)) bG)
   (aJ (aY (aV (jL rfl) rfl B.all tM (aA
    (cQ (own:=["work"]) (fr:=[1]) (bc:=["hands"]) (bP (aL tP) ["thing", "hands", "works"] rfl rfl (by decide +kernel)) rfl (iK (pv 2))
     (λ_ _ _ _=>aQ (i:=0) (show (["work", "hands"]:List Str).Nodup by decide +kernel) rfl (Or.inl rfl)) (λ_ _ _ _=>eO) (λ_ _ _ _=>bH GK OK hr rfl (aA (pv 1) (aA (pv 0) aD)))) aD))))))),?_⟩
  refine ⟨_,rfl,x,lP d,rfl,hd.kd,_,rfl,?_⟩
  refine cR (λc=>?_) (λc=>?_)
  ·refine jD ?_
   have e:false=bU d:=by
    cases d <;> first | rfl | (exfalso; simp [lP] at c)
   rw [e]; exact k H (aE.refl H)
  ·obtain ⟨ds,rfl⟩:∃ ds,d=.tuple ds:=by cases d <;> first | exact ⟨_,rfl⟩ | (exfalso; simp [lP] at c)
   obtain ⟨a,xs,rfl,ha,fq⟩:=bF.mp hd
   have hl:=aH fq
   refine ⟨_,rfl,a,xs,rfl,.inr ha,rfl,_,rfl,?_⟩
   refine cR (λc2=>?_) (λc2=>?_)
   ·have e:false=bU (.tuple ds):=by
     match ds,hl,c2 with
     | [],_,_=>rfl
     | [_],_,_=>rfl
     | [_,_],hl,c2=>exfalso; rw [hl] at c2; simp at c2
     | _::_::_::_,_,_=>rfl
    rw [e]; exact k H (aE.refl H)
   ·obtain ⟨dh,dw,rfl⟩:∃ dh dw,ds = [dh,dw]:=by
     match ds,hl,c2 with
     | [],hl,c2=>exfalso; rw [hl] at c2; simp at c2
     | [_],hl,c2=>exfalso; rw [hl] at c2; simp at c2
     | [p,q],_,_=>exact ⟨p,q,rfl⟩
     | p::q::r::t,hl,c2=>exfalso; apply c2; rw [hl]; simp; omega
    obtain ⟨xh,r1,rfl,hh,h2⟩:=aS.mp fq
    obtain ⟨xw,r2,rfl,hw,h3⟩:=aS.mp h2
    obtain rfl:=aW.mp h3
    -- hands,works=thing
    refine ⟨_,rfl,a,_,rfl,ha,rfl,_,_,rfl,_,_,rfl,rfl,?_⟩
    -- are_hands(hands)
    refine ⟨_,rfl,xh,dh,rfl,hh,_,rfl,?_⟩
    refine cR (λc3=>?_) (λc3=>?_)
    ·have e:false=bU (.tuple [dh,dw]):=by
      have X5:jO dh=false:=by simpa using c3
      cases dh with
      | int n =>
       cases dw with
       | tuple ws =>
        have c4:(decide (1<=n) && decide (n<=6))=false:=X5
        show _=(decide (1<=n) && decide (n<=6) && decide (ws.length<=12) && ws.all (cT n))
        rw [c4]; rfl
       | _=>rfl
      | _=>rfl
     rw [e]; exact k H (aE.refl H)
    ·obtain ⟨n,rfl,hn⟩:∃ n,dh=.int n/\(decide (1<=n) && decide (n<=6))=true:=by
      cases dh <;> first | exact ⟨_,rfl,by simpa [jO] using c3⟩ | (exfalso; simp [jO] at c3)
     obtain rfl:=cI.mp hh
     refine ⟨_,rfl,xw,lP dw,rfl,hw.kd,_,rfl,?_⟩
     refine cR (λc5=>?_) (λc5=>?_)
     ·refine jD ?_
      have e:false=bU (.tuple [.int n,dw]):=by
       cases dw <;> first | rfl | (exfalso; simp [lP] at c5)
      rw [e]; exact k H (aE.refl H)
     ·obtain ⟨ws,rfl⟩:∃ ws,dw=.tuple ws:=by cases dw <;> first | exact ⟨_,rfl⟩ | (exfalso; simp [lP] at c5)
      obtain ⟨b,ys,rfl,hb,fv⟩:=bF.mp hw
      have i8:=aH fv
      have eB:bU (.tuple [.int n,.tuple ws])=(decide (ws.length<=12) && ws.all (cT n)):=by
       show (decide (1<=n) && decide (n<=6) && decide (ws.length<=12) && ws.all (cT n))=_
       rw [hn,Xo]
      rw [eB] at k
      refine ⟨_,rfl,b,ys,rfl,.inr hb,_,_,rfl,rfl,_,rfl,?_⟩
      refine cR (λc6=>?_) (λc6=>?_)
      ·have HZ:(12:Int) < ys.length:=of_decide_eq_true c6
       have e:false=(decide (ws.length<=12) && ws.all (cT n)):=by rw [decide_eq_false (by omega:¬ ws.length<=12)]; rfl
       rw [e]; exact k H (aE.refl H)
      ·have HZ:¬ (12:Int) < ys.length:=λz=>c6 (decide_eq_true z)
       have e1:decide (ws.length<=12)=true:=decide_eq_true (by omega)
       rw [e1,Xo] at k
       refine ⟨_,rfl,b,rfl,⟨ys,hb⟩,kR (K:=K) (a:=b) (xs:=ys) (λσ=>∃ v,σ = [v,some (.int n)]) (λi zs H2=>H2=H/\zs=((ws.take i).map (cT n)).map V.bl) ?_ ⟨none,rfl⟩ ⟨rfl,rfl⟩ ?_ ?_ ?_ ?_⟩
       ·rw [Rg]; omega
       ·rintro i zs H2 ⟨_,rfl⟩
        rw [Qc,Qc,Qu]; omega
       ·rintro i zs H2 ⟨rfl,_⟩
        exact hb
       ·rintro i zs σ x H2 hx ⟨v,rfl⟩ ⟨rfl,rfl⟩ hz
        obtain ⟨dx,m_,qj⟩:=bS fv hx
        refine eT ?_
        refine ⟨_,rfl,_,rfl,n,x,dx,rfl,qj,hz,⟨some x,rfl⟩,rfl,?_⟩
        rw [Js,m_]
        simp
       ·rintro zs H2 ⟨rfl,rfl⟩ p hp
        refine ⟨p,_,rfl,ak.of aB,?_⟩
        have e2:((ws.take ys.length).map (cT n)).all id=ws.all (cT n):=by
         rw [i8,Jq,Zn]
         rfl
        rw [e2]
        exact k _ (aE.new hp)
def cZ (l:List Int):PyData:=.tuple (l.map .int)
def cJ (n:Int) (ws:List (List Int)):PyData:=.tuple [.int n,.tuple (ws.map cZ)]
def iH (hs:List Int):PyData:=.tuple (hs.map .int)
def eG:PyData->List Int->Bool
 | .int i,l=>l.any (·==i)
 | _,_=>false
def fP (ws:List (List Int)):PyData->Bool
 | .tuple hs=>decide (hs.length=ws.length) && (hs.zip ws).all λp=>eG p.1 p.2
 | _=>false
theorem qQ (l:List Int):(l.map V.int).all oW=true:=by
 rw [Zn]
 exact Jm.mpr λ_ _=>rfl
theorem sA (i:Int) (l:List Int):uu (.int i) (l.map V.int)=l.any (·==i):=by
 unfold uu
 rw [We]
 rfl
theorem dM {n:Int} {x:V} (h:Den K H (cJ n ws) x):∃ a b ys,x=.ref a/\aj K H a [.int n,.ref b]/\aj K H b ys/\aZ K H (ws.map cZ) ys:=by
 obtain ⟨a,xs,rfl,ha,fq⟩:=bF.mp h
 obtain ⟨xh,r1,rfl,hh,h2⟩:=aS.mp fq
 obtain ⟨xw,r2,rfl,hw,h3⟩:=aS.mp h2
 obtain rfl:=aW.mp h3
 obtain rfl:=cI.mp hh
 obtain ⟨b,ys,rfl,hb,dk⟩:=bF.mp hw
 exact ⟨a,b,ys,rfl,ha,hb,dk⟩
theorem bO {n:Int} (h:bU (cJ n ws)=true):1<=n/\n<=6/\ws.length<=12/\∀ l∈ws,cT n (cZ l)=true:=by
 have h':(decide (1<=n) && decide (n<=6) && decide ((ws.map cZ).length<=12) && (ws.map cZ).all (cT n))=true:=h
 simp only [Jc,decide_eq_true_eq,Qc,Jm] at h'
 exact ⟨h'.1.1.1,h'.1.1.2,h'.1.2,λl hl=>h'.2 _ (Qx.mpr ⟨l,hl,rfl⟩)⟩
theorem sB {k:Nat} {t:y8} (hK:X.K=K) (hc:X.calm=true) (h:Dk X es t) (hn:(assignEach es X.env).length=n:=by rfl) (gh:(assignEach es X.env).findIdx? (·.1)=none:=by rfl):PG X (.Tuple es k pos) (Ou K n t):=by
 subst hK
 exact gE hc h hn gh
theorem aBr (hK:X.K=K):dr X (compareOp .In) (Ce K false):=by subst hK; exact vS
theorem cD (hK:X.K=K):FN X (OM K):=by subst hK; exact fU
theorem kJ (hK:X.K=K):eN X (.builtin "len") (λxs H Q=>∃ p ys,xs = [.ref p]/\(ak K H p ys∨aj K H p ys)/\Q (.int ys.length) H):=by subst hK; exact bL
theorem aBs (hK:X.K=K):AF X "tuple.count" (λx vs H Q=>∃ (a:Addr) (ns:List Int) (n:Int),x=.ref a/\vs = [.int n]/\aj K H a (ns.map V.int)/\Q (.int (ns.count n:Nat)) H):=by subst hK; exact aCX
structure Pr (K:Rc) (mg:Str->Option Value) (fW fH fK fB gk fD f' fL:Addr) (dW dH dK dB gm dD f_ dL:FuncData):Prop where
 W:Fn K mg "is_whole" oJ ["thing"] fW dW
 H:Fn K mg "are_hands" tN ["thing"] fH dH
 Kw:Fn K mg "is_work" tO ["hands", "thing"] fK dK
 B:Fn K mg "is_book" tP ["thing"] fB dB
 NB:Fn K mg "need_book" JG ["book"] gk gm
 D:Fn K mg "is_deal" xW ["book", "thing"] fD dD
 ND:Fn K mg "need_deal" JF ["book", "deal"] f' f_
 C:∃ f d,Fn K mg "counted" mP ["hands", "deal"] f d
 L:Fn K mg "loads" JE ["book", "deal"] fL dL
def yC (K:Rc):Sp:=λvs H Q _=>∃ x d,vs = [x]/\Den K H d x/\bU d=true/\∀ H',aE H H'->Q .bw H'
theorem P8:ah ["book"] ["book"] (aL JG):=⟨rfl,rfl,rfl,by decide +kernel,rfl,by decide +kernel,by decide +kernel⟩
theorem Q9 (B:Bl mg) (R:Pr K mg fW fH fK fB gk fD f' fL dW dH dK dB gm dD f_ dL):af P w K mg base a_ 4 gk gm ["book"] (yC K):=by
 have OB:af P w K mg base a_ 3 fB dB ["thing"] (yA K):=Q_ R.B B R.W R.H R.Kw
 refine R.NB.fn.ok P8 (λvs H Q E h=>?_) (λbj A outer s H vs Q E hr h=>?_)
 ·obtain ⟨x,d,rfl,_⟩:=h
  rfl
 ·obtain ⟨x,d,rfl,hd,hb,k⟩:=h
  refine ⟨_,aJ (bT (eM (eJ (bH R.B OB hr rfl (aA (pv 0) aD)))) cO bG),?_⟩
  refine ⟨_,rfl,x,d,rfl,hd,λH' hs=>⟨_,rfl,?_⟩⟩
  rw [hb]
  refine iN ?_
  exact k H' hs
def yD (K:Rc):Sp:=λvs H Q _=>∃ x y n ws d,vs = [x,y]/\Den K H (cJ n ws) x/\bU (cJ n ws)=true/\Den K H d y/\∀ H',aE H H'->Q (.bl (fP ws d)) H'
theorem yE:ah ["book", "thing", "works"] ["book", "thing"] (aL xW):=⟨rfl,rfl,rfl,by decide +kernel,rfl,by decide +kernel,by decide +kernel⟩
theorem Q8 (B:Bl mg) (R:Pr K mg fW fH fK fB gk fD f' fL dW dH dK dB gm dD f_ dL):af P w K mg base a_ 5 fD dD ["book", "thing"] (yD K):=by
 have ON:af P w K mg base a_ 4 gk gm ["book"] (yC K):=Q9 B R
 have OW:af P w K mg base a_ 1 fW dW ["thing"] (nE K):=mS R.W B
 refine R.D.fn.ok yE (λvs H Q E h=>?_) (λbj A outer s H vs Q E hr h=>?_)
 ·obtain ⟨x,y,n,ws,d,rfl,_⟩:=h
  rfl
 ·obtain ⟨x,y,n,ws,d,rfl,hx,hb,hd,k⟩:=h
  have CC:ay 1 _:=hr.mono (by decide)
  refine ⟨_,aG (bX (bH R.NB ON hr rfl (aA (pv 0) aD)))
   (aG (aT (i:=2) yE.nd rfl (Or.inl rfl) (bK fU (pv 0) aI (λ_ _=>rfl)))
   (aG (bT (PW.pt (kL (eM (eJ (aV eP rfl B.isinstance mO (aA (pv 1) (aA (iT (v:=.ty "tuple") rfl B.tuple dZ rfl) aD)))))
    (jC (bB lV (aV bL rfl B.len gY (aA (pv 1) aD)) (aV bL rfl B.len gY (aA (pv 2) aD)) (bD _))))) (aJ (aY eX)) bG)
   (aJ (aY (aV (jL rfl) rfl B.all tM (aA
    (cQ (own:=["hand", "able"]) (fr:=[]) (bc:=[]) (bP (aL xW) ["book", "thing", "works"] rfl rfl (by decide +kernel)) rfl (sS .t .t rfl B.zip (aA (pv 1) (aA (pv 2) aD)))
     (λ_ _ _ _=>sB (K:=K) (n:=2) rfl rfl (aX (aQ (i:=0) (show (["hand", "able"]:List Str).Nodup by decide +kernel) rfl (Or.inl rfl)) (aX (aQ (i:=1) (show (["hand", "able"]:List Str).Nodup by decide +kernel) rfl (Or.inl rfl)) cU)))
     (λ_ _ _ _=>eO) (λ_ _ _ _=>pY (bH R.W OW CC rfl (aA (pv 0) aD)) (sI (iU (aBr (K:=K) rfl) (pv 0) (pv 1) (by with_unfolding_all rfl))))) aD)))))),?_⟩
  refine ⟨_,rfl,x,cJ n ws,rfl,hx,hb,λH1 s1=>?_⟩
  have Bv:=s1.den _ _ hx
  have CP:=s1.den _ _ hd
  obtain ⟨a,b,ys,rfl,ha,ee,dk⟩:=dM Bv
  have i8:=aH dk
  rw [Qc] at i8
  refine ⟨_,rfl,a,_,1,.ref b,rfl,rfl,ha,rfl,?_⟩
  refine ⟨_,rfl,y,lP d,rfl,CP.kd,_,rfl,?_⟩
  refine cR (λc=>?_) (λc=>?_)
  ·refine jD ?_
   have e:false=fP ws d:=by
    cases d <;> first | rfl | (exfalso; simp [lP] at c)
   rw [e]; exact k H1 s1
  ·obtain ⟨hs,rfl⟩:∃ hs,d=.tuple hs:=by cases d <;> first | exact ⟨_,rfl⟩ | (exfalso; simp [lP] at c)
   obtain ⟨a2,xs,rfl,Hs,qp⟩:=bF.mp CP
   have VI:=aH qp
   refine ⟨_,rfl,a2,xs,rfl,.inr Hs,_,rfl,b,ys,rfl,.inr ee,rfl,_,rfl,?_⟩
   refine cR (λc2=>?_) (λc2=>?_)
   ·have e:false=fP ws (.tuple hs):=by
     show _=(decide (hs.length=ws.length) && (hs.zip ws).all λp=>eG p.1 p.2)
     rw [decide_eq_false]
     ·rfl
     ·intro z
      have:(V.int (xs.length:Int)=V.int (ys.length:Int)):=by rw [VI,i8,z]
      simp [this] at c2
    rw [e]; exact k H1 s1
   ·have heq:xs.length=ys.length:=by
     have:V.int (xs.length:Int)=V.int (ys.length:Int):=by simpa using c2
     injection this with this
     omega
    have e0:fP ws (.tuple hs)=(hs.zip ws).all λp=>eG p.1 p.2:=by
     show (decide (hs.length=ws.length) && _)=_
     rw [decide_eq_true (by omega:hs.length=ws.length),Xo]
    rw [e0] at k
    obtain ⟨_,_,Fd,_⟩:=bO hb
    refine ⟨_,rfl,_,rfl,a2,b,xs,ys,rfl,Hs,ee,aEm (K:=K) (k1:=.t) (k2:=.t) (a:=a2) (b:=b) (xs:=xs) (ys:=ys) (λσ=>∃ u v,σ = [u,v]) (λi zs H2=>aE H1 H2/\zs=(((hs.zip ws).take i).map λp=>eG p.1 p.2).map V.bl) ?_ heq ⟨none,none,rfl⟩ ⟨aE.refl H1,rfl⟩ ?_ ?_ ?_ ?_⟩
    ·rw [Rg]; omega
    ·rintro i zs H2 ⟨_,rfl⟩
     rw [Qc,Qc,Qu]; omega
    ·rintro i zs H2 ⟨s2,_⟩
     exact ⟨s2.ai Hs,s2.ai ee⟩
    ·rintro i zs σ u v p H2 hu hv ⟨u0,v0,rfl⟩ ⟨s2,rfl⟩ hp hz
     obtain ⟨du,VX,D2⟩:=bS qp hu
     obtain ⟨dv,dm,ie⟩:=bS dk hv
     rw [Qh] at dm
     obtain ⟨l,hl,rfl⟩:∃ l,ws[i]?=some l/\cZ l=dv:=by
      cases q:ws[i]? with
      | none=>rw [q] at dm; cases dm
      | some l=>rw [q] at dm; exact ⟨l,rfl,Option.some.inj dm⟩
     have s3:aE H1 (upd H2 p (.tup [u,v])):=s2.trans (aE.new hp)
     have Kc:(hs.zip ws)[i]?=some (du,l):=by rw [Jh]; exact ⟨VX,hl⟩
     have zl:(((hs.zip ws).take (i+1)).map λp=>eG p.1 p.2).map V.bl=(((hs.zip ws).take i).map λp=>eG p.1 p.2).map V.bl++[V.bl (eG du l)]:=by
      rw [Js,Kc]; simp
     refine ⟨p,_,rfl,aj.of aB,rfl,_,_,rfl,_,_,rfl,rfl,?_⟩
     refine S! ?_
     refine ⟨_,rfl,u,du,rfl,s3.den _ _ D2,_,rfl,?_⟩
     refine cR (λc3=>?_) (λc3=>?_)
     ·obtain ⟨j,rfl⟩:∃ j,du=.int j:=by cases du <;> first | exact ⟨_,rfl⟩ | (exfalso; simp [iV] at c3)
      obtain rfl:=cI.mp D2
      obtain ⟨av,rfl,E5⟩:=bC.mp ie
      refine ⟨_,rfl,_,rfl,av,_,rfl,.inr (s3.ai E5),rfl,qQ l,hz,⟨_,_,rfl⟩,s3,?_⟩
      rw [zl]
      show _++[V.bl (uu (.int j) (l.map V.int))]=_
      rw [sA]
      rfl
     ·have e:eG du l=false:=by cases du <;> first | rfl | (exfalso; simp [iV] at c3)
      refine ⟨hz,⟨_,_,rfl⟩,s3,?_⟩
      rw [zl,e]
    ·rintro zs H2 ⟨s2,rfl⟩ p hp
     refine ⟨p,_,rfl,ak.of aB,?_⟩
     have e2:(((hs.zip ws).take xs.length).map λp=>eG p.1 p.2).all id=(hs.zip ws).all λp=>eG p.1 p.2:=by
      rw [Jn (by rw [Wf]; omega),Zn]
      rfl
     rw [e2]
     exact k _ (s1.trans (s2.trans (aE.new hp)))
def gW (n:Int) (hs:List Int):List Int:=(mH n.toNat).map λh=>((hs.count h:Nat):Int)
theorem Q7 (h:i < n):(mH n)[i]?=some (i:Int):=by
 unfold mH
 rw [Qh,List.getElem?_range h]
 rfl
theorem mT (n:Nat):(mH n).length=n:=by unfold mH; rw [Qc,Xs]
theorem JD {o:Expr} {t:TA} {id:String} {r:V->List V->Hp->VK->Prop} (hK:X.K=K) (pa:PlainAttrs T) (slot:Slot T name id) (EN:typeOf (.builtin id)=pure (.type "method_descriptor")) (hm:AF X id r) (ho:PE X o to) (ha:PA X (e::es) t) (l9:attributeBase o name X.env (eval o X.env)=eval o X.env:=by rfl) (A4:((backTo dc (starEach (e::es) X.env)).all (λx=>!x.1) && (backToKw dc (keywordEach [] X.env)).all (λx=>x.1.isSome)
   && decide ((e::es).length+([]:List Keyword).length+(if ([]:List Keyword).isEmpty then 0 else 1) < 30))=true:=by rfl) (lx:(apos.endLine==dc.line)=true:=by rfl) (hs:starEach (e::es) X.env=(false,eval e X.env)::starEach es X.env:=by rfl) (n8:(backTo dc (starEach es X.env)).any (·.1)=false:=by rfl) :
  PE X (.Call (.Attribute o name apos) (e::es) [] dc) (Le K T r to t):=by
 subst hK
 exact nS pa slot EN hm ho ha l9 A4 lx hs n8
def gA (K:Rc) (H:Hp) (x y:V) (n:Int) (ws:List (List Int)) (hs:List Int):Prop:=Den K H (cJ n ws) x/\bU (cJ n ws)=true/\Den K H (iH hs) y/\fP ws (iH hs)=true
theorem gA.same {x:V} {n:Int} (g:gA K H x y n ws hs) (e:aE H H'):gA K H' x y n ws hs:=⟨e.den _ _ g.1,g.2.1,e.den _ _ g.2.2.1,g.2.2.2⟩
theorem gA.len {x:V} {n:Int} (g:gA K H x y n ws hs):hs.length<=12/\1<=n/\n<=6:=by
 obtain ⟨h1,h2,h3,_⟩:=bO g.2.1
 have h:(decide ((hs.map PyData.int).length=ws.length) && ((hs.map PyData.int).zip ws).all λp=>eG p.1 p.2)=true:=g.2.2.2
 simp only [Jc,decide_eq_true_eq,Qc] at h
 omega
def yF (K:Rc):Sp:=λvs H Q _=>∃ x y n ws hs,vs = [x,y]/\gA K H x y n ws hs/\∀ H',aE H H'->Q .bw H'
theorem P6:ah ["book", "deal"] ["book", "deal"] (aL JF):=⟨rfl,rfl,rfl,by decide +kernel,rfl,by decide +kernel,by decide +kernel⟩
theorem RW (B:Bl mg) (R:Pr K mg fW fH fK fB gk fD f' fL dW dH dK dB gm dD f_ dL):af P w K mg base a_ 6 f' f_ ["book", "deal"] (yF K):=by
 have OD:af P w K mg base a_ 5 fD dD ["book", "thing"] (yD K):=Q8 B R
 refine R.ND.fn.ok P6 (λvs H Q E h=>?_) (λbj A outer s H vs Q E hr h=>?_)
 ·obtain ⟨x,y,n,ws,hs,rfl,_⟩:=h
  rfl
 ·obtain ⟨x,y,n,ws,hs,rfl,⟨g1,g2,g3,g4⟩,k⟩:=h
  refine ⟨_,aJ (bT (eM (eJ (bH R.D OD hr rfl (aA (pv 0) (aA (pv 1) aD))))) cO bG),?_⟩
  refine ⟨_,rfl,_,rfl,x,y,n,ws,iH hs,rfl,g1,g2,g3,λH' hs=>⟨_,rfl,?_⟩⟩
  rw [g4]
  refine iN ?_
  exact k H' hs
def wG (K:Rc):Sp:=λvs H Q _=>∃ (n:Int) (b:Addr) (hs:List Int),vs = [.int n,.ref b]/\aj K H b (hs.map V.int)/\0<=n/\n<=6/\∀ p H',aE H H'->H' p=some (.tup ((gW n hs).map V.int))->Q (.ref p) H'
theorem aDs:ah ["hands", "deal"] ["hands", "deal"] (aL mP):=⟨rfl,rfl,rfl,by decide +kernel,rfl,by decide +kernel,by decide +kernel⟩
theorem aBu (G:Fn K mg "counted" mP ["hands", "deal"] f fd) (B:Bl mg):af P w K mg base a_ 1 f fd ["hands", "deal"] (wG K):=by
 refine G.fn.ok aDs (λvs H Q E h=>?_) (λbj A outer s H vs Q E hr h=>?_)
 ·obtain ⟨n,b,hs,rfl,_⟩:=h
  rfl
 ·obtain ⟨n,c,hs,rfl,hc,jq,ia,k⟩:=h
  refine ⟨_,aJ (aY (cB cC rfl B.tuple dZ (aA
    (cQ (own:=["hand"]) (fr:=[1]) (bc:=["deal"]) (bP (aL mP) ["hands", "deal"] rfl rfl (by decide +kernel)) rfl (fT rfl B.range (aA (pv 0) aD))
     (λ_ _ _ _=>aQ (i:=0) (show (["hand", "deal"]:List Str).Nodup by decide +kernel) rfl (Or.inl rfl)) (λ_ _ _ _=>eO)
     (λ_ _ _ _=>JD (K:=K) rfl PySem.F.plainAttrs_tuple Mk PySem.F.type_tuple_count (aBs (K:=K) rfl) (pv 1) (aA (pv 0) aD))) aD))),?_⟩
  refine ⟨_,rfl,n,rfl,by omega,by omega,jM (lo:=0) (n:=n.toNat) (λσ=>∃ v,σ = [v,some (.ref c)]) (λi zs H2=>H2=H/\zs=(((mH n.toNat).take i).map λh=>((hs.count h:Nat):Int)).map V.int) ?_ ⟨none,rfl⟩ ⟨rfl,rfl⟩ ?_ ?_ ?_⟩
  ·rw [Rg]; omega
  ·rintro i zs H2 ⟨_,rfl⟩
   rw [Qc,Qc,Qu]; omega
  ·rintro i zs σ H2 hi ⟨v,rfl⟩ ⟨rfl,rfl⟩ hz
   refine eT ?_
   refine ⟨_,rfl,.inr (.inl ⟨rfl,_,hc⟩),_,rfl,c,hs,_,rfl,rfl,hc,hz,⟨_,rfl⟩,rfl,?_⟩
   rw [Js,Q7 hi]
   simp
  ·rintro zs H2 ⟨rfl,rfl⟩ p hp
   refine ⟨p,_,rfl,.inl ⟨ak.of aB,λl hl=>?_⟩⟩
   refine k l _ ((aE.new hp).trans (aE.new hl)) ?_
   rw [aB,Jn (by rw [mT]; exact Qe _)]
   rfl
def sC (K:Rc):Sp:=λvs H Q _=>∃ x y n ws hs,vs = [x,y]/\gA K H x y n ws hs/\∀ p H',aE H H'->H' p=some (.tup ((gW n hs).map V.int))->Q (.ref p) H'
theorem P5:ah ["book", "deal"] ["book", "deal"] (aL JE):=⟨rfl,rfl,rfl,by decide +kernel,rfl,by decide +kernel,by decide +kernel⟩
theorem tT (B:Bl mg) (R:Pr K mg fW fH fK fB gk fD f' fL dW dH dK dB gm dD f_ dL):af P w K mg base a_ 7 fL dL ["book", "deal"] (sC K):=by
 have ON:af P w K mg base a_ 6 f' f_ ["book", "deal"] (yF K):=RW B R
 obtain ⟨fC,dC,GC⟩:=R.C
 have OC:af P w K mg base a_ 1 fC dC ["hands", "deal"] (wG K):=aBu GC B
 refine R.L.fn.ok P5 (λvs H Q E h=>?_) (λbj A outer s H vs Q E hr h=>?_)
 ·obtain ⟨x,y,n,ws,hs,rfl,_⟩:=h
  rfl
 ·obtain ⟨x,y,n,ws,hs,rfl,g,k⟩:=h
  have r1:ay 1 _:=hr.mono (by decide)
  refine ⟨_,aG (bX (bH R.ND ON hr rfl (aA (pv 0) (aA (pv 1) aD))))
   (aJ (aY (bH GC OC r1 rfl (aA (bK fU (pv 0) aI (λ_ _=>rfl)) (aA (pv 1) aD))))),?_⟩
  refine ⟨_,rfl,_,rfl,x,y,n,ws,hs,rfl,g,λH1 s1=>?_⟩
  have g1:=g.same s1
  obtain ⟨hl,jq,ia⟩:=g.len
  obtain ⟨a,b,ys,rfl,ha,ee,dk⟩:=dM g1.1
  obtain ⟨c,rfl,hc⟩:=bC.mp g1.2.2.1
  refine ⟨_,rfl,a,_,0,.int n,rfl,rfl,ha,rfl,_,rfl,n,c,hs,rfl,hc,by omega,ia,λp H2 s2 hp=>?_⟩
  exact k p H2 (s1.trans s2) hp
theorem kK (n:Int) (hs:List Int):(gW n hs).length=n.toNat:=by unfold gW; rw [Qc,mT]
def az (t:Addr) (H H':Hp):Prop:=∀ b o,b≠t->H b=some o->H' b=some o
theorem az.refl (t:Addr) (H:Hp):az t H H:=λ_ _ _ h=>h
theorem az.trans {t:Addr} (a:az t H H1) (b:az t H1 H2):az t H H2:=λc o n h=>b c o n (a c o n h)
theorem az.of {t:Addr} (a:aE H H'):az t H H':=λc o _ h=>a c o h
theorem az.at {t:Addr} {u:HO}:az t H (upd H t u):=λc o n h=>by rw [aK n]; exact h
theorem az.free {t:Addr} (e:az t H H') {l:Addr} (h:H' l=none) (n:l≠t):H l=none:=by
 cases q:H l with
 | none=>rfl
 | some o=>rw [e l o n q] at h; cases h
theorem az.S4 {t:Addr} (e:az t H H') (n:a≠t) (h:Rd H a (.lst xs)):Rd H' a (.lst xs):=by
 rcases h with h | ⟨o,h⟩
 ·exact .inl (e a _ n h)
 ·exact .inr ⟨o,e a _ n h⟩
section
variable {t:Addr}
theorem az.ai (e:az t H H') (ht:H t=some (.lst ys)) (h:aj K H a xs):aj K H' a xs:=by
 rcases h with (h | ⟨o,h⟩) | h
 ·exact .inl (.inl (e a _ (λz=>by rw [z,ht] at h; cases h) h))
 ·exact .inl (.inr ⟨o,e a _ (λz=>by rw [z,ht] at h; cases h) h⟩)
 ·exact .inr h
theorem az.cm (e:az t H H') (n:a≠t) (h:ak K H a xs):ak K H' a xs:=by
 rcases h with h | h
 ·exact .inl (e.S4 n h)
 ·exact .inr h
mutual
def eU:PyData->Bool
 | .dict _=>false
 | .list _=>false
 | .tuple ds=>gT ds
 | _=>true
def gT:List PyData->Bool
 | []=>true
 | d::ds=>eU d && gT ds
end
mutual
theorem az.den (e:az t H H') (ht:H t=some (.lst ys)):∀ (d:PyData) (v:V),eU d=true->Den K H d v->Den K H' d v
 | .none,v,_,h=>by unfold Den at h ⊢; exact h
 | .bool b,v,_,h=>by unfold Den at h ⊢; exact h
 | .int i,v,_,h=>by unfold Den at h ⊢; exact h
 | .str x,v,_,h=>by unfold Den at h ⊢; exact h
 | .list ds,v,n,h=>by unfold eU at n; cases n
 | .tuple ds,v,n,h=>by unfold eU at n; unfold Den at h ⊢; obtain ⟨a,xs,h1,h2,h3⟩:=h; exact ⟨a,xs,h1,e.ai ht h2,az.ag e ht ds xs n h3⟩
 | .dict kvs,v,n,h=>by unfold eU at n; cases n
theorem az.ag (e:az t H H') (ht:H t=some (.lst ys)):∀ (ds:List PyData) (xs:List V),gT ds=true->aZ K H ds xs->aZ K H' ds xs
 | [],xs,_,h=>by unfold aZ at h ⊢; exact h
 | d::ds,xs,n,h=>by
  unfold gT at n; rw [Jc] at n
  unfold aZ at h ⊢; obtain ⟨x,r,h1,h2,h3⟩:=h; exact ⟨x,r,h1,az.den e ht d x n.1 h2,az.ag e ht ds r n.2 h3⟩
end
end
theorem cG (f:α->PyData) (h:∀ x,eU (f x)=true):∀ l:List α,gT (l.map f)=true
 | []=>by unfold List.map gT; rfl
 | x::r=>by rw [Qv]; unfold gT; rw [h x,cG f h r]; rfl
theorem tU (i:Int):eU (.int i)=true:=by unfold eU; rfl
theorem cK (l:List Int):eU (cZ l)=true:=by unfold cZ eU; exact cG _ tU l
theorem rD (l:List Int):eU (iH l)=true:=cK l
theorem rE (n:Int) (ws:List (List Int)):eU (cJ n ws)=true:=by
 unfold cJ eU gT
 rw [tU]
 unfold gT eU
 rw [cG _ cK ws]
 unfold gT
 rfl
def gB (K:Rc) (H:Hp) (t a:Addr) (ns:List Int):Prop:=(∃ p q:Int,0<=p/\H t=some (.lst [.ref a,.int p,.int q]))/\ak K H a (ns.map V.int)
theorem gB.same {t:Addr} (h:gB K H t a ns) (e:aE H H'):gB K H' t a ns:=by
 obtain ⟨⟨p,q,h1,h2⟩,h3⟩:=h
 exact ⟨⟨p,q,h1,e t _ h2⟩,e.cm h3⟩
theorem gB.den {t:Addr} (h:gB K H t a ns) (e:az t H H') (n:eU d=true) (hd:Den K H d v):Den K H' d v:=by
 obtain ⟨⟨p,q,h1,h2⟩,h3⟩:=h
 exact e.den h2 d v n hd
theorem gB.ai {t:Addr} (h:gB K H t a ns) (e:az t H H') (hd:aj K H b xs):aj K H' b xs:=by
 obtain ⟨⟨p,q,h1,h2⟩,h3⟩:=h
 exact e.ai h2 hd
theorem gB.ne {t:Addr} (h:gB K H t a ns) (hb:H b=none):b≠t:=by
 obtain ⟨⟨p,q,h1,h2⟩,h3⟩:=h
 intro z
 rw [z,h2] at hb
 cases hb
theorem aBv {r:List V} (h:ns.map V.int=.ref a::r):False:=by
 cases ns with
 | nil=>cases h
 | cons _ _=>rw [Qv] at h; cases h
theorem gS {t:Addr} {p q:Int} {u:HO} (h2:H t=some (.lst [.ref a,.int p,.int q])) (h:ak K H a (ns.map V.int)):ak K (upd H t u) a (ns.map V.int):=by
 rcases h with (h | ⟨o,h⟩) | h
 ·have n:a≠t:=λz=>by
   rw [z,h2] at h
   injection h with h
   injection h with h
   exact aBv h.symm
  exact .inl (.inl (by rw [aK n]; exact h))
 ·have n:a≠t:=λz=>by
   rw [z,h2] at h
   cases h
  exact .inl (.inr ⟨o,by rw [aK n]; exact h⟩)
 ·exact .inr h
theorem hG (ns:List Int):gN (.list (ns.map .int))=true:=by
 unfold gN
 induction ns with
 | nil=>unfold List.map lD; rfl
 | cons n r ih=>rw [Qv]; unfold lD; rw [ih]; unfold gN; rfl
theorem oM (f:α->PyData) (h:∀ x,(f x).canLay0=true):∀ l:List α,PyData.canLayAll0 (l.map f)=true
 | []=>by unfold List.map PyData.canLayAll0; rfl
 | x::r=>by rw [Qv]; unfold PyData.canLayAll0; rw [h x,oM f h r]; rfl
theorem qR {k:Nat} (f:α->PyData) (h:∀ x,(f x).depth<=k):∀ l:List α,PyData.depthAll (l.map f)<=k
 | []=>by unfold List.map PyData.depthAll; exact Jb _
 | x::r=>by rw [Qv]; unfold PyData.depthAll; exact Nat.max_le.mpr ⟨h x,qR f h r⟩
theorem tV (i:Int):(PyData.int i).canLay0=true:=by unfold PyData.canLay0; rfl
theorem wH (i:Int):(PyData.int i).depth<=0:=by unfold PyData.depth; exact Qe _
theorem yG (ns:List Int):(PyData.list (ns.map .int)).canLay0=true:=by unfold PyData.canLay0; exact oM _ tV ns
theorem yH (ns:List Int):(PyData.tuple (ns.map .int)).canLay0=true:=by unfold PyData.canLay0; exact oM _ tV ns
theorem aAB (ns:List Int):(PyData.list (ns.map .int)).depth<=1:=by unfold PyData.depth; exact Ye (qR _ wH ns)
theorem aAC (ns:List Int):(PyData.tuple (ns.map .int)).depth<=1:=by unfold PyData.depth; exact Ye (qR _ wH ns)
theorem wI (h1:d.canLay0=true) (h2:d.depth<=64):SeqAt.shaped d=true:=by
 unfold SeqAt.shaped
 rw [h1,decide_eq_true h2]
 rfl
theorem iZ (ns:List Int):SeqAt.shaped (.list (ns.map .int))=true:=wI (yG ns) (Jl (aAB ns) (by decide))
theorem pM (ns:List Int):SeqAt.shaped (.tuple (ns.map .int))=true:=wI (yH ns) (Jl (aAC ns) (by decide))
theorem pN (ns:List Int):gN (.tuple (ns.map .int))=true:=by
 have h:=hG ns
 unfold gN at h ⊢
 exact h
def PH:Sp:=λvs H Q _=>∃ c a:Int,vs = [.int c,.int a]/\∀ r,Q (.int r) H
theorem yI:ah ["cell", "at", "first", "second", "third"] ["cell", "at"] (aL Fw):=⟨rfl,rfl,rfl,by decide +kernel,rfl,by decide +kernel,by decide +kernel⟩
theorem R? (G:Fn K mg "_law_b_stirred" Fw ["cell", "at"] f fd):af P w K mg base a_ 1 f fd ["cell", "at"] PH:=by
 refine G.fn.ok yI (λvs H Q E h=>?_) (λbj A outer s H vs Q E hr h=>?_)
 ·obtain ⟨c,a,rfl,_⟩:=h
  rfl
 ·obtain ⟨c,a,rfl,k⟩:=h
  refine ⟨_,aG (bT (bB yX (pv 0) (bE JM aI aI) (bD _)) (aJ (aY (pv 0))) bG)
   (aG (aT (i:=2) yI.nd rfl (Or.inl rfl) (bE lU (bE eA (bE eA (bE kD (bE lU (pv 0) aI) aI) (bE kD (pv 1) aI)) aI) aI))
   (aG (aT (i:=3) yI.nd rfl (Or.inl rfl) (bE lU (bE eA (bE eA (bE kD (pv 2) (pv 2)) (bE kD aI (pv 1))) aI) aI))
   (aG (aT (i:=4) yI.nd rfl (Or.inl rfl) (bE lU (bE eA (bE eA (bE kD (pv 3) (pv 3)) (bE kD aI (pv 2))) (pv 1)) aI))
   (aJ (aY (bE eA (bE kD (pv 3) aI) (pv 4))))))),?_⟩
  refine ⟨_,rfl,_,_,rfl,rfl,⟨by decide,by decide,by decide⟩,_,_,rfl,rfl,_,rfl,?_⟩
  refine cR (λc1=>?_) (λc1=>?_)
  ·exact ⟨_,rfl,k _⟩
  ·refine ⟨_,rfl,_,_,rfl,rfl,(show (0:Int) < _ by decide),_,_,rfl,rfl,.inr ⟨by decide,by decide⟩,_,rfl,_,_,rfl,rfl,.inr ⟨by decide,by decide⟩,_,_,rfl,rfl,_,_,rfl,rfl,_,_,rfl,rfl,(show (0:Int) < _ by decide),?_⟩
   generalize hf:((c % 2147483629*43591+a*6661+353) % 2147483587:Int)=f1
   have b1:0<=f1/\f1 < 2147483587:=by rw [<- hf]; exact ⟨Xf _ (by decide),Xb _ (by decide)⟩
   refine ⟨_,rfl,_,rfl,_,_,rfl,rfl,.inl ⟨by omega,by omega⟩,_,rfl,_,_,rfl,rfl,.inl ⟨by decide,by decide⟩,_,_,rfl,rfl,_,_,rfl,rfl,_,_,rfl,rfl,(show (0:Int) < _ by decide),?_⟩
   generalize hg:((f1*f1+727*a+89) % 2147483579:Int)=f2
   have b2:0<=f2/\f2 < 2147483579:=by rw [<- hg]; exact ⟨Xf _ (by decide),Xb _ (by decide)⟩
   refine ⟨_,rfl,_,rfl,_,_,rfl,rfl,.inl ⟨by omega,by omega⟩,_,rfl,_,_,rfl,rfl,.inl ⟨by decide,by decide⟩,_,_,rfl,rfl,_,rfl,_,_,rfl,rfl,_,_,rfl,rfl,(show (0:Int) < _ by decide),?_⟩
   exact ⟨_,rfl,_,_,rfl,rfl,.inr ⟨by decide,by decide⟩,_,rfl,_,_,rfl,rfl,k _⟩
def kA (K:Rc):Sp:=λvs H Q _=>∃ (t a:Addr) (ns:List Int) (m:Int),vs = [.ref t,.int m]/\gB K H t a ns/\0 < m/\m < 1267650600228229401496703205376/\∀ r H',0<=r->r < m->az t H H'->gB K H' t a ns->Q (.int r) H'
theorem _root_.L2.ay.B_ {k:Nat} (r:ay k A):A.units+64 < cLine:=by have:=r.un; omega
theorem nF:ah ["tape", "many", "at", "cell", "found"] ["tape", "many"] (aL lI):=⟨rfl,rfl,rfl,by decide +kernel,rfl,by decide +kernel,by decide +kernel⟩
theorem aE7 {Nz:FuncData} (G:Fn K mg "_law_b_digit" lI ["tape", "many"] f fd) (B:Bl mg) (GS:Fn K mg "_law_b_stirred" Fw ["cell", "at"] fS Nz):af P w K mg base a_ 2 f fd ["tape", "many"] (kA K):=by
 have OS:af P w K mg base a_ 1 fS Nz ["cell", "at"] PH:=R? GS
 refine G.fn.ok nF (λvs H Q E h=>?_) (λbj A outer s H vs Q E hr h=>?_)
 ·obtain ⟨t,a,ns,m,rfl,_⟩:=h
  rfl
 ·obtain ⟨t,a,ns,m,rfl,⟨⟨p,q,hp,ht⟩,iz⟩,m7,yi,k⟩:=h
  refine ⟨_,aG (bT (bB yW (bK cX (pv 0) aI (λ_ _=>rfl)) (pv 1) (bD _))
    (aG (aT (i:=2) nF.nd rfl (Or.inl rfl) (bK cX (pv 0) aI (λ_ _=>rfl)))
    (aG (aT (i:=3) nF.nd rfl (Or.inl rfl) (bE eA (bE kD aI (pv 2)) aI))
    (aG (bT (bB yW (pv 2) (aV bL rfl B.len gY (aA (bK cX (pv 0) aI (λ_ _=>rfl)) aD)) (bD _))
      (aJ (aT (i:=3) nF.nd rfl (Or.inl rfl) (bK cX (bK cX (pv 0) aI (λ_ _=>rfl)) (pv 2) (λ_ _=>rfl))))
      (aJ (bT (bB (JO hr.B_) (bK cX (pv 0) aI (λ_ _=>rfl)) (cP aD) (bD _))
       (aJ (aT (i:=3) nF.nd rfl (Or.inl rfl) (bE eA (bE lU (bK cX (bK cX (pv 0) aI (λ_ _=>rfl)) (bE lU (bE kD (pv 2) aI) (aV bL rfl B.len gY (aA (bK cX (pv 0) aI (λ_ _=>rfl)) aD))) (λ_ _=>rfl)) aI) (bE kD (pv 2) aI))))
       bG)))
    (aG (gU (bE eA (pv 2) aI) (wZ (pv 0) aI oV))
    (aJ (gU (bH GS OS hr rfl (aA (pv 3) (aA (pv 2) aD))) (wZ (pv 0) aI oV)))))))
    bG)
   (aG (aT (i:=4) nF.nd rfl (Or.inl rfl) (bE lU (bK cX (pv 0) aI (λ_ _=>rfl)) (pv 1)))
   (aG (gU (bE aEn (bK cX (pv 0) aI (λ_ _=>rfl)) (pv 1)) (wZ (pv 0) aI oV))
   (aJ (aY (pv 4))))),?_⟩
  refine ⟨_,rfl,t,_,2,.int q,rfl,rfl,ak.of ht,rfl,_,rfl,_,_,rfl,rfl,_,rfl,?_⟩
  refine cR (λc1=>?_) (λc1=>?_)
  ·refine ⟨_,rfl,t,_,1,.int p,rfl,rfl,ak.of ht,rfl,?_⟩
   refine ⟨_,rfl,_,_,rfl,rfl,.inl ⟨by decide,by decide⟩,_,_,rfl,rfl,?_⟩
   refine ⟨_,rfl,_,rfl,t,_,0,.ref a,rfl,rfl,ak.of ht,rfl,a,_,rfl,.inl iz,_,_,rfl,rfl,_,rfl,?_⟩
   refine cR (λc2=>?_) (λc2=>?_)
   ·have X6:p < ((ns.map V.int).length:Int):=of_decide_eq_true c2
    rw [Qc] at X6
    have ax:p.toNat < ns.length:=by omega
    have j':ka (ns.map V.int) p=some (.int (ns[p.toNat])):=by
     have h1:(ns.map V.int)[p.toNat]?=some (.int (ns[p.toNat])):=by rw [Qh,Qb ax]; rfl
     have h2:=cW h1
     rwa [Xt hp] at h2
    refine ⟨_,rfl,t,_,0,.ref a,rfl,rfl,ak.of ht,rfl,_,rfl,a,_,_,_,rfl,rfl,iz,j',?_⟩
    refine ⟨_,rfl,_,_,rfl,rfl,_,rfl,t,_,_,1,rfl,rfl,ht,rfl,?_⟩
    refine ⟨_,rfl,_,rfl,_,_,rfl,λr=>⟨_,rfl,t,_,_,2,rfl,rfl,aB,rfl,?_⟩⟩
    refine ⟨_,rfl,t,_,2,.int r,rfl,rfl,ak.of aB,rfl,_,rfl,_,_,rfl,rfl,m7,?_⟩
    refine ⟨_,rfl,t,_,2,.int r,rfl,rfl,ak.of aB,rfl,_,rfl,_,_,rfl,rfl,⟨m7,yi⟩,_,rfl,t,_,_,2,rfl,rfl,aB,rfl,?_⟩
    exact ⟨_,rfl,k _ _ (Xf _ (by omega)) (Xb _ m7) ((az.refl t H).trans (az.at.trans (az.at.trans az.at))) ⟨⟨p+1,r / m,by omega,aB⟩,gS (p:=p+1) (q:=r) aB (gS (p:=p+1) (q:=q) aB (gS ht iz))⟩⟩
   ·refine ⟨_,rfl,t,_,0,.ref a,rfl,rfl,ak.of ht,rfl,by decide,λl hl=>?_⟩
    have TN:t≠l:=λz=>by rw [<- z,ht] at hl; cases hl
    have ye:upd H l (.lst []) t=some (.lst [.ref a,.int p,.int q]):=by rw [aK TN]; exact ht
    have tm:ak K (upd H l (.lst [])) a (ns.map V.int):=(aE.new hl).cm iz
    have bl:az t H (upd H l (.lst [])):=az.of (aE.new hl)
    refine ⟨.list (ns.map .int),.list [],qC.mpr ⟨a,rfl,tm⟩,eI.mpr ⟨l,[],rfl,ak.of aB,aW.mpr rfl⟩,hG ns,rfl,iZ ns,rfl,_,rfl,?_⟩
    refine cR (λc3=>?_) (λc3=>?_)
    ·have qf:0 < ns.length:=by
      cases ns with
      | nil=>simp [PyData.eqv,PyData.eqvAll] at c3
      | cons _ _=>simp
     have ax:(p*3 % (ns.length:Int)).toNat < ns.length:=by
      have:=Xf (p*3) (show (ns.length:Int)≠0 by omega)
      have:=Xb (p*3) (show (0:Int) < ns.length by omega)
      omega
     have j':ka (ns.map V.int) (p*3 % ((ns.map V.int).length:Int))=some (.int (ns[(p*3 % (ns.length:Int)).toNat])):=by
      have h1:(ns.map V.int)[(p*3 % (ns.length:Int)).toNat]?=some (.int (ns[(p*3 % (ns.length:Int)).toNat])):=by rw [Qh,Qb ax]; rfl
      have h2:=cW h1
      rw [Qc]
      rwa [Xt (Xf _ (by omega))] at h2
     refine ⟨_,rfl,t,_,0,.ref a,rfl,rfl,ak.of ye,rfl,_,rfl,_,_,rfl,rfl,.inr ⟨by decide,by decide⟩,_,rfl,t,_,0,.ref a,rfl,rfl,ak.of ye,rfl,a,_,rfl,.inl tm,_,_,rfl,rfl,(show (0:Int) < ((ns.map V.int).length:Int) by rw [Qc]; omega),a,_,_,_,rfl,rfl,tm,j',_,_,rfl,rfl,(show (0:Int) < _ by decide),_,rfl,_,_,rfl,rfl,.inr ⟨by decide,by decide⟩,_,_,rfl,rfl,?_⟩
     refine ⟨_,rfl,_,_,rfl,rfl,_,rfl,t,_,_,1,rfl,rfl,ye,rfl,?_⟩
     refine ⟨_,rfl,_,rfl,_,_,rfl,λr=>⟨_,rfl,t,_,_,2,rfl,rfl,aB,rfl,?_⟩⟩
     refine ⟨_,rfl,t,_,2,.int r,rfl,rfl,ak.of aB,rfl,_,rfl,_,_,rfl,rfl,m7,?_⟩
     refine ⟨_,rfl,t,_,2,.int r,rfl,rfl,ak.of aB,rfl,_,rfl,_,_,rfl,rfl,⟨m7,yi⟩,_,rfl,t,_,_,2,rfl,rfl,aB,rfl,?_⟩
     exact ⟨_,rfl,k _ _ (Xf _ (by omega)) (Xb _ m7) (bl.trans (az.at.trans (az.at.trans az.at))) ⟨⟨p+1,r / m,by omega,aB⟩,gS (p:=p+1) (q:=r) aB (gS (p:=p+1) (q:=q) aB (gS ye tm))⟩⟩
    ·show _
     refine ⟨_,rfl,_,_,rfl,rfl,_,rfl,t,_,_,1,rfl,rfl,ye,rfl,?_⟩
     refine ⟨_,rfl,_,rfl,_,_,rfl,λr=>⟨_,rfl,t,_,_,2,rfl,rfl,aB,rfl,?_⟩⟩
     refine ⟨_,rfl,t,_,2,.int r,rfl,rfl,ak.of aB,rfl,_,rfl,_,_,rfl,rfl,m7,?_⟩
     refine ⟨_,rfl,t,_,2,.int r,rfl,rfl,ak.of aB,rfl,_,rfl,_,_,rfl,rfl,⟨m7,yi⟩,_,rfl,t,_,_,2,rfl,rfl,aB,rfl,?_⟩
     exact ⟨_,rfl,k _ _ (Xf _ (by omega)) (Xb _ m7) (bl.trans (az.at.trans (az.at.trans az.at))) ⟨⟨p+1,r / m,by omega,aB⟩,gS (p:=p+1) (q:=r) aB (gS (p:=p+1) (q:=q) aB (gS ye tm))⟩⟩
  ·show _
   refine ⟨_,rfl,t,_,2,.int q,rfl,rfl,ak.of ht,rfl,_,rfl,_,_,rfl,rfl,m7,?_⟩
   refine ⟨_,rfl,t,_,2,.int q,rfl,rfl,ak.of ht,rfl,_,rfl,_,_,rfl,rfl,⟨m7,yi⟩,_,rfl,t,_,_,2,rfl,rfl,ht,rfl,?_⟩
   exact ⟨_,rfl,k _ _ (Xf _ (by omega)) (Xb _ m7) (az.at) ⟨⟨p,q / m,by omega,aB⟩,gS ht iz⟩⟩
theorem RV (n:Int):∀ (l:List Int) (last:Int),(∀ x∈l,last < x)->l.Pairwise (· < ·)->(∀ x∈l,x < n)->eK n last (l.map .int)=true
 | [],_,_,_,_=>rfl
 | x::r,last,h1,h2,h3=>by
  rw [Qv,jE]
  have k_:=Xv.mp h2
  rw [decide_eq_true (h1 x (Qk ..)),decide_eq_true (h3 x (Qk ..)),RV n r x k_.1 k_.2 (λy hy=>h3 y (Ql _ hy))]
  rfl
theorem nG {n:Int} (h0:l≠[]) (h1:∀ x∈l,0<=x/\x < n) (h2:l.Pairwise (· < ·)):cT n (cZ l)=true:=by
 have e:cT n (cZ l)=(!(l.map PyData.int).isEmpty && eK n (-1) (l.map .int)):=rfl
 rw [e,RV n l (-1) (λx hx=>by have:=(h1 x hx).1; omega) h2 (λx hx=>(h1 x hx).2)]
 cases l with
 | nil=>exact absurd rfl h0
 | cons _ _=>rfl
theorem rF (n:Int):∀ (l:List Int) (last:Int),eK n last (l.map .int)=true->l.Pairwise (· < ·)/\∀ x∈l,last < x/\x < n
 | [],_,_=>⟨.nil,λ_ h=>by cases h⟩
 | x::r,last,h=>by
  rw [Qv,jE,Jc,Jc] at h
  obtain ⟨⟨h1,h2⟩,h3⟩:=h
  have h1:=of_decide_eq_true h1
  have h2:=of_decide_eq_true h2
  obtain ⟨i1,i2⟩:=rF n r x h3
  refine ⟨Xv.mpr ⟨λy hy=>(i2 y hy).1,i1⟩,λy hy=>?_⟩
  rcases Qj.mp hy with rfl | hy
  ·exact ⟨h1,h2⟩
  ·exact ⟨by have:=(i2 y hy).1; omega,(i2 y hy).2⟩
theorem bV {n:Int} (h:cT n (cZ l)=true):l≠[]/\(∀ x∈l,0<=x/\x < n)/\l.Pairwise (· < ·):=by
 have e:(!(l.map PyData.int).isEmpty && eK n (-1) (l.map .int))=true:=h
 rw [Jc] at e
 obtain ⟨h1,h2⟩:=rF n l (-1) e.2
 refine ⟨λz=>by rw [z] at e; simp at e,λx hx=>⟨by have:=(h2 x hx).1; omega,(h2 x hx).2⟩,h1⟩
theorem tW {n:Int}:∀ (l:List Int) (lo:Int),lo<=n->(∀ x∈l,lo<=x/\x < n)->l.Pairwise (· < ·)->(l.length:Int)<=n - lo
 | [],lo,h,_,_=>by simp; omega
 | x::r,lo,h,h1,h2=>by
  have k_:=Xv.mp h2
  have hx:=h1 x (Qk ..)
  have:=tW r (x+1) (by omega) (λy hy=>⟨by have:=k_.1 y hy; omega,(h1 y (Ql _ hy)).2⟩) k_.2
  rw [Jg]
  omega
theorem jP {n:Int} (hn:0<=n) (h1:∀ x∈l,0<=x/\x < n) (h2:l.Pairwise (· < ·)):(l.length:Int)<=n:=by
 have:=tW l 0 hn h1 h2
 omega
theorem aE8 {x:Int}:x∈mH n↔0<=x/\x < n:=by
 unfold mH
 rw [Qx]
 constructor
 ·rintro ⟨i,hi,rfl⟩
  have:=Xe.mp hi
  show 0<=(i:Int)/\(i:Int) < n
  omega
 ·rintro ⟨h1,h2⟩
  exact ⟨x.toNat,Xe.mpr (by omega),by show ((x.toNat:Nat):Int)=x; omega⟩
theorem aBw (n:Nat):(mH n).Pairwise (· < ·):=by
 unfold mH
 rw [List.pairwise_map]
 refine List.pairwise_lt_range.imp λh=>?_
 show ((_:Nat):Int) < ((_:Nat):Int)
 omega
theorem R! (hK:X.K=K) (hu:X.A.units+64 < cLine):dr X (compareOp .Eq) (λx y H Q=>∃ d e,Den K H d x/\Den K H e y/\gN d=true/\gN e=true/\SeqAt.shaped d=true/\SeqAt.shaped e=true/\Q (.bl (PyData.eqv d e)) H):=by subst hK; exact Pq hu
theorem rG:∀ (a b:List Int),PyData.eqvAll (a.map .int) (b.map .int)=decide (a=b)
 | [],[]=>by simp [PyData.eqvAll]
 | [],_::_=>by simp [PyData.eqvAll]
 | _::_,[]=>by simp [PyData.eqvAll]
 | x::r,y::s=>by
  rw [Qv,Qv,PyData.eqvAll,rG r s,PyData.eqv]
  by_cases h:x=y
  ·by_cases h2:r=s
   ·simp [h,h2]
   ·simp [h,h2]
  ·simp [h]
theorem aDt (a b:List Int):PyData.eqv (.list (a.map .int)) (.list (b.map .int))=decide (a=b):=by rw [PyData.eqv,rG]
theorem rj (x:V) : [x].length<=sizeLine:=by rw [Rg]; simp
theorem uo (x y:V) : [x,y].length<=sizeLine:=by rw [Rg]; simp
theorem dJ (h:n<=1000):n<=sizeLine:=by rw [Rg]; omega
def JC (K:Rc):Sp:=λvs H Q _=>∃ (t a:Addr) (ns:List Int) (n kd:Int),vs = [.ref t,.int n,.int kd]/\gB K H t a ns/\1<=n/\n<=6/\∀ l p H',cT n (cZ l)=true->az t H H'->gB K H' t a ns->aj K H' p (l.map V.int)->Q (.ref p) H'
theorem tX:ah ["tape", "hands", "kind", "first", "often", "some"] ["tape", "hands", "kind"] (aL wF):=⟨rfl,rfl,rfl,by decide +kernel,rfl,by decide +kernel,by decide +kernel⟩
theorem Q? (G:Fn K mg "_law_b_work" wF ["tape", "hands", "kind"] f fd) (B:Bl mg) (GD:Fn K mg "_law_b_digit" lI ["tape", "many"] fD qx) (OD:af P w K mg base a_ 2 fD qx ["tape", "many"] (kA K)):af P w K mg base a_ 3 f fd ["tape", "hands", "kind"] (JC K):=by
 refine G.fn.ok tX (λvs H Q E h=>?_) (λbj A outer s H vs Q E hr h=>?_)
 ·obtain ⟨t,a,ns,n,kd,rfl,_⟩:=h
  rfl
 ·obtain ⟨t,a,ns,n,kd,rfl,hT,jq,ia,k⟩:=h
  refine ⟨_,aG (aT (i:=3) tX.nd rfl (Or.inr rfl) (bH GD OD hr rfl (aA (pv 0) (aA (pv 1) aD))))
   (aG (bT (bB gL (pv 2) aI (bD _)) (aJ (aY (cL (aA (pv 3) aD)))) bG)
   (aG (bT (bB gL (pv 2) aI (bD _)) (aJ (aY (cB cC rfl B.tuple dZ (aA (aV (pH rfl) rfl B.sorted RA (aA (cB (aBm (w:=w) (K:=K) rfl rfl rfl) rfl B.set O2 (aA (cP (aA (pv 3) (aA (bE lU (bE eA (pv 3) aI) (pv 1)) aD))) aD)) aD)) aD)))) bG)
   (aG (bT (bB gL (pv 2) aI (bD _)) (aJ (aY (cB (sP rfl) rfl B.tuple dZ (aA (cB zH rfl B.range u! (aA (pv 1) aD)) aD)))) bG)
   (aG (aT (i:=4) tX.nd rfl (Or.inr rfl) (bE eA aI (bH GD OD hr rfl (aA (pv 0) (aA aI aD)))))
   (aG (aT (i:=5) tX.nd rfl (Or.inr rfl)
    (cQ (own:=["hand"]) (fr:=[3,4,0]) (bc:=["first", "often", "tape"]) (bP (aL wF) ["tape", "hands", "kind", "first", "often", "some"] rfl rfl (by decide +kernel)) rfl (fT rfl B.range (aA (pv 1) aD))
     (λ_ _ _ _=>aQ (i:=0) (show (["hand", "first", "often", "tape"]:List Str).Nodup by decide +kernel) rfl (Or.inl rfl))
     (λ_ _ _ _=>qB (PW.pt (kL (bB gL (pv 0) (pv 1) (bD _)) (jC (bB gL (bH GD OD hr rfl (aA (pv 3) (aA (pv 2) aD))) aI (bD _))))))
     (λ_ _ _ _=>pv 0)))
   (aG (bT (PW.pt (PN (bB gL (pv 2) aI (bD _)) (QV (bB yW (aV bL rfl B.len gY (aA (pv 5) aD)) (pv 1) (bD _)))))
    (aJ (aT (i:=5) tX.nd rfl (Or.inr rfl)
     (cQ (own:=["hand"]) (fr:=[5]) (bc:=["some"]) (bP (aL wF) ["tape", "hands", "kind", "first", "often", "some"] rfl rfl (by decide +kernel)) rfl (hJ (pv 5))
      (λ_ _ _ _=>aQ (i:=0) (show (["hand", "some"]:List Str).Nodup by decide +kernel) rfl (Or.inl rfl))
      (λ_ _ _ _=>qB (PW.pt (kL (bB FF (pv 0) aI (bD _)) (jC (bB (R! (K:=K) rfl hr.B_) (pv 1) (cP (aA aI aD)) (bD _))))))
      (λ_ _ _ _=>pv 0)))) bG)
   (aJ (aY (cB cC rfl B.tuple dZ (aA (pv 5) aD)))))))))),?_⟩
  refine ⟨_,rfl,_,rfl,t,a,ns,n,rfl,hT,by omega,by omega,λfirst H1 mq Ap b1 T1=>?_⟩
  obtain ⟨fn,rfl⟩:∃ fn:Nat,first=fn:=⟨first.toNat,by omega⟩
  obtain ⟨m,rfl⟩:∃ m:Nat,n=m:=⟨n.toNat,by omega⟩
  refine ⟨_,rfl,rfl,_,rfl,?_⟩
  refine cR (λc1=>?_) (λc1=>?_)
  ·refine ⟨_,rfl,rj _,λp hp=>?_⟩
   refine k [(fn:Int)] p _ (nG (by simp) (λx hx=>?_) (by simp)) (b1.trans (az.of (aE.new hp))) (T1.same (aE.new hp)) (aj.of aB)
   rw [Qq] at hx
   omega
  refine ⟨_,rfl,rfl,_,rfl,?_⟩
  refine cR (λc2=>?_) (λc2=>?_)
  ·have Ec:0<=((fn:Int)+1) % (m:Int):=Xf _ (by omega)
   have Eb:((fn:Int)+1) % (m:Int) < m:=Xb _ (by omega)
   have hg:∃ g:Nat,((fn:Int)+1) % (m:Int)=g:=⟨(((fn:Int)+1) % (m:Int)).toNat,by omega⟩
   obtain ⟨g,hg⟩:=hg
   refine ⟨_,rfl,_,rfl,_,_,rfl,rfl,_,rfl,_,_,rfl,rfl,(show (0:Int) < (m:Int) by omega),uo _ _,λl hl=>?_⟩
   rw [hg] at Ec Eb
   refine ⟨l,[(fn:Int),(g:Int)],[(fn:Int),(g:Int)],rfl,ak.of (by rw [aB]; show some (HO.lst [V.int (fn:Int),V.int (((fn:Int)+1) % (m:Int))])=_; rw [hg]; rfl),by show 2<=3; decide,λ_ h=>h,λp us hp _ hu hle=>⟨p,us,rfl,aB,by omega,λq out LL hq=>⟨q,_,rfl,.inl ⟨ak.of aB,λr fg=>?_⟩⟩⟩⟩
   have sm:=((aE.new (o:=.lst [.int (fn:Int),.int (((fn:Int)+1) % (m:Int))]) hl).trans ((aE.new hp).trans ((aE.new hq).trans (aE.new (o:=.tup (out.map V.int)) fg))))
   have mo:∀ x,x∈out↔x∈[(fn:Int),(g:Int)]:=λx=>(LL.2 x).trans (hu x)
   refine k out r _ (nG (List.ne_nil_of_mem ((mo fn).mpr (Qk ..))) (λx hx=>?_) LL.1) (b1.trans (az.of sm)) (T1.same sm) (aj.of aB)
   have e:=(mo x).mp hx
   simp only [Qj,Qp,or_false] at e
   rcases e with e | e <;> omega
  refine ⟨_,rfl,rfl,_,rfl,?_⟩
  refine cR (λc3=>?_) (λc3=>?_)
  ·refine ⟨_,rfl,(m:Int),rfl,λp hp=>⟨p,m,rfl,aB,by omega,λq H' s' hq=>?_⟩⟩
   have sm:=(aE.new hp).trans s'
   refine k (mH m) q H' (nG (λz=>?_) (λx hx=>aE8.mp hx) (aBw m)) (b1.trans (az.of sm)) (T1.same sm) hq
   have:=mT m
   rw [z] at this
   simp at this
   omega
  refine ⟨_,rfl,t,a,ns,3,rfl,T1,by decide,by decide,λr H2 Ai CC b2 T2=>⟨_,_,rfl,rfl,?_⟩⟩
  have X_:=b1.trans b2
  refine ⟨_,rfl,(m:Int),rfl,by omega,by omega,jM (lo:=0) (n:=((m:Int)).toNat) (λσ=>∃ v,σ = [v,some (.int (fn:Int)),some (.int (2+r)),some (.ref t)])
   (λi ys H3=>∃ l:List Int,ys=l.map V.int/\l.Pairwise (· < ·)/\(∀ x∈l,0<=x/\x < i)/\(fn < i->l≠[])/\az t H H3/\gB K H3 t a ns) (dJ (by omega)) ⟨none,rfl⟩
   ⟨[],rfl,.nil,λ_ h=>(Qp h).elim,λh=>(Zm _ h).elim,X_,T2⟩ ?_ ?_ ?_⟩
  ·rintro i ys H3 ⟨l,rfl,h1,h2,_⟩
   rw [Qc]
   have:=jP (n:=(i:Int)) (by omega) h2 h1
   omega
  ·rintro i ys σ H3 hi ⟨v,rfl⟩ ⟨l,rfl,h1,h2,h3,b3,T3⟩ hz
   have jf:(l++[(i:Int)]).Pairwise (· < ·)/\∀ x∈l++[(i:Int)],0<=x/\x < ((i+1:Nat):Int):=by
    refine ⟨Wg.mpr ⟨h1,by simp,λx hx y hy=>?_⟩,λx hx=>?_⟩
    ·rw [Qq] at hy
     have:=(h2 x hx).2
     omega
    ·rcases Qw.mp hx with hx | hx
     ·have:=h2 x hx
      omega
     ·rw [Qq] at hx
      omega
   refine ⟨_,rfl,_,rfl,rfl,_,rfl,?_⟩
   refine cR (λc4=>?_) (λc4=>?_)
   ·refine jD ?_
    refine ⟨_,rfl,hz,⟨_,rfl⟩,l++[(i:Int)],by simp,jf.1,jf.2,λ_=>by simp,b3,T3⟩
   ·have Og:¬ (fn:Int)=i:=λz=>c4 (by simp [z])
    refine ⟨_,rfl,_,rfl,t,a,ns,2+r,rfl,T3,by omega,by omega,λr4 H4 aag aaf b4 T4=>⟨rfl,_,rfl,?_⟩⟩
    refine cR (λc5=>?_) (λc5=>?_)
    ·refine ⟨_,rfl,hz,⟨_,rfl⟩,l++[(i:Int)],by simp,jf.1,jf.2,λ_=>by simp,b3.trans b4,T4⟩
    ·refine ⟨⟨_,rfl⟩,l,rfl,h1,λx hx=>?_,λh=>h3 (by omega),b3.trans b4,T4⟩
     have:=h2 x hx
     omega
  ·rintro ys H3 ⟨l,rfl,h1,h2,h3,b3,T3⟩ p hp
   have vq:l≠[]:=h3 (by omega)
   have k_:∀ x∈l,0<=x/\x < (m:Int):=λx hx=>by have:=h2 x hx; omega
   have K2:=jP (by omega) k_ h1
   have sp:=aE.new (o:=.lst (l.map V.int)) hp
   have FI:=T3.same sp
   have Fl:=b3.trans (az.of sp)
   have ntp:p≠t:=T3.ne hp
   have iq:upd H3 p (.lst (l.map V.int)) p=some (.lst (l.map V.int)):=aB
   generalize hH5:upd H3 p (.lst (l.map V.int))=H5 at FI Fl iq ⊢
   refine ⟨_,rfl,rfl,_,rfl,?_⟩
   refine cR (λc4=>?_) (λc4=>?_)
   ·refine ⟨_,rfl,p,_,rfl,.inl (ak.of iq),_,rfl,_,_,rfl,rfl,_,rfl,?_⟩
    refine cR (λc5=>?_) (λc5=>?_)
    ·refine ⟨_,rfl,p,rfl,⟨_,ak.of iq⟩,vV (K:=K) (a:=p) (xs:=l.map V.int) (λσ=>∃ v,σ = [v,some (.ref p)]) (λi ys H6=>aE H5 H6/\ys=((l.take i).filter λh=>decide (0 < h) || decide (l = [0])).map V.int) (dJ (by rw [Qc]; omega)) ⟨none,rfl⟩ ⟨aE.refl _,rfl⟩ ?_ ?_ ?_ ?_⟩
     ·rintro i ys H6 ⟨_,rfl⟩
      rw [Qc]
      exact Jl (Zo _ _) (by rw [Qu]; omega)
     ·rintro i ys H6 ⟨s6,_⟩
      exact s6.cm (ak.of iq)
     ·rintro i ys σ x H6 hx ⟨v,rfl⟩ ⟨s6,rfl⟩ hz
      rw [Qh] at hx
      obtain ⟨h,hh,rfl⟩:∃ h,l[i]?=some h/\V.int h=x:=by
       cases q:l[i]? with
       | none=>rw [q] at hx; cases hx
       | some h=>rw [q] at hx; exact ⟨h,rfl,Option.some.inj hx⟩
      have j6:l.take (i+1)=l.take i++[h]:=by rw [Js,hh]; rfl
      refine ⟨_,rfl,_,_,rfl,rfl,_,rfl,?_⟩
      refine cR (λc6=>?_) (λc6=>?_)
      ·refine jD ?_
       refine ⟨_,rfl,hz,⟨_,rfl⟩,s6,?_⟩
       rw [j6,Zj,Qy]
       simp [of_decide_eq_true c6]
      ·refine ⟨_,rfl,rj _,λq hq=>?_⟩
       have s7:=s6.trans (aE.new (o:=.lst [V.int 0]) hq)
       refine ⟨.list (l.map .int),.list ([0].map .int),qC.mpr ⟨p,rfl,s7.cm (ak.of iq)⟩,qC.mpr ⟨q,rfl,ak.of aB⟩,hG _,hG _,iZ _,iZ _,_,rfl,?_⟩
       rw [aDt]
       refine cR (λc7=>?_) (λc7=>?_)
       ·refine ⟨_,rfl,hz,⟨_,rfl⟩,s7,?_⟩
        rw [j6,Zj,Qy]
        simp [of_decide_eq_true c7]
       ·refine ⟨⟨_,rfl⟩,s7,?_⟩
        rw [j6,Zj,Qy]
        have HZ:¬ 0 < h:=λz=>c6 (decide_eq_true z)
        have X3:¬ l = [0]:=λz=>c7 (decide_eq_true z)
        simp [HZ,X3]
     ·rintro ys H6 ⟨s6,rfl⟩ q hq
      rw [Qc,Jq]
      have lj:(l.filter λh=>decide (0 < h) || decide (l = [0])).Sublist l:=Wm
      refine ⟨_,rfl,q,_,rfl,.inl ⟨ak.of aB,λr5 U7=>?_⟩⟩
      have sm:=s6.trans ((aE.new (o:=.lst ((l.filter λh=>decide (0 < h) || decide (l = [0])).map V.int)) hq).trans (aE.new (o:=.tup ((l.filter λh=>decide (0 < h) || decide (l = [0])).map V.int)) U7))
      refine k (l.filter λh=>decide (0 < h) || decide (l = [0])) r5 _ (nG ?_ (λx hx=>k_ x (lj.mem hx)) (h1.sublist lj)) (Fl.trans (az.of sm)) (FI.same sm) (aj.of aB)
      intro z
      rw [List.filter_eq_nil_iff] at z
      by_cases hl:l = [0]
      ·have:=z 0 (by rw [hl]; simp)
       simp [hl] at this
      ·apply hl
       have t8:∀ x∈l,x=0:=λx hx=>by
        have hz:=z x hx
        have:=(k_ x hx).1
        simp [hl] at hz
        omega
       match l,vq,h1,t8 with
       | [x],_,_,ha=>rw [ha x (Qq.mpr rfl)]
       | x::y::r,_,hp,ha =>
        exfalso
        have h3:=(Xv.mp hp).1 y (Qk ..)
        rw [ha x (Qk ..),ha y (Ql _ (Qk ..))] at h3
        omega
    ·refine ⟨_,rfl,p,_,rfl,.inl ⟨ak.of iq,λq hq=>?_⟩⟩
     exact k l q _ (nG vq k_ h1) (Fl.trans (az.of (aE.new hq))) (FI.same (aE.new hq)) (aj.of aB)
   ·refine iN ?_
    refine ⟨_,rfl,p,_,rfl,.inl ⟨ak.of iq,λq hq=>?_⟩⟩
    exact k l q _ (nG vq k_ h1) (Fl.trans (az.of (aE.new hq))) (FI.same (aE.new hq)) (aj.of aB)
def FR (K:Rc) (a f:Addr) (ns:List Int):Prop:=a≠f∨∀ H,ak K H a (ns.map V.int)
theorem PD (h:ak K H a (ns.map V.int)) (hf:H f=none):FR K a f ns:=by
 rcases h with (h | ⟨o,h⟩) | h
 ·exact .inl λz=>by rw [z,hf] at h; cases h
 ·exact .inl λz=>by rw [z,hf] at h; cases h
 ·exact .inr λ_=>.inr h
theorem gB.wr {t:Addr} (T:gB K H t a ns) (b:az f H H') (n:t≠f) (F:FR K a f ns):gB K H' t a ns:=by
 obtain ⟨⟨p,q,h1,h2⟩,h3⟩:=T
 refine ⟨⟨p,q,h1,b t _ n h2⟩,?_⟩
 rcases F with F | F
 ·exact b.cm F h3
 ·exact F H'
theorem tY {h:Int}:eG (.int h) l=true↔h∈l:=by
 show (l.any (·==h))=true↔_
 rw [Zs]
 constructor
 ·rintro ⟨x,hx,e⟩
  have:x=h:=by simpa using e
  exact this ▸ hx
 ·exact λhx=>⟨h,hx,by simp⟩
theorem pO (h1:hs.length=ws.length) (h2:∀ (j:Nat) (h:Int) (l:List Int),hs[j]?=some h->ws[j]?=some l->h∈l):fP ws (iH hs)=true:=by
 show (decide ((hs.map PyData.int).length=ws.length) && ((hs.map PyData.int).zip ws).all λp=>eG p.1 p.2)=true
 rw [Qc,decide_eq_true h1,Xo,Jm]
 rintro ⟨d,l⟩ hm
 obtain ⟨j,hj⟩:=Jd.mp hm
 rw [Jh] at hj
 obtain ⟨vt,CI⟩:=hj
 have vt:(hs.map PyData.int)[j]?=some d:=vt
 have CI:ws[j]?=some l:=CI
 rw [Qh] at vt
 cases q:hs[j]? with
 | none=>rw [q] at vt; cases vt
 | some h =>
  rw [q] at vt
  obtain rfl:PyData.int h=d:=Option.some.inj vt
  exact tY.mpr (h2 j h l q CI)
theorem gH (h:fP ws (iH hs)=true):hs.length=ws.length/\∀ (j:Nat) (h:Int) (l:List Int),hs[j]?=some h->ws[j]?=some l->h∈l:=by
 have h':(decide ((hs.map PyData.int).length=ws.length) && ((hs.map PyData.int).zip ws).all λp=>eG p.1 p.2)=true:=h
 rw [Qc,Jc,Jm] at h'
 refine ⟨of_decide_eq_true h'.1,λj h l hj hl=>?_⟩
 refine tY.mp (h'.2 (.int h,l) (Qi (i:=j) ?_))
 rw [Jh]
 exact ⟨by rw [Qh,hj]; rfl,hl⟩
theorem P4 {n:Int} (h1:1<=n) (h2:n<=6) (h3:ws.length<=12) (h4:∀ l∈ws,cT n (cZ l)=true):bU (cJ n ws)=true:=by
 show (decide (1<=n) && decide (n<=6) && decide ((ws.map cZ).length<=12) && (ws.map cZ).all (cT n))=true
 rw [decide_eq_true h1,decide_eq_true h2,Qc,decide_eq_true h3,Xo,Xo,Xo,Jm]
 intro d hd
 obtain ⟨l,hl,rfl⟩:=Qx.mp hd
 exact h4 l hl
theorem aDu {n:Int} (h1:aj K H a [.int n,.ref b]) (h2:aj K H b ys) (h3:aZ K H (ws.map cZ) ys):Den K H (cJ n ws) (.ref a) :=
 bF.mpr ⟨a,_,rfl,h1,aS.mpr ⟨_,_,rfl,cI.mpr rfl,aS.mpr ⟨_,_,rfl,bF.mpr ⟨b,ys,rfl,h2,h3⟩,aW.mpr rfl⟩⟩⟩
def Pj (K:Rc):Sp:=λvs H Q _=>∃ (t a:Addr) (ns:List Int),vs = [.ref t,.int 6,.int 8]/\gB K H t a ns/\∀ n ws p H',bU (cJ n ws)=true->az t H H'->gB K H' t a ns->Den K H' (cJ n ws) (.ref p)->Q (.ref p) H'
theorem oN:ah ["tape", "hands", "works", "many", "kind", "found", "k", "sort"] ["tape", "hands", "works"] (aL Fv):=⟨rfl,rfl,rfl,by decide +kernel,rfl,by decide +kernel,by decide +kernel⟩
theorem Q! {C6:FuncData} (G:Fn K mg "_law_b_book" Fv ["tape", "hands", "works"] f fd) (B:Bl mg) (GD:Fn K mg "_law_b_digit" lI ["tape", "many"] fD qx) (OD:af P w K mg base a_ 2 fD qx ["tape", "many"] (kA K)) (GK:Fn K mg "_law_b_work" wF ["tape", "hands", "kind"] fK C6) (OK:af P w K mg base a_ 3 fK C6 ["tape", "hands", "kind"] (JC K)):af P w K mg base a_ 4 f fd ["tape", "hands", "works"] (Pj K):=by
 refine G.fn.ok oN (λvs H Q E h=>?_) (λbj A outer s H vs Q E hr h=>?_)
 ·obtain ⟨t,a,ns,rfl,_⟩:=h
  rfl
 ·obtain ⟨t,a,ns,rfl,hT,k⟩:=h
  have fg:ay 2 _:=hr.mono (by decide)
  refine ⟨_,aG (aT (i:=3) oN.nd rfl (Or.inl rfl) (bE eA aI (bH GD OD fg rfl (aA (pv 0) (aA (pv 1) aD)))))
   (aG (aT (i:=4) oN.nd rfl (Or.inl rfl) (bH GD OD fg rfl (aA (pv 0) (aA aI aD))))
   (aG (aT (i:=5) oN.nd rfl (Or.inl rfl) (cP aD))
   (aG (eS PassesOwn.never rfl (fT rfl B.range (aA (bH GD OD fg rfl (aA (pv 0) (aA (bE eA (pv 2) aI) aD))) aD)) (aQ (i:=6) oN.nd rfl (Or.inl rfl))
    (aG (aT (i:=7) oN.nd rfl (Or.inl rfl) (pv 4))
    (aG (bT (bB FF (pv 4) aI (bD _)) (aJ (aT (i:=7) oN.nd rfl (Or.inl rfl) (bH GD OD fg rfl (aA (pv 0) (aA aI aD))))) bG)
    (aJ (bX (nS Rr Td Tf iL (pv 5) (aA (bH GK OK hr rfl (aA (pv 0) (aA (pv 3) (aA (pv 7) aD)))) aD)))))))
   (aJ (aY (cL (aA (pv 3) (aA (cB cC rfl B.tuple dZ (aA (pv 5) aD)) aD)))))))),?_⟩
  refine ⟨_,rfl,_,rfl,t,a,ns,6,rfl,hT,by decide,by decide,λr H1 Ai CC b1 T1=>⟨_,_,rfl,rfl,?_⟩⟩
  refine ⟨_,rfl,t,a,ns,8,rfl,T1,by decide,by decide,λkd H2 hk0 L7 b2 T2=>?_⟩
  refine ⟨dJ (Jb _),λfl m9=>?_⟩
  have ph:t≠fl:=λz=>T2.ne m9 z.symm
  have F:FR K a fl ns:=PD T2.2 m9
  have s3:=aE.new (o:=.lst []) m9
  have xq:H fl=none:=(b1.trans b2).free m9 (Ne.symm ph)
  have T3:=T2.same s3
  have BY:=b1.trans (b2.trans (az.of s3))
  have nu:upd H2 fl (.lst []) fl=some (.lst []):=aB
  generalize WQ:upd H2 fl (.lst [])=H3 at T3 BY nu ⊢
  refine ⟨_,rfl,_,rfl,_,_,rfl,rfl,t,a,ns,9,rfl,T3,by decide,by decide,λm H4 hm0 m7 b4 T4=>?_⟩
  refine ⟨m,rfl,by omega,by omega,kM (lo:=0) (n:=m.toNat) (λi σ H5=>∃ (ws:List (List Int)) (xs:List V) (v v2:Option V),σ = [some (.ref t),some (.int 6),some (.int 8),some (.int (1+r)),some (.int kd),some (.ref fl),v,v2]/\ws.length=i /\
   (∀ l∈ws,cT (1+r) (cZ l)=true)/\H5 fl=some (.lst xs)/\aZ K H5 (ws.map cZ) xs/\az t H H5/\gB K H5 t a ns)
   ⟨[],[],none,none,rfl,rfl,λ_ h=>(Qp h).elim,b4 fl _ (Ne.symm ph) nu,aW.mpr rfl,BY.trans b4,T4⟩ ?_ ?_⟩
  ·rintro i σ H5 hi ⟨ws,xs,v,v2,rfl,hl,hw,hx,hd,b5,T5⟩
   have pq:xs.length=i:=by rw [aH hd,Qc,hl]
   refine ⟨_,rfl,?_⟩
   refine ⟨_,rfl,_,_,rfl,rfl,_,rfl,?_⟩
   refine cR (λc1=>?_) (λc1=>?_)
   ·refine ⟨_,rfl,t,a,ns,5,rfl,T5,by decide,by decide,λr2 H6 aai aah b6 T6=>?_⟩
    obtain ⟨⟨p5,q5,h5,GL⟩,U6⟩:=id T5
    have Cv:H6 fl=some (.lst xs):=b6 fl _ (Ne.symm ph) hx
    have Hk:=b6.ag GL _ _ (cG _ cK ws) hd
    refine ⟨_,rfl,.inl ⟨rfl,_,ak.of Cv⟩,_,rfl,_,rfl,_,rfl,t,a,ns,1+r,r2,rfl,T6,by omega,by omega,λl p H7 Ah b7 T7 By=>?_⟩
    obtain ⟨⟨p6,q6,h6,GJ⟩,U5⟩:=id T6
    have Af:H7 fl=some (.lst xs):=b7 fl _ (Ne.symm ph) Cv
    have Hj:=b7.ag GJ _ _ (cG _ cK ws) Hk
    refine ⟨fl,xs,.ref p,rfl,rfl,Af,by rw [Rg]; omega,?_⟩
    have b8:az fl H7 (upd H7 fl (.lst (xs++[.ref p]))):=az.at
    refine ⟨ws++[l],xs++[.ref p],_,_,rfl,by rw [Qn,hl]; rfl,λl2 oq=>?_,aB,?_,(λb o nb hb=>by rw [aK (λz=>by rw [z,xq] at hb; cases hb)]; exact ((b5.trans b6).trans b7) b o nb hb),T7.wr b8 ph F⟩
    ·rcases Qw.mp oq with h | h
     ·exact hw l2 h
     ·rw [Qq.mp h]; exact Ah
    ·rw [Qy]
     refine bA (b8.ag Af _ _ (cG _ cK ws) Hj) (aS.mpr ⟨_,_,rfl,?_,aW.mpr rfl⟩)
     exact bC.mpr ⟨p,rfl,b8.ai Af By⟩
   ·show _
    obtain ⟨⟨p5,q5,h5,GL⟩,U6⟩:=id T5
    have Cv:H5 fl=some (.lst xs):=(az.refl t H5) fl _ (Ne.symm ph) hx
    have Hk:=(az.refl t H5).ag GL _ _ (cG _ cK ws) hd
    refine ⟨_,rfl,.inl ⟨rfl,_,ak.of Cv⟩,_,rfl,_,rfl,_,rfl,t,a,ns,1+r,kd,rfl,T5,by omega,by omega,λl p H7 Ah b7 T7 By=>?_⟩
    obtain ⟨⟨p6,q6,h6,GJ⟩,U5⟩:=id T5
    have Af:H7 fl=some (.lst xs):=b7 fl _ (Ne.symm ph) Cv
    have Hj:=b7.ag GJ _ _ (cG _ cK ws) Hk
    refine ⟨fl,xs,.ref p,rfl,rfl,Af,by rw [Rg]; omega,?_⟩
    have b8:az fl H7 (upd H7 fl (.lst (xs++[.ref p]))):=az.at
    refine ⟨ws++[l],xs++[.ref p],_,_,rfl,by rw [Qn,hl]; rfl,λl2 oq=>?_,aB,?_,(λb o nb hb=>by rw [aK (λz=>by rw [z,xq] at hb; cases hb)]; exact ((b5.trans (az.refl t H5)).trans b7) b o nb hb),T7.wr b8 ph F⟩
    ·rcases Qw.mp oq with h | h
     ·exact hw l2 h
     ·rw [Qq.mp h]; exact Ah
    ·rw [Qy]
     refine bA (b8.ag Af _ _ (cG _ cK ws) Hj) (aS.mpr ⟨_,_,rfl,?_,aW.mpr rfl⟩)
     exact bC.mpr ⟨p,rfl,b8.ai Af By⟩
  ·rintro σ H5 ⟨ws,xs,v,v2,rfl,hl,hw,hx,hd,b5,T5⟩
   refine ⟨_,rfl,_,rfl,fl,_,rfl,.inl ⟨ak.of hx,λq hq=>⟨uo _ _,λp hp=>?_⟩⟩⟩
   have sm:=(aE.new (o:=.tup xs) hq).trans (aE.new (o:=.tup [.int (1+r),.ref q]) hp)
   refine k (1+r) ws p _ (P4 (by omega) (by omega) (by omega) hw) (b5.trans (az.of sm)) (T5.same sm) ?_
   refine aDu (aj.of aB) ((aE.new hp).ai (aj.of aB)) (sm.ag _ _ hd)
def Ph (K:Rc):Sp:=λvs H Q _=>∃ (t a:Addr) (ns:List Int) (x:V) (n:Int) (ws:List (List Int)),vs = [.ref t,x]/\gB K H t a ns/\Den K H (cJ n ws) x/\bU (cJ n ws)=true/\∀ hs p H',fP ws (iH hs)=true->az t H H'->gB K H' t a ns->Den K H' (iH hs) (.ref p)->Q (.ref p) H'
theorem r!:ah ["tape", "book"] ["tape", "book"] (aL Dg):=⟨rfl,rfl,rfl,by decide +kernel,rfl,by decide +kernel,by decide +kernel⟩
theorem P? (G:Fn K mg "_law_b_deal" Dg ["tape", "book"] f fd) (B:Bl mg) (GD:Fn K mg "_law_b_digit" lI ["tape", "many"] fD qx) (OD:af P w K mg base a_ 2 fD qx ["tape", "many"] (kA K)):af P w K mg base a_ 3 f fd ["tape", "book"] (Ph K):=by
 refine G.fn.ok r! (λvs H Q E h=>?_) (λbj A outer s H vs Q E hr h=>?_)
 ·obtain ⟨t,a,ns,x,n,ws,rfl,_⟩:=h
  rfl
 ·obtain ⟨t,a,ns,x,n,ws,rfl,hT,hx,hb,k⟩:=h
  refine ⟨_,aJ (aY (cB cC rfl B.tuple dZ (aA
   (cQ (own:=["able"]) (fr:=[0]) (bc:=["tape"]) (bP (aL Dg) ["tape", "book"] rfl rfl (by decide +kernel)) rfl (iK (bK fU (pv 1) aI (λ_ _=>rfl)))
    (λ_ _ _ _=>aQ (i:=0) (show (["able", "tape"]:List Str).Nodup by decide +kernel) rfl (Or.inl rfl)) (λ_ _ _ _=>eO)
    (λ_ _ _ _=>bK (cD (K:=K) rfl) (pv 0) (bH GD OD hr rfl (aA (pv 1) (aA (aV (kJ (K:=K) rfl) rfl B.len gY (aA (pv 0) aD)) aD))) (λ_ _=>rfl))) aD))),?_⟩
  obtain ⟨jq,ia,Fd,fv⟩:=bO hb
  obtain ⟨ba,bb,ys,rfl,ha,ee,dk⟩:=dM hx
  have i8:=aH dk
  rw [Qc] at i8
  refine ⟨_,rfl,ba,_,1,.ref bb,rfl,rfl,ha,rfl,bb,rfl,⟨_,ee⟩,kR (K:=K) (a:=bb) (xs:=ys) (λσ=>∃ v,σ = [v,some (.ref t)]) (λi zs H3=>∃ hs:List Int,zs=hs.map V.int/\hs.length=i/\(∀ (j:Nat) (h:Int) (l:List Int),hs[j]?=some h->ws[j]?=some l->h∈l)/\az t H H3/\gB K H3 t a ns)
   (dJ (by omega)) ⟨none,rfl⟩ ⟨[],rfl,rfl,λj h l e=>by simp at e,az.refl t H,hT⟩ ?_ ?_ ?_ ?_⟩
  ·rintro i zs H3 ⟨hs,rfl,rfl,_⟩
   rw [Qc]
   exact Qe _
  ·rintro i zs H3 ⟨hs,rfl,rfl,_,b3,_⟩
   exact hT.ai b3 ee
  ·rintro i zs σ x H3 UX ⟨v,rfl⟩ ⟨hs,rfl,hl,hg,b3,T3⟩ hz
   obtain ⟨dx,m_,qj⟩:=bS dk UX
   rw [Qh] at m_
   obtain ⟨l,G6,rfl⟩:∃ l,ws[i]?=some l/\cZ l=dx:=by
    cases q:ws[i]? with
    | none=>rw [q] at m_; cases m_
    | some l=>rw [q] at m_; exact ⟨l,rfl,Option.some.inj m_⟩
   obtain ⟨w1,w2,w3⟩:=bV (fv l (Qi G6))
   have LN:=jP (by omega) w2 w3
   have vp:0 < l.length:=Zf.mpr w1
   obtain ⟨av,rfl,E5⟩:=bC.mp qj
   refine eT ?_
   refine ⟨_,rfl,_,rfl,_,rfl,av,_,rfl,.inr (hT.ai b3 E5),t,a,ns,_,rfl,T3,?_,?_,λr H4 Ai CC b4 T4=>?_⟩
   ·rw [Qc]; omega
   ·rw [Qc]; omega
   ·rw [Qc] at CC
    have ax:r.toNat < l.length:=by omega
    have j':ka (l.map V.int) r=some (.int l[r.toNat]):=by
     have h1:(l.map V.int)[r.toNat]?=some (.int (l[r.toNat])):=by rw [Qh,Qb ax]; rfl
     have h2:=cW h1
     rwa [Xt Ai] at h2
    refine ⟨av,_,_,_,rfl,rfl,hT.ai (b3.trans b4) E5,j',hz,⟨_,rfl⟩,hs++[l[r.toNat]],by simp,by rw [Qn,hl]; rfl,λj h l2 e1 e2=>?_,b3.trans b4,T4⟩
    by_cases hj:j < hs.length
    ·rw [Qz hj] at e1
     exact hg j h l2 e1 e2
    ·rw [Jr (by omega)] at e1
     have e3:j - hs.length=0:=by
      have:=(Qd.mp e1).1
      simp at this
      omega
     rw [e3] at e1
     have e4:j=i:=by omega
     rw [e4,G6] at e2
     obtain rfl:=Option.some.inj e2
     have e5:l[r.toNat]=h:=by simpa using e1
     rw [<- e5]
     exact Jt ax
  ·rintro zs H3 ⟨hs,rfl,hl,hg,b3,T3⟩ p hp
   refine ⟨p,_,rfl,.inl ⟨ak.of aB,λq hq=>?_⟩⟩
   have sm:=(aE.new (o:=.lst (hs.map V.int)) hp).trans (aE.new (o:=.tup (hs.map V.int)) hq)
   exact k hs q _ (pO (by omega) hg) (b3.trans (az.of sm)) (T3.same sm) (bC.mpr ⟨q,rfl,aj.of aB⟩)
theorem gA.hand {x:V} {n:Int} (g:gA K H x y n ws hs) {h:Int} (e:hs[i]?=some h):0<=h/\h < n:=by
 obtain ⟨_,_,_,hw⟩:=bO g.2.1
 obtain ⟨hl,hd⟩:=gH g.2.2.2
 have hi:i < ws.length:=by rw [<- hl]; exact (Qd.mp e).1
 have hm:=hd i h ws[i] e (Qb hi)
 exact (bV (hw _ (Jt hi))).2.1 h hm
theorem tZ {n:Int} (h:j < n.toNat):(gW n hs)[j]?=some ((hs.count (j:Int):Nat):Int):=by
 unfold gW
 rw [Qh,Q7 h]
 rfl
def gI (ws:List (List Int)) (hs:List Int):List Int->Bool
 | [k,g,t]=>decide (0<=k) && (decide (k < hs.length) && (hs[k.toNat]?==some g && (!decide (t=g) && decide (t∈ws.getD k.toNat []))))
 | _=>false
def lJ (st:List Int):Int:=st.getD 1 0
def uA (st:List Int):Int:=st.getD 2 0
def cA:List (List Int)->List Int
 | []=>[]
 | s::r=>lJ s::(s::r).map uA
def sD (L:List (List Int)):Bool:=(L.zip (cA L)).all λp=>lJ p.1==p.2
def oO (ws:List (List Int)) (hs:List Int) (L:List (List Int)):Bool:=!L.isEmpty && (L.all (gI ws hs) && (sD L && decide ((cA L).Nodup)))
theorem wJ {st:List Int} (h:gI ws hs st=true):∃ k g t,st = [k,g,t]:=by
 match st,h with
 | [k,g,t],_=>exact ⟨k,g,t,rfl⟩
theorem aDv {st:List Int} (h:st.length≠3):gI ws hs st=false:=by
 match st,h with
 | [],_=>rfl
 | [_],_=>rfl
 | [_,_],_=>rfl
 | [_,_,_],h=>exact absurd rfl h
 | _::_::_::_::_,_=>rfl
theorem YE {st:List Int} (h:st.length=3):∃ k g t,st = [k,g,t]:=by
 match st,h with
 | [k,g,t],_=>exact ⟨k,g,t,rfl⟩
theorem lK (h:aZ K H (ws.map cZ) ys) (e:ws[i]?=some l):∃ c,ys[i]?=some (.ref c)/\aj K H c (l.map V.int):=by
 have hl:=aH h
 rw [Qc] at hl
 have hi:i < ys.length:=by rw [hl]; exact (Qd.mp e).1
 obtain ⟨d,e1,e2⟩:=bS h (Qb hi)
 rw [Qh,e] at e1
 obtain rfl:=(Option.some.inj e1).symm
 obtain ⟨c,e3,e4⟩:=bC.mp e2
 exact ⟨c,by rw [Qb hi,e3],e4⟩
theorem aFc {k:Int} {x:Int} (h0:0<=k) (h:l[k.toNat]?=some x):ka (l.map V.int) k=some (.int x):=by
 have h1:(l.map V.int)[k.toNat]?=some (.int x):=by rw [Qh,h]; rfl
 have h2:=cW h1
 rwa [Xt h0] at h2
theorem q? {l:List V} {k:Int} {x:V} (h0:0<=k) (h:l[k.toNat]?=some x):ka l k=some x:=by
 have h2:=cW h
 rwa [Xt h0] at h2
def Pg (K:Rc):Sp:=λvs H Q _=>∃ x y b n ws hs l,vs = [x,y,.ref b]/\gA K H x y n ws hs/\aj K H b (l.map V.int)/\l.length<=1000/\∀ H',aE H H'->Q (.bl (gI ws hs l)) H'
theorem yJ:ah ["book", "deal", "step", "work", "giver", "taker"] ["book", "deal", "step"] (aL tQ):=⟨rfl,rfl,rfl,by decide +kernel,rfl,by decide +kernel,by decide +kernel⟩
theorem aFe {k g t:Int} {h:Int} (k0:0<=k) (k1:k < hs.length) (eh:hs[k.toNat]?=some h) (el:ws[k.toNat]?=some l):gI ws hs [k,g,t]=(decide (V.int h=V.int g) && (!decide (V.int t=V.int g) && l.any (·==t))):=by
 show (decide (0<=k) && (decide (k < hs.length) && (hs[k.toNat]?==some g && (!decide (t=g) && decide (t∈ws.getD k.toNat [])))))=_
 rw [decide_eq_true k0,decide_eq_true k1,eh]
 have e1:ws.getD k.toNat []=l:=by rw [Jk,el]; rfl
 rw [e1]
 have e2:(some h==some g)=decide (V.int h=V.int g):=by
  by_cases z:h=g
  ·subst z; simp
  ·rw [decide_eq_false (λq=>z (V.int.inj q))]; simpa using z
 have e3:decide (t=g)=decide (V.int t=V.int g):=by
  by_cases z:t=g
  ·subst z; simp
  ·rw [decide_eq_false z,decide_eq_false (λq=>z (V.int.inj q))]
 have e4:decide (t∈l)=l.any (·==t):=by
  rw [Xj,decide_eq_true_iff,Zs]
  constructor
  ·intro h; exact ⟨t,h,by simp⟩
  ·rintro ⟨y,hy,e⟩; have:y=t:=by simpa using e
   rw [<- this]; exact hy
 rw [e2,e3,e4]
 rfl
theorem P! (G:Fn K mg "is_step" tQ ["book", "deal", "step"] f fd) (B:Bl mg) (R:Pr K mg fW fH fK fB gk fD f' fL dW dH dK dB gm dD f_ dL):af P w K mg base a_ 2 f fd ["book", "deal", "step"] (Pg K):=by
 have OW:af P w K mg base a_ 1 fW dW ["thing"] (nE K):=mS R.W B
 refine G.fn.ok yJ (λvs H Q E h=>?_) (λbj A outer s H vs Q E hr h=>?_)
 ·obtain ⟨x,y,b,n,ws,hs,l,rfl,_⟩:=h
  rfl
 ·obtain ⟨x,y,b,n,ws,hs,l,rfl,g,hb,hl,k⟩:=h
  have r1:ay 1 _:=hr
  refine ⟨_,(aG (bT (PW.pt (kL (eM (eJ (aV eP rfl B.isinstance mO (aA (pv 2) (aA (iT (v:=.ty "tuple") rfl B.tuple dZ rfl) aD))))) (jC (bB lV (aV bL rfl B.len gY (aA (pv 2) aD)) aI (bD _)))))
   (aJ (aY eX))
   bG)
  (aG (bT (eM (eJ (aV (jL rfl) rfl B.all tM (aA (cQ (own:=["part"]) (fr:=[]) (bc:=[]) (bP (aL tQ) ["book", "deal", "step", "work", "giver", "taker"] rfl rfl (by decide +kernel)) rfl (iK (pv 2))
    (λ_ _ _ _=>(aQ (i:=0) (show (["part"]:List Str).Nodup by decide +kernel) rfl (Or.inl rfl))) (λ_ _ _ _=>eO)
    (λ_ _ _ _=>(bH R.W OW r1 rfl (aA (pv 0) aD)))) aD))))
   (aJ (aY eX))
   bG)
  (aG (gU (pv 2) (gE rfl (aX (aQ (i:=3) yJ.nd rfl (Or.inl rfl)) (aX (aQ (i:=4) yJ.nd rfl (Or.inl rfl)) (aX (aQ (i:=5) yJ.nd rfl (Or.inl rfl)) cU)))))
  (aG (bT (eM (aD1 vL yW aI (pv 3) (aV bL rfl B.len gY (aA (pv 1) aD))))
   (aJ (aY eX))
   bG)
  (aJ (aY (pY (iU gL (bK fU (pv 1) (pv 3) (λ_ _=>rfl)) (pv 4) (bD _)) (pY (iU lV (pv 5) (pv 4) (bD _)) (sI (iU vS (pv 5) (bK fU (bK fU (pv 0) aI (λ_ _=>rfl)) (pv 3) (λ_ _=>rfl)) (by with_unfolding_all rfl))))))))))),?_⟩
  refine ⟨_,rfl,.ref b,.tup,rfl,.inr (.inl ⟨rfl,_,hb⟩),true,rfl,?_⟩
  refine iN ?_
  refine ⟨_,rfl,b,_,rfl,.inr hb,rfl,_,rfl,?_⟩
  refine cR (λc=>?_) (λc=>?_)
  ·have cb:l.length≠3:=λz=>by rw [Qc,z] at c; simp at c
   rw [aDv cb] at k
   exact k H (aE.refl H)
  have h3:l.length=3:=by
   have:V.int ((l.map V.int).length:Nat)=V.int 3:=by simpa using c
   have:=V.int.inj this
   rw [Qc] at this
   omega
  obtain ⟨wk,gv,tk,rfl⟩:=YE h3
  refine ⟨_,rfl,b,rfl,⟨_,hb⟩,kR (K:=K) (a:=b) (xs:=[V.int wk,V.int gv,V.int tk]) (λσ=>σ.length=1) (λi ys H'=>ys=(List.replicate i true).map V.bl/\aE H H') (dJ (show 3<=1000 by decide)) rfl ⟨rfl,aE.refl H⟩ (λi ys H' p=>by rw [p.1]; simp) (λi ys H' p=>p.2.ai hb) (λi ys σ x H' hx gf p hz=>?_) (λys H' p=>?_)⟩
  ·obtain ⟨v,rfl⟩:∃ v,σ = [v]:=by match σ,gf with | [v],_=>exact ⟨v,rfl⟩
   obtain ⟨q1,q2⟩:=p
   obtain ⟨m,rfl⟩:∃ m,x=.int m:=by
    have hm:=Qi hx
    simp only [Qj,Qp,or_false] at hm
    rcases hm with rfl | rfl | rfl
    ·exact ⟨_,rfl⟩
    ·exact ⟨_,rfl⟩
    ·exact ⟨_,rfl⟩
   refine eT ?_
   refine ⟨_,rfl,.int m,.int m,rfl,cI.mpr rfl,hz,rfl,?_,q2⟩
   rw [q1,List.replicate_succ',Qy]
   rfl
  ·obtain ⟨rfl,s1⟩:=p
   intro p hp
   have s2:=aE.new (o:=.lst ((List.replicate [V.int wk,V.int gv,V.int tk].length true).map V.bl)) hp
   refine ⟨p,List.replicate 3 true,rfl,ak.of aB,_,rfl,?_⟩
   refine iN ?_
   have s3:=s1.trans s2
   generalize upd H' p (.lst ((List.replicate [V.int wk,V.int gv,V.int tk].length true).map V.bl))=H2 at s2 s3 ⊢
   refine ⟨_,rfl,b,_,rfl,s3.ai hb,rfl,_,_,rfl,_,_,rfl,_,_,rfl,rfl,?_⟩
   have g3:=g.same s3
   obtain ⟨jk,BH⟩:=gH g.2.2.2
   obtain ⟨ba,bb,ys2,rfl,ha,ee,dk⟩:=dM g3.1
   obtain ⟨c,rfl,hc⟩:=bC.mp g3.2.2.1
   refine ⟨_,rfl,_,_,rfl,rfl,_,rfl,?_⟩
   by_cases k0:0<=wk
   ·rw [decide_eq_true k0]
    refine jD ?_
    refine ⟨_,rfl,c,_,rfl,.inr hc,_,_,rfl,rfl,_,rfl,?_⟩
    rw [Qc]
    by_cases k1:wk < hs.length
    ·rw [decide_eq_true k1]
     refine iN ?_
     have ax:wk.toNat < hs.length:=by omega
     have eh:=Qb ax
     have el:=Qb (l:=ws) (i:=wk.toNat) (by omega)
     obtain ⟨cw,e1,e2⟩:=lK dk el
     have sv:=aFe (g:=gv) (t:=tk) k0 k1 eh el
     have kk:=k H2 s3
     rw [sv] at kk
     refine ⟨_,rfl,_,rfl,c,_,_,_,rfl,rfl,hc,aFc k0 eh,_,rfl,rfl,_,rfl,?_⟩
     refine cR (λc1=>?_) (λc1=>?_)
     ·rw [c1] at kk
      refine ⟨_,rfl,_,rfl,rfl,_,rfl,?_⟩
      refine cR (λc2=>?_) (λc2=>?_)
      ·rw [c2] at kk
       refine ⟨_,rfl,_,rfl,ba,_,1,.ref bb,rfl,rfl,ha,rfl,_,rfl,bb,_,_,_,rfl,rfl,ee,q? k0 e1,cw,_,rfl,.inr e2,rfl,qQ _,?_⟩
       rw [show uu (V.int tk) (ws[wk.toNat].map V.int)=_ from sA tk _]
       exact kk
      ·rw [Zt] at c2
       rw [c2] at kk
       exact kk
     ·rw [Zt] at c1
      rw [c1] at kk
      exact kk
    ·rw [decide_eq_false k1]
     refine jD ?_
     have e:gI ws hs [wk,gv,tk]=false:=by
      show (decide (0<=wk) && (decide (wk < hs.length) && _))=false
      rw [decide_eq_false k1]; simp
     rw [e] at k
     exact k H2 s3
   ·rw [decide_eq_false k0]
    refine iN ?_
    refine ⟨_,rfl,?_⟩
    refine jD ?_
    have e:gI ws hs [wk,gv,tk]=false:=by
     show (decide (0<=wk) && _)=false
     rw [decide_eq_false k0]; rfl
    rw [e] at k
    exact k H2 s3
theorem aBy {L:List (List Int)} (h:L≠[]):(cA L).length=L.length+1:=by
 cases L with
 | nil=>exact absurd rfl h
 | cons s r=>simp [cA]
def Ft (K:Rc):Sp:=λvs H Q _=>∃ x y p xs n ws hs L,vs = [x,y,.ref p]/\gA K H x y n ws hs/\ak K H p xs/\aZ K H (L.map cZ) xs/\L.length<=30/\(∀ l∈L,l.length<=1000)/\∀ H',aE H H'->Q (.bl (oO ws hs L)) H'
theorem Fs:ah ["book", "deal", "some", "passed", "follow"] ["book", "deal", "some"] (aL vE):=⟨rfl,rfl,rfl,by decide +kernel,rfl,by decide +kernel,by decide +kernel⟩
theorem JB (G:Fn K mg "is_way" vE ["book", "deal", "some"] f fd) (B:Bl mg) (R:Pr K mg fW fH fK fB gk fD f' fL dW dH dK dB gm dD f_ dL) (GS:Fn K mg "is_step" tQ ["book", "deal", "step"] fS dS):af P w K mg base a_ 7 f fd ["book", "deal", "some"] (Ft K):=by
 have OS:af P w K mg base a_ 2 fS dS ["book", "deal", "step"] (Pg K):=P! GS B R
 have FL:af P w K mg base a_ 6 f' f_ ["book", "deal"] (yF K):=RW B R
 refine G.fn.ok Fs (λvs H Q E h=>?_) (λbj A outer s H vs Q E hr h=>?_)
 ·obtain ⟨x,y,p,xs,n,ws,hs,L,rfl,_⟩:=h
  rfl
 ·obtain ⟨x,y,p,xs,n,ws,hs,L,rfl,g,hp,hd,hL,Be,k⟩:=h
  have r2:ay 2 _:=hr.mono (by decide)
  have r6:ay 6 _:=hr
  refine ⟨_,(aG (bX (bH R.ND FL r6 rfl (aA (pv 0) (aA (pv 1) aD))))
  (aG (bT (PW.pt (kL (eM (eJ (aV uP rfl B.isinstance mO (aA (pv 2) (aA (iT (v:=.ty "list") rfl B.list JH rfl) aD))))) (jC (bB gL (aV bL rfl B.len gY (aA (pv 2) aD)) aI (bD _)))))
   (aJ (aY eX))
   bG)
  (aG (bT (eM (eJ (aV (jL rfl) rfl B.all tM (aA (cQ (own:=["step"]) (fr:=[0,1]) (bc:=["book", "deal"]) (bP (aL vE) ["book", "deal", "some", "passed", "follow"] rfl rfl (by decide +kernel)) rfl (hJ (pv 2))
    (λ_ _ _ _=>(aQ (i:=0) (show (["step", "book", "deal"]:List Str).Nodup by decide +kernel) rfl (Or.inl rfl))) (λ_ _ _ _=>eO)
    (λ_ _ _ _=>(bH GS OS r2 rfl (aA (pv 1) (aA (pv 2) (aA (pv 0) aD)))))) aD))))
   (aJ (aY eX))
   bG)
  (aG (aT (i:=3) Fs.nd rfl (Or.inl rfl) (bE iM (cP (aA (bK fU (bK cX (pv 2) aI (λ_ _=>rfl)) aI (λ_ _=>rfl)) aD)) (cQ (own:=["step"]) (fr:=[]) (bc:=[]) (bP (aL vE) ["book", "deal", "some", "passed", "follow"] rfl rfl (by decide +kernel)) rfl (hJ (pv 2))
    (λ_ _ _ _=>(aQ (i:=0) (show (["step"]:List Str).Nodup by decide +kernel) rfl (Or.inl rfl))) (λ_ _ _ _=>eO)
    (λ_ _ _ _=>(bK (cD (K:=K) rfl) (pv 0) aI (λ_ _=>rfl))))))
  (aG (aT (i:=4) Fs.nd rfl (Or.inl rfl) (aV (jL rfl) rfl B.all tM (aA (cQ (own:=["step", "hand"]) (fr:=[]) (bc:=[]) (bP (aL vE) ["book", "deal", "some", "passed", "follow"] rfl rfl (by decide +kernel)) rfl (sS .l .l rfl B.zip (aA (pv 2) (aA (pv 3) aD)))
    (λ_ _ _ _=>(sB (K:=K) (n:=2) rfl rfl (aX (aQ (i:=0) (show (["step", "hand"]:List Str).Nodup by decide +kernel) rfl (Or.inl rfl)) (aX (aQ (i:=1) (show (["step", "hand"]:List Str).Nodup by decide +kernel) rfl (Or.inl rfl)) cU)))) (λ_ _ _ _=>eO)
    (λ_ _ _ _=>(iU gL (bK (cD (K:=K) rfl) (pv 0) aI (λ_ _=>rfl)) (pv 1) (bD _)))) aD)))
  (aJ (aY (pY (pv 4) (sI (iU gL (aV uX rfl B.len gY (aA (cB (aC4 (K:=K) rfl rfl) rfl B.set O2 (aA (pv 3) aD)) aD)) (aV bL rfl B.len gY (aA (pv 3) aD)) (bD _))))))))))),?_⟩
  refine ⟨_,rfl,_,rfl,x,y,n,ws,hs,rfl,g,λH1 s1=>?_⟩
  have pq:=aH hd
  rw [Qc] at pq
  have ib:=s1.cm hp
  have CP:=s1.ag _ _ hd
  refine ⟨_,rfl,.ref p,.lst,rfl,.inl ⟨rfl,_,ib⟩,true,rfl,?_⟩
  refine iN ?_
  refine ⟨_,rfl,p,_,rfl,.inl ib,rfl,_,rfl,?_⟩
  refine cR (λc=>?_) (λc=>?_)
  ·have e0:L = []:=by
    have:V.int (xs.length:Nat)=V.int 0:=by simpa using c
    have:=V.int.inj this
    exact Jz.mp (by omega)
   subst e0
   exact k H1 s1
  have cb:L≠[]:=λz=>by
   subst z
   have:xs.length=0:=by simpa using pq
   rw [this] at c
   simp at c
  have g1:=g.same s1
  refine ⟨_,rfl,p,rfl,⟨_,ib⟩,tF (K:=K) (a:=p) (xs:=xs) (vs:=(L.map (gI ws hs)).map V.bl) (λσ=>∃ v,σ = [v,some x,some y]) (by omega) (by simp [pq]) ib ⟨none,rfl⟩ ?_ ?_⟩
  ·rintro i u v σ H2 hu hv ⟨v0,rfl⟩ s2 Q' k'
   have ax:i < L.length:=by have:=(Qd.mp hu).1; omega
   have el:L[i]?=some L[i]:=Qb ax
   obtain ⟨c1,e1,e2⟩:=lK (s2.ag _ _ CP) el
   rw [hu] at e1
   obtain rfl:=Option.some.inj e1
   have ev:v=.bl (gI ws hs L[i]):=by
    rw [Qh,Qh,el] at hv
    exact (Option.some.inj hv).symm
   subst ev
   refine ⟨_,rfl,_,rfl,_,rfl,x,y,c1,n,ws,hs,L[i],rfl,g1.same s2,e2,Be _ (Jt ax),λH3 s3=>?_⟩
   exact k' _ H3 ⟨_,rfl⟩ s3
  ·intro H2 s2 q hq
   refine ⟨q,L.map (gI ws hs),rfl,ak.of aB,_,rfl,?_⟩
   have s3:=s2.trans (aE.new (o:=.lst ((L.map (gI ws hs)).map V.bl)) hq)
   generalize upd H2 q (.lst ((L.map (gI ws hs)).map V.bl))=H3 at s3 ⊢
   have KW:(L.map (gI ws hs)).all id=L.all (gI ws hs):=by rw [Zn]; rfl
   rw [KW]
   by_cases ha:L.all (gI ws hs)=true
   ·rw [ha]
    refine iN ?_
    have aq:∀ st∈L,gI ws hs st=true:=λst h=>Jm.mp ha st h
    have qr:∀ {H':Hp},aE H3 H'->ak K H' p xs:=λz=>z.cm (s3.cm ib)
    have Ci:∀ {H':Hp} {i:Nat} {u:V},aE H3 H'->xs[i]?=some u->∃ (c:Addr) (st:List Int) (kk gg tt:Int),u=.ref c/\L[i]?=some st/\st = [kk,gg,tt]/\aj K H' c [.int kk,.int gg,.int tt]:=λ{H' i u} z hu=>by
     have ax:i < L.length:=by have:=(Qd.mp hu).1; omega
     have el:L[i]?=some L[i]:=Qb ax
     obtain ⟨c1,e1,e2⟩:=lK (z.ag _ _ (s3.ag _ _ CP)) el
     rw [hu] at e1
     obtain ⟨kk,gg,tt,e3⟩:=wJ (aq _ (Jt ax))
     rw [e3] at e2
     exact ⟨c1,L[i],kk,gg,tt,Option.some.inj e1,el,e3,e2⟩
    have h0:0 < xs.length:=by
     have:=Zf.mpr cb
     omega
    obtain ⟨c0,El,k0,g0,t0,e0,XG,XE,q0⟩:=Ci (aE.refl H3) (Qb h0)
    refine ⟨_,rfl,p,_,0,.ref c0,rfl,rfl,qr (aE.refl H3),cW (by rw [Qb h0,e0]),c0,_,1,.int g0,rfl,rfl,q0,rfl,rj _,λl1 vp=>?_⟩
    have s4:=aE.new (o:=.lst [.int g0]) vp
    have a4:upd H3 l1 (.lst [.int g0]) l1=some (.lst [.int g0]):=aB
    generalize upd H3 l1 (.lst [.int g0])=H4 at s4 a4 ⊢
    refine ⟨_,rfl,p,rfl,⟨_,qr s4⟩,tF (K:=K) (a:=p) (xs:=xs) (vs:=(L.map uA).map V.int) (λσ=>∃ v,σ = [v]) (by omega) (by simp [pq]) (qr s4) ⟨none,rfl⟩ ?_ ?_⟩
    ·rintro i u v σ H5 hu hv ⟨v0,rfl⟩ s5 Q' k'
     obtain ⟨c1,st,kk,gg,tt,rfl,el,rfl,q1⟩:=Ci (s4.trans s5) hu
     have ev:v=.int tt:=by
      rw [Qh,Qh,el] at hv
      exact (Option.some.inj hv).symm
     subst ev
     exact ⟨_,rfl,c1,_,2,.int tt,rfl,rfl,q1,rfl,k' _ H5 ⟨_,rfl⟩ (aE.refl H5)⟩
    ·intro H5 s5 l2 oq
     have s6:=aE.new (o:=.lst ((L.map uA).map V.int)) oq
     have a6:=s6 _ _ (s5 _ _ a4)
     have b6:upd H5 l2 (.lst ((L.map uA).map V.int)) l2=some (.lst ((L.map uA).map V.int)):=aB
     generalize upd H5 l2 (.lst ((L.map uA).map V.int))=H6 at s6 a6 b6 ⊢
     refine ⟨l1,l2,_,_,rfl,rfl,a6,b6,JI (by simp; omega),λl3 VM=>?_⟩
     have Eh : [V.int g0]++(L.map uA).map V.int=(cA L).map V.int:=by
      cases L with
      | nil=>exact absurd rfl cb
      | cons s r =>
       have:s=El:=Option.some.inj XG
       subst this
       rw [XE]
       rfl
     rw [Eh]
     have s7:=aE.new (o:=.lst ((cA L).map V.int)) VM
     have b7:upd H6 l3 (.lst ((cA L).map V.int)) l3=some (.lst ((cA L).map V.int)):=aB
     generalize upd H6 l3 (.lst ((cA L).map V.int))=H7 at s7 b7 ⊢
     have En:=((s4.trans s5).trans s6).trans s7
     have pl:=aBy cb
     refine ⟨_,rfl,_,rfl,p,l3,xs,_,rfl,qr En,ak.of b7,aEx (K:=K) (k1:=.l) (k2:=.l) (a:=p) (b:=l3) (xs:=xs) (zs:=(cA L).map V.int) (vs:=((L.zip (cA L)).map λq=>lJ q.1==q.2).map V.bl) (λσ=>∃ u v,σ = [u,v]) (by omega) (by simp; omega) (by simp [pl]; omega)
      (λH' z=>⟨qr (En.trans z),ak.of (z _ _ b7)⟩) ⟨none,none,rfl⟩ ?_ ?_⟩
     ·rintro i u z v q σ H8 hu hz hv hq ⟨u0,v0,rfl⟩ s8 Q' k'
      have s9:=aE.new (o:=.tup [u,z]) hq
      obtain ⟨c1,st,kk,gg,tt,rfl,el,rfl,q1⟩:=Ci ((En.trans s8).trans s9) hu
      obtain ⟨zz,pk,rfl⟩:∃ zz,(cA L)[i]?=some zz/\V.int zz=z:=by
       rw [Qh] at hz
       cases e:(cA L)[i]? with
       | none=>rw [e] at hz; cases hz
       | some zz=>rw [e] at hz; exact ⟨zz,rfl,Option.some.inj hz⟩
      have ev:v=.bl (gg==zz):=by
       have e1:(L.zip (cA L))[i]?=some ([kk,gg,tt],zz):=by rw [Jh]; exact ⟨el,pk⟩
       rw [Qh,Qh,e1] at hv
       exact (Option.some.inj hv).symm
      subst ev
      refine ⟨q,_,rfl,aj.of aB,rfl,_,_,rfl,_,_,rfl,rfl,?_⟩
      refine ⟨_,rfl,c1,_,1,.int gg,rfl,rfl,q1,rfl,_,rfl,rfl,?_⟩
      have eb:decide (V.int gg=V.int zz)=(gg==zz):=by
       by_cases e:gg=zz
       ·subst e; simp
       ·rw [decide_eq_false (λq=>e (V.int.inj q))]; exact (beq_eq_false_iff_ne.mpr e).symm
      rw [eb]
      exact k' _ _ ⟨_,_,rfl⟩ s9
     ·intro H8 s8 l4 BA
      refine ⟨l4,(L.zip (cA L)).map (λq=>lJ q.1==q.2),rfl,ak.of aB,?_⟩
      have s9:=s8.trans (aE.new (o:=.lst (((L.zip (cA L)).map λq=>lJ q.1==q.2).map V.bl)) BA)
      generalize upd H8 l4 (.lst (((L.zip (cA L)).map λq=>lJ q.1==q.2).map V.bl))=H9 at s9 ⊢
      have ef:((L.zip (cA L)).map λq=>lJ q.1==q.2).all id=sD L:=by rw [Zn]; rfl
      rw [ef]
      have kk:=λH' (z:aE H9 H')=>k H' ((s1.trans (s3.trans En)).trans (s9.trans z))
      have ew:oO ws hs L=(sD L && decide ((cA L).Nodup)):=by
       unfold oO
       rw [ha]
       cases L with
       | nil=>exact absurd rfl cb
       | cons _ _=>rfl
      rw [ew] at kk
      refine ⟨_,rfl,_,rfl,?_⟩
      refine cR (λc1=>?_) (λc1=>?_)
      ·rw [c1] at kk
       refine ⟨_,rfl,l3,cA L,rfl,ak.of (s9 _ _ b7),by omega,λl5 VL=>?_⟩
       have pf:=aE.new (o:=.set (λk=>decide (k∈cA L)) (oI (cA L))) VL
       refine ⟨l5,_,_,rfl,aB,_,rfl,l3,_,rfl,.inl (ak.of (pf _ _ (s9 _ _ b7))),rfl,?_⟩
       have e2:decide (V.int (oI (cA L):Nat)=V.int ((cA L).map V.int).length)=decide ((cA L).Nodup):=by
        rw [Xj,decide_eq_true_iff,decide_eq_true_iff,<- aBc,Qc]
        constructor
        ·intro z; have:=V.int.inj z; omega
        ·intro z; rw [z]
       rw [e2]
       exact kk _ pf
      ·rw [Zt] at c1
       rw [c1] at kk
       exact kk H9 (aE.refl _)
   ·rw [Zt] at ha
    rw [ha]
    refine jD ?_
    have e:oO ws hs L=false:=by unfold oO; rw [ha]; simp
    rw [e] at k
    exact k H3 (s1.trans s3)
end Ab
namespace Ab
def kT (ws:List (List Int)) (hs:List Int) (g:Int) (w:Nat) (t:Int):Prop:=hs[w]?=some g/\∃ l,ws[w]?=some l/\t∈l/\t≠g
def RL (ws:List (List Int)) (hs:List Int):Nat->Int->Int->Prop
 | 0,h,x=>h=x
 | k+1,h,x=>h=x∨∃ w o,kT ws hs h w o/\RL ws hs k o x
def iP (ws:List (List Int)) (hs:List Int):Int->List (Nat×Int×Int)->Int->Prop
 | h,[],x=>h=x
 | h,s::r,x=>s.2.1=h/\kT ws hs h s.1 s.2.2/\iP ws hs s.2.2 r x
theorem RL.refl:∀ (k:Nat) (h:Int),RL ws hs k h h
 | 0,_=>rfl
 | _+1,_=>.inl rfl
theorem RL.succ:∀ {k:Nat} {h x:Int},RL ws hs k h x->RL ws hs (k+1) h x
 | 0,_,_,e=>.inl e
 | k+1,_,_,.inl e=>.inl e
 | k+1,_,_,.inr ⟨w,o,e,r⟩=>.inr ⟨w,o,e,RL.succ r⟩
theorem RL.mono {k m:Nat} {h x:Int} (r:RL ws hs k h x) (le:k<=m):RL ws hs m h x:=by
 induction le with
 | refl=>exact r
 | step _ ih=>exact ih.succ
theorem RL.snoc:∀ {k:Nat} {h g t:Int} {w:Nat},RL ws hs k h g->kT ws hs g w t->RL ws hs (k+1) h t
 | 0,_,_,_,w,e,d=>by subst e; exact .inr ⟨w,_,d,rfl⟩
 | k+1,_,_,_,w,.inl e,d=>by subst e; exact .inr ⟨w,_,d,RL.refl _ _⟩
 | k+1,_,_,_,_,.inr ⟨w',o,e,r⟩,d=>.inr ⟨w',o,e,RL.snoc r d⟩
theorem RL.closed {S:Int->Prop} (hc:∀ g w t,S g->kT ws hs g w t->S t):∀ {k:Nat} {h x:Int},S h->RL ws hs k h x->S x
 | 0,_,_,s,e=>e ▸ s
 | _+1,_,_,s,.inl e=>e ▸ s
 | _+1,_,_,s,.inr ⟨w,o,e,r⟩=>RL.closed hc (hc _ w o s e) r
def IL (ws:List (List Int)) (hs:List Int) (n:Nat) (h v:Int):Prop:=(∃ x,RL ws hs n h x/\v=((hs.count x:Nat):Int))/\∀ k x,RL ws hs k h x->v<=((hs.count x:Nat):Int)
def jA (n:Int) (ws:List (List Int)) (hs lv:List Int):Prop:=lv.length=n.toNat/\∀ (h:Nat) (v:Int),lv[h]?=some v->IL ws hs n.toNat h v/\((hs.count (h:Int):Nat):Int) - v < 2
def rH (n:Int) (ws:List (List Int)) (hs:List Int) (ss:List (Nat×Int×Int)):Prop :=
 ∃ h x,ss≠[]/\iP ws hs h ss x/\(h::ss.map (·.2.2)).Nodup/\0<=h/\h < n/\RL ws hs n.toNat h x/\2<=((hs.count h:Nat):Int) - ((hs.count x:Nat):Int)
theorem nH:∀ (n:Nat) (l:List Int),l.Nodup->(∀ x∈l,0<=x/\x < (n:Int))->l.length<=n
 | 0,[],_,_=>Qe _
 | 0,x::_,_,h=>by have:=h x (.head _); omega
 | n+1,l,hn,h=>by
  by_cases hm:(n:Int)∈l
  ·have h1:=nH n (l.erase (n:Int)) (hn.erase _) λx hx=>by
    have h2:=(hn.mem_erase_iff).mp hx
    have h3:=h x h2.2
    have:=h2.1
    omega
   rw [Yq hm] at h1
   omega
  ·have h1:=nH n l hn λx hx=>by
    have h3:=h x hx
    have:x≠(n:Int):=λz=>hm (z ▸ hx)
    omega
   omega
end Ab
namespace L2
open PySem
theorem aE.wr {u:HO} (e:aE H H') (h:H a=none):aE H (upd H' a u):=λb o q=>by
 rw [aK (λz=>by rw [z,h] at q; cases q)]
 exact e b o q
end L2
namespace Ab
open PySem L2
theorem nI {xs:List Int} (h:(xs.map V.int)[i]?=some v):∃ a,xs[i]?=some a/\v=.int a:=by
 rw [Qh] at h
 cases q:xs[i]? with
 | none=>rw [q] at h; cases h
 | some a=>rw [q] at h; exact ⟨a,rfl,(Option.some.inj h).symm⟩
theorem RU {xs:List Int} {h:Int} (h0:0<=h) (h1:h < xs.length):ka (xs.map V.int) h=some (.int (xs.getD h.toNat 0)):=by
 have ax:h.toNat < xs.length:=by omega
 have h2:=cW (xs:=xs.map V.int) (j:=h.toNat) (v:=.int (xs.getD h.toNat 0)) (by rw [Qh,Qb ax,Jk,Qb ax]; rfl)
 rwa [show ((h.toNat:Nat):Int)=h by omega] at h2
theorem q! {k:Int} (h0:0<=k) (h1:k < n):vh n k=some k.toNat:=by
 unfold vh
 rw [if_pos h0,if_pos (by omega)]
def vF (E:Nat->Int->Prop) (r:List (Key×V)):Prop:=(∀ k v,eF r k=some v->∃ (w:Nat) (t:Int),k=.inl t/\v=.int (w:Nat)/\E w t)/\∀ w t,E w t->(eF r (.inl t)).isSome=true
theorem vF.nil {E:Nat->Int->Prop} (h:∀ w t,¬ E w t):vF E []:=⟨λk v e=>(by rw [aEC] at e; cases e),λw t e=>(h w t e).elim⟩
theorem vF.put {E:Nat->Int->Prop} {r:List (Key×V)} (h:vF E r) (w:Nat) (t:Int):vF (λw' t'=>E w' t'∨(w'=w/\t'=t)) (kH r (.inl t) (.int (w:Nat))):=by
 refine ⟨λk v e=>?_,λw' t' e=>?_⟩
 ·rw [RJ] at e
  by_cases hk:k=Sum.inl t
  ·rw [if_pos hk] at e
   exact ⟨w,t,hk,(Option.some.inj e).symm,.inr ⟨rfl,rfl⟩⟩
  ·rw [if_neg hk] at e
   obtain ⟨w',t',h1,h2,h3⟩:=h.1 k v e
   exact ⟨w',t',h1,h2,.inl h3⟩
 ·rw [RJ]
  by_cases hk:(Sum.inl t':Key)=Sum.inl t
  ·rw [if_pos hk]; rfl
  ·rw [if_neg hk]
   rcases e with e | ⟨_,e⟩
   ·exact h.2 w' t' e
   ·exact absurd (by rw [e]) hk
theorem vF.congr {E E':Nat->Int->Prop} {r:List (Key×V)} (h:vF E r) (e:∀ w t,E w t↔E' w t):vF E' r:=⟨λk v q=>let ⟨w,t,a,b,c⟩:=h.1 k v q; ⟨w,t,a,b,(e w t).mp c⟩,λw t q=>h.2 w t ((e w t).mpr q)⟩
structure Rows (H:Hp) (rp:Addr) (qs:List Addr) (rs:List (List (Key×V))):Prop where
 lst:H rp=some (.lst (qs.map V.ref))
 len:qs.length=rs.length
 nd:qs.Nodup
 row:∀ (g:Nat) q r,qs[g]?=some q->rs[g]?=some r->H q=some (.dK r)
theorem Rows.same {rp:Addr} {rs:List (List (Key×V))} (h:Rows H rp qs rs) (s:aE H H'):Rows H' rp qs rs:=⟨s _ _ h.lst,h.len,h.nd,λg q r a b=>s _ _ (h.row g q r a b)⟩
theorem Rows.put {rp:Addr} {rs:List (List (Key×V))} (h:Rows H rp qs rs) {g:Nat} {q:Addr} {r r':List (Key×V)} (hq:qs[g]?=some q) (hr:rs[g]?=some r):Rows (upd H q (.dK r')) rp qs (rs.set g r'):=by
 have hg:=h.row g q r hq hr
 have nq:rp≠q:=λz=>by have:=h.lst; rw [z,hg] at this; cases this
 refine ⟨by rw [aK nq]; exact h.lst,by rw [Zx]; exact h.len,h.nd,λg2 q2 r2 h1 h2=>?_⟩
 rw [Ya] at h2
 by_cases e:g=g2
 ·subst e
  rw [if_pos rfl] at h2
  rw [hq] at h1
  cases h1
  by_cases hl:g < rs.length
  ·rw [if_pos hl] at h2; cases h2; exact aB
  ·rw [if_neg hl] at h2; cases h2
 ·rw [if_neg e] at h2
  have n2:q2≠q:=λz=>by
   subst z
   have ax:g < qs.length:=(Qd.mp hq).1
   exact e ((Yr ax h.nd).mp (hq.trans h1.symm))
  rw [aK n2]
  exact h.row g2 q2 r2 h1 h2
def Fq (E:Int->Nat->Int->Prop) (rs:List (List (Key×V))) (m:Nat):Prop:=∀ (g:Nat) r,rs[g]?=some r->vF (E g) r/\r.length<=m
def wK (K:Rc):Sp:=λvs H Q _=>∃ x y n ws hs,vs = [x,y]/\gA K H x y n ws hs/\∀ rp H' qs rs,aE H H'->H rp=none->(∀ q∈qs,H q=none)->Rows H' rp qs rs->rs.length=n.toNat->Fq (kT ws hs) rs 100->Q (.ref rp) H'
theorem jG:ah ["book", "deal", "rows", "work", "giver", "able", "taker"] ["book", "deal"] (aL mQ):=⟨rfl,rfl,rfl,by decide +kernel,rfl,by decide +kernel,by decide +kernel⟩
theorem aBA (G:Fn K mg "handing" mQ ["book", "deal"] f fd) (B:Bl mg):af P w K mg base a_ 1 f fd ["book", "deal"] (wK K):=by
 refine G.fn.ok jG (λvs H Q E h=>?_) (λbj A outer s H vs Q E hr h=>?_)
 ·obtain ⟨x,y,n,ws,hs,rfl,_⟩:=h
  rfl
 ·obtain ⟨x,y,n,ws,hs,rfl,g,k⟩:=h
  refine ⟨_,(aG (aA4 (i:=2) (own:=["hand"]) (fr:=[]) (bc:=[]) (bP (aL mQ) ["book", "deal", "rows", "work", "giver", "able", "taker"] rfl rfl (by decide +kernel)) rfl jG.nd rfl rfl rfl (fT rfl B.range (aA (bK fU (pv 0) aI (λ_ _=>rfl)) aD))
    (λ_ _ _ _=>(aQ (i:=0) (show (["hand"]:List Str).Nodup by decide +kernel) rfl (Or.inl rfl))) (λ_ _ _ _=>eO)
    (λ_ _ _ _=>aEF))
   (aG (eS PassesOwn.never rfl (aBg .t .t rfl B.enumerate rfl B.zip (aA (pv 1) (aA (bK fU (pv 0) aI (λ_ _=>rfl)) aD))) (gE rfl (aX (aQ (i:=3) jG.nd rfl (Or.inl rfl)) (aX (gE rfl (aX (aQ (i:=4) jG.nd rfl (Or.inl rfl)) (aX (aQ (i:=5) jG.nd rfl (Or.inl rfl)) cU))) cU)))
    (aJ (eS PassesOwn.never rfl (iK (pv 5)) (aQ (i:=6) jG.nd rfl (Or.inl rfl))
     (aJ (bT (bB lV (pv 6) (pv 4) (bD _))
      (aJ (xL (lN hr) (bK cX (pv 2) (pv 4) (λ_ _=>rfl)) (pv 6) (pv 3) rfl))
      bG)))))
   (aJ (aY (pv 2))))),?_⟩
  obtain ⟨jt,jq,ia⟩:=g.len
  obtain ⟨a,b,ys,rfl,ha,ee,dk⟩:=dM g.1
  obtain ⟨c0,rfl,uz⟩:=bC.mp g.2.2.1
  obtain ⟨jk,BH⟩:=gH g.2.2.2
  obtain ⟨_,_,gu,fv⟩:=bO g.2.1
  have i8:=aH dk
  rw [Qc] at i8
  refine ⟨_,rfl,a,_,0,.int n,rfl,rfl,ha,rfl,n,rfl,by omega,by omega,jM (lo:=0) (n:=n.toNat) (λσ=>∃ v,σ = [v]) (λi zs H2=>∃ qs:List Addr,zs=qs.map V.ref/\qs.length=i/\aE H H2/\qs.Nodup/\∀ q∈qs,H q=none/\H2 q=some (.dK [])) ?_ ⟨none,rfl⟩ ⟨[],rfl,rfl,aE.refl H,Zq,λ_ h=>(Qp h).elim⟩ ?_ ?_ ?_⟩
  ·rw [Rg]; omega
  ·rintro i zs H2 ⟨qs,rfl,hq,_⟩
   rw [Qc]; omega
  ·rintro i zs σ H2 hi ⟨v,rfl⟩ ⟨qs,rfl,hq,s2,nd,yf⟩ hz
   refine eT ?_
   intro p hp
   refine ⟨hz,⟨_,rfl⟩,qs++[p],by rw [Qy]; rfl,by rw [Qn,hq]; rfl,s2.trans (aE.new hp),?_,λq U'=>?_⟩
   ·rw [Ys]
    refine ⟨nd,by simp,λx hx y hy e=>?_⟩
    rw [Qq.mp hy] at e
    have:=(yf x hx).2
    rw [e,hp] at this; cases this
   ·rcases Qw.mp U' with h | h
    ·exact ⟨(yf q h).1,(aE.new hp) _ _ (yf q h).2⟩
    ·rw [Qq.mp h]
     exact ⟨s2.free hp,aB⟩
  ·rintro zs H2 ⟨qs,rfl,hq,s2,nd,yf⟩ rp CA
   have s3:=s2.trans (aE.new (o:=.lst (qs.map V.ref)) CA)
   have DK:H rp=none:=s2.free CA
   have R3:Rows (upd H2 rp (.lst (qs.map V.ref))) rp qs (List.replicate n.toNat []):=⟨aB,by rw [Xk]; exact hq,nd,λg q r h1 h2=>by
    have er:r = []:=by
     rw [Xz] at h2
     split at h2
     ·exact (Option.some.inj h2).symm
     ·cases h2
    rw [er]
    exact (aE.new CA) _ _ (yf q (Qi h1)).2⟩
   generalize upd H2 rp (.lst (qs.map V.ref))=H3 at s3 R3 ⊢
   have h6:∀ l∈ws,l.length<=6:=λl hl=>by
    obtain ⟨_,w2,w3⟩:=bV (fv l hl)
    have:=jP (by omega) w2 w3
    omega
   refine ⟨_,rfl,_,rfl,a,_,1,.ref b,rfl,rfl,s3.ai ha,rfl,c0,b,_,_,rfl,s3.ai uz,s3.ai ee,aAj (K:=K) (k1:=.t) (k2:=.t) (a:=c0) (b:=b) (xs:=hs.map V.int) (ys:=ys)
    (λi σ H4=>(∃ v3 v4 v5 v6,σ = [some (.ref a),some (.ref c0),some (.ref rp),v3,v4,v5,v6])/\aE H H4/\∃ rs,Rows H4 rp qs rs/\rs.length=n.toNat/\Fq (λg w t=>w < i/\kT ws hs g w t) rs (6*i))
    (by rw [Qc]; omega) ⟨⟨_,_,_,_,rfl⟩,s3,_,R3,Xk,λg r hr=>?_⟩ (λ_ σ H4 _ ⟨_,s4,_⟩=>⟨s4.ai uz,s4.ai ee⟩) ?_ ?_⟩
   ·have er:r = []:=by
     rw [Xz] at hr
     split at hr
     ·exact (Option.some.inj hr).symm
     ·cases hr
    rw [er]
    exact ⟨vF.nil λw t h=>by omega,Jb _⟩
   ·rintro i u v p q σ H4 hu hv ⟨⟨v3,v4,v5,v6,rfl⟩,s4,rs,R4,BA,E4⟩ hp hq cb
    obtain ⟨h,hh,rfl⟩:=nI hu
    obtain ⟨dv,dm,ie⟩:=bS dk hv
    rw [Qh] at dm
    obtain ⟨l,hl,rfl⟩:∃ l,ws[i]?=some l/\cZ l=dv:=by
     cases q:ws[i]? with
     | none=>rw [q] at dm; cases dm
     | some l=>rw [q] at dm; exact ⟨l,rfl,Option.some.inj dm⟩
    obtain ⟨aw,rfl,BJ⟩:=bC.mp ie
    obtain ⟨E1,G_⟩:=g.hand hh
    have Ak:=h6 l (Qi hl)
    have aan:i < 12:=by
     have:=(Qd.mp hh).1
     omega
    have sp:=aE.new (o:=.tup [.int h,.ref aw]) hp
    have vk:upd H4 p (.tup [.int h,.ref aw]) q=none:=by rw [aK cb]; exact hq
    have sq:=aE.new (o:=.tup [.int (i:Nat),.ref p]) vk
    have ep:upd (upd H4 p (.tup [.int h,.ref aw])) q (.tup [.int (i:Nat),.ref p]) p=some (.tup [.int h,.ref aw]):=sq _ _ aB
    have eq:upd (upd H4 p (.tup [.int h,.ref aw])) q (.tup [.int (i:Nat),.ref p]) q=some (.tup [.int (i:Nat),.ref p]):=aB
    have s5:=s4.trans (sp.trans sq)
    have R5:=R4.same (sp.trans sq)
    generalize upd (upd H4 p (.tup [.int h,.ref aw])) q (.tup [.int (i:Nat),.ref p])=H5 at ep eq s5 R5 ⊢
    refine ⟨q,_,rfl,aj.of eq,rfl,_,_,rfl,_,_,rfl,p,_,rfl,aj.of ep,rfl,_,_,rfl,_,_,rfl,rfl,rfl,?_⟩
    have Hd:h.toNat < qs.length:=by rw [R5.len,BA]; omega
    obtain ⟨qh,ES⟩:∃ qh,qs[h.toNat]?=some qh:=⟨_,Qb Hd⟩
    have ir:((h.toNat:Nat):Int)=h:=by omega
    refine ⟨_,rfl,aw,rfl,⟨_,s5.ai BJ⟩,xA (K:=K) (a:=aw) (xs:=l.map V.int) (λj σ H6=>(∃ v6,σ = [some (.ref a),some (.ref c0),some (.ref rp),some (.int (i:Nat)),some (.int h),some (.ref aw),v6])/\aE H H6/\∃ rs,Rows H6 rp qs rs/\rs.length=n.toNat/\Fq (λg w t=>(w < i/\kT ws hs g w t)∨(w=i/\g=h/\t∈l.take j/\t≠h)) rs (6*i+j))
     ⟨⟨_,rfl⟩,s5,rs,R5,BA,λg r hr=>⟨(E4 g r hr).1.congr λw t=>⟨.inl,λz=>z.elim id λz=>by rw [Ym] at z; exact (Qp z.2.2.1).elim⟩,(E4 g r hr).2⟩⟩ (λ_ σ H6 _ ⟨_,s6,_⟩=>s6.ai BJ) ?_ ?_⟩
    ·rintro j tv σ H6 U0 ⟨⟨v6,rfl⟩,s6,rs,R6,qi,E6⟩
     obtain ⟨t,ht,rfl⟩:=nI U0
     have hj:j < l.length:=(Qd.mp ht).1
     have j6:l.take (j+1)=l.take j++[t]:=by rw [Js,ht]; rfl
     refine ⟨_,rfl,_,rfl,rfl,_,rfl,?_⟩
     refine cR (λc=>?_) (λc=>?_)
     ·have GF:t≠h:=λz=>by rw [z] at c; simp at c
      obtain ⟨r,hr⟩:∃ r,rs[h.toNat]?=some r:=⟨_,Qb (by rw [qi]; omega)⟩
      have j':ka (qs.map V.ref) h=some (.ref qh):=by
       have:=cW (xs:=qs.map V.ref) (j:=h.toNat) (v:=.ref qh) (by rw [Qh,ES]; rfl)
       rwa [ir] at this
      have kg:=R6.row _ _ _ ES hr
      have hrl:=(E6 _ _ hr).2
      have U9:H qh=none:=(yf qh (Qi ES)).1
      refine ⟨_,rfl,_,rfl,_,rfl,rp,_,h,_,rfl,rfl,ak.of R6.lst,j',_,rfl,qh,_,rfl,xK.k (k:=.inl t) kg (by rw [Rg]; omega),?_⟩
      refine ⟨⟨_,rfl⟩,s6.wr U9,rs.set h.toNat (kH r (.inl t) (.int (i:Nat))),R6.put ES hr,by rw [Zx]; exact qi,λg2 r2 fg=>?_⟩
      rw [Ya] at fg
      by_cases eg:h.toNat=g2
      ·rw [if_pos eg,if_pos (by rw [qi]; omega)] at fg
       cases fg
       have XH:((g2:Nat):Int)=h:=by omega
       refine ⟨((E6 _ _ hr).1.put i t).congr λw t'=>?_,Jl (mL _ _ _) (by omega)⟩
       rw [ir,XH,j6]
       constructor
       ·rintro ((z | ⟨z1,z2,z3,z4⟩) | ⟨z1,z2⟩)
        ·exact .inl z
        ·exact .inr ⟨z1,z2,Jy _ z3,z4⟩
        ·exact .inr ⟨z1,rfl,by rw [z2]; simp,by rw [z2]; exact GF⟩
       ·rintro (z | ⟨z1,z2,z3,z4⟩)
        ·exact .inl (.inl z)
        ·rcases Qw.mp z3 with z3 | z3
         ·exact .inl (.inr ⟨z1,z2,z3,z4⟩)
         ·exact .inr ⟨z1,Qq.mp z3⟩
      ·rw [if_neg eg] at fg
       refine ⟨(E6 _ _ fg).1.congr λw t'=>?_,Jl (E6 _ _ fg).2 (by omega)⟩
       have ng:¬ ((g2:Nat):Int)=h:=by omega
       constructor
       ·rintro (z | ⟨_,z2,_⟩)
        ·exact .inl z
        ·exact absurd z2 ng
       ·rintro (z | ⟨_,z2,_⟩)
        ·exact .inl z
        ·exact absurd z2 ng
     ·have GF:t=h:=by simpa using c
      refine ⟨⟨_,rfl⟩,s6,rs,R6,qi,λg2 r2 fg=>⟨(E6 _ _ fg).1.congr λw t'=>?_,Jl (E6 _ _ fg).2 (by omega)⟩⟩
      rw [j6]
      constructor
      ·rintro (z | ⟨z1,z2,z3,z4⟩)
       ·exact .inl z
       ·exact .inr ⟨z1,z2,Jy _ z3,z4⟩
      ·rintro (z | ⟨z1,z2,z3,z4⟩)
       ·exact .inl z
       ·rcases Qw.mp z3 with z3 | z3
        ·exact .inr ⟨z1,z2,z3,z4⟩
        ·exact absurd ((Qq.mp z3).trans GF) z4
    ·rintro σ H6 ⟨⟨v6,rfl⟩,s6,rs,R6,qi,E6⟩
     refine ⟨⟨_,_,_,_,rfl⟩,s6,rs,R6,qi,λg2 r2 fg=>⟨(E6 _ _ fg).1.congr λw t'=>?_,Jl (E6 _ _ fg).2 (by rw [Qc]; omega)⟩⟩
     rw [Qc,Jq]
     constructor
     ·rintro (⟨z1,z2⟩ | ⟨z1,z2,z3,z4⟩)
      ·exact ⟨by omega,z2⟩
      ·subst z1
       exact ⟨by omega,by rw [hh,z2],l,hl,z3,by rw [z2]; exact z4⟩
     ·rintro ⟨z1,z2⟩
      by_cases hw:w < i
      ·exact .inl ⟨hw,z2⟩
      ·have ew:w=i:=by omega
       subst ew
       obtain ⟨z3,l',z4,z5,z6⟩:=z2
       rw [hh] at z3
       rw [hl] at z4
       cases z4
       have ez:h=g2:=Option.some.inj z3
       exact .inr ⟨rfl,ez.symm,z5,by rw [ez]; exact z6⟩
   ·rintro σ H4 ⟨⟨v3,v4,v5,v6,rfl⟩,s4,rs,R4,BA,E4⟩
    refine ⟨_,rfl,k rp H4 qs rs s4 DK (λq hq=>(yf q hq).1) R4 BA λg r hr=>⟨(E4 g r hr).1.congr λw t=>⟨λz=>z.2,λz=>⟨?_,z⟩⟩,Jl (E4 g r hr).2 (by rw [Qc]; omega)⟩⟩
    rw [Qc]
    exact (Qd.mp z.1).1
def Tp (H H':Hp):Prop:=∀ p xs,H p=some (.tup xs)->H' p=some (.tup xs)
theorem Tp.of (s:aE H H'):Tp H H':=λ_ _ h=>s _ _ h
theorem Tp.upd {u:HO} (h:∀ xs,H a≠some (.tup xs)):Tp H (upd H a u):=λp xs e=>by
 have ne:p≠a:=λz=>h xs (by rw [<- z]; exact e)
 rw [aK ne]; exact e
theorem yK {fs:List (Key×V)} {os:List Int} (h:fs.map (·.1)=os.map Sum.inl) (t:Int):(eF fs (.inl t)).isSome=decide (t∈os):=by
 rw [<- iY]
 have:(fs.any λkv=>decide (kv.1=Sum.inl t))=((fs.map (·.1)).any λk=>decide (k=Sum.inl t)):=by rw [We]; rfl
 rw [this,h,We,Xj]
 simp
structure Tree (ws:List (List Int)) (hs:List Int) (n first:Int) (H:Hp) (fs:List (Key×V)) (os:List Int):Prop where
 keys:fs.map (·.1)=os.map Sum.inl
 nd:os.Nodup
 pg:∀ o∈os,0<=o/\o < n
 head:os[0]?=some first
 v0:eF fs (.inl first)=some .bw
 par:∀ (j:Nat) (t:Int),0 < j->os[j]?=some t->∃ (p:Addr) (w:Nat) (g:Int) (i:Nat),eF fs (.inl t)=some (.ref p)/\H p=some (.tup [.int (w:Nat),.int g,.int t])/\kT ws hs g w t/\i < j/\os[i]?=some g
section
variable {n first:Int} {fs:List (Key×V)} {os:List Int}
theorem Tree.tp (T:Tree ws hs n first H fs os) (e:Tp H H'):Tree ws hs n first H' fs os :=
 ⟨T.keys,T.nd,T.pg,T.head,T.v0,λj t h0 h1=>let ⟨p,w,g,i,a,b,c⟩:=T.par j t h0 h1; ⟨p,w,g,i,a,e _ _ b,c⟩⟩
theorem Tree.len (T:Tree ws hs n first H fs os):os.length<=n.toNat:=nH _ _ T.nd λx hx=>by have:=T.pg x hx; omega
theorem Tree.KQ (T:Tree ws hs n first H fs os):fs.length=os.length:=by
 have:=congrArg Yj T.keys
 rwa [Qc,Qc] at this
theorem Tree.one (h0:0<=first) (h1:first < n):Tree ws hs n first H [(.inl first,.bw)] [first] :=
 ⟨rfl,by simp,λo ho=>by rw [Qq.mp ho]; exact ⟨h0,h1⟩,rfl,fM rfl,λj t h2 h3=>by
  cases j with
  | zero=>omega
  | succ j=>simp at h3⟩
theorem Tree.grow (T:Tree ws hs n first H fs os) {p:Addr} {w:Nat} {g t:Int} (hp:H p=some (.tup [.int (w:Nat),.int g,.int t])) (e:kT ws hs g w t) (hi:os[i]?=some g) (ht:t∉os) (r0:0<=t) (r1:t < n) :
  Tree ws hs n first H (fs++[(.inl t,.ref p)]) (os++[t]):=by
 have hv:eF fs (.inl t)=none:=by
  have:=yK T.keys t
  rw [decide_eq_false ht] at this
  cases q:eF fs (.inl t) with
  | none=>rfl
  | some v=>rw [q] at this; cases this
 have ax:i < os.length:=(Qd.mp hi).1
 have val:∀ j:Key,eF (fs++[(.inl t,.ref p)]) j=if j=.inl t then some (.ref p) else eF fs j:=λj=>qL _ _ _ _ hv
 have hf:first∈os:=Qi T.head
 refine ⟨by rw [Qy,Qy,T.keys]; rfl,?_,λo ho=>?_,?_,?_,λj t' h0 h1=>?_⟩
 ·rw [Ys]
  exact ⟨T.nd,by simp,λx hx y hy z=>ht (by rw [<- Qq.mp hy,<- z]; exact hx)⟩
 ·rcases Qw.mp ho with h | h
  ·exact T.pg o h
  ·rw [Qq.mp h]; exact ⟨r0,r1⟩
 ·rw [Qz (by omega)]; exact T.head
 ·rw [val,if_neg (λz=>ht (by have:first=t:=(by simpa using z); rw [<- this]; exact hf))]
  exact T.v0
 ·by_cases hj:j < os.length
  ·rw [Qz hj] at h1
   obtain ⟨p',w',g',i',a,b,c,d,e'⟩:=T.par j t' h0 h1
   have ne:(Sum.inl t':Key)≠Sum.inl t:=λz=>ht (by have:t'=t:=(by simpa using z); rw [<- this]; exact Qi h1)
   exact ⟨p',w',g',i',by rw [val,if_neg ne]; exact a,b,c,d,by rw [Qz (by omega)]; exact e'⟩
  ·have ej:j=os.length:=by
    have:=(Qd.mp h1).1
    rw [Qn] at this
    simp at this
    omega
   subst ej
   rw [Jr (Qe _),Wz] at h1
   have et:t'=t:=by simpa using h1.symm
   subst et
   exact ⟨p,w,g,i,by rw [val,if_pos rfl],hp,e,ax,by rw [Qz ax]; exact hi⟩
theorem Tree.rl (T:Tree ws hs n first H fs os):∀ (j:Nat) (t:Int),os[j]?=some t->RL ws hs j first t:=by
 intro j
 induction j using Nat.strongRecOn with
 | ind j ih =>
  intro t ht
  by_cases h0:j=0
  ·subst h0
   rw [T.head] at ht
   exact Option.some.inj ht
  ·obtain ⟨p,w,g,i,_,_,e,hi,hg⟩:=T.par j t (by omega) ht
   exact ((ih i hi g hg).snoc e).mono (by omega)
end
def p? (ws:List (List Int)) (hs os:List Int):Prop:=∀ g∈os,∀ w t,kT ws hs g w t->t∈os
def wL (K:Rc):Sp:=λvs H Q _=>∃ rp first qs rs n ws hs,vs = [.ref rp,.int first]/\Rows H rp qs rs/\rs.length=n.toNat/\Fq (kT ws hs) rs 100/\(∀ g w t,kT ws hs g w t->0<=t/\t < n)/\n<=6/\0<=first/\first < n /\
 ∀ fd H' fs os,aE H H'->H fd=none->H' fd=some (.dK fs)->Tree ws hs n first H' fs os->p? ws hs os->Q (.ref fd) H'
theorem kU:ah ["rows", "first", "found", "waiting", "giver", "taker"] ["rows", "first"] (aL pJ):=⟨rfl,rfl,rfl,by decide +kernel,rfl,by decide +kernel,by decide +kernel⟩
theorem aBB (G:Fn K mg "reached" pJ ["rows", "first"] f fd) (B:Bl mg):af P w K mg base a_ 1 f fd ["rows", "first"] (wL K):=by
 refine G.fn.ok kU (λvs H Q E h=>?_) (λbj A outer s H vs Q E hr h=>?_)
 ·obtain ⟨rp,first,qs,rs,n,ws,hs,rfl,_⟩:=h
  rfl
 ·obtain ⟨rp,first,qs,rs,n,ws,hs,rfl,R,vo,ER,ue,ia,mq,Ap,k⟩:=h
  refine ⟨_,(aG (aT (i:=2) kU.nd rfl (Or.inl rfl) (aEI (pv 1) oC))
   (aG (aT (i:=3) kU.nd rfl (Or.inl rfl) (cP (aA (pv 1) aD)))
   (aG (sJ PassesOwn.never (aD2 (pv 3) (λ_=>rfl))
    (aG (aT (i:=4) kU.nd rfl (Or.inl rfl) (nS Rr PySem.F.slot_list_pop PySem.F.type_list_pop aEa (pv 3) (aA aI aD)))
    (aJ (B! (eS PassesOwn.never rfl (B? (bK cX (pv 0) (pv 4) (λ_ _=>rfl))) (aQ (i:=5) kU.nd rfl (Or.inl rfl))
     (aJ (bT (PQ (aC9 (lN hr) (pv 5) (pv 2)) (by with_unfolding_all rfl))
      (aG (xL (lN hr) (pv 2) (pv 5) (cL (aA (pE (lN hr) (bK cX (pv 0) (pv 4) (λ_ _=>rfl)) (pv 5) (λ_ _=>rfl)) (aA (pv 4) (aA (pv 5) aD)))) rfl)
      (aJ (bX (nS Rr Td Tf iL (pv 3) (aA (pv 5) aD)))))
      bG)))))))
   (aJ (aY (pv 2)))))),?_⟩
  intro ja xr
  refine ⟨_,rfl,.inl first,rfl,aB,?_⟩
  rw [aFM]
  have s1:=aE.new (o:=.dK [(.inl first,.bw)]) xr
  have e1:upd H ja (.dK [(.inl first,.bw)]) ja=some (.dK [(.inl first,.bw)]):=aB
  generalize upd H ja (.dK [(.inl first,.bw)])=H1 at s1 e1 ⊢
  refine ⟨_,rfl,rj _,λwt EM=>?_⟩
  have AU:H wt=none:=s1.free EM
  have Gk:ja≠wt:=λz=>by rw [z,EM] at e1; cases e1
  have s2:=s1.trans (aE.new (o:=.lst [.int first]) EM)
  have e2:=(aE.new (o:=.lst [.int first]) EM) _ _ e1
  have w2:upd H1 wt (.lst [.int first]) wt=some (.lst [.int first]):=aB
  generalize upd H1 wt (.lst [.int first])=H2 at s2 e2 w2 ⊢
  -- the while
  refine ⟨λm σ H3=>∃ (v4 v5:Option V) (mm:Nat) (fs:List (Key×V)) (os:List Int),σ = [some (.ref rp),some (.int first),some (.ref ja),some (.ref wt),v4,v5]/\m=n.toNat - mm/\aE H H3/\H3 ja=some (.dK fs)/\H3 wt=some (.lst ((os.drop mm).map V.int))/\Tree ws hs n first H3 fs os/\mm<=os.length /\
    ∀ (i:Nat) (g:Int),i < mm->os[i]?=some g->∀ w t,kT ws hs g w t->t∈os,
   ⟨n.toNat - 0,none,none,0,_,[first],rfl,rfl,s2,e2,w2,Tree.one mq Ap,Jb _,λi g hi=>absurd hi (Zm _)⟩,?_⟩
  rintro m σ H3 ⟨v4,v5,mm,fs,os,rfl,rfl,s3,e3,w3,T3,hmm,Lu⟩
  refine ⟨_,rfl,!((os.drop mm).map V.int).isEmpty,.inl ⟨_,ak.of w3,rfl⟩,?_⟩
  by_cases lu:mm < os.length
  ·-- a turn
   have cb:(os.drop mm)≠[]:=by
    intro z
    have:=congrArg Yj z
    rw [Jp] at this
    simp at this
    omega
   have hb:(!((os.drop mm).map V.int).isEmpty)=true:=by
    cases q:os.drop mm with
    | nil=>exact absurd q cb
    | cons _ _=>rfl
   rw [hb]
   refine jD ?_
   have lz:os.drop mm=os[mm]::os.drop (mm+1):=Yo lu
   have Hc:os[mm]?=some (os[mm]):=Qb lu
   generalize os[mm]=g at lz Hc
   obtain ⟨hg0,hg1⟩:=T3.pg g (Qi Hc)
   have Sg:=T3.len
   refine ⟨λao H'=>∃ m',m' < n.toNat - mm/\∃ (v4 v5:Option V) (mm:Nat) (fs:List (Key×V)) (os:List Int),ao = [some (.ref rp),some (.int first),some (.ref ja),some (.ref wt),v4,v5]/\m'=n.toNat - mm/\aE H H'/\H' ja=some (.dK fs)/\H' wt=some (.lst ((os.drop mm).map V.int))/\Tree ws hs n first H' fs os/\mm<=os.length /\
    ∀ (i:Nat) (g:Int),i < mm->os[i]?=some g->∀ w t,kT ws hs g w t->t∈os,λao H' z=>z,?_⟩
   refine ⟨_,rfl,.inl ⟨rfl,_,ak.of w3⟩,?_⟩
   have LH:((os.drop mm).map V.int)[0]?=some (.int g):=by rw [lz]; rfl
   have pq:0 < ((os.drop mm).map V.int).length:=(Qd.mp LH).1
   refine ⟨wt,_,0,0,.int g,rfl,rfl,w3,by decide,by decide,pF (i:=0) (by decide) pq,LH,?_⟩
   have VW:((os.drop mm).map V.int).eraseIdx 0=(os.drop (mm+1)).map V.int:=by rw [lz]; rfl
   rw [VW]
   have s4:=s3.wr (u:=.lst ((os.drop (mm+1)).map V.int)) AU
   have e4:upd H3 wt (.lst ((os.drop (mm+1)).map V.int)) ja=some (.dK fs):=by rw [aK Gk]; exact e3
   have w4:upd H3 wt (.lst ((os.drop (mm+1)).map V.int)) wt=some (.lst ((os.drop (mm+1)).map V.int)):=aB
   have T4:=T3.tp (Tp.upd (a:=wt) (u:=.lst ((os.drop (mm+1)).map V.int)) λxs z=>by rw [w3] at z; cases z)
   generalize upd H3 wt (.lst ((os.drop (mm+1)).map V.int))=H4 at s4 e4 w4 T4 ⊢
   -- the row
   have R4:=R.same s4
   have Hd:g.toNat < qs.length:=by rw [R.len,vo]; omega
   have ir:((g.toNat:Nat):Int)=g:=by omega
   obtain ⟨qg,LQ⟩:∃ q,qs[g.toNat]?=some q:=⟨_,Qb Hd⟩
   obtain ⟨r,hr⟩:∃ r,rs[g.toNat]?=some r:=⟨_,Qb (by rw [vo]; omega)⟩
   have j':ka (qs.map V.ref) g=some (.ref qg):=by
    have:=cW (xs:=qs.map V.ref) (j:=g.toNat) (v:=.ref qg) (by rw [Qh,LQ]; rfl)
    rwa [ir] at this
   have kg:=R.row _ _ _ LQ hr
   have zg:=s4 _ _ kg
   obtain ⟨Hw,E9⟩:=ER _ _ hr
   rw [ir] at Hw
   have Gj:qg≠ja:=λz=>by rw [z,xr] at kg; cases kg
   have Gi:qg≠wt:=λz=>by rw [z,AU] at kg; cases kg
   have TR:rp≠qg:=λz=>by have:=R.lst; rw [z,kg] at this; cases this
   refine ⟨_,rfl,_,rfl,rp,_,g,_,rfl,rfl,ak.of R4.lst,j',qg,r,rfl,zg,λo nf=>?_⟩
   have z5:upd H4 qg (.cq o (.dK r)) qg=some (.cq o (.dK r)):=aB
   have b5:az qg H (upd H4 qg (.cq o (.dK r))):=λb u nb hb=>by rw [aK nb]; exact s4 _ _ hb
   have e5:upd H4 qg (.cq o (.dK r)) ja=some (.dK fs):=by rw [aK (Ne.symm Gj)]; exact e4
   have w5:upd H4 qg (.cq o (.dK r)) wt=some (.lst ((os.drop (mm+1)).map V.int)):=by rw [aK (Ne.symm Gi)]; exact w4
   have T5:=T4.tp (Tp.upd (a:=qg) (u:=.cq o (.dK r)) λxs z=>by rw [zg] at z; cases z)
   generalize upd H4 qg (.cq o (.dK r))=H5 at z5 b5 e5 w5 T5 ⊢
   refine aEH (a:=qg) (o:=o) (kvs:=r) (λj σ H6=>∃ (v5:Option V) (fs:List (Key×V)) (os:List Int),σ = [some (.ref rp),some (.int first),some (.ref ja),some (.ref wt),some (.int g),v5]/\H6 qg=some (.cq o (.dK r))/\az qg H H6/\H6 ja=some (.dK fs)/\H6 wt=some (.lst ((os.drop (mm+1)).map V.int))/\Tree ws hs n first H6 fs os/\mm+1<=os.length/\os[mm]?=some g /\
     (∀ (i:Nat) (g:Int),i < mm->os[i]?=some g->∀ w t,kT ws hs g w t->t∈os)/\∀ (i:Nat) k v t,i < j->r[i]?=some (k,v)->k=.inl t->t∈os)
    ⟨v5,fs,os,rfl,z5,b5,e5,w5,T5,lu,Hc,Lu,λi k v t hi=>absurd hi (Zm _)⟩ (λj σ H6 _ ⟨_,_,_,_,h,_⟩=>h) ?_ ?_
   ·rintro j ⟨key,val⟩ σ H6 hj ⟨v5,fs,os,rfl,z6,b6,e6,w6,T6,Ak,CK,Es,HX⟩
    -- the key is a hand,its value a work
    obtain ⟨aaa,lh⟩:∃ v,eF r key=some v:=by
     have:(eF r key).isSome=true:=by
      rw [<- iY,Zs]
      exact ⟨_,Qi hj,by simp⟩
     cases q:eF r key with
     | none=>rw [q] at this; cases this
     | some v=>exact ⟨v,rfl⟩
    obtain ⟨wk,t,rfl,rfl,hE⟩:=Hw.1 _ _ lh
    obtain ⟨U4,U3⟩:=ue _ _ _ hE
    dsimp only [kV]
    have dn:∀ (Bq:List Int),t∈Bq->(∀ x∈os,x∈Bq)->∀ (i:Nat) k v t',i < j+1->r[i]?=some (k,v)->k=.inl t'->t'∈Bq:=λBq h1 h2 i k v t' hi hk he=>by
     by_cases An:i < j
     ·exact h2 _ (HX i k v t' An hk he)
     ·have:i=j:=by omega
      subst this
      rw [hj] at hk
      cases hk
      have:t=t':=by simpa using he
      rw [<- this]; exact h1
    refine ⟨_,rfl,_,rfl,ja,_,rfl,yz.k (k:=.inl t) e6,_,rfl,?_⟩
    rw [yK T6.keys]
    by_cases Cz:t∈os
    ·rw [decide_eq_true Cz]
     refine iN ?_
     exact ⟨_,fs,os,rfl,z6,b6,e6,w6,T6,Ak,CK,Es,dn os Cz λ_ h=>h⟩
    ·rw [decide_eq_false Cz]
     refine jD ?_
     have WB:H6 rp=some (.lst (qs.map V.ref)):=b6 _ _ TR R.lst
     refine ⟨_,rfl,_,rfl,rp,_,g,_,rfl,rfl,ak.of WB,j',_,rfl,qg,.int (wk:Nat),rfl,.inl ⟨r,.inl t,.inr ⟨o,z6⟩,rfl,lh.symm⟩,_,rfl,_,rfl,dJ (show 3<=1000 by decide),λp hp=>?_⟩
     have sp:=aE.new (o:=.tup [.int (wk:Nat),.int g,.int t]) hp
     have ep:upd H6 p (.tup [.int (wk:Nat),.int g,.int t]) p=_:=aB
     have b7:az qg H (upd H6 p (.tup [.int (wk:Nat),.int g,.int t])):=b6.trans (az.of sp)
     have z7:=sp _ _ z6
     have e7:=sp _ _ e6
     have w7:=sp _ _ w6
     have T7:=T6.tp (Tp.of sp)
     generalize upd H6 p (.tup [.int (wk:Nat),.int g,.int t])=H7 at sp ep b7 z7 e7 w7 T7 ⊢
     have hv:eF fs (.inl t)=none:=by
      have:=yK T7.keys t
      rw [decide_eq_false Cz] at this
      cases q:eF fs (.inl t) with
      | none=>rfl
      | some v=>rw [q] at this; cases this
     have T7l:=T7.len
     have T7f:=T7.KQ
     have T8:=T7.grow ep hE CK Cz U4 U3
     have Kj:kH fs (.inl t) (.ref p)=fs++[(.inl t,.ref p)]:=aED _ hv
     refine ⟨_,rfl,_,rfl,ja,_,rfl,xK.k (k:=.inl t) e7 (by rw [Rg]; omega),?_⟩
     rw [Kj]
     have b8:az qg H (upd H7 ja (.dK (fs++[(.inl t,.ref p)]))):=λb u nb hb=>by
      rw [aK (λz=>by rw [z,xr] at hb; cases hb)]
      exact b7 b u nb hb
     have z8:upd H7 ja (.dK (fs++[(.inl t,.ref p)])) qg=some (.cq o (.dK r)):=by rw [aK Gj]; exact z7
     have e8:upd H7 ja (.dK (fs++[(.inl t,.ref p)])) ja=_:=aB
     have w8:upd H7 ja (.dK (fs++[(.inl t,.ref p)])) wt=some (.lst ((os.drop (mm+1)).map V.int)):=by rw [aK (Ne.symm Gk)]; exact w7
     have RX:=T8.tp (Tp.upd (a:=ja) (u:=.dK (fs++[(.inl t,.ref p)])) λxs z=>by rw [e7] at z; cases z)
     generalize upd H7 ja (.dK (fs++[(.inl t,.ref p)]))=H8 at b8 z8 e8 w8 RX ⊢
     refine ⟨_,rfl,.inl ⟨rfl,_,ak.of w8⟩,_,rfl,wt,_,.int t,rfl,rfl,w8,by rw [Qc,Jp,Rg]; omega,?_⟩
     have VY:(os.drop (mm+1)).map V.int++[V.int t]=((os++[t]).drop (mm+1)).map V.int:=by
      rw [List.drop_append_of_le_length Ak,Qy]; rfl
     rw [VY]
     refine ⟨_,_,os++[t],rfl,by rw [aK Gi]; exact z8,λb u nb hb=>?_,by rw [aK Gk]; exact e8,aB,RX.tp (Tp.upd λxs z=>by rw [w8] at z; cases z),by rw [Qn]; omega,by rw [Qz (by omega)]; exact CK,λi g' hi BD w t' e'=>?_,dn _ (by simp) λx hx=>Jy _ hx⟩
     ·rw [aK (λz=>by rw [z,AU] at hb; cases hb)]
      exact b8 b u nb hb
     ·rw [Qz (by omega)] at BD
      exact Jy _ (Es i g' hi BD w t' e')
   ·rintro σ H6 ⟨v5,fs,os,rfl,z6,b6,e6,w6,T6,Ak,CK,Es,HX⟩
    refine ⟨qg,o,r,z6,nf,?_⟩
    have hole:=T6.len
    have s7:aE H (upd H6 qg (.dK r)):=λb u hb=>by
     by_cases Hn:b=qg
     ·rw [Hn] at hb ⊢
      rw [aB,<- kg]; exact hb
     ·rw [aK Hn]; exact b6 b u Hn hb
    refine ⟨n.toNat - (mm+1),by omega,_,_,mm+1,fs,os,rfl,rfl,s7,by rw [aK (Ne.symm Gj)]; exact e6,by rw [aK (Ne.symm Gi)]; exact w6,T6.tp (Tp.upd λxs z=>by rw [z6] at z; cases z),Ak,λi g' hi BD w t e=>?_⟩
    by_cases VR:i < mm
    ·exact Es i g' VR BD w t e
    ·have:i=mm:=by omega
     subst this
     rw [CK] at BD
     cases BD
     have hs:=Hw.2 w t e
     rw [<- iY,Zs] at hs
     obtain ⟨⟨k,v⟩,hk,he⟩:=hs
     obtain ⟨j,hj⟩:=Jd.mp hk
     exact HX j k v t (Qd.mp hj).1 hj (by simpa using he)
  ·have hlen:mm=os.length:=by omega
   have hb:(!((os.drop mm).map V.int).isEmpty)=false:=by rw [hlen,List.drop_length]; rfl
   rw [hb]
   refine iN ?_
   refine ⟨_,rfl,k ja H3 fs os s3 xr e3 T3 λg hg w t e=>?_⟩
   obtain ⟨i,hi⟩:=Jd.mp hg
   exact Lu i g (by have:=(Qd.mp hi).1; omega) hi w t e
structure bg (H:Hp) (ps:List Addr) (ss:List (Nat×Int×Int)):Prop where
 len:ps.length=ss.length
 at_:∀ (i:Nat) p s,ps[i]?=some p->ss[i]?=some s->H p=some (.tup [.int (s.1:Nat),.int s.2.1,.int s.2.2])
theorem bg.nil:bg H [] []:=⟨rfl,λi p s h=>by simp at h⟩
theorem bg.cons {ps:List Addr} (h:bg H ps ss) {p:Addr} {w:Nat} {g t:Int} (hp:H p=some (.tup [.int (w:Nat),.int g,.int t])):bg H (p::ps) ((w,g,t)::ss):=by
 refine ⟨by rw [Jg,Jg,h.len],λi p' s h1 h2=>?_⟩
 cases i with
 | zero =>
  have e1:p=p':=by simpa using h1
  have e2:(w,g,t)=s:=by simpa using h2
  subst e1 e2
  exact hp
 | succ i=>exact h.at_ i p' s (by simpa using h1) (by simpa using h2)
theorem bg.tp {ps:List Addr} (h:bg H ps ss) (e:Tp H H'):bg H' ps ss:=⟨h.len,λi p s a b=>e _ _ (h.at_ i p s a b)⟩
def P0 (K:Rc):Sp:=λvs H Q _=>∃ sj last fs os first n ws hs jl,vs = [.ref sj,.int last]/\H sj=some (.dK fs)/\Tree ws hs n first H fs os/\n<=6/\os[jl]?=some last /\
 ∀ p H' ps ss,aE H H'->H p=none->H' p=some (.lst (ps.map V.ref))->bg H' ps ss->iP ws hs first ss last->(first::ss.map (·.2.2)).Nodup->(∀ s∈ss,s.2.2∈os)->(0 < jl->ss≠[])->Q (.ref p) H'
theorem sE:ah ["found", "last", "some", "step"] ["found", "last"] (aL xX):=⟨rfl,rfl,rfl,by decide +kernel,rfl,by decide +kernel,by decide +kernel⟩
theorem aFg (G:Fn K mg "way_to" xX ["found", "last"] f fd) (B:Bl mg):af P w K mg base a_ 1 f fd ["found", "last"] (P0 K):=by
 refine G.fn.ok sE (λvs H Q E h=>?_) (λbj A outer s H vs Q E hr h=>?_)
 ·obtain ⟨sj,last,fs,os,first,n,ws,hs,jl,rfl,_⟩:=h
  rfl
 ·obtain ⟨sj,last,fs,os,first,n,ws,hs,jl,rfl,Hh,T,ia,yl,k⟩:=h
  refine ⟨_,(aG (aT (i:=2) sE.nd rfl (Or.inl rfl) (cP aD))
   (aG (aT (i:=3) sE.nd rfl (Or.inl rfl) (pE (lN hr) (pv 0) (pv 1) (λ_ _=>rfl)))
   (aG (sJ PassesOwn.never (PQ (aFP (pv 3)))
    (aG (bX (nS Rr Td Tf iL (pv 2) (aA (pv 3) aD)))
    (aJ (aT (i:=3) sE.nd rfl (Or.inl rfl) (pE (lN hr) (pv 0) (bK fU (pv 3) aI (λ_ _=>rfl)) (λ_ _=>rfl))))))
   (aJ (aY (E! (pv 2) (sK oF aI))))))),?_⟩
  have Tl:=T.len
  have Ko:n.toNat < sizeLine:=by rw [Rg]; omega
  refine ⟨dJ (show 0<=1000 by decide),λsm EO=>?_⟩
  have s1:=aE.new (o:=.lst []) EO
  have e1:upd H sm (.lst []) sm=some (.lst []):=aB
  generalize upd H sm (.lst [])=H1 at s1 e1 ⊢
  -- what stands at a found hand
  have vals:∀ (j:Nat) (t:Int),os[j]?=some t->∃ v,eF fs (.inl t)=some v/\((j=0/\v=.bw)∨∃ p w g i,0 < j/\v=.ref p/\H p=some (.tup [.int (w:Nat),.int g,.int t])/\kT ws hs g w t/\i < j/\os[i]?=some g):=λj t ht=>by
   by_cases hj:j=0
   ·subst hj
    rw [T.head] at ht
    cases ht
    exact ⟨_,T.v0,.inl ⟨rfl,rfl⟩⟩
   ·obtain ⟨p,w,g,i,a,b,c,d,e⟩:=T.par j t (by omega) ht
    exact ⟨_,a,.inr ⟨p,w,g,i,by omega,rfl,b,c,d,e⟩⟩
  obtain ⟨v0,LJ,_⟩:=vals jl last yl
  refine ⟨_,rfl,_,rfl,sj,v0,rfl,.inl ⟨fs,.inl last,.inl (s1 _ _ Hh),rfl,LJ.symm⟩,?_⟩
  refine ⟨λm σ H2=>∃ (j:Nat) (t:Int) (v:V) (k8:List Addr) (ss:List (Nat×Int×Int)),m=j/\σ = [some (.ref sj),some (.int last),some (.ref sm),some v]/\os[j]?=some t/\eF fs (.inl t)=some v/\aE H H2/\H2 sm=some (.lst (k8.map V.ref))/\bg H2 k8.reverse ss/\iP ws hs t ss last/\(t::ss.map (·.2.2)).Nodup /\
    (∀ x∈ss.map (·.2.2),∃ i:Nat,j < i/\os[i]?=some x)/\k8.length+j<=jl/\(j < jl->ss≠[]),
   ⟨jl,jl,last,v0,[],[],rfl,rfl,yl,LJ,s1,e1,bg.nil,rfl,by simp,λx h=>by simp at h,by simp,λh=>by omega⟩,?_⟩
  rintro j σ H2 ⟨_,t,v,k8,ss,rfl,rfl,hj,hv,s2,e2,S2,P2,N2,I2,L2',L3⟩
  have VQ:jl < os.length:=(Qd.mp yl).1
  obtain ⟨v',Cy,cs⟩:=vals j t hj
  rw [hv] at Cy
  cases Cy
  rcases cs with ⟨rfl,rfl⟩ | ⟨p,w,g,i,hj0,rfl,hp,hE,An,hg⟩
  ·refine ⟨_,rfl,_,rfl,?_⟩
   refine iN ?_
   rw [T.head] at hj
   cases hj
   refine ⟨_,rfl,_,rfl,rfl,sm,_,rfl,ak.of e2,λp hp=>?_⟩
   have s3:=aE.new (o:=.lst (k8.map V.ref).reverse) hp
   refine k p _ k8.reverse ss (s2.trans s3) (s2.free hp) (by rw [aB,List.map_reverse]) (S2.tp (Tp.of s3)) P2 N2 (λx hx=>?_) L3
   obtain ⟨i,_,hi⟩:=I2 _ (Qx.mpr ⟨x,hx,rfl⟩)
   exact Qi hi
  ·refine ⟨_,rfl,_,rfl,?_⟩
   refine jD ?_
   obtain ⟨vg,LI,_⟩:=vals i g hg
   refine ⟨λao H'=>∃ m',m' < j/\∃ (j:Nat) (t:Int) (v:V) (k8:List Addr) (ss:List (Nat×Int×Int)),m'=j/\ao = [some (.ref sj),some (.int last),some (.ref sm),some v]/\os[j]?=some t/\eF fs (.inl t)=some v/\aE H H'/\H' sm=some (.lst (k8.map V.ref))/\bg H' k8.reverse ss/\iP ws hs t ss last/\(t::ss.map (·.2.2)).Nodup /\
    (∀ x∈ss.map (·.2.2),∃ i:Nat,j < i/\os[i]?=some x)/\k8.length+j<=jl/\(j < jl->ss≠[]),λao H' z=>z,?_⟩
   have hsz:(k8.map V.ref).length < sizeLine:=by
    rw [Qc]
    exact Zy (Jl (Jl (Xn _ _) L2') (Jl (Yc VQ) Tl)) Ko
   refine ⟨_,rfl,.inl ⟨rfl,_,ak.of e2⟩,_,rfl,sm,_,.ref p,rfl,rfl,e2,hsz,?_⟩
   have s3:aE H (upd H2 sm (.lst (k8.map V.ref++[.ref p]))):=s2.wr EO
   have e3:upd H2 sm (.lst (k8.map V.ref++[.ref p])) sm=_:=aB
   have S3:=S2.tp (Tp.upd (a:=sm) (u:=.lst (k8.map V.ref++[.ref p])) λxs z=>by rw [e2] at z; cases z)
   generalize upd H2 sm (.lst (k8.map V.ref++[.ref p]))=H3 at s3 e3 S3 ⊢
   have qr:=s3 _ _ hp
   refine ⟨_,rfl,_,rfl,p,_,1,.int g,rfl,rfl,aj.of qr,rfl,sj,vg,rfl,.inl ⟨fs,.inl g,.inl (s3 _ _ Hh),rfl,LI.symm⟩,?_⟩
   refine ⟨i,An,i,g,vg,k8++[p],(w,g,t)::ss,rfl,rfl,hg,LI,s3,by rw [Qy]; exact e3,?_,⟨rfl,hE,P2⟩,?_,?_,?_,λ_=>by simp⟩
   ·rw [Wk]
    exact S3.cons qr
   ·show (g::t::ss.map (·.2.2)).Nodup
    rw [Jw]
    refine ⟨λhm=>?_,N2⟩
    have inj:∀ i',i < i'->os[i']?=some g->False:=λi' h1 h2=>by
     have:=(Yr (Qd.mp hg).1 T.nd).mp (hg.trans h2.symm)
     omega
    rcases Qj.mp hm with e | hm
    ·exact inj j An (by rw [e]; exact hj)
    ·obtain ⟨i',h1,h2⟩:=I2 g hm
     exact inj i' (by omega) h2
   ·intro x hx
    rcases Qj.mp (show x∈t::ss.map (·.2.2) from hx) with rfl | hx
    ·exact ⟨j,An,hj⟩
    ·obtain ⟨i',h1,h2⟩:=I2 x hx
     exact ⟨i',by omega,h2⟩
   ·rw [Qn]
    show k8.length+1+i<=jl
    omega
def pP:Str:=("levels_or_way" : Str) ++ ".<locals>." ++ "<lambda>"
theorem uB {n:Int} {h:Int} (h0:0<=h) (h1:h < n):ka ((gW n hs).map V.int) h=some (.int ((hs.count h:Nat):Int)):=by
 have ax:h.toNat < n.toNat:=by omega
 have ir:((h.toNat:Nat):Int)=h:=by omega
 have h1:((gW n hs).map V.int)[h.toNat]?=some (.int ((hs.count h:Nat):Int)):=by rw [Qh,tZ ax,ir]; rfl
 have h2:=cW h1
 rwa [ir] at h2
def OX (n:Int) (ws:List (List Int)) (hs:List Int) (H H':Hp) (p:Addr):Prop :=
 (∃ q lv,H' p=some (.tup [.str "levels",.ref q])/\H' q=some (.tup (lv.map V.int))/\jA n ws hs lv) ∨
 ∃ q ps ss,H' p=some (.tup [.str "way",.ref q])/\H q=none/\H' q=some (.lst (ps.map V.ref))/\bg H' ps ss/\rH n ws hs ss
def Dj (K:Rc) (Pt:Addr):Sp:=λvs H Q _=>∃ x y n ws hs,vs = [x,y]/\gA K H x y n ws hs/\H Pt=some (.tab pP)/\∀ p H',aE H H'->OX n ws hs H H' p->Q (.ref p) H'
theorem pQ:ah ["book", "deal", "many", "rows", "levels", "hand", "found", "last"] ["book", "deal"] (aL yy):=⟨rfl,rfl,rfl,by decide +kernel,rfl,by decide +kernel,by decide +kernel⟩
theorem p! {NM fR NG:Addr} {N8 dR N0:FuncData} (G:Fn K mg "levels_or_way" yy ["book", "deal"] f fd) (hc:fd.code=.ref c) (Z:Lm K mg base c Pt) (B:Bl mg) (R:Pr K mg fW fH fK fB gk fD f' fL dW dH dK dB gm dD f_ dL) (GH:Fn K mg "handing" mQ ["book", "deal"] NM N8) (GR:Fn K mg "reached" pJ ["rows", "first"] fR dR) (GW:Fn K mg "way_to" xX ["found", "last"] NG N0):af P w K mg base a_ 8 f fd ["book", "deal"] (Dj K Pt):=by
 have OL:af P w K mg base a_ 7 fL dL ["book", "deal"] (sC K):=tT B R
 have OH:af P w K mg base a_ 1 NM N8 ["book", "deal"] (wK K):=aBA GH B
 have OR:af P w K mg base a_ 1 fR dR ["rows", "first"] (wL K):=aBB GR B
 have OW:af P w K mg base a_ 1 NG N0 ["found", "last"] (P0 K):=aFg GW B
 refine G.fn.TJ hc pQ (λvs H Q E h=>?_) (λA outer s H vs Q E hr h=>?_)
 ·obtain ⟨x,y,n,ws,hs,rfl,_⟩:=h
  rfl
 ·obtain ⟨x,y,n,ws,hs,rfl,g,hT,k⟩:=h
  have r1:ay 1 _:=hr.mono (by decide)
  refine ⟨_,(aG (aT (i:=2) pQ.nd rfl (Or.inr rfl) (bH R.L OL hr rfl (aA (pv 0) (aA (pv 1) aD))))
   (aG (aT (i:=3) pQ.nd rfl (Or.inl rfl) (bH GH OH r1 rfl (aA (pv 0) (aA (pv 1) aD))))
   (aG (aT (i:=4) pQ.nd rfl (Or.inl rfl) (cP aD))
   (aG (eS PassesOwn.never rfl (fT rfl B.range (aA (bK fU (pv 0) aI (λ_ _=>rfl)) aD)) (aQ (i:=5) pQ.nd rfl (Or.inl rfl))
    (aG (aT (i:=6) pQ.nd rfl (Or.inl rfl) (bH GR OR r1 rfl (aA (pv 3) (aA (pv 5) aD))))
    (aG (aT (i:=7) pQ.nd rfl (Or.inl rfl) (aDb 2 rfl r1 rfl B.min Z rfl (q:=pP) rfl (pv 6) rfl rfl))
    (aG (bT (bB yX (bE PM (bK fU (pv 2) (pv 5) (λ_ _=>rfl)) (bK fU (pv 2) (pv 7) (λ_ _=>rfl))) aI (bD _))
     (aJ (aY (cL (aA gD (aA (bH GW OW r1 rfl (aA (pv 6) (aA (pv 7) aD))) aD)))))
     bG)
    (aJ (bX (nS Rr Td Tf iL (pv 4) (aA (bK fU (pv 2) (pv 7) (λ_ _=>rfl)) aD))))))))
   (aJ (aY (cL (aA gD (aA (cB cC rfl B.tuple dZ (aA (pv 4) aD)) aD))))))))),?_⟩
  obtain ⟨jt,jq,ia⟩:=g.len
  obtain ⟨a,b,ys,ex,ha,ee,dk⟩:=dM g.1
  obtain ⟨_,_,gu,fv⟩:=bO g.2.1
  have ue:∀ g w t,kT ws hs g w t->0<=t/\t < n:=λg w t e=>by
   obtain ⟨_,l,h1,h2,_⟩:=e
   exact (bV (fv l (Qi h1))).2.1 t h2
  refine ⟨_,rfl,_,rfl,x,y,n,ws,hs,rfl,g,λmp H1 s1 L0=>?_⟩
  have g1:=g.same s1
  refine ⟨_,rfl,_,rfl,x,y,n,ws,hs,rfl,g1,λrp H2 qs rs s2 CA yf R2 vo ER=>?_⟩
  refine ⟨dJ (show 0<=1000 by decide),λlp mn=>?_⟩
  have uq:=s1.trans s2
  have s3:=uq.trans (aE.new (o:=.lst []) mn)
  have Kv:H lp=none:=uq.free mn
  have R3:=R2.same (aE.new (o:=.lst []) mn)
  have m3:=(s2.trans (aE.new (o:=.lst []) mn)) _ _ L0
  have e3:upd H2 lp (.lst []) lp=some (.lst []):=aB
  have DK:H rp=none:=s1.free CA
  have TQ:rp≠lp:=λz=>by have:=R2.lst; rw [z,mn] at this; cases this
  have TU:∀ q∈qs,q≠lp:=λq hq z=>by
   obtain ⟨i,hi⟩:=Jd.mp hq
   have L9:i < rs.length:=by rw [<- R2.len]; exact (Qd.mp hi).1
   have:=R2.row i q _ hi (Qb L9)
   rw [z,mn] at this; cases this
  have T_:mp≠lp:=λz=>by have:=s2 _ _ L0; rw [z,mn] at this; cases this
  generalize upd H2 lp (.lst [])=H3 at s3 R3 m3 e3 ⊢
  subst ex
  refine ⟨_,rfl,a,_,0,.int n,rfl,rfl,s3.ai ha,rfl,n,rfl,by omega,by omega,kM (lo:=0) (n:=n.toNat) (λi σ H4=>∃ (v5 v6 v7:Option V) (lv:List Int),σ = [some (.ref a),some y,some (.ref mp),some (.ref rp),some (.ref lp),v5,v6,v7]/\aE H H4/\Rows H4 rp qs rs/\H4 mp=some (.tup ((gW n hs).map V.int))/\H4 lp=some (.lst (lv.map V.int))/\lv.length=i /\
    ∀ (h:Nat) (v:Int),lv[h]?=some v->IL ws hs n.toNat h v/\((hs.count (h:Int):Nat):Int) - v < 2)
   ⟨none,none,none,[],rfl,s3,R3,m3,e3,rfl,λh v e=>by simp at e⟩ ?_ ?_⟩
  ·rintro i σ H4 hi ⟨v5,v6,v7,lv,rfl,s4,R4,m4,e4,p_,L4⟩
   have G':(0:Int)<=0+(i:Int):=by omega
   have ot:0+(i:Int) < n:=by omega
   refine ⟨_,rfl,_,rfl,rp,0+(i:Int),qs,rs,n,ws,hs,rfl,R4,vo,ER,ue,ia,G',ot,λsj H5 fs os s5 Hh e5 T5 C5=>?_⟩
   have Lo:=s4.trans s5
   have R5:=R4.same s5
   have m5:=s5 _ _ m4
   have l5:=s5 _ _ e4
   have T5l:=T5.len
   have qf:0 < os.length:=(Qd.mp T5.head).1
   refine ⟨_,rfl,os,λo=>((hs.count o:Nat):Int),.ref mp,⟨sj,rfl,.inr (.inr ⟨fs,e5,T5.keys⟩)⟩,qf,Lo _ _ hT,rfl,λo ho=>?_,λj m H6 s6 hj tw _=>?_⟩
   ·obtain ⟨o0,o1⟩:=T5.pg o ho
    refine ⟨o0,by omega,mp,_,rfl,.inl (aj.of m5),?_⟩
    rw [Qh,tZ (by omega),show ((o.toNat:Nat):Int)=o by omega]
    rfl
   have yl:j < os.length:=(Qd.mp hj).1
   obtain ⟨m0,m1⟩:=T5.pg m (Qi hj)
   have F8:=Lo.trans s6
   have R6:=R5.same s6
   have m6:=s6 _ _ m5
   have l6:=s6 _ _ l5
   have e6:=s6 _ _ e5
   have T6:=T5.tp (Tp.of s6)
   have BN:RL ws hs n.toNat (0+(i:Int)) m:=(T6.rl j m hj).mono (by omega)
   have zj:IL ws hs n.toNat (0+(i:Int)) ((hs.count m:Nat):Int):=by
    refine ⟨⟨m,BN,rfl⟩,λk x hx=>?_⟩
    exact tw x (hx.closed (S:=λo=>o∈os) (λg w t hg e=>C5 g hg w t e) (Qi T5.head))
   refine ⟨_,rfl,_,rfl,mp,_,_,_,rfl,rfl,aj.of m6,uB G' ot,_,rfl,_,rfl,mp,_,_,_,rfl,rfl,aj.of m6,uB m0 m1,_,_,rfl,rfl,_,_,rfl,rfl,_,rfl,?_⟩
   refine cR (λc=>?_) (λc=>?_)
   ·have r_:((hs.count (0+(i:Int)):Nat):Int) - ((hs.count m:Nat):Int)≥2:=of_decide_eq_true c
    refine ⟨_,rfl,_,rfl,sj,m,fs,os,0+(i:Int),n,ws,hs,j,rfl,e6,T6,ia,hj,λp H7 ps ss s7 hp GX S7 P7 N7 _ Ey=>⟨uo _ _,λq hq=>?_⟩⟩
    have s8:=aE.new (o:=.tup [.str "way",.ref p]) hq
    refine k q _ ((F8.trans s7).trans s8) (.inr ⟨p,ps,ss,aB,F8.free hp,s8 _ _ GX,S7.tp (Tp.of s8),0+(i:Int),m,Ey ?_,P7,N7,G',ot,BN,r_⟩)
    rcases Nat.eq_zero_or_pos j with z | z
    ·rw [z,T5.head] at hj
     cases hj
     omega
    ·exact z
   ·have ax:¬ ((hs.count (0+(i:Int)):Nat):Int) - ((hs.count m:Nat):Int)≥2:=λz=>c (decide_eq_true z)
    refine ⟨_,rfl,.inl ⟨rfl,_,ak.of l6⟩,_,rfl,_,rfl,mp,_,_,_,rfl,rfl,aj.of m6,uB m0 m1,lp,_,_,rfl,rfl,l6,by rw [Qc,Rg]; omega,?_⟩
    refine ⟨_,_,_,lv++[((hs.count m:Nat):Int)],rfl,F8.wr Kv,?_,by rw [aK T_]; exact m6,by rw [aB,Qy]; rfl,by rw [Qn,p_]; rfl,λh v e=>?_⟩
    ·refine ⟨by rw [aK TQ]; exact R6.lst,R6.len,R6.nd,λg q r h1 h2=>?_⟩
     rw [aK (TU q (Qi h1))]
     exact R6.row g q r h1 h2
    ·by_cases hh:h < lv.length
     ·rw [Qz hh] at e
      exact L4 h v e
     ·have eh:h=i:=by
       have:=(Qd.mp e).1
       rw [Qn] at this
       simp at this
       omega
      subst eh
      rw [Jr (by omega),p_,Wz] at e
      have ev:((hs.count m:Nat):Int)=v:=by simpa using e
      rw [<- ev]
      rw [Ww] at zj ax
      exact ⟨zj,by omega⟩
  ·rintro σ H4 ⟨v5,v6,v7,lv,rfl,s4,R4,m4,e4,p_,L4⟩
   refine ⟨_,rfl,lp,_,rfl,.inl ⟨ak.of e4,λq hq=>⟨uo _ _,λp hp=>?_⟩⟩⟩
   have s5:=(aE.new (o:=.tup (lv.map V.int)) hq).trans (aE.new (o:=.tup [.str "levels",.ref q]) hp)
   exact k p _ (s4.trans s5) (.inl ⟨q,lv,aB,(aE.new hp) _ _ aB,p_,L4⟩)
def d2 (n:Int) (ws:List (List Int)) (hs:List Int):PyData:=.list [cJ n ws,iH hs]
theorem oP:∀ {h x:Int} {ss:List (Nat×Int×Int)},iP ws hs h ss x->ss.map (·.2.1)++[x]=h::ss.map (·.2.2)
 | _,_,[],e=>by cases e; rfl
 | _,_,s::r,⟨e1,_,e3⟩=>by rw [Qv,Yx,oP e3,e1]; rfl
theorem nJ:∀ {h x:Int} {ss:List (Nat×Int×Int)},iP ws hs h ss x->∀ (i:Nat) s,ss[i]?=some s->kT ws hs s.2.1 s.1 s.2.2/\∀ s',0 < i->ss[i - 1]?=some s'->s'.2.2=s.2.1
 | _,_,[],_,i,s,hs=>by simp at hs
 | h,_,a::r,⟨e1,e2,e3⟩,0,s,i7=>by
  have:a=s:=by simpa using i7
  subst this
  exact ⟨by rw [e1]; exact e2,λs' h0=>by omega⟩
 | h,_,a::r,⟨e1,e2,e3⟩,i+1,s,i7=>by
  have hr:r[i]?=some s:=by simpa using i7
  obtain ⟨p1,p2⟩:=nJ e3 i s hr
  refine ⟨p1,λs' _ qq=>?_⟩
  cases i with
  | zero =>
   have e:a=s':=by simpa using qq
   subst e
   cases r with
   | nil=>simp at hr
   | cons b r' =>
    have:b=s:=by simpa using hr
    subst this
    exact e3.1.symm
  | succ i=>exact p2 s' (by omega) (by simpa using qq)
theorem wM:∀ {h x:Int} {ss:List (Nat×Int×Int)},iP ws hs h ss x->∀ s,ss[ss.length - 1]?=some s->s.2.2=x
 | _,_,[],_,s,e=>by simp at e
 | _,_,[a],⟨_,_,e3⟩,s,e=>by
  have:a=s:=by simpa using e
  subst this
  exact e3
 | _,_,a::b::r,⟨_,_,e3⟩,s,e=>wM e3 s (by simpa using e)
def lO (s:Nat×Int×Int):List Int:=[(s.1:Int),s.2.1,s.2.2]
theorem bg.den:∀ {ps:List Addr} {ss:List (Nat×Int×Int)},bg H ps ss->aZ K H ((ss.map lO).map cZ) (ps.map V.ref)
 | [],[],_=>aW.mpr rfl
 | [],_::_,h=>by have:=h.len; simp at this
 | _::_,[],h=>by have:=h.len; simp at this
 | p::ps,s::ss,h=>by
  have h0:=h.at_ 0 p s rfl rfl
  have hr:bg H ps ss:=⟨by have:=h.len; simpa using this,λi p' s' a b=>h.at_ (i+1) p' s' (by simpa using a) (by simpa using b)⟩
  exact aS.mpr ⟨_,_,rfl,bC.mpr ⟨p,rfl,aj.of h0⟩,bg.den hr⟩
end Ab
namespace L2
open PySem
end L2
namespace Ab
open PySem L2
theorem aAG {k g t:Int} (h:gI ws hs [k,g,t]=true):0<=k/\k < hs.length/\hs[k.toNat]?=some g/\t≠g/\t∈ws.getD k.toNat []:=by
 have h':(decide (0<=k) && (decide (k < hs.length) && (hs[k.toNat]?==some g && (!decide (t=g) && decide (t∈ws.getD k.toNat [])))))=true:=h
 simp only [Jc,decide_eq_true_eq,beq_iff_eq,Bool.not_eq_true',decide_eq_false_iff_not] at h'
 exact ⟨h'.1,h'.2.1,h'.2.2.1,h'.2.2.2.1,h'.2.2.2.2⟩
def oB (hs:List Int) (L:List (List Int)):List Int:=L.foldl (λh st=>h.set (st.getD 0 0).toNat (uA st)) hs
theorem aDw (L:List (List Int)):∀ hs:List Int,(oB hs L).length=hs.length:=by
 induction L with
 | nil=>intro hs; rfl
 | cons s r ih=>intro hs; show (oB (hs.set _ _) r).length=_; rw [ih,Zx]
theorem aBC (hs:List Int) (L:List (List Int)) (st:List Int):oB hs (L++[st])=(oB hs L).set (st.getD 0 0).toNat (uA st):=by unfold oB; rw [Yb]; rfl
def so (K:Rc) (H:Hp) (x y:V) (p:Addr) (xs:List V) (n:Int) (ws:List (List Int)) (hs:List Int) (L:List (List Int)):Prop:=gA K H x y n ws hs/\ak K H p xs/\aZ K H (L.map cZ) xs/\L.length<=30/\∀ l∈L,l.length<=1000
theorem so.same {x:V} {p:Addr} {n:Int} {L:List (List Int)} (h:so K H x y p xs n ws hs L) (s:aE H H'):so K H' x y p xs n ws hs L:=⟨h.1.same s,s.cm h.2.1,s.ag _ _ h.2.2.1,h.2.2.2⟩
theorem so.Ci {x:V} {p:Addr} {n:Int} {L:List (List Int)} (h:so K H x y p xs n ws hs L) (hw:oO ws hs L=true) {u:V} (hu:xs[i]?=some u) :
  ∃ (c:Addr) (kk gg tt:Int),u=.ref c/\L[i]?=some [kk,gg,tt]/\aj K H c [.int kk,.int gg,.int tt]/\gI ws hs [kk,gg,tt]=true:=by
 have hx:=aH h.2.2.1
 rw [Qc] at hx
 have ax:i < L.length:=by have:=(Qd.mp hu).1; omega
 have el:L[i]?=some L[i]:=Qb ax
 obtain ⟨c1,e1,e2⟩:=lK h.2.2.1 el
 rw [hu] at e1
 have t8:L.all (gI ws hs)=true:=by unfold oO at hw; simp only [Jc] at hw; exact hw.2.1
 have gh:=Jm.mp t8 _ (Jt ax)
 obtain ⟨kk,gg,tt,e3⟩:=wJ gh
 rw [e3] at e2 el gh
 exact ⟨c1,kk,gg,tt,Option.some.inj e1,el,e2,gh⟩
def PZ (K:Rc):Sp:=λvs H Q _=>∃ x y p xs n ws hs L,vs = [x,y,.ref p]/\so K H x y p xs n ws hs L/\oO ws hs L=true/\∀ H',aE H H'->Q .bw H'
theorem PY:ah ["book", "deal", "some"] ["book", "deal", "some"] (aL oK):=⟨rfl,rfl,rfl,by decide +kernel,rfl,by decide +kernel,by decide +kernel⟩
theorem aFh {C7:Addr} {C9:FuncData} (G:Fn K mg "need_way" oK ["book", "deal", "some"] f fd) (B:Bl mg) (R:Pr K mg fW fH fK fB gk fD f' fL dW dH dK dB gm dD f_ dL) (GW:Fn K mg "is_way" vE ["book", "deal", "some"] C7 C9) (GS:Fn K mg "is_step" tQ ["book", "deal", "step"] fS dS):af P w K mg base a_ 8 f fd ["book", "deal", "some"] (PZ K):=by
 have JU:af P w K mg base a_ 7 C7 C9 ["book", "deal", "some"] (Ft K):=JB GW B R GS
 refine G.fn.ok PY (λvs H Q E h=>?_) (λbj A outer s H vs Q E hr h=>?_)
 ·obtain ⟨x,y,p,xs,n,ws,hs,L,rfl,_⟩:=h
  rfl
 ·obtain ⟨x,y,p,xs,n,ws,hs,L,rfl,hi,hw,k⟩:=h
  refine ⟨_,aJ (bT (eM (eJ (bH GW JU hr rfl (aA (pv 0) (aA (pv 1) (aA (pv 2) aD)))))) cO bG),?_⟩
  refine ⟨_,rfl,_,rfl,_,rfl,x,y,p,xs,n,ws,hs,L,rfl,hi.1,hi.2.1,hi.2.2.1,hi.2.2.2.1,hi.2.2.2.2,λH' s1=>⟨_,rfl,?_⟩⟩
  rw [hw]
  refine iN ?_
  exact k H' s1
def Pf (K:Rc):Sp:=λvs H Q _=>∃ x y p xs n ws hs L,vs = [x,y,.ref p]/\so K H x y p xs n ws hs L/\oO ws hs L=true/\∀ q H',aE H H'->H q=none->H' q=some (.tup ((oB hs L).map V.int))->Q (.ref q) H'
theorem qS:ah ["book", "deal", "some", "behind", "work", "giver", "taker"] ["book", "deal", "some"] (aL wE):=⟨rfl,rfl,rfl,by decide +kernel,rfl,by decide +kernel,by decide +kernel⟩
theorem O? {fN:Addr} {dN:FuncData} (G:Fn K mg "gone" wE ["book", "deal", "some"] f fd) (B:Bl mg) (GNW:Fn K mg "need_way" oK ["book", "deal", "some"] fN dN) (FK:af P w K mg base a_ 8 fN dN ["book", "deal", "some"] (PZ K)):af P w K mg base a_ 9 f fd ["book", "deal", "some"] (Pf K):=by
 refine G.fn.ok qS (λvs H Q E h=>?_) (λbj A outer s H vs Q E hr h=>?_)
 ·obtain ⟨x,y,p,xs,n,ws,hs,L,rfl,_⟩:=h
  rfl
 ·obtain ⟨x,y,p,xs,n,ws,hs,L,rfl,hi,hw,k⟩:=h
  have r8:ay 8 _:=hr
  refine ⟨_,(aG (bX (bH GNW FK r8 rfl (aA (pv 0) (aA (pv 1) (aA (pv 2) aD)))))
  (aG (aT (i:=3) qS.nd rfl (Or.inl rfl) (cB oX rfl B.list JH (aA (pv 1) aD)))
  (aG (eS PassesOwn.never rfl (hJ (pv 2)) (gE rfl (aX (aQ (i:=4) qS.nd rfl (Or.inl rfl)) (aX (aQ (i:=5) qS.nd rfl (Or.inl rfl)) (aX (aQ (i:=6) qS.nd rfl (Or.inl rfl)) cU))))
   (aJ (gU (pv 6) (wZ (pv 3) (pv 4) oV))))
  (aJ (aY (cB cC rfl B.tuple dZ (aA (pv 3) aD))))))),?_⟩
  refine ⟨_,rfl,_,rfl,_,rfl,x,y,p,xs,n,ws,hs,L,rfl,hi,hw,λH1 s1=>?_⟩
  have ot:=hi.same s1
  obtain ⟨c0,rfl,uz⟩:=bC.mp ot.1.2.2.1
  have pq:=aH hi.2.2.1
  rw [Qc] at pq
  refine ⟨_,rfl,c0,_,rfl,.inr uz,λbh MK=>?_⟩
  have s2:=aE.new (o:=.lst (hs.map V.int)) MK
  have e2:upd H1 bh (.lst (hs.map V.int)) bh=some (.lst (hs.map V.int)):=aB
  generalize upd H1 bh (.lst (hs.map V.int))=H2 at s2 e2 ⊢
  refine ⟨_,rfl,p,rfl,⟨_,(ot.same s2).2.1⟩,jJ (K:=K) (a:=p) (xs:=xs) (λi σ H3=>∃ v4 v5 v6,σ = [some x,some (.ref c0),some (.ref p),some (.ref bh),v4,v5,v6]/\aE H1 H3/\H3 bh=some (.lst ((oB hs (L.take i)).map V.int))) ⟨_,_,_,rfl,s2,e2⟩ (λi σ H3 _ ⟨_,_,_,_,s3,_⟩=>(ot.same s3).2.1) ?_ ?_⟩
  ·rintro i u σ H3 hu ⟨v4,v5,v6,rfl,s3,e3⟩
   obtain ⟨c,kk,gg,tt,rfl,el,hc,gh⟩:=(ot.same s3).Ci hw hu
   obtain ⟨k0,k1,_⟩:=aAG gh
   refine ⟨c,_,rfl,hc,rfl,_,_,rfl,_,_,rfl,_,_,rfl,rfl,?_⟩
   refine ⟨_,rfl,_,rfl,_,rfl,bh,_,kk,kk.toNat,rfl,rfl,e3,q! k0 (by rw [Qc,aDw]; exact k1),?_⟩
   refine ⟨_,_,_,rfl,s3.wr MK,?_⟩
   rw [aB,Js,el]
   show some (HO.lst _)=some (HO.lst ((oB hs (L.take i++[[kk,gg,tt]])).map V.int))
   rw [aBC,List.map_set]
   rfl
  ·rintro σ H3 ⟨v4,v5,v6,rfl,s3,e3⟩
   rw [pq,Jn (Qe _)] at e3
   refine ⟨_,rfl,bh,_,rfl,.inl ⟨ak.of e3,λq hq=>k q _ ((s1.trans s3).trans (aE.new hq)) ((s1.trans s3).free hq) aB⟩⟩
end Ab
namespace Ab
def iI (hs:List Int) (ss:List (Nat×Int×Int)):List Int:=ss.foldl (λh s=>h.set s.1 s.2.2) hs
theorem qT:∀ (ss:List (Nat×Int×Int)) (hs:List Int),(iI hs ss).length=hs.length
 | [],_=>rfl
 | s::r,hs=>by show (iI (hs.set s.1 s.2.2) r).length=_; rw [qT r,Zx]
theorem uC:∀ (hs:List Int) (w:Nat) (g t c:Int),hs[w]?=some g->(((hs.set w t).count c:Nat):Int)=((hs.count c:Nat):Int) - (if c=g then 1 else 0)+(if c=t then 1 else 0)
 | [],w,g,t,c,h=>by simp at h
 | a::r,0,g,t,c,h=>by
  have e:a=g:=by simpa using h
  subst e
  rw [List.set_cons_zero,Zz,Zz]
  by_cases h1:c=a <;> by_cases h2:c=t
  ·subst h1; subst h2; simp
  ·subst h1; have:(t==c)=false:=by simpa using λz=>h2 z.symm
   simp [h2,this]
  ·subst h2; have:(a==c)=false:=by simpa using λz=>h1 z.symm
   simp [h1,this]
  ·have e1:(a==c)=false:=by simpa using λz=>h1 z.symm
   have e2:(t==c)=false:=by simpa using λz=>h2 z.symm
   simp [h1,h2,e1,e2]
 | a::r,w+1,g,t,c,h=>by
  have ih:=uC r w g t c (by simpa using h)
  rw [List.set_cons_succ,Zz,Zz]
  omega
theorem RT {w:Nat} {g u:Int} (hg:hs[w]?=some g):∀ {h x:Int} {r:List (Nat×Int×Int)},iP ws hs h r x->(∀ s∈r,s.2.1≠g)->iP ws (hs.set w u) h r x
 | _,_,[],e,_=>e
 | h,_,s::r,⟨e1,⟨e2,e3⟩,e4⟩,hn=>by
  refine ⟨e1,⟨?_,e3⟩,RT hg e4 λs' i7=>hn s' (Ql _ i7)⟩
  have cb:w≠s.1:=λz=>by
   subst z
   rw [hg] at e2
   exact hn s (Qk ..) (e1.trans (Option.some.inj e2).symm)
  rw [Zp cb]
  exact e2
theorem aAI {h x:Int} (hp:iP ws hs h ss x):∀ s∈ss,s.2.1∈h::ss.map (·.2.2):=λs i7=>by
 rw [<- oP hp]
 exact Jy _ (Qx.mpr ⟨s,i7,rfl⟩)
theorem uD:∀ (ss:List (Nat×Int×Int)) {hs:List Int} {h x:Int},iP ws hs h ss x->(h::ss.map (·.2.2)).Nodup->∀ c:Int,(((iI hs ss).count c:Nat):Int)=((hs.count c:Nat):Int) - (if c=h then 1 else 0)+(if c=x then 1 else 0)
 | [],hs,h,x,hp,_,c=>by
  have e:h=x:=hp
  subst e
  show ((hs.count c:Nat):Int)=_
  omega
 | s::r,hs,h,x,⟨e1,e2,e3⟩,hn,c=>by
  rw [Qv,Jw] at hn
  have h1:=RT (u:=s.2.2) e2.1 e3 λs' i7 z=>hn.1 (by rw [<- z]; exact aAI e3 s' i7)
  have ih:=uD r h1 hn.2 c
  have e:=uC hs s.1 h s.2.2 c e2.1
  show (((iI (hs.set s.1 s.2.2) r).count c:Nat):Int)=_
  omega
theorem qU:∀ (ss:List (Nat×Int×Int)) {hs:List Int},(∀ s∈ss,∃ l,ws[s.1]?=some l/\s.2.2∈l)->(∀ (j:Nat) (h:Int) (l:List Int),hs[j]?=some h->ws[j]?=some l->h∈l)->∀ (j:Nat) (h:Int) (l:List Int),(iI hs ss)[j]?=some h->ws[j]?=some l->h∈l
 | [],_,_,hd=>hd
 | s::r,hs,hl,hd=>qU r (λs' h'=>hl s' (Ql _ h')) λj h l e1 e2=>by
  obtain ⟨l',z1,z2⟩:=hl s (Qk ..)
  rw [Ya] at e1
  by_cases z:s.1=j
  ·subst z
   rw [if_pos rfl] at e1
   split at e1
   ·rw [z1] at e2
    rw [<- Option.some.inj e2,<- Option.some.inj e1]; exact z2
   ·cases e1
  ·rw [if_neg z] at e1
   exact hd j h l e1 e2
def ky:Nat->Nat
 | 0=>0
 | k+1=>ky k+k
def Sm (g:Nat->Nat):Nat->Nat
 | 0=>0
 | n+1=>Sm g n+g n
theorem QR {g g':Nat->Nat}:∀ n:Nat,(∀ i,i < n->g' i=g i)->Sm g' n=Sm g n
 | 0,_=>rfl
 | n+1,h=>by show Sm g' n+g' n=Sm g n+g n; rw [QR n λi hi=>h i (by omega),h n (by omega)]
theorem JL {g g':Nat->Nat} {a:Nat}:∀ n:Nat,a < n->(∀ i,i < n->i≠a->g' i=g i)->Sm g' n+g a=Sm g n+g' a
 | 0,h,_=>by omega
 | n+1,h,hh=>by
  show Sm g' n+g' n+g a=Sm g n+g n+g' a
  by_cases e:a=n
  ·subst e
   rw [QR a λi hi=>hh i (by omega) (by omega)]
   omega
  ·have ih:=JL (g:=g) (g':=g') n (by omega) λi hi hn=>hh i (by omega) hn
   rw [hh n (by omega) (λz=>e z.symm)]
   omega
theorem Pe:∀ k:Nat,k<=12->ky k<=12*k
 | 0,_=>Qe _
 | k+1,h=>by have:=Pe k (by omega); show ky k+k<=_; omega
theorem O1 {g:Nat->Nat} {b:Nat} (h:∀ i,g i<=b):∀ n,Sm g n<=b*n
 | 0=>Jb _
 | n+1=>by have:=O1 h n; have:=h n; show Sm g n+g n<=_; rw [Nat.mul_succ]; omega
def wo (n:Nat) (hs:List Int):Nat:=Sm (λi=>ky (hs.count (i:Int))) n
theorem o? (h6:n<=6) (h:hs.length<=12):wo n hs<=864:=by
 have:=O1 (g:=λi=>ky (hs.count (i:Int))) (b:=144) (λi=>by
  have h1:hs.count (i:Int)<=hs.length:=List.count_le_length
  have h2:=Pe _ (Jl h1 h)
  show ky (hs.count (i:Int))<=144
  omega) n
 unfold wo
 omega
theorem aFk {n:Int} (W:rH n ws hs ss) (ht:∀ g w t,kT ws hs g w t->0<=t/\t < n):wo n.toNat (iI hs ss) < wo n.toNat hs:=by
 obtain ⟨h,x,cb,hP,hN,E1,G_,BN,r_⟩:=W
 obtain ⟨s,i7⟩:∃ s,ss[ss.length - 1]?=some s:=⟨_,Qb (by have:=Zf.mpr cb; omega)⟩
 have ex:=wM hP s i7
 have hx:=ht _ _ _ (nJ hP _ s i7).1
 rw [ex] at hx
 have hc:=uD ss hP hN
 have L':h≠x:=λz=>by rw [z] at r_; omega
 have e1:=JL (g:=λi=>ky (hs.count (i:Int))) (g':=λi=>if i=h.toNat then ky (hs.count h - 1) else ky (hs.count (i:Int))) (a:=h.toNat) n.toNat (by omega) (λi _ z=>if_neg z)
 have e2:=JL (g:=λi=>if i=h.toNat then ky (hs.count h - 1) else ky (hs.count (i:Int))) (g':=λi=>ky ((iI hs ss).count (i:Int))) (a:=x.toNat) n.toNat (by omega) (λi hi z=>by
  have MF:=hc (i:Int)
  by_cases zh:i=h.toNat
  ·have zi:(i:Int)=h:=by omega
   rw [if_pos zh]
   rw [zi,if_pos rfl,if_neg L'] at MF
   rw [zi]
   show ky ((iI hs ss).count h)=_
   congr 1
   omega
  ·rw [if_neg zh]
   rw [if_neg (show ¬ (i:Int)=h by omega),if_neg (show ¬ (i:Int)=x by omega)] at MF
   show ky ((iI hs ss).count (i:Int))=_
   congr 1
   omega)
 have ch:((h.toNat:Nat):Int)=h:=by omega
 have cx:((x.toNat:Nat):Int)=x:=by omega
 simp only [if_pos,ch,cx,if_neg (show ¬ x.toNat=h.toNat by omega)] at e1 e2
 have V6:=hc x
 rw [if_neg (λz=>L' z.symm),if_pos rfl] at V6
 have KA:(iI hs ss).count x=hs.count x+1:=by omega
 rw [KA] at e2
 have t1:ky (hs.count x+1)=ky (hs.count x)+hs.count x:=rfl
 have t2:ky (hs.count h)=ky (hs.count h - 1)+(hs.count h - 1):=by
  have:hs.count h=(hs.count h - 1)+1:=by omega
  conv=>lhs; rw [this]
  rfl
 unfold wo
 omega
def pR (n:Int) (ws:List (List Int)):List Int->List (List (Nat×Int×Int))->List Int->Prop
 | hs,[],he=>hs=he
 | hs,ss::r,he=>rH n ws hs ss/\pR n ws (iI hs ss) r he
theorem pR.snoc {n:Int}:∀ {hs:List Int} {W:List (List (Nat×Int×Int))} {hc:List Int} {ss:List (Nat×Int×Int)},pR n ws hs W hc->rH n ws hc ss->pR n ws hs (W++[ss]) (iI hc ss)
 | _,[],_,_,e,w=>by cases e; exact ⟨w,rfl⟩
 | _,_::_,_,_,⟨a,b⟩,w=>⟨a,pR.snoc b w⟩
end Ab
namespace Ab
open PySem L2
theorem QQ:∀ (ss:List (Nat×Int×Int)) (hs:List Int),oB hs (ss.map lO)=iI hs ss
 | [],_=>rfl
 | s::r,hs=>by
  have e:((lO s).getD 0 0).toNat=s.1:=Jf _
  show oB (hs.set ((lO s).getD 0 0).toNat (uA (lO s))) (r.map lO)=iI (hs.set s.1 s.2.2) r
  rw [e,QQ r]
  rfl
theorem O! {h x:Int} (cb:ss≠[]) (hP:iP ws hs h ss x) (hN:(h::ss.map (·.2.2)).Nodup):oO ws hs (ss.map lO)=true:=by
 have hp:cA (ss.map lO)=h::ss.map (·.2.2):=by
  cases ss with
  | nil=>exact absurd rfl cb
  | cons s r =>
   show lJ (lO s)::((s::r).map lO).map uA=_
   rw [Xp,show lJ (lO s)=h from hP.1]
   rfl
 unfold oO sD
 rw [hp,decide_eq_true hN,Bool.and_true,Jc,Jc]
 refine ⟨?_,?_,?_⟩
 ·cases ss with
  | nil=>exact absurd rfl cb
  | cons _ _=>rfl
 ·rw [Jm]
  intro st gh
  obtain ⟨s,i7,rfl⟩:=Qx.mp gh
  obtain ⟨i,hi⟩:=Jd.mp i7
  obtain ⟨⟨e1,l,e2,e3,e4⟩,_⟩:=nJ hP i s hi
  have ax:=(Qd.mp e1).1
  show (decide (0<=(s.1:Int)) && (decide ((s.1:Int) < hs.length) && (hs[(s.1:Int).toNat]?==some s.2.1 && (!decide (s.2.2=s.2.1) && decide (s.2.2∈ws.getD (s.1:Int).toNat [])))))=true
  rw [Jf,e1,Jk,e2,decide_eq_true (show (0:Int)<=s.1 by omega),decide_eq_true (show (s.1:Int) < hs.length by omega),decide_eq_false e4,decide_eq_true (show s.2.2∈(some l).getD [] from e3)]
  simp
 ·rw [<- oP hP,Jm]
  intro p rq
  obtain ⟨i,hi⟩:=Jd.mp rq
  rw [Jh] at hi
  obtain ⟨h1,h2⟩:=hi
  rw [Qh] at h1
  cases q:ss[i]? with
  | none=>rw [q] at h1; cases h1
  | some s =>
   rw [q] at h1
   have ax:=(Qd.mp q).1
   rw [Qz (by rw [Qc]; exact ax),Qh,q] at h2
   rw [<- Option.some.inj h1,<- Option.some.inj h2]
   exact beq_self_eq_true _
structure cy (H:Hp) (qs:List Addr) (Ws:List (List (Nat×Int×Int))):Prop where
 len:qs.length=Ws.length
 at_:∀ (i:Nat) q ss,qs[i]?=some q->Ws[i]?=some ss->∃ ps:List Addr,H q=some (.lst (ps.map V.ref))/\bg H ps ss
theorem cy.same (h:cy H qs Ws) (s:aE H H'):cy H' qs Ws:=⟨h.len,λi q ss a b=>let ⟨ps,h1,h2⟩:=h.at_ i q ss a b; ⟨ps,s _ _ h1,h2.tp (Tp.of s)⟩⟩
theorem Tp.but {t:Addr} (b:az t H H') (ht:H t=some (.lst zs)):Tp H H':=λp xs h=>b p _ (λz=>by rw [z,ht] at h; cases h) h
theorem cy.but {t:Addr} (h:cy H qs Ws) (b:az t H H') (ht:H t=some (.lst zs)) (hn:∀ q∈qs,q≠t):cy H' qs Ws:=⟨h.len,λi q ss a e=>let ⟨ps,h1,h2⟩:=h.at_ i q ss a e; ⟨ps,b _ _ (hn q (Qi a)) h1,h2.tp (Tp.but b ht)⟩⟩
theorem cy.snoc {q:Addr} {ps:List Addr} (h:cy H qs Ws) (h1:H q=some (.lst (ps.map V.ref))) (h2:bg H ps ss):cy H (qs++[q]) (Ws++[ss]):=by
 refine ⟨by rw [Qn,Qn,h.len]; rfl,λi q' Lh a b=>?_⟩
 by_cases hi:i < qs.length
 ·rw [Qz hi] at a
  rw [Qz (by rw [<- h.len]; exact hi)] at b
  exact h.at_ i q' Lh a b
 ·rw [Jr (by omega)] at a
  rw [Jr (by rw [<- h.len]; omega)] at b
  have ax:=(Qd.mp a).1
  have e0:i - qs.length=0:=by simp at ax; omega
  rw [e0] at a
  rw [<- h.len,e0] at b
  have ea:q=q':=by simpa using a
  have eb:ss=Lh:=by simpa using b
  subst ea; subst eb
  exact ⟨ps,h1,h2⟩
def o! (n:Int) (ws:List (List Int)) (hs:List Int) (H':Hp) (p:Addr):Prop :=
 ∃ wl dl qs Ws he lv,H' p=some (.tup [.ref wl,.ref dl])/\H' wl=some (.lst (qs.map V.ref))/\cy H' qs Ws/\Ws.length<=864/\H' dl=some (.tup (he.map V.int))/\pR n ws hs Ws he/\jA n ws he lv
def jQ (K:Rc) (Pt:Addr):Sp:=λvs H Q _=>∃ x y n ws hs,vs = [x,y]/\gA K H x y n ws hs/\H Pt=some (.tab pP)/\∀ p H',aE H H'->o! n ws hs H' p->Q (.ref p) H'
theorem gA.but {x:V} {n:Int} {t:Addr} (g:gA K H x y n ws hs) (b:az t H H') (ht:H t=some (.lst zs)):gA K H' x y n ws hs:=⟨b.den ht _ _ (rE n ws) g.1,g.2.1,b.den ht _ _ (rD hs) g.2.2.1,g.2.2.2⟩
theorem gA.D0 {x:V} {n:Int} (g:gA K H x y n ws hs):∀ a w t,kT ws hs a w t->0<=t/\t < n:=λa w t e=>by
 obtain ⟨_,_,gu,fv⟩:=bO g.2.1
 obtain ⟨_,l,h1,h2,_⟩:=e
 exact (bV (fv l (Qi h1))).2.1 t h2
theorem gA.short {x:V} {n:Int} (g:gA K H x y n ws hs) (W:rH n ws hs ss):ss.length<=12:=by
 obtain ⟨jt,jq,ia⟩:=g.len
 obtain ⟨h,xx,cb,hP,hN,E1,G_,BN,r_⟩:=W
 have:=nH n.toNat (h::ss.map (·.2.2)) hN λz hz=>by
  rcases Qj.mp hz with rfl | hz
  ·omega
  ·obtain ⟨s',i7,rfl⟩:=Qx.mp hz
   obtain ⟨i,hi⟩:=Jd.mp i7
   have:=g.D0 _ _ _ (nJ hP i s' hi).1
   omega
 rw [Jg,Qc] at this
 omega
theorem gA.gone {x:V} {n:Int} (g:gA K H x y n ws hs) (W:rH n ws hs ss) {d:Addr} (hd:aj K H d ((iI hs ss).map V.int)):gA K H x (.ref d) n ws (iI hs ss):=by
 obtain ⟨jk,BH⟩:=gH g.2.2.2
 obtain ⟨h,xx,cb,hP,_⟩:=W
 refine ⟨g.1,g.2.1,bC.mpr ⟨d,rfl,hd⟩,pO (by rw [qT]; exact jk) (qU ss (λs i7=>?_) BH)⟩
 obtain ⟨i,hi⟩:=Jd.mp i7
 obtain ⟨⟨_,l,e2,e3,_⟩,_⟩:=nJ hP i s hi
 exact ⟨l,e2,e3⟩
theorem dP:ah ["book", "deal", "ways", "word", "shown"] ["book", "deal"] (aL gZ):=⟨rfl,rfl,rfl,by decide +kernel,rfl,by decide +kernel,by decide +kernel⟩
theorem aAJ {fG:Addr} {dG:FuncData} (G:Fn K mg "bettered" gZ ["book", "deal"] f fd) (B:Bl mg) (B7:Fn K mg "levels_or_way" yy ["book", "deal"] BQ BV) (B3:af P w K mg base a_ 8 BQ BV ["book", "deal"] (Dj K Pt)) (GG:Fn K mg "gone" wE ["book", "deal", "some"] fG dG) (OG:af P w K mg base a_ 9 fG dG ["book", "deal", "some"] (Pf K)):af P w K mg base a_ 10 f fd ["book", "deal"] (jQ K Pt):=by
 refine G.fn.ok dP (λvs H Q E h=>?_) (λbj A outer s H vs Q E hr h=>?_)
 ·obtain ⟨x,y,n,ws,hs,rfl,_⟩:=h
  rfl
 ·obtain ⟨x,y,n,ws,hs,rfl,g,hT,k⟩:=h
  have r9:ay 9 _:=hr
  have r8:ay 8 _:=hr.mono (by decide)
  refine ⟨_,(aG (aT (i:=2) dP.nd rfl (Or.inl rfl) (cP aD))
  (aG (gU (bH B7 B3 r8 rfl (aA (pv 0) (aA (pv 1) aD))) (gE rfl (aX (aQ (i:=3) dP.nd rfl (Or.inl rfl)) (aX (aQ (i:=4) dP.nd rfl (Or.inl rfl)) cU))))
  (aG (sJ PassesOwn.never (bB gL (pv 3) gD (bD _))
   (aG (bX (nS Rr Td Tf iL (pv 2) (aA (pv 4) aD)))
  (aG (aT (i:=1) dP.nd rfl (Or.inl rfl) (bH GG OG r9 rfl (aA (pv 0) (aA (pv 1) (aA (pv 4) aD)))))
  (aJ (gU (bH B7 B3 r8 rfl (aA (pv 0) (aA (pv 1) aD))) (gE rfl (aX (aQ (i:=3) dP.nd rfl (Or.inl rfl)) (aX (aQ (i:=4) dP.nd rfl (Or.inl rfl)) cU))))))))
  (aJ (aY (cL (aA (pv 2) (aA (cB cC rfl B.tuple dZ (aA (cQ (own:=["hand"]) (fr:=[]) (bc:=[]) (bP (aL gZ) ["book", "deal", "ways", "word", "shown"] rfl rfl (by decide +kernel)) rfl (iK (pv 1))
    (λ_ _ _ _=>(aQ (i:=0) (show (["hand"]:List Str).Nodup by decide +kernel) rfl (Or.inl rfl))) (λ_ _ _ _=>eO)
    (λ_ _ _ _=>(pv 0))) aD)) aD)))))))),?_⟩
  obtain ⟨jt,jq,ia⟩:=g.len
  obtain ⟨c0,rfl,_⟩:=bC.mp g.2.2.1
  refine ⟨dJ (Jb _),λwl vj=>?_⟩
  have s0:=aE.new (o:=.lst []) vj
  have e0:upd H wl (.lst []) wl=some (.lst []):=aB
  generalize upd H wl (.lst [])=H0 at s0 e0 ⊢
  refine ⟨_,rfl,_,rfl,x,.ref c0,n,ws,hs,rfl,g.same s0,s0 _ _ hT,λp1 H1 s1 TD=>?_⟩
  obtain ⟨W,hW⟩:∃ W:Nat->St->Hp->Prop,W=λm σ H1=>∃ (d q:Addr) (hc:List Int) (Ws:List (List (Nat×Int×Int))) (qs:List Addr) (word:Str),σ = [some x,some (.ref d),some (.ref wl),some (.str word),some (.ref q)]/\aE H H1/\gA K H1 x (.ref d) n ws hc/\H1 wl=some (.lst (qs.map V.ref))/\cy H1 qs Ws/\(∀ z∈qs,z≠wl)/\pR n ws hs Ws hc/\Ws.length+wo n.toNat hc<=864/\m=wo n.toNat hc /\
    ((word = "levels" /\ ∃ lv,jA n ws hc lv)∨(word = "way" /\ q≠wl/\∃ ps ss,H1 q=some (.lst (ps.map V.ref))/\bg H1 ps ss/\rH n ws hc ss)):=⟨_,rfl⟩
  -- what is told is taken up
  have take:∀ (d p1:Addr) (hc:List Int) (Ws:List (List (Nat×Int×Int))) (qs:List Addr) (Ha Hb:Hp),aE H Ha->aE Ha Hb->gA K Ha x (.ref d) n ws hc->Ha wl=some (.lst (qs.map V.ref))->cy Ha qs Ws->(∀ z∈qs,z≠wl)->pR n ws hs Ws hc->Ws.length+wo n.toNat hc<=864->OX n ws hc Ha Hb p1 ->
    ∃ word q,Hb p1=some (.tup [.str word,.ref q])/\W (wo n.toNat hc) [some x,some (.ref d),some (.ref wl),some (.str word),some (.ref q)] Hb:=by
   intro d p1 hc Ws qs Ha Hb sa sb ga ea wa na ca la TD
   subst hW
   rcases TD with ⟨q,lv,h1,_,h2⟩ | ⟨q,ps,ss,h1,h2,h3,h4,h5⟩
   ·exact ⟨_,q,h1,d,q,hc,Ws,qs,_,rfl,sa.trans sb,ga.same sb,sb _ _ ea,wa.same sb,na,ca,la,rfl,.inl ⟨rfl,lv,h2⟩⟩
   ·exact ⟨_,q,h1,d,q,hc,Ws,qs,_,rfl,sa.trans sb,ga.same sb,sb _ _ ea,wa.same sb,na,ca,la,rfl,.inr ⟨rfl,(λz=>by rw [z,ea] at h2; cases h2),ps,ss,h3,h4,h5⟩⟩
  obtain ⟨word,q,h1,w1⟩:=take c0 p1 hs [] [] H0 H1 s0 s1 (g.same s0) e0 ⟨rfl,λi q ss a=>by simp at a⟩ (λ_ h=>(Qp h).elim) rfl (by have:=o? (n:=n.toNat) (hs:=hs) (by omega) jt; simpa using this) TD
  refine ⟨p1,_,rfl,aj.of h1,rfl,_,_,rfl,_,_,rfl,rfl,?_⟩
  refine ⟨W,⟨_,w1⟩,?_⟩
  intro m σ H2 w2
  have K':=w2
  rw [hW] at K'
  obtain ⟨d,q,hc,Ws,qs,word,rfl,s2,g2,e2,FV,LF,Of,le2,hm,alt⟩:=K'
  refine ⟨_,rfl,rfl,_,rfl,?_⟩
  rcases alt with ⟨rfl,lv,p_⟩ | ⟨rfl,nq,ps,ss,hq,hS,CU⟩
  ·rw [decide_eq_false (show ¬ V.str "levels" = V.str "way" by intro z; injection z with z; revert z; decide)]
   refine iN ?_
   obtain ⟨c1,ec,MI⟩:=bC.mp g2.2.2.1
   obtain rfl:d=c1:=by injection ec
   obtain ⟨G7,_,_⟩:=g2.len
   refine ⟨_,rfl,_,rfl,d,rfl,⟨_,MI⟩,tG (K:=K) (a:=d) (xs:=hc.map V.int) (vs:=hc.map V.int) (λσ=>∃ v,σ = [v]) (by rw [Qc]; omega) rfl MI ⟨none,rfl⟩ ?_ ?_⟩
   ·rintro j xv v σ H3 hx hv ⟨v',rfl⟩ s3 Q' jw
    rw [hx] at hv
    obtain rfl:=Option.some.inj hv
    exact ⟨_,rfl,jw _ _ ⟨_,rfl⟩ (aE.refl _)⟩
   ·rintro H3 s3 z hz
    have s4:=aE.new (o:=.lst (hc.map V.int)) hz
    refine ⟨z,_,rfl,.inl ⟨ak.of aB,λdl jk=>?_⟩⟩
    have s5:=aE.new (o:=.tup (hc.map V.int)) jk
    refine ⟨uo _ _,λp hp=>?_⟩
    have s6:=aE.new (o:=.tup [.ref wl,.ref dl]) hp
    have Bn:=((s3.trans s4).trans s5).trans s6
    exact k p _ (s2.trans Bn) ⟨wl,dl,qs,Ws,hc,lv,aB,Bn _ _ e2,FV.same Bn,by omega,s6 _ _ aB,Of,p_⟩
  ·rw [decide_eq_true rfl]
   refine jD ?_
   refine ⟨λao H'=>∃ m',m' < m/\W m' ao H',λ_ _ z=>z,?_⟩
   have GQ:(qs.map V.ref).length < sizeLine:=by rw [Qc,FV.len]; exact Zy (show Ws.length<=864 by omega) (by rw [Rg]; decide)
   refine ⟨_,rfl,.inl ⟨rfl,_,ak.of e2⟩,_,rfl,wl,_,_,rfl,rfl,e2,GQ,?_⟩
   have b3:az wl H2 (upd H2 wl (.lst (qs.map V.ref++[.ref q]))):=az.at
   have e3:upd H2 wl (.lst (qs.map V.ref++[.ref q])) wl=some (.lst ((qs++[q]).map V.ref)):=by rw [aB,Qy]; rfl
   have s3:aE H (upd H2 wl (.lst (qs.map V.ref++[.ref q]))):=s2.wr vj
   have g3:=g2.but b3 e2
   have GV:=b3 _ _ nq hq
   have As:=hS.tp (Tp.but b3 e2)
   have K9:=(FV.but b3 e2 LF).snoc GV As
   generalize upd H2 wl (.lst (qs.map V.ref++[.ref q]))=H3 at b3 e3 s3 g3 GV As K9 ⊢
   obtain ⟨h,xx,cb,hP,hN,o7⟩:=id CU
   have LM:=g2.short CU
   refine ⟨_,rfl,_,rfl,_,rfl,x,.ref d,q,ps.map V.ref,n,ws,hc,ss.map lO,rfl,⟨g3,ak.of GV,As.den,by rw [Qc]; omega,λl hl=>?_⟩,O! cb hP hN,λd' H4 s4 sd e4=>?_⟩
   ·obtain ⟨s',_,rfl⟩:=Qx.mp hl
    exact (show 3<=1000 by decide)
   rw [QQ] at e4
   have g4:=(g3.same s4).gone CU (aj.of e4)
   have Si:=aFk CU g2.D0
   refine ⟨_,rfl,_,rfl,x,.ref d',n,ws,iI hc ss,rfl,g4,s4 _ _ (s3 _ _ hT),λp5 H5 s5 TD5=>?_⟩
   obtain ⟨word,q',h5,w5⟩:=take d' p5 (iI hc ss) (Ws++[ss]) (qs++[q]) H4 H5 (s3.trans s4) s5 g4 (s4 _ _ e3) (K9.same s4) (λz hz=>by
    rcases Qw.mp hz with hz | hz
    ·exact LF z hz
    ·rw [Qq.mp hz]; exact nq) (Of.snoc CU) (by rw [Qn]; show Ws.length+1+_<=864; omega) TD5
   refine ⟨p5,_,rfl,aj.of h5,rfl,_,_,rfl,_,_,rfl,rfl,?_⟩
   exact ⟨_,by omega,w5⟩
theorem aFl (hK:X.K=K):B2 X (OJ K):=by subst hK; exact aFU
theorem N? {l:Expr} (hK:X.K=K) (hl:PE X l tl):PI X tg l (Ot K tl):=by subst hK; exact iK hl
def wN (K:Rc):Sp:=λvs H Q _=>∃ x y n ws hs,vs = [x,y]/\gA K H x y n ws hs/\∀ p H' (ms:List Int),aE H H'->H p=none->H' p=some (.lst (ms.map V.int))->ms.Perm (gW n hs)->ms.Pairwise (·≥·)->Q (.ref p) H'
theorem aDx:ah ["book", "deal"] ["book", "deal"] (aL pI):=⟨rfl,rfl,rfl,by decide +kernel,rfl,by decide +kernel,by decide +kernel⟩
theorem aBE (G:Fn K mg "falling" pI ["book", "deal"] f fd) (B:Bl mg) (R:Pr K mg fW fH fK fB gk fD f' fL dW dH dK dB gm dD f_ dL):af P w K mg base a_ 8 f fd ["book", "deal"] (wN K):=by
 have OL:af P w K mg base a_ 7 fL dL ["book", "deal"] (sC K):=tT B R
 refine G.fn.ok aDx (λvs H Q E h=>?_) (λbj A outer s H vs Q E hr h=>?_)
 ·obtain ⟨x,y,n,ws,hs,rfl,_⟩:=h
  rfl
 ·obtain ⟨x,y,n,ws,hs,rfl,g,k⟩:=h
  refine ⟨_,aJ (aY (uS rfl B.sorted (bH R.L OL hr rfl (aA (pv 0) (aA (pv 1) aD))))),?_⟩
  obtain ⟨hl,jq,ia⟩:=g.len
  refine ⟨_,rfl,_,rfl,x,y,n,ws,hs,rfl,g,λp H1 s1 hp=>?_⟩
  refine ⟨p,gW n hs,rfl,.inr (aj.of hp),by rw [kK]; omega,λq ms hq ET oj=>?_⟩
  exact k q _ ms (s1.trans (aE.new hq)) (s1.free hq) aB ET oj
def ex (t:Int) (l:List Int):Int:=iW (l.map λx=>max (x - t) 0)
end Ab
namespace Ab
open L2
end Ab
namespace Ab
open PySem L2
theorem oQ {n:Int}:∀ {Ws:List (List (Nat×Int×Int))} {hs he:List Int},pR n ws hs Ws he->fP ws (iH hs)=true->fP ws (iH he)=true
 | [],hs,he,c,h=>by
  have e:hs=he:=c
  rw [<- e]; exact h
 | ss::Ws,hs,he,⟨W,c⟩,h=>by
  refine oQ c ?_
  obtain ⟨jk,BH⟩:=gH h
  obtain ⟨h0,xx,cb,hP,_⟩:=W
  refine pO (by rw [qT]; exact jk) (qU ss (λs i7=>?_) BH)
  obtain ⟨i,hi⟩:=Jd.mp i7
  obtain ⟨⟨_,l,e2,e3,_⟩,_⟩:=nJ hP i s hi
  exact ⟨l,e2,e3⟩
theorem vG {n:Int} (L:jA n ws hs lv) (W:rH n ws hs ss):False:=by
 obtain ⟨h,x,cb,hP,hN,h0,h1,BN,r_⟩:=W
 have ax:h.toNat < lv.length:=by rw [L.1]; omega
 obtain ⟨m1,m2⟩:=L.2 h.toNat _ (Qb ax)
 rw [show ((h.toNat:Nat):Int)=h by omega] at m1 m2
 have:=m1.2 _ x BN
 omega
def kW (K:Rc) (Pt:Addr):Sp:=λvs H Q _=>∃ (x:V) (n:Int) (ws:List (List Int)),vs = [x]/\Den K H (cJ n ws) x/\bU (cJ n ws)=true/\H Pt=some (.tab pP) /\
 ∀ (p dp lp:Addr) (hs lv:List Int) H',aE H H'->H' p=some (.tup [.ref dp,.ref lp])->H' dp=some (.tup (hs.map V.int))->fP ws (iH hs)=true->H' lp=some (.tup (lv.map V.int))->jA n ws hs lv->Q (.ref p) H'
theorem nK:ah ["book", "ways", "deal"] ["book"] (aL gR):=⟨rfl,rfl,rfl,by decide +kernel,rfl,by decide +kernel,by decide +kernel⟩
theorem aBF (G:Fn K mg "evenest" gR ["book"] f fd) (B:Bl mg) (R:Pr K mg fW fH fK fB gk fD f' fL dW dH dK dB gm dD f_ dL) (Dv:Fn K mg "bettered" gZ ["book", "deal"] BR BW) (wu:af P w K mg base a_ 10 BR BW ["book", "deal"] (jQ K Pt)) (B7:Fn K mg "levels_or_way" yy ["book", "deal"] BQ BV) (B3:af P w K mg base a_ 8 BQ BV ["book", "deal"] (Dj K Pt)):af P w K mg base a_ 11 f fd ["book"] (kW K Pt):=by
 have ONB:af P w K mg base a_ 4 gk gm ["book"] (yC K):=Q9 B R
 refine G.fn.ok nK (λvs H Q E h=>?_) (λbj A outer s H vs Q E hr h=>?_)
 ·obtain ⟨x,n,ws,rfl,_⟩:=h
  rfl
 ·obtain ⟨x,n,ws,rfl,hx,sg,hT,k⟩:=h
  have r4:ay 4 _:=hr.mono (by decide)
  have r8:ay 8 _:=hr.mono (by decide)
  have Ge:ay 10 _:=hr
  refine ⟨_,(aG (bX (bH R.NB ONB r4 rfl (aA (pv 0) aD)))
  (aG (gU (bH Dv wu Ge rfl (aA (pv 0) (aA (cB cC rfl B.tuple dZ (aA (cQ (own:=["able"]) (fr:=[]) (bc:=[]) (bP (aL gR) ["book", "ways", "deal"] rfl rfl (by decide +kernel)) rfl (iK (bK fU (pv 0) aI (λ_ _=>rfl)))
    (λ_ _ _ _=>(aQ (i:=0) (show (["able"]:List Str).Nodup by decide +kernel) rfl (Or.inl rfl))) (λ_ _ _ _=>eO)
    (λ_ _ _ _=>(bK (cD (K:=K) rfl) (pv 0) aI (λ_ _=>rfl)))) aD)) aD))) (gE rfl (aX (aQ (i:=1) nK.nd rfl (Or.inl rfl)) (aX (aQ (i:=2) nK.nd rfl (Or.inl rfl)) cU))))
  (aJ (aY (cL (aA (pv 2) (aA (bK fU (bH B7 B3 r8 rfl (aA (pv 0) (aA (pv 2) aD))) aI (λ_ _=>rfl)) aD))))))),?_⟩
  obtain ⟨jq,ia,gu,fv⟩:=bO sg
  refine ⟨_,rfl,x,cJ n ws,rfl,hx,sg,λH1 s1=>?_⟩
  have Bv:=s1.den _ _ hx
  obtain ⟨a,b,ys,rfl,ha,ee,dk⟩:=dM Bv
  have i8:=aH dk
  rw [Qc] at i8
  refine ⟨_,rfl,_,rfl,a,_,1,.ref b,rfl,rfl,ha,rfl,b,rfl,⟨_,ee⟩,kR (K:=K) (a:=b) (xs:=ys) (λσ=>∃ v,σ = [v]) (λi zs H2=>H2=H1/\zs=((ws.take i).map λl=>l.headD 0).map V.int) (dJ (by omega)) ⟨none,rfl⟩ ⟨rfl,rfl⟩ (λi zs H2 z=>by rw [z.2,Qc,Qc,Qu]; omega) (λi zs H2 z=>by rw [z.1]; exact ee) ?_ ?_⟩
  ·rintro i zs σ u H2 hu ⟨v,rfl⟩ ⟨rfl,rfl⟩ hz
   obtain ⟨dv,dm,ie⟩:=bS dk hu
   rw [Qh] at dm
   obtain ⟨l,hl,rfl⟩:∃ l,ws[i]?=some l/\cZ l=dv:=by
    cases q:ws[i]? with
    | none=>rw [q] at dm; cases dm
    | some l=>rw [q] at dm; exact ⟨l,rfl,Option.some.inj dm⟩
   obtain ⟨aw,rfl,BJ⟩:=bC.mp ie
   obtain ⟨l0,_,_⟩:=bV (fv l (Qi hl))
   have j':ka (l.map V.int) 0=some (.int (l.headD 0)):=by
    cases l with
    | nil=>exact absurd rfl l0
    | cons y l=>exact cW (j:=0) rfl
   refine eT ?_
   refine ⟨_,rfl,aw,_,0,_,rfl,rfl,BJ,j',hz,⟨_,rfl⟩,rfl,?_⟩
   rw [Js,hl,Qy,Qy]
   rfl
  ·rintro zs H2 ⟨rfl,rfl⟩ lq VJ
   rw [Jn (show ws.length<=ys.length by omega)]
   refine ⟨lq,_,rfl,.inl ⟨ak.of aB,λdq VZ=>?_⟩⟩
   have s3:=(aE.new (o:=.lst ((ws.map λl=>l.headD 0).map V.int)) VJ).trans (aE.new (o:=.tup ((ws.map λl=>l.headD 0).map V.int)) VZ)
   have d3:upd (upd H2 lq (.lst ((ws.map λl=>l.headD 0).map V.int))) dq (.tup ((ws.map λl=>l.headD 0).map V.int)) dq=some (.tup ((ws.map λl=>l.headD 0).map V.int)):=aB
   generalize upd (upd H2 lq (.lst ((ws.map λl=>l.headD 0).map V.int))) dq (.tup ((ws.map λl=>l.headD 0).map V.int))=H3 at s3 d3 ⊢
   have ME:fP ws (iH (ws.map λl=>l.headD 0))=true:=pO (by rw [Qc]) λj h l e1 e2=>by
    rw [Qh,e2] at e1
    have e:l.headD 0=h:=Option.some.inj e1
    obtain ⟨l0,_,_⟩:=bV (fv l (Qi e2))
    cases l with
    | nil=>exact absurd rfl l0
    | cons y l=>rw [<- e]; exact Qk ..
   have ju:=s1.trans s3
   have g3:gA K H3 (.ref a) (.ref dq) n ws (ws.map λl=>l.headD 0):=⟨s3.den _ _ Bv,sg,bC.mpr ⟨dq,rfl,aj.of d3⟩,ME⟩
   refine ⟨.ref a,.ref dq,n,ws,_,rfl,g3,ju _ _ hT,λp H4 s4 hp=>?_⟩
   obtain ⟨wl,dl,qs,Ws,he,lv,EW,_,_,_,jk,mr,p_⟩:=hp
   refine ⟨p,_,rfl,aj.of EW,rfl,_,_,rfl,_,_,rfl,rfl,?_⟩
   have MD:=oQ mr ME
   have mj:=ju.trans s4
   have g4:gA K H4 (.ref a) (.ref dl) n ws he:=⟨(s3.trans s4).den _ _ Bv,sg,bC.mpr ⟨dl,rfl,aj.of jk⟩,MD⟩
   refine ⟨_,rfl,_,rfl,_,rfl,.ref a,.ref dl,n,ws,he,rfl,g4,mj _ _ hT,λp2 H5 s5 my=>?_⟩
   rcases my with ⟨Gn,UM,e1,e2,e3⟩ | ⟨_,_,ss,_,_,_,_,hW⟩
   ·refine ⟨p2,_,1,.ref Gn,rfl,rfl,aj.of e1,rfl,uo _ _,λr CF=>?_⟩
    have s6:=aE.new (o:=.tup [.ref dl,.ref Gn]) CF
    exact k r dl Gn he UM _ (mj.trans (s5.trans s6)) aB ((s5.trans s6) _ _ jk) MD (s6 _ _ e2) e3
   ·exact (vG p_ hW).elim
theorem aDy:ah ["book", "deal", "some", "many"] ["book", "deal", "some"] (aL pK):=⟨rfl,rfl,rfl,by decide +kernel,rfl,by decide +kernel,by decide +kernel⟩
theorem aDz {as:List α} {bs:List β} {f:α×β->Bool} (h:∀ (j:Nat) a b,as[j]?=some a->bs[j]?=some b->f (a,b)=true):(as.zip bs).all f=true:=by
 rw [Jm]
 rintro ⟨a,b⟩ hm
 obtain ⟨j,hj⟩:=Jd.mp hm
 obtain ⟨h1,h2⟩:=Jh.mp hj
 exact h j a b h1 h2
theorem aBG {as:List α} {bs:List β} {f:α×β->Bool} {a:α} {b:β} (h1:as[j]?=some a) (h2:bs[j]?=some b) (h:f (a,b)=false):(as.zip bs).all f=false:=by
 rw [Bool.eq_false_iff]
 intro z
 have hj:(as.zip bs)[j]?=some (a,b):=Jh.mpr ⟨h1,h2⟩
 have:=Jm.mp z _ (Qi hj)
 rw [h] at this
 cases this
def oR (p:Int×Int):Bool:=decide (p.1=p.2) || decide (p.1=p.2 - 1)
def yL (ls:List Int) (p:Int×List Int):Bool:=p.2.all λo=>decide (ls.getD p.1.toNat 0<=ls.getD o.toNat 0)
def AA (n:Int) (ws:List (List Int)) (hs ls:List Int):Bool:=decide (ls.length=n.toNat) && ((ls.zip (gW n hs)).all oR && (hs.zip ws).all (yL ls))
theorem ZR (a b:Int):(!uu (.int a) [.int b,.int (b - 1)])=!oR (a,b):=by
 have e:=sA a [b,b - 1]
 show (!uu (.int a) ([b,b - 1].map V.int))=_
 rw [e]
 unfold oR
 congr 1
 rw [Xj]
 simp [Za]
 constructor
 ·rintro (h | h) <;> omega
 ·rintro (h | h) <;> omega
def O0 (K:Rc):Sp:=λvs H Q _=>∃ x y p n ws hs ls,vs = [x,y,.ref p]/\gA K H x y n ws hs/\aj K H p (ls.map V.int)/\∀ H',aE H H'->Q (.bl (AA n ws hs ls)) H'
theorem kX:ah ["book", "deal", "levels", "many", "level", "load"] ["book", "deal", "levels"] (aL nD):=⟨rfl,rfl,rfl,by decide +kernel,rfl,by decide +kernel,by decide +kernel⟩
theorem aDA (G:Fn K mg "are_levels" nD ["book", "deal", "levels"] f fd) (B:Bl mg) (R:Pr K mg fW fH fK fB gk fD f' fL dW dH dK dB gm dD f_ dL):af P w K mg base a_ 8 f fd ["book", "deal", "levels"] (O0 K):=by
 have OL:af P w K mg base a_ 7 fL dL ["book", "deal"] (sC K):=tT B R
 have OW:af P w K mg base a_ 1 fW dW ["thing"] (nE K):=mS R.W B
 refine G.fn.ok kX (λvs H Q E h=>?_) (λbj A outer s H vs Q E hr h=>?_)
 ·obtain ⟨x,y,p,n,ws,hs,ls,rfl,_⟩:=h
  rfl
 ·obtain ⟨x,y,p,n,ws,hs,ls,rfl,g,hp,k⟩:=h
  have r7:ay 7 _:=hr
  have r1:ay 1 _:=hr.mono (by decide)
  refine ⟨_,(aG (aT (i:=3) kX.nd rfl (Or.inl rfl) (bH R.L OL r7 rfl (aA (pv 0) (aA (pv 1) aD))))
  (aG (bT (PW.pt (kL (eM (eJ (aV eP rfl B.isinstance mO (aA (pv 2) (aA (iT (v:=.ty "tuple") rfl B.tuple dZ rfl) aD))))) (jC (bB lV (aV bL rfl B.len gY (aA (pv 2) aD)) (aV bL rfl B.len gY (aA (pv 3) aD)) (bD _)))))
   (aJ (aY eX))
   bG)
  (aG (eS PassesOwn.never rfl (sS .t .t rfl B.zip (aA (pv 2) (aA (pv 3) aD))) (gE rfl (aX (aQ (i:=4) kX.nd rfl (Or.inl rfl)) (aX (aQ (i:=5) kX.nd rfl (Or.inl rfl)) cU)))
   (aJ (bT (PW.pt (kL (eM (eJ (bH R.W OW r1 rfl (aA (pv 4) aD)))) (jC (bB lA (pv 4) (cL (aA (pv 5) (aA (bE PM (pv 5) aI) aD))) (by with_unfolding_all rfl)))))
   (aJ (aY eX))
   bG)))
  (aJ (aY (aV (jL rfl) rfl B.all tM (aA (aEz (own:=["hand", "able", "other"]) (fr:=[2]) (bc:=["levels"]) (bP (aL nD) ["book", "deal", "levels", "many", "level", "load"] rfl rfl (by decide +kernel)) rfl (sS .t .t rfl B.zip (aA (pv 1) (aA (bK fU (pv 0) aI (λ_ _=>rfl)) aD)))
    (λ_ _ _ _=>(sB (K:=K) (n:=2) rfl rfl (aX (aQ (i:=0) (show (["hand", "able", "other", "levels"]:List Str).Nodup by decide +kernel) rfl (Or.inl rfl)) (aX (aQ (i:=1) (show (["hand", "able", "other", "levels"]:List Str).Nodup by decide +kernel) rfl (Or.inl rfl)) cU)))) (λ_ _ _ _=>(N? (K:=K) rfl (pv 1))) (λ_ _ _ _=>(aQ (i:=2) (show (["hand", "able", "other", "levels"]:List Str).Nodup by decide +kernel) rfl (Or.inl rfl)))
    (λ_ _ _ _=>(iU vL (bK (cD (K:=K) rfl) (pv 3) (pv 0) (λ_ _=>rfl)) (bK (cD (K:=K) rfl) (pv 3) (pv 2) (λ_ _=>rfl)) (bD _)))) aD))))))),?_⟩
  refine ⟨_,rfl,_,rfl,x,y,n,ws,hs,rfl,g,λq H1 s1 e1=>?_⟩
  have g1:=g.same s1
  have ib:=s1.ai hp
  obtain ⟨jt,jq,ia⟩:=g.len
  refine ⟨_,rfl,.ref p,_,rfl,.inr (.inl ⟨rfl,_,ib⟩),_,rfl,?_⟩
  refine iN ?_
  refine ⟨_,rfl,p,_,rfl,.inr ib,_,rfl,q,_,rfl,.inr (aj.of e1),rfl,_,rfl,?_⟩
  rw [Qc,Qc,kK]
  refine cR (λc=>?_) (λc=>?_)
  ·have cb:ls.length≠n.toNat:=λz=>by rw [z] at c; simp at c
   have e:false=AA n ws hs ls:=by unfold AA; rw [decide_eq_false cb]; rfl
   show Q (.bl false) _
   rw [e]; exact k H1 s1
  have heq:ls.length=n.toNat:=by
   have:V.int (ls.length:Int)=V.int (n.toNat:Int):=by simpa using c
   injection this with this
   omega
  refine ⟨_,rfl,_,rfl,p,q,_,_,rfl,ib,aj.of e1,aF0 (K:=K) (k1:=.t) (k2:=.t) (a:=p) (b:=q) (xs:=ls.map V.int) (ys:=(gW n hs).map V.int) (λi σ H3=>(∃ v4 v5,σ = [some x,some y,some (.ref p),some (.ref q),v4,v5])/\aE H1 H3/\∀ j a b,j < i->ls[j]?=some a->(gW n hs)[j]?=some b->oR (a,b)=true)
   (by rw [Qc,Qc,kK,heq]) ⟨⟨_,_,rfl⟩,aE.refl _,λj _ _ hj=>absurd hj (Zm _)⟩ (λi σ H3 _ ⟨_,s3,_⟩=>⟨s3.ai ib,s3.ai (aj.of e1)⟩) ?_ ?_⟩
  ·rintro i u v t σ H3 hu hv ⟨⟨v4,v5,rfl⟩,s3,hle⟩ ht
   obtain ⟨a,ha,rfl⟩:=nI hu
   obtain ⟨b,hb,rfl⟩:=nI hv
   refine ⟨t,_,rfl,aj.of aB,rfl,_,_,rfl,_,_,rfl,rfl,?_⟩
   refine ⟨_,rfl,.int a,.int a,rfl,cI.mpr rfl,_,rfl,?_⟩
   refine iN ?_
   have s4:=s3.trans (aE.new (o:=.tup [.int a,.int b]) ht)
   refine ⟨_,rfl,_,rfl,_,rfl,_,_,rfl,rfl,uo _ _,λz hz=>⟨z,_,rfl,.inr (aj.of aB),rfl,rfl,_,rfl,?_⟩⟩
   have s5:=s4.trans (aE.new (o:=.tup [.int b,.int (b - 1)]) hz)
   show if (!uu (.int a) [.int b,.int (b - 1)])=true then _ else _
   rw [ZR]
   refine cR (λc2=>?_) (λc2=>?_)
   ·have hf:oR (a,b)=false:=by simpa using c2
    have e:false=AA n ws hs ls:=by unfold AA; rw [aBG ha hb hf,Zg,Zr]
    show Q (.bl false) _
    rw [e]; exact k _ (s1.trans s5)
   ·have ye:oR (a,b)=true:=by simpa using c2
    refine ⟨⟨_,_,rfl⟩,s5,λj a' b' hj h1 h2=>?_⟩
    by_cases z:j < i
    ·exact hle j a' b' z h1 h2
    ·have:j=i:=by omega
     subst this
     rw [ha] at h1; rw [hb] at h2
     cases h1; cases h2
     exact ye
  ·rintro σ H3 ⟨⟨v4,v5,rfl⟩,s3,hle⟩
   have Ax:(ls.zip (gW n hs)).all oR=true:=aDz λj a b h1 h2=>hle j a b (by rw [Qc]; exact (Qd.mp h1).1) h1 h2
   have KU:AA n ws hs ls=(hs.zip ws).all (yL ls):=by unfold AA; rw [Ax,decide_eq_true heq,Xo,Xo]
   rw [KU] at k
   have g3:=g1.same s3
   have qr:=s3.ai ib
   obtain ⟨a,b,ys,rfl,ha,ee,dk⟩:=dM g3.1
   obtain ⟨c0,rfl,uz⟩:=bC.mp g3.2.2.1
   obtain ⟨jk,BH⟩:=gH g.2.2.2
   obtain ⟨_,_,gu,fv⟩:=bO g.2.1
   have i8:=aH dk
   rw [Qc] at i8
   let u6:List (List Bool):=(hs.zip ws).map λp=>p.2.map λo=>decide (ls.getD p.1.toNat 0<=ls.getD o.toNat 0)
   have Ho:u6.length=hs.length:=by show ((hs.zip ws).map _).length=_; rw [Qc,Wf]; omega
   have u3:∀ l∈u6,l.length<=6:=λl hl=>by
    obtain ⟨⟨h,wk⟩,hm,rfl⟩:=Qx.mp hl
    obtain ⟨w1,w2,w3⟩:=bV (fv wk (Yi hm).2)
    have:=jP (by omega) w2 w3
    rw [Qc]
    show wk.length<=6
    omega
   have m9:(u6.map (List.map V.bl)).flatten.length<=1000:=by
    have:∀ (L:List (List Bool)),(∀ l∈L,l.length<=6)->(L.map (List.map V.bl)).flatten.length<=6*L.length:=λL=>by
     induction L with
     | nil=>intro _; exact Jb _
     | cons l r ih =>
      intro h
      have h1:=ih λl' CH=>h l' (Ql _ CH)
      have h2:=h l (Qk ..)
      rw [Qv,Xq,Qn,Qc,Jg]
      omega
    have:=this u6 u3
    omega
   refine ⟨_,rfl,_,rfl,a,_,1,.ref b,rfl,rfl,ha,rfl,c0,b,_,_,rfl,uz,ee,aEB (J:=wz K .t .t c0 b) (n:=hs.length) (f9:=u6.map (List.map V.bl)) (λσ=>∃ v0 v1 v2,σ = [v0,v1,v2,some (.ref p)]) m9 (by rw [Qc,Ho]) ⟨_,_,_,rfl⟩
    (λH' s'=>⟨hs.map V.int,ys,s'.ai uz,s'.ai ee,by rw [Qc]; omega⟩) (λi H' hi s'=>⟨hs.map V.int,ys,(hs.map V.int)[i]'(by rw [Qc]; exact hi),ys[i]'(by omega),s'.ai uz,s'.ai ee,Qb _,Qb _⟩) ?_ ?_⟩
   ·rintro i vs x σ H4 H5 hi hv ⟨v0,v1,v2,rfl⟩ s4 ⟨t,ht,rfl,hy⟩ P' hP
    obtain ⟨xh,xw,h1,h2,rfl⟩:=hy _ _ (s4.ai uz) (s4.ai ee)
    obtain ⟨h,hh,rfl⟩:=nI h1
    obtain ⟨dv,dm,ie⟩:=bS dk h2
    rw [Qh] at dm
    obtain ⟨l,hl,rfl⟩:∃ l,ws[i]?=some l/\cZ l=dv:=by
     cases q:ws[i]? with
     | none=>rw [q] at dm; cases dm
     | some l=>rw [q] at dm; exact ⟨l,rfl,Option.some.inj dm⟩
    obtain ⟨aw,rfl,BJ⟩:=bC.mp ie
    obtain ⟨E1,G_⟩:=g.hand hh
    obtain ⟨w1,w2,w3⟩:=bV (fv l (Qi hl))
    have HK:vs=l.map λo=>V.bl (decide (ls.getD h.toNat 0<=ls.getD o.toNat 0)):=by
     have hz:(hs.zip ws)[i]?=some (h,l):=Jh.mpr ⟨hh,hl⟩
     have:(u6.map (List.map V.bl))[i]?=some (l.map λo=>V.bl (decide (ls.getD h.toNat 0<=ls.getD o.toNat 0))):=by
      show (((hs.zip ws).map _).map (List.map V.bl))[i]?=_
      rw [Qh,Qh,hz]
      show some (List.map V.bl (List.map _ l))=_
      rw [Xp]
      rfl
     rw [this] at hv
     exact (Option.some.inj hv).symm
    have s5:aE H4 (upd H4 t (.tup [.int h,.ref aw])):=aE.new ht
    have xt:=(s4.trans s5).ai BJ
    refine ⟨t,_,rfl,aj.of aB,rfl,_,_,rfl,_,_,rfl,rfl,?_⟩
    refine ⟨_,rfl,aw,rfl,⟨_,xt⟩,hP _ _ _ s5 ⟨λσ=>∃ v2,σ = [some (.int h),some (.ref aw),v2,some (.ref p)],⟨_,rfl⟩,λik ⟨_,e⟩=>⟨_,_,_,e⟩,λH' s'=>⟨l.map V.int,s'.ai xt,by rw [HK,Qc,Qc]; exact Qe _⟩,λj H' hj s'=>⟨l.map V.int,(l.map V.int)[j]'(by rw [HK,Qc] at hj; rw [Qc]; exact hj),s'.ai xt,Qb _⟩,?_⟩⟩
    rintro j v yv ik H6 H7 Cw ⟨v2',rfl⟩ s6 ⟨rfl,Gx⟩ Q' jw
    obtain ⟨o,ho,rfl⟩:=nI (Gx _ (s6.ai xt))
    obtain ⟨o0,o1⟩:=w2 o (Qi ho)
    have ev:v=V.bl (decide (ls.getD h.toNat 0<=ls.getD o.toNat 0)):=by
     rw [HK,Qh,ho] at Cw
     exact (Option.some.inj Cw).symm
    have By:=((s4.trans s5).trans s6).ai qr
    refine ⟨_,rfl,_,rfl,p,_,h,_,rfl,rfl,By,RU (xs:=ls) E1 (by omega),_,rfl,_,rfl,p,_,o,_,rfl,rfl,By,RU (xs:=ls) o0 (by omega),_,_,rfl,rfl,?_⟩
    rw [ev] at jw
    exact jw _ _ ⟨_,rfl⟩ (aE.refl _)
   ·rintro H4 s4 l hl
    have ef:(u6.map (List.map V.bl)).flatten=u6.flatten.map V.bl:=by rw [List.map_flatten]
    have ea:u6.flatten.all id=(hs.zip ws).all (yL ls):=by
     show (List.map _ (hs.zip ws)).flatten.all id=_
     rw [List.all_flatten,Zn]
     congr 1
     funext p
     show (List.map _ p.2).all id=_
     rw [Zn]
     rfl
    refine ⟨l,u6.flatten,rfl,ak.of (by rw [<- ef]; exact aB),?_⟩
    rw [ea]
    exact k _ ((s1.trans s3).trans (s4.trans (aE.new hl)))
def enc (m:List (List Int×Int)):List (List Key×V):=m.map λp=>(p.1.map Sum.inl,.int p.2)
def mU (m:List (List Int×Int)) (k:List Int):Option Int:=(m.find? λp=>decide (p.1=k)).map (·.2)
def nQ (m:List (List Int×Int)) (k:List Int) (v:Int):List (List Int×Int):=if (m.any λp=>decide (p.1=k))=true then m.map (λp=>if p.1=k then (p.1,v) else p) else m++[(k,v)]
def mV (l:List Int) (h:Nat):List Int:=l.take h++[l.getD h 0+1]++l.drop (h+1)
def jR (lv:List Int) (g:List (List Int×Int)) (p:List Int×Int) (h:Int):List (List Int×Int):=if p.1.getD h.toNat 0<=lv.getD h.toNat 0 then nQ g (mV p.1 h.toNat) ((mU g (mV p.1 h.toNat)).getD 0+p.2) else g
def bz (lv tk:List Int) (g:List (List Int×Int)) (p:List Int×Int):List (List Int×Int):=tk.foldl (λg h=>jR lv g p h) g
def dt (R:List (List Int×Int)) (tk lv:List Int):List (List Int×Int):=R.foldl (λg p=>bz lv tk g p) []
theorem pS {k j:List Int}:(k.map (Sum.inl:Int->Key)=j.map Sum.inl)↔k=j:=⟨λh=>(List.map_inj_right (λ_ _ e=>Sum.inl.inj e)).mp h,λh=>by rw [h]⟩
theorem qV (k:List Int):(k.map (Sum.inl:Int->Key)).map kV=k.map V.int:=by rw [Xp]; rfl
theorem uE (m:List (List Int×Int)) (k:List Int):eF (enc m) (k.map Sum.inl)=(mU m k).map V.int:=by
 unfold eF mU enc
 rw [List.find?_map,Option.map_map,Option.map_map]
 have e:((λkv:List Key×V=>decide (kv.1=k.map Sum.inl)) ∘ λp:List Int×Int=>(p.1.map Sum.inl,V.int p.2))=λp=>decide (p.1=k):=by
  funext p
  show decide (p.1.map Sum.inl=k.map Sum.inl)=_
  exact decide_eq_decide.mpr pS
 rw [e]
 rfl
theorem aFm (m:List (List Int×Int)) (k:List Int) (v:Int):kH (enc m) (k.map Sum.inl) (.int v)=enc (nQ m k v):=by
 unfold kH nQ enc
 have e:∀ p:List Int×Int,decide ((p.1.map (Sum.inl:Int->Key))=k.map Sum.inl)=decide (p.1=k):=λp=>decide_eq_decide.mpr pS
 have ea:((m.map λp=>(p.1.map (Sum.inl:Int->Key),V.int p.2)).any λkv=>decide (kv.1=k.map Sum.inl))=m.any λp=>decide (p.1=k):=by
  rw [We]
  congr 1
  funext p
  exact e p
 rw [ea]
 by_cases h:(m.any λp=>decide (p.1=k))=true
 ·rw [if_pos h,if_pos h,Xp,Xp]
  refine Zd λp _=>?_
  show (if p.1.map Sum.inl=k.map Sum.inl then _ else _)=_
  by_cases hp:p.1=k
  ·rw [if_pos (pS.mpr hp)]
   show _=(λp:List Int×Int=>(p.1.map (Sum.inl:Int->Key),V.int p.2)) (if p.1=k then (p.1,v) else p)
   rw [if_pos hp]
  ·rw [if_neg (λz=>hp (pS.mp z))]
   show _=(λp:List Int×Int=>(p.1.map (Sum.inl:Int->Key),V.int p.2)) (if p.1=k then (p.1,v) else p)
   rw [if_neg hp]
 ·rw [if_neg h,if_neg h,Qy]
  rfl
theorem aBI (lv tk:List Int) (g:List (List Int×Int)) (p:List Int×Int) {h:Int} (e:tk[i]?=some h):bz lv (tk.take (i+1)) g p=jR lv (bz lv (tk.take i) g p) p h:=by
 unfold bz
 rw [Js,e,Yb]
 rfl
theorem aBJ (R:List (List Int×Int)) (tk lv:List Int) {p:List Int×Int} (e:R[i]?=some p):dt (R.take (i+1)) tk lv=bz lv tk (dt (R.take i) tk lv) p:=by
 unfold dt
 rw [Js,e,Yb]
 rfl
structure d9 (n:Nat) (c:Int) (m:List (List Int×Int)):Prop where
 nd:(m.map (·.1)).Nodup
 box:∀ p∈m,p.1.length=n/\∀ x∈p.1,0<=x/\x<=c
 pos:∀ p∈m,0<=p.2
theorem aDB (m:List (List Int×Int)) (k:List Int) (v:Int):(nQ m k v).map (·.1)=if k∈m.map (·.1) then m.map (·.1) else m.map (·.1)++[k]:=by
 unfold nQ
 have e:(m.any λp=>decide (p.1=k))=true↔k∈m.map (·.1):=by simp [Zs]
 by_cases h:k∈m.map (·.1)
 ·rw [if_pos (e.mpr h),if_pos h,Xp]
  refine Zd λp _=>?_
  show (if p.1=k then (p.1,v) else p).1=p.1
  split <;> rfl
 ·rw [if_neg (λz=>h (e.mp z)),if_neg h,Qy]
  rfl
theorem uF {k:List Int} {v:Int} {p:List Int×Int} (h:p∈nQ m k v):p=(k,v)∨p∈m:=by
 unfold nQ at h
 split at h
 ·obtain ⟨q,hq,rfl⟩:=Qx.mp h
  by_cases e:q.1=k
  ·rw [if_pos e]; exact .inl (by rw [e])
  ·rw [if_neg e]; exact .inr hq
 ·rcases Qw.mp h with h | h
  ·exact .inr h
  ·exact .inl (Qq.mp h)
theorem d9.put {c:Int} {k:List Int} {v:Int} (h:d9 n c m) (h1:k.length=n) (h2:∀ x∈k,0<=x/\x<=c) (h3:0<=v):d9 n c (nQ m k v):=by
 refine ⟨?_,λp hp=>?_,λp hp=>?_⟩
 ·rw [aDB]
  split
  ·exact h.nd
  ·rename_i hk
   exact Ys.mpr ⟨h.nd,by simp,λx hx y hy e=>hk (by rw [<- Qq.mp hy,<- e]; exact hx)⟩
 ·rcases uF hp with rfl | hp
  ·exact ⟨h1,h2⟩
  ·exact h.box p hp
 ·rcases uF hp with rfl | hp
  ·exact h3
  ·exact h.pos p hp
theorem aAK {c:Int} (h:d9 n c m) (k:List Int):0<=(mU m k).getD 0:=by
 unfold mU
 cases q:m.find? λp=>decide (p.1=k) with
 | none=>exact Zb _
 | some p=>exact h.pos p (List.mem_of_find?_eq_some q)
theorem aFn {h:Nat} (hl:h < l.length):(mV l h).length=l.length:=by
 unfold mV
 rw [Qn,Qn,Qu,Jp]
 show _+1+_=_
 omega
theorem Z? {h:Nat} {c:Int} (hb:∀ x∈l,0<=x/\x<=c) (hl:h < l.length):∀ x∈mV l h,0<=x/\x<=c+1:=by
 intro x hx
 unfold mV at hx
 rcases Qw.mp hx with hx | hx
 ·rcases Qw.mp hx with hx | hx
  ·have:=hb x (Xa hx); omega
  ·rw [Qq.mp hx,Jk,Qb hl]
   have:=hb _ (Jt hl)
   show 0<=l[h]+1/\l[h]+1<=c+1
   omega
 ·have:=hb x (Yh hx); omega
theorem d9.step {c:Int} {g:List (List Int×Int)} {p:List Int×Int} {h:Int} (k:d9 n (c+1) g) (h1:p.1.length=n) (h2:∀ x∈p.1,0<=x/\x<=c) (h3:0<=p.2) (hh:0<=h/\h < n):d9 n (c+1) (jR lv g p h):=by
 unfold jR
 split
 ·exact k.put ((aFn (by omega)).trans h1) (Z? h2 (by omega)) (by have:=aAK k (mV p.1 h.toNat); omega)
 ·exact k
theorem d9.bz {c:Int} {p:List Int×Int} (h1:p.1.length=n) (h2:∀ x∈p.1,0<=x/\x<=c) (h3:0<=p.2):∀ (tk:List Int) (g:List (List Int×Int)),(∀ h∈tk,0<=h/\h < n)->d9 n (c+1) g->d9 n (c+1) (bz lv tk g p)
 | [],g,_,k=>k
 | h::tk,g,ht,k=>d9.bz h1 h2 h3 tk _ (λx hx=>ht x (Ql _ hx)) (k.step h1 h2 h3 (ht h (Qk ..)))
theorem d9.fold {c:Int} {tk:List Int} (ht:∀ h∈tk,0<=h/\h < n):∀ (R g:List (List Int×Int)),(∀ p∈R,p.1.length=n/\(∀ x∈p.1,0<=x/\x<=c)/\0<=p.2)->d9 n (c+1) g->d9 n (c+1) (R.foldl (λg p=>Ab.bz lv tk g p) g)
 | [],g,_,k=>k
 | p::R,g,hR,k=>d9.fold ht R _ (λq hq=>hR q (Ql _ hq)) (d9.bz (hR p (Qk ..)).1 (hR p (Qk ..)).2.1 (hR p (Qk ..)).2.2 tk g ht k)
theorem d9.nil (n:Nat) (c:Int):d9 n c []:=⟨Zq,λ_ h=>(Qp h).elim,λ_ h=>(Qp h).elim⟩
theorem d9.all {c:Int} {R:List (List Int×Int)} (k:d9 n c R):∀ p∈R,p.1.length=n/\(∀ x∈p.1,0<=x/\x<=c)/\0<=p.2:=λp hp=>⟨(k.box p hp).1,(k.box p hp).2,k.pos p hp⟩
theorem d9.dt {c:Int} {tk:List Int} {R:List (List Int×Int)} (k:d9 n c R) (ht:∀ h∈tk,0<=h/\h < n):d9 n (c+1) (dt R tk lv):=d9.fold ht R [] k.all (d9.nil n _)
def iQ:List Int->Int
 | []=>0
 | x::l=>x+13*iQ l
theorem pT:∀ {l:List Int},(∀ x∈l,0<=x/\x<=12)->0<=iQ l/\iQ l < 13^l.length
 | [],_=>⟨Zb _,by decide⟩
 | x::l,h=>by
  have h1:=h x (Qk ..)
  have h2:=pT (l:=l) λy hy=>h y (Ql _ hy)
  have e:(13:Int)^(x::l).length=13^l.length*13:=by rw [Jg,Int.pow_succ]
  rw [e]
  unfold iQ
  omega
theorem uG:∀ {l m:List Int},l.length=m.length->(∀ x∈l,0<=x/\x<=12)->(∀ x∈m,0<=x/\x<=12)->iQ l=iQ m->l=m
 | [],[],_,_,_,_=>rfl
 | x::l,y::m,hl,h1,h2,e=>by
  have a1:=h1 x (Qk ..)
  have a2:=h2 y (Qk ..)
  unfold iQ at e
  have ex:x=y:=by omega
  have el:iQ l=iQ m:=by omega
  rw [ex,uG (by simpa using hl) (λz hz=>h1 z (Ql _ hz)) (λz hz=>h2 z (Ql _ hz)) el]
theorem d9.len (k:d9 n 12 m) (hn:n<=6):m.length<=4826809:=by
 have nd:((m.map (·.1)).map iQ).Nodup:=by
  refine List.pairwise_map.mpr (List.Pairwise.imp_of_mem (λ{x y} hx hy ne e=>ne ?_) k.nd)
  obtain ⟨p,hp,rfl⟩:=Qx.mp hx
  obtain ⟨q,hq,rfl⟩:=Qx.mp hy
  exact uG ((k.box p hp).1.trans (k.box q hq).1.symm) (k.box p hp).2 (k.box q hq).2 e
 have sub:∀ z∈(m.map (·.1)).map iQ,z∈(List.range 4826809).map Int.ofNat:=λz hz=>by
  obtain ⟨x,hx,rfl⟩:=Qx.mp hz
  obtain ⟨p,hp,rfl⟩:=Qx.mp hx
  have hb:=pT (k.box p hp).2
  have hle:(13:Int)^p.1.length<=13^6:=by
   rw [(k.box p hp).1]
   rcases (show n=0∨n=1∨n=2∨n=3∨n=4∨n=5∨n=6 by omega) with e | e | e | e | e | e | e <;> rw [e] <;> decide
  have h6:(13:Int)^6=4826809:=by decide
  exact Qx.mpr ⟨(iQ p.1).toNat,Xe.mpr (by omega),by show ((iQ p.1).toNat:Int)=_; omega⟩
 have:=lH nd sub
 rw [Qc,Qc,Qc,Xs] at this
 exact this
def AJ (a g:Addr) (H H':Hp):Prop:=∀ b u,b≠a->b≠g->H b=some u->H' b=some u
theorem AJ.ai {g:Addr} {R:List (List Key×V)} (e:AJ a g H H') (ha:H a=some (.dT R)) (hg:H g=none) (h:aj K H c xs):aj K H' c xs:=by
 rcases h with (h | ⟨o,h⟩) | h
 ·exact .inl (.inl (e c _ (λz=>by rw [z,ha] at h; cases h) (λz=>by rw [z,hg] at h; cases h) h))
 ·exact .inl (.inr ⟨o,e c _ (λz=>by rw [z,ha] at h; cases h) (λz=>by rw [z,hg] at h; cases h) h⟩)
 ·exact .inr h
theorem AJ.cm {g:Addr} {R:List (List Key×V)} (e:AJ a g H H') (ha:H a=some (.dT R)) (hg:H g=none) (h:ak K H c xs):ak K H' c xs:=by
 rcases h with (h | ⟨o,h⟩) | h
 ·exact .inl (.inl (e c _ (λz=>by rw [z,ha] at h; cases h) (λz=>by rw [z,hg] at h; cases h) h))
 ·exact .inl (.inr ⟨o,e c _ (λz=>by rw [z,ha] at h; cases h) (λz=>by rw [z,hg] at h; cases h) h⟩)
 ·exact .inr h
theorem yM:∀ {R:List (List Int×Int)} {i:Nat} {q:List Int×Int},(R.map (·.1)).Nodup->R[i]?=some q->mU R q.1=some q.2
 | [],i,q,_,h=>by simp at h
 | p::R,0,q,_,h=>by
  have e:p=q:=by simpa using h
  subst e
  simp [mU]
 | p::R,i+1,q,nd,h=>by
  have LD:p.1∉R.map (·.1)/\(R.map (·.1)).Nodup:=by rw [Qv] at nd; exact Jw.mp nd
  have h':R[i]?=some q:=by simpa using h
  have ne:p.1≠q.1:=λz=>LD.1 (z ▸ Qx.mpr ⟨q,Qi h',rfl⟩)
  have ih:=yM LD.2 h'
  unfold mU at ih ⊢
  rw [Xm,decide_eq_false ne]
  exact ih
def QP (K:Rc):Sp:=λvs H Q _=>∃ (a l lp:Addr) (R:List (List Int×Int)) (tk lv:List Int) (c:Int),vs = [.ref a,.ref l,.ref lp]/\H a=some (.dT (enc R))/\ak K H l (tk.map V.int)/\aj K H lp (lv.map V.int)/\lv.length<=6/\d9 lv.length c R/\c<=11/\(∀ h∈tk,0<=h/\h < lv.length) /\
 ∀ g H',aE H H'->H g=none->H' g=some (.dT (enc (dt R tk lv)))->Q (.ref g) H'
theorem pU:ah ["rows", "takers", "levels", "grown", "many", "hand", "key"] ["rows", "takers", "levels"] (aL xY):=⟨rfl,rfl,rfl,by decide +kernel,rfl,by decide +kernel,by decide +kernel⟩
set_option maxHeartbeats 2000000 in
theorem Z! (G:Fn K mg "with_work" xY ["rows", "takers", "levels"] f fd) (B:Bl mg):af P w K mg base a_ 1 f fd ["rows", "takers", "levels"] (QP K):=by
 refine G.fn.ok pU (λvs H Q E h=>?_) (λbj A outer s H vs Q E hr h=>?_)
 ·obtain ⟨a,l,lp,R,tk,lv,c,rfl,_⟩:=h
  rfl
 ·obtain ⟨a,l,lp,R,tk,lv,c,rfl,ha,hl,mn,h6,hK,aao,Gz,k⟩:=h
  have hR:∀ p∈R,p.1.length=lv.length:=λp hp=>(hK.box p hp).1
  have yg:=hK.nd
  refine ⟨_,(aG (aT (i:=3) pU.nd rfl (Or.inl rfl) aEG)
   (aG (aEW (eS PassesOwn.never rfl (tL (pv 0)) (aQ (i:=4) pU.nd rfl (Or.inl rfl))
    (aJ (eS PassesOwn.never rfl (hJ (pv 1)) (aQ (i:=5) pU.nd rfl (Or.inl rfl))
     (aJ (bT (bB vL (bK (cD (K:=K) rfl) (pv 4) (pv 5) (λ_ _=>rfl)) (bK (cD (K:=K) rfl) (pv 2) (pv 5) (λ_ _=>rfl)) (bD _))
      (aG (aT (i:=6) pU.nd rfl (Or.inl rfl) (bE (QA (K:=K) rfl) (bE (QA (K:=K) rfl) (eZ (gF (K:=K) rfl) (pv 4) hV (gK (pv 5))) (cL (aA (bE eA (bK (cD (K:=K) rfl) (pv 4) (pv 5) (λ_ _=>rfl)) aI) aD))) (eZ (gF (K:=K) rfl) (pv 4) (gK (bE eA (pv 5) aI)) hV)))
      (aJ (xL (lN hr) (pv 3) (pv 6) (bE eA (nS Mr Rab PySem.F.type_dict_get (v? (lN hr)) (pv 3) (aA (pv 6) (aA aI aD))) (pE (lN hr) (pv 0) (pv 4) (λ_ _=>rfl))) rfl)))
      bG))))))
   (aJ (aY (pv 3))))),?_⟩
  intro g hg
  have Ew:g≠a:=λz=>by rw [z,ha] at hg; cases hg
  refine ⟨_,rfl,a,enc R,rfl,by rw [aK (Ne.symm Ew)]; exact ha,λo nf=>?_⟩
  have E9:(enc R).length=R.length:=Qc ..
  have b0:AJ a g H (upd (upd H g (.dT [])) a (.cq o (.dT (enc R)))):=λb u n1 n2 h=>by rw [aK n1,aK n2]; exact h
  have f0:upd (upd H g (.dT [])) a (.cq o (.dT (enc R))) a=some (.cq o (.dT (enc R))):=aB
  have g0:upd (upd H g (.dT [])) a (.cq o (.dT (enc R))) g=some (.dT (enc [])):=by rw [aK Ew,aB]; rfl
  generalize upd (upd H g (.dT [])) a (.cq o (.dT (enc R)))=H1 at b0 f0 g0 ⊢
  refine aDk (λi σ H2=>(∃ v4 v5 v6,σ = [some (.ref a),some (.ref l),some (.ref lp),some (.ref g),v4,v5,v6])/\AJ a g H H2/\H2 a=some (.cq o (.dT (enc R)))/\H2 g=some (.dT (enc (dt (R.take i) tk lv)))) ⟨⟨_,_,_,rfl⟩,b0,f0,g0⟩ (λi σ H2 _ h=>h.2.2.1) ?_ ?_
  ·rintro i p b σ H2 hp hb ⟨⟨v4,v5,v6,rfl⟩,b2,f2,g2⟩
   obtain ⟨q,hq,rfl⟩:∃ q,R[i]?=some q/\(q.1.map Sum.inl,V.int q.2)=p:=by
    unfold enc at hp
    rw [Qh] at hp
    cases hz:R[i]? with
    | none=>rw [hz] at hp; cases hp
    | some q=>rw [hz] at hp; exact ⟨q,rfl,Option.some.inj hp⟩
   have hi:i < R.length:=(Qd.mp hq).1
   have GQ:=hR q (Qi hq)
   have e_:H2 b=some (.tup (q.1.map V.int)):=by rw [<- qV]; exact hb
   have Na:d9 lv.length (c+1) (dt (R.take i) tk lv):=d9.fold Gz (R.take i) [] (λp hp=>hK.all p (Xa hp)) (d9.nil _ _)
   have GU:=hK.all q (Qi hq)
   have jf:=aBJ R tk lv hq
   generalize dt (R.take i) tk lv=G at g2 Na jf
   dsimp only [eY]
   refine ⟨_,rfl,l,rfl,⟨_,b2.cm ha hg hl⟩,jJ (K:=K) (xs:=tk.map V.int) (λj σ H3=>(∃ v5 v6,σ = [some (.ref a),some (.ref l),some (.ref lp),some (.ref g),some (.ref b),v5,v6])/\AJ a g H H3/\H3 a=some (.cq o (.dT (enc R)))/\H3 b=some (.tup (q.1.map V.int))/\H3 g=some (.dT (enc (bz lv (tk.take j) G q)))) ⟨⟨_,_,rfl⟩,b2,f2,e_,g2⟩ (λj σ H3 _ h=>h.2.1.cm ha hg hl) ?_ ?_⟩
   ·rintro j x σ H3 hx ⟨⟨w5,w6,rfl⟩,b3,f3,qa,g3⟩
    obtain ⟨h,hh,rfl⟩:∃ h,tk[j]?=some h/\V.int h=x:=by
     rw [Qh] at hx
     cases hz:tk[j]? with
     | none=>rw [hz] at hx; cases hx
     | some h=>rw [hz] at hx; exact ⟨h,rfl,Option.some.inj hx⟩
    have hj:j < tk.length:=(Qd.mp hh).1
    have hhr:=Gz h (Qi hh)
    obtain ⟨hn,rfl⟩:∃ hn:Nat,h=hn:=⟨h.toNat,by omega⟩
    have G1:hn < lv.length:=by omega
    have CZ:=d9.bz (lv:=lv) GU.1 GU.2.1 GU.2.2 (tk.take j) G (λh hh=>Gz h (Xa hh)) Na
    have WD:=d9.len ⟨CZ.nd,λp hp=>⟨(CZ.box p hp).1,λx hx=>by have:=(CZ.box p hp).2 x hx; omega⟩,CZ.pos⟩ h6
    have o6:=aBI lv tk G q hh
    clear CZ
    generalize bz lv (tk.take j) G q=G3 at g3 WD o6
    have Oq:ka (q.1.map V.int) (hn:Int)=some (.int (q.1.getD hn 0)):=cW (by rw [Qh,Jk,Qb (by omega)]; rfl)
    have at2:ka (lv.map V.int) (hn:Int)=some (.int (lv.getD hn 0)):=cW (by rw [Qh,Jk,Qb G1]; rfl)
    have EY:(q.1.map V.int).length=q.1.length:=Qc ..
    refine ⟨_,rfl,_,rfl,b,_,(hn:Int),_,rfl,rfl,aj.of qa,Oq,_,rfl,_,rfl,lp,_,(hn:Int),_,rfl,rfl,b3.ai ha hg mn,at2,_,_,rfl,rfl,_,rfl,?_⟩
    refine cR (λc1=>?_) (λc1=>?_)
    ·have c2:q.1.getD hn 0<=lv.getD hn 0:=of_decide_eq_true c1
     have HN:jR lv G3 q (hn:Int)=nQ G3 (mV q.1 hn) ((mU G3 (mV q.1 hn)).getD 0+q.2):=by unfold jR; rw [Jf,if_pos c2]
     refine ⟨_,rfl,_,rfl,_,rfl,b,_,rfl,aj.of qa,λr1 H4 s4 g4=>?_⟩
     rw [rS] at g4
     refine ⟨_,rfl,_,rfl,b,_,(hn:Int),_,rfl,rfl,aj.of (s4 _ _ qa),Oq,_,_,rfl,rfl,rj _,λr2 fg=>?_⟩
     have s5:=aE.new (o:=.tup [.int (q.1.getD hn 0+1)]) fg
     refine v! (s5.ai g4) aB (by rw [Qu]; omega) λr3 H6 s6 e6=>?_
     have Bn:=s4.trans (s5.trans s6)
     refine ⟨_,rfl,_,rfl,_,_,rfl,rfl,_,rfl,b,_,rfl,aj.of (Bn _ _ qa),λr4 H7 s7 g7=>?_⟩
     rw [show (hn:Int)+1=((hn+1:Nat):Int) by omega,kQ] at g7
     refine aE1 (s7 _ _ e6) (by simp) g7 (by rw [Qn,Qu,Jp]; show _+1+_<=_; omega) λkp H8 s8 e8=>?_
     have Bm:=Bn.trans (s7.trans s8)
     have e9:H8 kp=some (.tup (((mV q.1 hn).map Sum.inl).map kV)):=by
      rw [qV,e8]
      unfold mV
      rw [Qy,Qy,Yv,Yw]
      rfl
     have g8:=Bm _ _ g3
     have UZ:(eF (enc G3) ((mV q.1 hn).map Sum.inl)).getD (.int 0)=.int ((mU G3 (mV q.1 hn)).getD 0):=by rw [uE]; cases mU G3 (mV q.1 hn) <;> rfl
     have UY:some (V.int q.2)=eF (enc R) (q.1.map Sum.inl):=by rw [uE,yM yg hq]; rfl
     dsimp only [eY]
     refine ⟨_,rfl,.inr (.inr (.inl ⟨rfl,.inr ⟨_,g8⟩⟩)),_,rfl,g,kp,enc G3,(mV q.1 hn).map Sum.inl,.int 0,rfl,rfl,.inl g8,e9,?_⟩
     rw [UZ]
     refine ⟨_,rfl,_,rfl,a,.int q.2,rfl,.inr ⟨enc R,q.1.map Sum.inl,b,.inr ⟨o,Bm _ _ f3⟩,rfl,by rw [qV]; exact Bm _ _ qa,UY⟩,_,_,rfl,rfl,?_⟩
     refine ⟨_,rfl,_,rfl,g,_,rfl,xK.t g8 e9 (by unfold enc; rw [Qc,Rg]; omega),?_⟩
     rw [aFm,<- HN,<- o6]
     have UH:b≠g:=λz=>by rw [z,g3] at qa; cases qa
     refine ⟨⟨_,_,rfl⟩,λc u n1 n2 hc=>?_,?_,?_,aB⟩
     ·rw [aK n2]
      exact Bm _ _ (b3 c u n1 n2 hc)
     ·rw [aK (Ne.symm Ew)]
      exact Bm _ _ f3
     ·rw [aK UH]
      exact Bm _ _ qa
    ·have c2:¬ q.1.getD hn 0<=lv.getD hn 0:=λz=>c1 (decide_eq_true z)
     have HN:jR lv G3 q (hn:Int)=G3:=by unfold jR; rw [Jf,if_neg c2]
     rw [HN] at o6
     exact ⟨⟨_,_,rfl⟩,b3,f3,qa,by rw [o6]; exact g3⟩
   ·rintro σ H3 ⟨⟨w5,w6,rfl⟩,b3,f3,qa,g3⟩
    rw [Qc,Jq] at g3
    exact ⟨⟨_,_,_,rfl⟩,b3,f3,by rw [jf]; exact g3⟩
  ·rintro σ H2 ⟨⟨v4,v5,v6,rfl⟩,b2,f2,g2⟩
   rw [E9,Jq] at g2
   refine ⟨a,o,enc R,f2,nf,?_⟩
   refine ⟨_,rfl,k g _ (λb u h=>?_) hg (by rw [aK Ew]; exact g2)⟩
   by_cases Hq:b=a
   ·rw [Hq] at h ⊢
    rw [aB,<- ha,h]
   ·rw [aK Hq]
    exact b2 b u Hq (λz=>by rw [z,hg] at h; cases h) h
end Ab
namespace L2
open PySem
theorem N! (k1 k2:Sk) {a b:Expr} {ta:TA} (hK:X.K=K) (hg:Gl X "zip") (hm:X.mg "zip" = none) (ha:PA X [a,b] ta) (hs:starEach [a,b] X.env = [(false,eval a X.env),(false,eval b X.env)]:=by rfl) (qq:starEach [b] X.env = [(false,eval b X.env)]:=by rfl) :
  PI X (.Tuple es x1 xc) (.Call (.Name "zip" p) [a,b] [] pos) (OF K k1 k2 ta):=by subst hK; exact sS k1 k2 hg hm ha hs qq
theorem aDC (hK:X.K=K) (hc:X.calm=true):eN X (.builtin "all") (λxs H Q=>∃ (p:Addr) (bs:List Bool),xs = [.ref p]/\ak K H p (bs.map V.bl)/\Q (.bl (bs.all id)) H):=by subst hK; exact jL hc
end L2
namespace Ab
open PySem L2
def gJ (lv l:List Int):List Int:=l.filter λh=>decide (∀ j∈l,lv.getD h.toNat 0<=lv.getD j.toNat 0)
def eR (n:Nat) (lv:List Int) (ws:List (List Int)):List (List Int×Int):=ws.foldl (λR l=>dt R (gJ lv l) lv) [(List.replicate n 0,1)]
def mX (n:Nat) (lv:List Int) (ws:List (List Int)):List (List Int×Int):=(eR n lv ws).filter λp=>(p.1.zip lv).all λq=>decide (q.2<=q.1)
theorem kB (n:Nat) (lv:List Int) (ws:List (List Int)) (e:ws[i]?=some l):eR n lv (ws.take (i+1))=dt (eR n lv (ws.take i)) (gJ lv l) lv:=by
 unfold eR
 rw [Js,e,Yb]
 rfl
theorem iR (n:Nat) (lv:List Int) (ws:List (List Int)) (hw:∀ l∈ws,∀ h∈l,0<=h/\h < (n:Int)):∀ i:Nat,i<=ws.length->d9 n i (eR n lv (ws.take i))
 | 0,_=>by
  refine ⟨by simp [eR],λp hp=>?_,λp hp=>?_⟩
  ·have e:p=(List.replicate n 0,1):=by simpa [eR] using hp
   subst e
   exact ⟨Xk,λx hx=>by rw [Zw hx]; exact ⟨Zb _,Zb _⟩⟩
  ·have e:p=(List.replicate n 0,1):=by simpa [eR] using hp
   subst e
   show (0:Int)<=1
   decide
 | i+1,h=>by
  have hi:i < ws.length:=by omega
  rw [kB n lv ws (Qb hi)]
  have k:=iR n lv ws hw i (by omega)
  exact k.dt λh hh=>hw _ (Jt hi) h (Xc.mp hh).1
def ZQ:Scope:=match (dU iE).getD 3 (.Pass ⟨0,0,0,0⟩) with
 | .Return (some (.DictComp _ _ _ sc _)) _=>sc
 | _=>aL iE
theorem aBK {M:Int} (h1:M∈l.map λh=>lv.getD h.toNat 0) (h2:∀ a∈l.map λh=>lv.getD h.toNat 0,M<=a):(l.filter λh=>decide (lv.getD h.toNat 0=M))=gJ lv l:=by
 unfold gJ
 refine List.filter_congr λh hh=>decide_eq_decide.mpr ⟨λe j hj=>?_,λe=>?_⟩
 ·rw [e]
  exact h2 _ (Qx.mpr ⟨j,hj,rfl⟩)
 ·obtain ⟨j,hj,ej⟩:=Qx.mp h1
  have:=e j hj
  have:=h2 _ (Qx.mpr ⟨h,hh,rfl⟩)
  omega
def sF (K:Rc) (Pt:Addr):Sp:=λvs H Q _=>∃ (x:V) (n:Int) (ws:List (List Int)),vs = [x]/\Den K H (cJ n ws) x/\bU (cJ n ws)=true/\H Pt=some (.tab pP) /\
 ∀ (p:Addr) (hs lv:List Int) H',aE H H'->fP ws (iH hs)=true->jA n ws hs lv->H' p=some (.dT (enc (mX n.toNat lv ws)))->Q (.ref p) H'
theorem kC:ah ["book", "levels", "rows", "able", "least"] ["book"] (aL iE):=⟨rfl,rfl,rfl,by decide +kernel,rfl,by decide +kernel,by decide +kernel⟩
set_option maxHeartbeats 4000000 in
theorem Y? {HH:Addr} {HY:FuncData} (G:Fn K mg "even_loads" iE ["book"] f fd) (B:Bl mg) (Du:Fn K mg "evenest" gR ["book"] fE dE) (wq:af P w K mg base a_ 11 fE dE ["book"] (kW K Pt)) (Sa:Fn K mg "with_work" xY ["rows", "takers", "levels"] HH HY):af P w K mg base a_ 12 f fd ["book"] (sF K Pt):=by
 have OWW:af P w K mg base a_ 1 HH HY ["rows", "takers", "levels"] (QP K):=Z! Sa B
 refine G.fn.ok kC (λvs H Q E h=>?_) (λbj A outer s H vs Q E hr h=>?_)
 ·obtain ⟨x,n,ws,rfl,_⟩:=h
  rfl
 ·obtain ⟨x,n,ws,rfl,hx,hb,hP,k⟩:=h
  have Er:ay 11 _:=hr
  have r1:ay 1 _:=hr.mono (by decide)
  refine ⟨_,(aG (aT (i:=1) kC.nd rfl (Or.inr rfl) (bK (cD (K:=K) rfl) (bH Du wq Er rfl (aA (pv 0) aD)) aI (λ_ _=>rfl)))
   (aG (aT (i:=2) kC.nd rfl (Or.inr rfl) (aDl (lN hr) (bE u? (cL (aA aI aD)) (bK (cD (K:=K) rfl) (pv 0) aI (λ_ _=>rfl))) aI))
   (aG (eS PassesOwn.never rfl (iK (bK (cD (K:=K) rfl) (pv 0) aI (λ_ _=>rfl))) (aQ (i:=3) kC.nd rfl (Or.inl rfl))
    (aG (aT (i:=4) kC.nd rfl (Or.inr rfl) (aV (aC1 rfl) rfl B.min O8 (aA (cQ (own:=["hand"]) (fr:=[1]) (bc:=["levels"]) (bP (aL iE) ["book", "levels", "rows", "able", "least"] rfl rfl (by decide +kernel)) rfl (iK (pv 3))
      (λ_ _ _ _=>aQ (i:=0) (show (["hand", "levels"]:List Str).Nodup by decide +kernel) rfl (Or.inl rfl)) (λ_ _ _ _=>eO) (λ_ _ _ _=>bK (cD (K:=K) rfl) (pv 1) (pv 0) (λ_ _=>rfl))) aD)))
    (aJ (aT (i:=2) kC.nd rfl (Or.inr rfl) (bH Sa OWW r1 rfl (aA (pv 2) (aA (cQ (own:=["hand"]) (fr:=[1,4]) (bc:=["levels", "least"]) (bP (aL iE) ["book", "levels", "rows", "able", "least"] rfl rfl (by decide +kernel)) rfl (iK (pv 3))
      (λ_ _ _ _=>aQ (i:=0) (show (["hand", "levels", "least"]:List Str).Nodup by decide +kernel) rfl (Or.inl rfl)) (λ_ _ _ _=>qB (bB gL (bK (cD (K:=K) rfl) (pv 1) (pv 0) (λ_ _=>rfl)) (pv 2) (bD _))) (λ_ _ _ _=>pv 0)) (aA (pv 1) aD))))))))
   (aJ (aY (aDn (lN hr) (own:=["many"]) (fr:=[1,2]) (bc:=["levels", "rows"]) (bP (aL iE) ["book", "levels", "rows", "able", "least"] rfl rfl (by decide +kernel)) rfl (pv 2)
     (λ_ _ _ _=>aQ (i:=0) (show (["many", "levels", "rows"]:List Str).Nodup by decide +kernel) rfl (Or.inl rfl))
     (λ_ _ _ _=>qB (eJ (aV (aDC (K:=K) rfl rfl) rfl B.all tM (aA (cQ (own:=["load", "level"]) (fr:=[]) (bc:=[]) (bP (Oz ZQ (aL iE)) ["many", "levels", "rows"] rfl rfl (by decide +kernel)) rfl (N! (K:=K) .t .t rfl rfl B.zip (aA (pv 0) (aA (pv 1) aD)))
       (λ_ _ _ _=>sB (K:=K) (n:=2) rfl rfl (aX (aQ (i:=0) (show (["load", "level"]:List Str).Nodup by decide +kernel) rfl (Or.inl rfl)) (aX (aQ (i:=1) (show (["load", "level"]:List Str).Nodup by decide +kernel) rfl (Or.inl rfl)) cU))) (λ_ _ _ _=>eO) (λ_ _ _ _=>iU yX (pv 0) (pv 1) (bD _))) aD))))
     (λ_ _ _ _=>pv 0) (λ_ _ _ _=>pE (lN hr) (pv 2) (pv 0) (λ_ _=>rfl)))))))),?_⟩
  obtain ⟨jq,ia,gu,fv⟩:=bO hb
  refine ⟨_,rfl,x,n,ws,rfl,hx,hb,hP,λp dp lp hs lv H1 s1 hp MC hd mn L=>?_⟩
  refine ⟨p,_,1,.ref lp,rfl,rfl,aj.of hp,rfl,?_⟩
  obtain ⟨ba,bb,ys,rfl,ha,ee,dk⟩:=dM (s1.den _ _ hx)
  have i8:=aH dk
  rw [Qc] at i8
  intro r0 Ai
  refine ⟨rj _,λz0 EJ=>?_⟩
  have s2:=aE.new (o:=.dT []) Ai
  have s3:=aE.new (o:=.tup [.int 0]) EJ
  refine ⟨_,rfl,ba,_,0,.int n,rfl,rfl,(s2.trans s3).ai ha,rfl,?_⟩
  refine ⟨z0,n.toNat,[.int 0],rfl,by rw [Xt (by omega)],aB,by simp,by omega,by omega,by decide,λkp H3 s4 e3=>?_⟩
  have r3:H3 r0=some (.dT []):=(s3.trans s4) _ _ aB
  rw [List.flatten_replicate_singleton] at e3
  refine ⟨(List.replicate n.toNat 0).map Sum.inl,kp,rfl,by rw [qV,List.map_replicate]; exact e3,r3,?_⟩
  have ju:aE H1 (upd H3 r0 (.dT [((List.replicate n.toNat 0).map Sum.inl,.int 1)])):=λb u h=>by
   rw [aK (λz=>by rw [z,Ai] at h; cases h)]
   exact (s2.trans (s3.trans s4)) _ _ h
  have e4:upd H3 r0 (.dT [((List.replicate n.toNat 0).map Sum.inl,.int 1)]) r0=some (.dT (enc (eR n.toNat lv (ws.take 0)))):=aB
  generalize upd H3 r0 (.dT [((List.replicate n.toNat 0).map Sum.inl,.int 1)])=H4 at ju e4 ⊢
  have og:∀ l∈ws,∀ h∈l,0<=h/\h < ((n.toNat:Nat):Int):=λl hl h hh=>by have:=(bV (fv l hl)).2.1 h hh; omega
  have DR:lv.length=n.toNat:=L.1
  dsimp only [eY]
  refine ⟨_,rfl,ba,_,1,.ref bb,rfl,rfl,ju.ai ha,rfl,bb,rfl,⟨_,ju.ai ee⟩,xA (K:=K) (a:=bb) (xs:=ys) (λi σ H5=>∃ (rp:Addr) (v3 v4:Option V),σ = [some (.ref ba),some (.ref lp),some (.ref rp),v3,v4]/\H5 rp=some (.dT (enc (eR n.toNat lv (ws.take i))))/\aE H1 H5) ⟨r0,_,_,rfl,e4,ju⟩ (λi σ H5 _ ⟨_,_,_,_,_,s5⟩=>s5.ai ee) ?_ ?_⟩
  ·rintro i y σ H5 hy ⟨rp,v3,v4,rfl,e5,s5⟩
   obtain ⟨dv,dm,ie⟩:=bS dk hy
   rw [Qh] at dm
   obtain ⟨l,hl,rfl⟩:∃ l,ws[i]?=some l/\cZ l=dv:=by
    cases q:ws[i]? with
    | none=>rw [q] at dm; cases dm
    | some l=>rw [q] at dm; exact ⟨l,rfl,Option.some.inj dm⟩
   obtain ⟨pw,rfl,oj⟩:=bC.mp ie
   have hiw:i < ws.length:=(Qd.mp hl).1
   obtain ⟨l0,lr,l6⟩:=bV (fv l (Qi hl))
   have vo:=og l (Qi hl)
   have EY:(l.map V.int).length=l.length:=Qc ..
   have jt:l.length<=12:=by
    have z:=lH (l:=l) (m:=(List.range n.toNat).map Int.ofNat) (l6.imp λ{a b} h=>by omega) λh hh=>Qx.mpr ⟨h.toNat,Xe.mpr (by have:=vo h hh; omega),by have:=vo h hh; show ((h.toNat:Nat):Int)=h; omega⟩
    rw [Qc,Xs] at z
    omega
   have Oo:∀ h∈l,ka (lv.map V.int) h=some (.int (lv.getD h.toNat 0)):=λh hh=>by
    have Ai:=vo h hh
    obtain ⟨m,rfl⟩:∃ m:Nat,h=m:=⟨h.toNat,by omega⟩
    exact cW (by rw [Qh,Jf,Jk,Qb (by omega)]; rfl)
   refine ⟨_,rfl,pw,rfl,⟨_,s5.ai oj⟩,tG (K:=K) (a:=pw) (xs:=l.map V.int) (vs:=(l.map λh=>lv.getD h.toNat 0).map V.int) (λσ=>∃ v,σ = [v,some (.ref lp)]) (by omega) (by rw [Qc,Qc,Qc]) (s5.ai oj) ⟨none,rfl⟩ ?_ ?_⟩
   ·rintro j xv v σ H6 fu hv ⟨v0,rfl⟩ s6 Q' jw
    rw [Qh] at fu
    rw [Qh,Qh] at hv
    cases qv:l[j]? with
    | none=>rw [qv] at fu; cases fu
    | some h =>
     rw [qv] at fu hv
     obtain rfl:V.int h=xv:=Option.some.inj fu
     obtain rfl:V.int (lv.getD h.toNat 0)=v:=Option.some.inj hv
     exact ⟨_,rfl,_,rfl,lp,_,h,_,rfl,rfl,aj.of ((s5.trans s6) _ _ mn),Oo h (Qi qv),jw _ _ ⟨_,rfl⟩ (aE.refl _)⟩
   ·rintro H6 s6 z hz
    refine ⟨z,_,rfl,ak.of aB,by rw [Qc]; exact Zf.mpr l0,λM hM tw=>?_⟩
    have s7:=s6.trans (aE.new (o:=.lst ((l.map λh=>lv.getD h.toNat 0).map V.int)) hz)
    generalize upd H6 z (.lst ((l.map λh=>lv.getD h.toNat 0).map V.int))=H7 at s7 ⊢
    have n_:=s5.trans s7
    have hK:=iR n.toNat lv ws og i (by omega)
    refine ⟨_,rfl,_,rfl,pw,rfl,⟨_,n_.ai oj⟩,kR (K:=K) (a:=pw) (xs:=l.map V.int) (λσ=>∃ v,σ = [v,some (.ref lp),some (.int M)]) (λj zs H8=>H8=H7/\zs=((l.take j).filter λh=>decide (lv.getD h.toNat 0=M)).map V.int) (dJ (by omega)) ⟨none,rfl⟩ ⟨rfl,rfl⟩ ?_ ?_ ?_ ?_⟩
    ·rintro j zs H8 ⟨rfl,rfl⟩
     rw [Qc]
     exact Jl (Zo ..) (by rw [Qu]; omega)
    ·rintro j zs H8 ⟨rfl,rfl⟩
     exact n_.ai oj
    ·rintro j zs σ xv H8 fu ⟨v0,rfl⟩ ⟨rfl,rfl⟩ Gu
     rw [Qh] at fu
     cases qv:l[j]? with
     | none=>rw [qv] at fu; cases fu
     | some h =>
      rw [qv] at fu
      obtain rfl:V.int h=xv:=Option.some.inj fu
      have et:(l.take (j+1)).filter (λh=>decide (lv.getD h.toNat 0=M))=(l.take j).filter (λh=>decide (lv.getD h.toNat 0=M))++([h].filter λh=>decide (lv.getD h.toNat 0=M)):=by rw [Js,qv,Zj]; rfl
      refine ⟨_,rfl,_,rfl,lp,_,h,_,rfl,rfl,aj.of (n_ _ _ mn),Oo h (Qi qv),_,rfl,rfl,_,rfl,?_⟩
      refine cR (λc1=>?_) (λc1=>?_)
      ·have c2:lv.getD h.toNat 0=M:=by
        have z:=of_decide_eq_true c1
        injection z
       refine ⟨_,rfl,Gu,⟨_,rfl⟩,rfl,?_⟩
       rw [et,Qy,Yg,if_pos (decide_eq_true c2)]
       rfl
      ·have c2:¬ lv.getD h.toNat 0=M:=λz=>c1 (decide_eq_true (by rw [z]))
       refine ⟨⟨_,rfl⟩,rfl,?_⟩
       rw [et,Yg,if_neg (λz=>c2 (of_decide_eq_true z))]
       simp
    ·rintro zs H8 ⟨rfl,rfl⟩ z2 uw
     rw [EY,Jq,aBK hM tw]
     have s8:=aE.new (o:=.lst ((gJ lv l).map V.int)) uw
     have Cd:=n_.trans s8
     refine ⟨_,rfl,rp,z2,lp,_,gJ lv l,lv,(i:Int),rfl,(s7.trans s8) _ _ e5,ak.of aB,aj.of (Cd _ _ mn),by omega,by rw [DR]; exact hK,by omega,λh hh=>by rw [DR]; exact vo h (Xc.mp hh).1,λg H9 s9 hg e9=>?_⟩
     exact ⟨g,_,_,rfl,by rw [kB n.toNat lv ws hl]; exact e9,Cd.trans s9⟩
  ·rintro σ H5 ⟨rp,v3,v4,rfl,e5,s5⟩
   rw [i8,Jq] at e5
   have qw:=iR n.toNat lv ws og ws.length (Qe _)
   rw [Jq] at qw
   have MB:mX n.toNat lv ws=(eR n.toNat lv ws).filter λp=>(p.1.zip lv).all λq=>decide (q.2<=q.1):=rfl
   have E9:=d9.len ⟨qw.nd,λp hp=>⟨(qw.box p hp).1,λx hx=>by have:=(qw.box p hp).2 x hx; omega⟩,qw.pos⟩ (show n.toNat<=6 by omega)
   generalize eR n.toNat lv ws=R at e5 qw MB E9
   have yn:(enc R).length=R.length:=Qc ..
   refine ⟨_,rfl,rp,enc R,rfl,e5,λo=>?_⟩
   have f6:upd H5 rp (.cq o (.dT (enc R))) rp=some (.cq o (.dT (enc R))):=aB
   have b6:∀ b u,b≠rp->H5 b=some u->upd H5 rp (.cq o (.dT (enc R))) b=some u:=λb u nb h=>by rw [aK nb]; exact h
   generalize upd H5 rp (.cq o (.dT (enc R)))=H6 at f6 b6 ⊢
   have UA:lp≠rp:=λz=>by have y:=s5 _ _ mn; rw [z,e5] at y; cases y
   refine aAp (λσ=>∃ v,σ = [v,some (.ref lp),some (.ref rp)]) (λi ys H7=>ys.map EG=enc ((R.take i).filter λp=>(p.1.zip lv).all λq=>decide (q.2<=q.1))/\Kp ys H7/\H7 rp=some (.cq o (.dT (enc R)))/\∀ b u,b≠rp->H5 b=some u->H7 b=some u) (by rw [yn,Rg]; omega) ⟨none,rfl⟩ ⟨rfl,λ_ h=>(Qp h).elim,f6,b6⟩ ?_ (λi ys H7 h=>⟨h.2.2.1,h.2.1⟩) ?_ ?_
   ·rintro i ys H7 ⟨he,_⟩
    have z:=congrArg Yj he
    unfold enc at z
    rw [Qc,Qc] at z
    have z2:=Zo (λp:List Int×Int=>(p.1.zip lv).all λq=>decide (q.2<=q.1)) (R.take i)
    rw [Qu] at z2
    omega
   ·rintro i ys σ p b H7 hp hb ⟨v,rfl⟩ ⟨he,L6,f7,b7⟩ hz
    obtain ⟨q,hq,rfl⟩:∃ q,R[i]?=some q/\(q.1.map Sum.inl,V.int q.2)=p:=by
     unfold enc at hp
     rw [Qh] at hp
     cases hz:R[i]? with
     | none=>rw [hz] at hp; cases hp
     | some q=>rw [hz] at hp; exact ⟨q,rfl,Option.some.inj hp⟩
    have GQ:=(qw.box q (Qi hq)).1
    have e_:H7 b=some (.tup (q.1.map V.int)):=by rw [<- qV]; exact hb
    have DS:H7 lp=some (.tup (lv.map V.int)):=b7 _ _ UA (s5 _ _ mn)
    have et:(R.take (i+1)).filter (λp=>(p.1.zip lv).all λq=>decide (q.2<=q.1))=(R.take i).filter (λp=>(p.1.zip lv).all λq=>decide (q.2<=q.1))++([q].filter λp=>(p.1.zip lv).all λq=>decide (q.2<=q.1)):=by rw [Js,hq,Zj]; rfl
    refine ⟨_,rfl,_,rfl,b,lp,_,_,rfl,aj.of e_,aj.of DS,aDj (K:=K) (k1:=.t) (k2:=.t) (a:=b) (b:=lp) (xs:=q.1.map V.int) (zs:=lv.map V.int) (vs:=((q.1.zip lv).map λr=>decide (r.2<=r.1)).map V.bl) (λσ=>∃ v0 v1,σ = [v0,v1]) (by rw [Qc]; omega) (by rw [Qc,Qc]; omega) (by rw [Qc,Qc,Qc,Wf]; omega) (λH' s'=>⟨aj.of (s' _ _ e_),aj.of (s' _ _ DS)⟩) ⟨none,none,rfl⟩ ?_ ?_⟩
    ·rintro j xv zv v pr σ H8 fu Ct hv Aj ⟨v0,v1,rfl⟩ s8 Q' jw
     rw [Qh] at fu Ct
     cases h1:q.1[j]? with
     | none=>rw [h1] at fu; cases fu
     | some x1 =>
      cases h2:lv[j]? with
      | none=>rw [h2] at Ct; cases Ct
      | some x2 =>
       rw [h1] at fu
       rw [h2] at Ct
       obtain rfl:V.int x1=xv:=Option.some.inj fu
       obtain rfl:V.int x2=zv:=Option.some.inj Ct
       rw [Qh,Qh,(Jh (z:=(x1,x2))).mpr ⟨h1,h2⟩] at hv
       obtain rfl:V.bl (decide (x2<=x1))=v:=Option.some.inj hv
       refine ⟨pr,_,rfl,aj.of aB,rfl,_,_,rfl,_,_,rfl,rfl,?_⟩
       refine ⟨_,rfl,_,rfl,_,_,rfl,rfl,?_⟩
       exact jw _ _ ⟨_,_,rfl⟩ (aE.new Aj)
    ·rintro H8 s8 z Gu
     refine ⟨z,_,rfl,ak.of aB,_,rfl,?_⟩
     have s9:=s8.trans (aE.new (o:=.lst (((q.1.zip lv).map λr=>decide (r.2<=r.1)).map V.bl)) Gu)
     generalize upd H8 z (.lst (((q.1.zip lv).map λr=>decide (r.2<=r.1)).map V.bl))=H9 at s9 ⊢
     have ec:((q.1.zip lv).map λr=>decide (r.2<=r.1)).all id=(q.1.zip lv).all λr=>decide (r.2<=r.1):=by rw [Zn]; rfl
     rw [ec]
     have Gr:Kp ys H9:=λe h=>s9 _ _ (L6 e h)
     have b9:∀ b u,b≠rp->H5 b=some u->H9 b=some u:=λb u nb h=>s9 _ _ (b7 b u nb h)
     by_cases hc:((q.1.zip lv).all λr=>decide (r.2<=r.1))=true
     ·rw [hc]
      refine jD ?_
      refine ⟨_,rfl,_,rfl,_,rfl,rp,.int q.2,rfl,.inr ⟨enc R,q.1.map Sum.inl,b,.inr ⟨o,s9 _ _ f7⟩,rfl,s9 _ _ hb,by rw [uE,yM qw.nd hq]; rfl⟩,?_⟩
      refine ⟨q.1.map Sum.inl,b,rfl,s9 _ _ hb,Gr,λhm=>?_,hz,⟨_,rfl⟩,?_,λe h=>?_,s9 _ _ f7,b9⟩
      ·have e1:ys.map (·.1)=((R.take i).filter λp=>(p.1.zip lv).all λq=>decide (q.2<=q.1)).map λp=>p.1.map Sum.inl:=by
        have z:=congrArg (List.map (·.1)) he
        unfold enc at z
        rw [Xp,Xp] at z
        exact z
       rw [e1] at hm
       obtain ⟨p,my,ep⟩:=Qx.mp hm
       have wj:p.1=q.1:=pS.mp ep
       obtain ⟨j,hj,ej⟩:=List.getElem_of_mem (Xc.mp my).1
       have hi:i < R.length:=(Qd.mp hq).1
       have U8:R[i]=q:=(Qd.mp hq).2
       rw [Qu] at hj
       rw [List.getElem_take] at ej
       refine Xw.mp qw.nd j i (by rw [Qc]; omega) (by rw [Qc]; exact hi) (by omega) ?_
       rw [List.getElem_map,List.getElem_map,ej,U8]
       exact wj
      ·rw [Qy,he,et,Yg,if_pos hc]
       unfold enc
       rw [Qy]
       rfl
      ·rcases Qw.mp h with h | h
       ·exact Gr e h
       ·rw [Qq.mp h]
        exact s9 _ _ hb
     ·rw [Zt] at hc
      rw [hc]
      refine iN ?_
      refine ⟨⟨_,rfl⟩,?_,Gr,s9 _ _ f7,b9⟩
      rw [et,Yg,if_neg (by rw [hc]; decide)]
      simpa using he
   ·rintro ys H7 ⟨he,L6,f7,b7⟩ p hp
    rw [yn,Jq,<- MB] at he
    rw [he]
    refine k p hs lv _ (λb u h=>?_) hd L (by rw [aK (λz=>by rw [z,f7] at hp; cases hp),aB])
    have y:=s5 _ _ (s1 _ _ h)
    by_cases E2:b=rp
    ·rw [E2] at y ⊢
     rw [aB,<- e5,y]
    ·rw [aK E2,aK (λz=>by rw [<- z,b7 b u E2 y] at hp; cases hp)]
     exact b7 b u E2 y
def SM (m:List (List Int×Int)):Int:=iW (m.map (·.2))
theorem lL (p:List Int×Int) (m:List (List Int×Int)):SM (p::m)=p.2+SM m:=rfl
theorem M? {p:List Int×Int} {k:List Int} {x:Int} (h:p.1≠k):nQ (p::m) k x=p::nQ m k x:=by
 unfold nQ
 rw [Za,decide_eq_false h,Bool.false_or]
 split
 ·rw [Qv,if_neg h]
 ·rfl
theorem M! {p:List Int×Int} {k:List Int} (h:p.1≠k):mU (p::m) k=mU m k:=by
 unfold mU
 rw [Xm,decide_eq_false h]
theorem Pd {k:List Int} {v:Int}:∀ {m:List (List Int×Int)},(m.map (·.1)).Nodup->SM (nQ m k ((mU m k).getD 0+v))=SM m+v
 | [],_=>by
  show (0+v)+0=0+v
  omega
 | p::m,nd=>by
  rw [Qv] at nd
  obtain ⟨h1,h2⟩:=Jw.mp nd
  by_cases h:p.1=k
  ·have eg:mU (p::m) k=some p.2:=by unfold mU; rw [Xm,decide_eq_true h]; rfl
   have ep:nQ (p::m) k (p.2+v)=(p.1,p.2+v)::m:=by
    unfold nQ
    rw [Za,decide_eq_true h,Bool.true_or,if_pos rfl,Qv,if_pos h]
    congr 1
    refine (Zd λq hq=>?_).trans (List.map_id' m)
    rw [if_neg (λz=>h1 (Qx.mpr ⟨q,hq,z.trans h.symm⟩))]
   rw [eg]
   show SM (nQ (p::m) k (p.2+v))=_
   rw [ep,lL,lL]
   show p.2+v+SM m=_
   omega
  ·rw [M! h,M? h,lL,lL,Pd h2]
   omega
theorem L? {g:List (List Int×Int)} {p:List Int×Int} {h:Int} (nd:(g.map (·.1)).Nodup) (h3:0<=p.2):SM (jR lv g p h)<=SM g+p.2:=by
 unfold jR
 split
 ·rw [Pd nd]; exact Zb _
 ·omega
theorem RS {c:Int} {p:List Int×Int} (h1:p.1.length=n) (h2:∀ x∈p.1,0<=x/\x<=c) (h3:0<=p.2):∀ (tk:List Int) (g:List (List Int×Int)),(∀ h∈tk,0<=h/\h < n)->d9 n (c+1) g->SM (bz lv tk g p)<=SM g+tk.length*p.2
 | [],g,_,_=>by
  show SM g<=SM g+(0:Nat)*p.2
  omega
 | h::tk,g,ht,k=>by
  have a:=RS h1 h2 h3 tk (jR lv g p h) (λx hx=>ht x (Ql _ hx)) (k.step h1 h2 h3 (ht h (Qk ..)))
  have b:=L? (lv:=lv) (h:=h) k.nd h3
  show SM (bz lv tk (jR lv g p h) p)<=_
  rw [Jg,Wa,Int.add_mul]
  show _<=SM g+(tk.length*p.2+1*p.2)
  omega
theorem QO {c:Int} {tk:List Int} (ht:∀ h∈tk,0<=h/\h < n):∀ (R g:List (List Int×Int)),(∀ p∈R,p.1.length=n/\(∀ x∈p.1,0<=x/\x<=c)/\0<=p.2)->d9 n (c+1) g->SM (R.foldl (λg p=>bz lv tk g p) g)<=SM g+tk.length*SM R
 | [],g,_,_=>by
  show SM g<=SM g+tk.length*0
  omega
 | p::R,g,hR,k=>by
  have hp:=hR p (Qk ..)
  have a:=QO ht R _ (λq hq=>hR q (Ql _ hq)) (d9.bz (lv:=lv) hp.1 hp.2.1 hp.2.2 tk g ht k)
  have b:=RS (lv:=lv) hp.1 hp.2.1 hp.2.2 tk g ht k
  rw [lL,Int.mul_add]
  show SM (R.foldl (λg p=>bz lv tk g p) (bz lv tk g p))<=_
  omega
theorem qW:∀ {m:List (List Int×Int)},(∀ p∈m,0<=p.2)->0<=SM m
 | [],_=>Zb _
 | p::m,h=>by
  have a:=h p (Qk ..)
  have b:=qW (m:=m) λq hq=>h q (Ql _ hq)
  rw [lL]
  omega
theorem OZ:∀ {m:List (List Int×Int)},(∀ p∈m,0<=p.2)->∀ p∈m,p.2<=SM m
 | q::m,h,p,hp=>by
  have a:=h q (Qk ..)
  have b:=qW (m:=m) λq hq=>h q (Ql _ hq)
  rw [lL]
  rcases Qj.mp hp with rfl | hp
  ·omega
  ·have:=OZ (m:=m) (λq hq=>h q (Ql _ hq)) p hp
   omega
theorem QN (n:Nat) (hn:n<=6) (lv:List Int) (ws:List (List Int)) (hw:∀ l∈ws,∀ h∈l,0<=h/\h < (n:Int)) (hl:∀ l∈ws,l.length<=6):∀ i:Nat,i<=ws.length->SM (eR n lv (ws.take i))<=((6^i:Nat):Int)
 | 0,_=>by
  show (1:Int)+0<=1
  decide
 | i+1,h=>by
  have hi:i < ws.length:=by omega
  rw [kB n lv ws (Qb hi)]
  have k:=iR n lv ws hw i (by omega)
  have ih:=QN n hn lv ws hw hl i (by omega)
  have ht:∀ h∈gJ lv ws[i],0<=h/\h < (n:Int):=λh hh=>hw _ (Jt hi) h (Xc.mp hh).1
  have a:=QO (lv:=lv) ht (eR n lv (ws.take i)) [] k.all (d9.nil n _)
  have tl:(gJ lv ws[i]).length<=6:=Jl (Zo ..) (hl _ (Jt hi))
  have nn:=qW k.pos
  have b:((gJ lv ws[i]).length:Int)*SM (eR n lv (ws.take i))<=6*SM (eR n lv (ws.take i)):=Int.mul_le_mul_of_nonneg_right (by omega) nn
  have e:((6^(i+1):Nat):Int)=((6^i:Nat):Int)*6:=by rw [Nat.pow_succ]; exact Int.natCast_mul _ _
  rw [e]
  have a':SM (dt (eR n lv (ws.take i)) (gJ lv ws[i]) lv)<=0+((gJ lv ws[i]).length:Int)*SM (eR n lv (ws.take i)):=a
  omega
theorem aBL {n:Int} (lv:List Int) (hb:bU (cJ n ws)=true):d9 n.toNat 12 (mX n.toNat lv ws)/\∀ p∈mX n.toNat lv ws,p.2 < 10000000000:=by
 obtain ⟨jq,ia,gu,fv⟩:=bO hb
 have og:∀ l∈ws,∀ h∈l,0<=h/\h < ((n.toNat:Nat):Int):=λl hl h hh=>by have:=(bV (fv l hl)).2.1 h hh; omega
 have Ak:∀ l∈ws,l.length<=6:=λl hl=>by
  have z:=lH (l:=l) (m:=(List.range n.toNat).map Int.ofNat) ((bV (fv l hl)).2.2.imp λ{a b} h=>by omega) λh hh=>Qx.mpr ⟨h.toNat,Xe.mpr (by have:=og l hl h hh; omega),by have:=og l hl h hh; show ((h.toNat:Nat):Int)=h; omega⟩
  rw [Qc,Xs] at z
  omega
 have k:=iR n.toNat lv ws og ws.length (Qe _)
 have b:=QN n.toNat (by omega) lv ws og Ak ws.length (Qe _)
 rw [Jq] at k b
 have pw:(6:Nat)^ws.length<=6^12:=Nat.pow_le_pow_right (by decide) gu
 have e12:(6:Nat)^12=2176782336:=by decide
 refine ⟨⟨?_,λp hp=>?_,λp hp=>k.pos p (Xc.mp hp).1⟩,λp hp=>?_⟩
 ·exact List.Nodup.sublist (List.Sublist.map _ Wm) k.nd
 ·have z:=k.box p (Xc.mp hp).1
  exact ⟨z.1,λx hx=>by have:=z.2 x hx; omega⟩
 ·have z:=OZ k.pos p (Xc.mp hp).1
  omega
def wO (K:Rc) (Pt:Addr):Sp:=λvs H Q _=>∃ (x:V) (n:Int) (ws:List (List Int)),vs = [x]/\Den K H (cJ n ws) x/\bU (cJ n ws)=true/\H Pt=some (.tab pP)/\∀ (hs lv:List Int) H',aE H H'->fP ws (iH hs)=true->jA n ws hs lv->Q (.int (SM (mX n.toNat lv ws))) H'
theorem wP:ah ["book"] ["book"] (aL mR):=⟨rfl,rfl,rfl,by decide +kernel,rfl,by decide +kernel,by decide +kernel⟩
theorem aBM (G:Fn K mg "how_many" mR ["book"] f fd) (B:Bl mg) (JX:Fn K mg "even_loads" iE ["book"] fE dE) (B4:af P w K mg base a_ 12 fE dE ["book"] (sF K Pt)):af P w K mg base a_ 13 f fd ["book"] (wO K Pt):=by
 refine G.fn.ok wP (λvs H Q E h=>?_) (λbj A outer s H vs Q E hr h=>?_)
 ·obtain ⟨x,n,ws,rfl,_⟩:=h
  rfl
 ·obtain ⟨x,n,ws,rfl,hx,hb,hP,k⟩:=h
  have Gd:ay 12 _:=hr
  refine ⟨_,aJ (aY (QC rfl rfl B.sum IY (bH JX B4 Gd rfl (aA (pv 0) aD)))),?_⟩
  refine ⟨_,rfl,x,n,ws,rfl,hx,hb,hP,λp hs lv H1 s1 hd L hp=>?_⟩
  obtain ⟨k1,k2⟩:=aBL lv hb
  have hl:=k1.len (by have:=(bO hb).2.1; omega)
  refine ⟨p,_,(mX n.toNat lv ws).map (λq:List Int×Int=>q.2),rfl,hp,?_,λz hz=>?_,by rw [Qc]; omega,k hs lv H1 s1 hd L⟩
  ·unfold enc
   rw [Xp,Xp]
   rfl
  ·obtain ⟨q,hq,rfl⟩:=Qx.mp hz
   exact ⟨k1.pos q hq,k2 q hq⟩
end Ab
namespace L2
open PySem
section
variable {σ:St}
theorem ZP {m:Nat} {Q:VK} (hi:σ[i]?=some (some (.ref c))) (hj:σ[j]?=some (some (.int m))) (hc:aj K H c xs) (hl:xs.length<=100) (hx:∀ H1,aE H H1->∀ Q1:VK,(∀ H2,aE H1 H2->Q1 y H2)->tx σ H1 Q1) (k:∀ r H',aE H H'->aj K H' r (xs.take m++[y]++xs.drop (m+1))->Q (.ref r) H') :
  iy (vW K) (iy (vW K) (Bi (B0 K) (jB i) nB (vR (jB j))) (Df (lW tx rK))) (Bi (B0 K) (jB i) (vR (iy (ur λi j=>.int (i+j)) (jB j) (tC (.int 1)))) nB) σ H Q:=by
 refine ⟨_,hi,_,hj,_,rfl,c,_,rfl,hc,λr1 H1 s1 g1=>?_⟩
 rw [rS] at g1
 refine hx H1 s1 _ λH2 s2=>⟨by rw [Rg]; simp,λr2 fg=>?_⟩
 have l1:(xs.take m).length<=100:=by rw [Qu]; omega
 refine ⟨r1,r2,_,_,rfl,rfl,(s2.trans (aE.new fg)).ai g1,aj.of aB,by rw [Rg]; show _+1<=_; omega,λr3 H3 s3 g3=>?_⟩
 have ml:=s1.trans (s2.trans ((aE.new (o:=.tup [y]) fg).trans s3))
 refine ⟨_,hi,_,hj,_,_,rfl,rfl,_,rfl,c,_,rfl,ml.ai hc,λr4 H4 s4 g4=>?_⟩
 rw [show (m:Int)+1=((m+1:Nat):Int) by omega,kQ] at g4
 have l4:(xs.drop (m+1)).length<=100:=by rw [Jp]; omega
 exact ⟨r3,r4,_,_,rfl,rfl,s4.ai g3,g4,by rw [Rg,Qn]; show _+1+_<=_; omega,λr5 H5 s5 g5=>k r5 H5 (ml.trans (s4.trans s5)) g5⟩
end
end L2
namespace Ab
open PySem L2
def de (l:List α) (i:Nat) (x:α):List α:=l.take i++[x]++l.drop (i+1)
theorem uH {l:List α} {x:α} (h:i < l.length):(de l i x).length=l.length:=by
 unfold de
 rw [Qn,Qn,Qu,Jp]
 show _+1+_=_
 omega
theorem Y! {l:List α} {x y:α} (h:y∈de l i x):y=x∨y∈l:=by
 unfold de at h
 rcases Qw.mp h with h | h
 ·rcases Qw.mp h with h | h
  ·exact .inr (Xa h)
  ·exact .inl (Qq.mp h)
 ·exact .inr (Yh h)
theorem QM {l:List α} {x:α} (h:i < l.length) (j:Nat):(de l i x)[j]?=if j=i then some x else l[j]?:=by
 have e:de l i x=l.set i x:=by unfold de; rw [List.set_eq_take_append_cons_drop,if_pos h,Xr]; rfl
 rw [e,Ya]
 by_cases hj:i=j
 ·rw [if_pos hj,if_pos hj.symm,if_pos (by omega)]
 ·rw [if_neg hj,if_neg (Ne.symm hj)]
theorem X? {n h:Int} (h0:0<=h) (h1:h < n):cT n (cZ [h])=true:=by
 show (!([PyData.int h].isEmpty) && eK n (-1) [.int h])=true
 simp [eK]
 omega
theorem aDD {n:Int} {h:Int} (hb:bU (cJ n ws)=true) (hd:fP ws (iH hs)=true) (hl:ws[i]?=some l) (hh:h∈l):bU (cJ n (de ws i [h]))=true/\fP (de ws i [h]) (iH (de hs i h))=true:=by
 obtain ⟨jq,ia,gu,fv⟩:=bO hb
 obtain ⟨d1,d2⟩:=gH hd
 have hi:i < ws.length:=(Qd.mp hl).1
 have hr:=(bV (fv l (Qi hl))).2.1 h hh
 refine ⟨P4 jq ia (by rw [uH hi]; exact gu) λm hm=>?_,pO (by rw [uH hi,uH (by omega)]; exact d1) λj a m ha hm=>?_⟩
 ·rcases Y! hm with rfl | hm
  ·exact X? hr.1 hr.2
  ·exact fv m hm
 ·rw [QM (by omega)] at ha
  rw [QM hi] at hm
  by_cases hj:j=i
  ·rw [if_pos hj] at ha hm
   rw [<- Option.some.inj ha,<- Option.some.inj hm]
   exact Qq.mpr rfl
  ·rw [if_neg hj] at ha hm
   exact d2 j a m ha hm
def RQ (K:Rc) (Pt:Addr):Sp:=λvs H Q _=>∃ (x y:V) (n:Int) (ws:List (List Int)) (hs:List Int) (i:Nat) (l:List Int) (h:Int),vs = [x,y,.int i,.int h]/\gA K H x y n ws hs/\H Pt=some (.tab pP)/\ws[i]?=some l/\h∈l /\
 ∀ (b:Bool) H',aE H H'->Q (.bl b) H'
theorem kY:ah ["book", "deal", "work", "hand", "hands", "works", "narrow", "ways", "best"] ["book", "deal", "work", "hand"] (aL rX):=⟨rfl,rfl,rfl,by decide +kernel,rfl,by decide +kernel,by decide +kernel⟩
set_option maxHeartbeats 2000000 in
theorem aDE {NP:Addr} {N':FuncData} (G:Fn K mg "is_as_even" rX ["book", "deal", "work", "hand"] f fd) (B:Bl mg) (Dv:Fn K mg "bettered" gZ ["book", "deal"] BR BW) (wu:af P w K mg base a_ 10 BR BW ["book", "deal"] (jQ K Pt)) (Sb:Fn K mg "falling" pI ["book", "deal"] NP N') (R1:af P w K mg base a_ 8 NP N' ["book", "deal"] (wN K)):af P w K mg base a_ 11 f fd ["book", "deal", "work", "hand"] (RQ K Pt):=by
 refine G.fn.ok kY (λvs H Q E h=>?_) (λbj A outer s H vs Q E hr h=>?_)
 ·obtain ⟨x,y,n,ws,hs,i,l,h,rfl,_⟩:=h
  rfl
 ·obtain ⟨x,y,n,ws,hs,i,l,h,rfl,g,hP,hl,hh,k⟩:=h
  have Ge:ay 10 _:=hr
  have r8:ay 8 _:=hr.mono (by decide)
  refine ⟨_,(aG (gU (pv 0) (gE rfl (aX (aQ (i:=4) kY.nd rfl (Or.inl rfl)) (aX (aQ (i:=5) kY.nd rfl (Or.inl rfl)) cU))))
  (aG (aT (i:=6) kY.nd rfl (Or.inl rfl) (cL (aA (pv 4) (aA (bE (iB (K:=K) rfl) (bE (iB (K:=K) rfl) (eZ (gF (K:=K) rfl) (pv 5) hV (gK (pv 2))) (cL (aA (cL (aA (pv 3) aD)) aD))) (eZ (gF (K:=K) rfl) (pv 5) (gK (bE eA (pv 2) aI)) hV)) aD))))
  (aG (gU (bH Dv wu Ge rfl (aA (pv 6) (aA (bE (iB (K:=K) rfl) (bE (iB (K:=K) rfl) (eZ (gF (K:=K) rfl) (pv 1) hV (gK (pv 2))) (cL (aA (pv 3) aD))) (eZ (gF (K:=K) rfl) (pv 1) (gK (bE eA (pv 2) aI)) hV)) aD))) (gE rfl (aX (aQ (i:=7) kY.nd rfl (Or.inl rfl)) (aX (aQ (i:=8) kY.nd rfl (Or.inl rfl)) cU))))
  (aJ (aY (iU (Pq hr.B_) (bH Sb R1 r8 rfl (aA (pv 6) (aA (pv 8) aD))) (bH Sb R1 r8 rfl (aA (pv 0) (aA (pv 1) aD))) (bD _))))))),?_⟩
  obtain ⟨nb,nd⟩:=aDD g.2.1 g.2.2.2 hl hh
  obtain ⟨ba,bb,ys,rfl,ha,ee,dk⟩:=dM g.1
  obtain ⟨c,rfl,hc⟩:=bC.mp g.2.2.1
  have i8:=aH dk
  rw [Qc] at i8
  have gu:=(bO g.2.1).2.2.1
  have hlen:=(gH g.2.2.2).1
  have EY:(hs.map V.int).length=hs.length:=Qc ..
  refine ⟨_,rfl,ba,_,rfl,ha,rfl,_,_,rfl,_,_,rfl,rfl,?_⟩
  refine ⟨_,rfl,_,rfl,_,rfl,_,rfl,bb,_,rfl,ee,λr1 H1 s1 g1=>?_⟩
  rw [rS] at g1
  refine ⟨_,rfl,rj _,λq1 vk=>⟨rj _,λq2 Bx=>?_⟩⟩
  have s2:=aE.new (o:=.tup [.int h]) vk
  have eq1:upd H1 q1 (.tup [.int h]) q1=some (.tup [.int h]):=aB
  generalize upd H1 q1 (.tup [.int h])=H2 at s2 eq1 Bx ⊢
  have s3:=aE.new (o:=.tup [.ref q1]) Bx
  refine ⟨r1,q2,_,_,rfl,rfl,(s2.trans s3).ai g1,aj.of aB,by rw [Rg,Qu]; show _+1<=_; omega,λr3 H3 s4 g3=>?_⟩
  have ju:=s2.trans (s3.trans s4)
  have ml:=s1.trans ju
  refine ⟨_,rfl,_,rfl,_,_,rfl,rfl,_,rfl,bb,_,rfl,ml.ai ee,λr4 H4 s5 g4=>?_⟩
  rw [show (i:Int)+1=((i+1:Nat):Int) by omega,kQ] at g4
  refine ⟨r3,r4,_,_,rfl,rfl,s5.ai g3,g4,by rw [Rg,Qn,Qu,Jp]; show _+1+_<=_; omega,λr5 H5 s6 g5=>⟨uo _ _,λnr VE=>?_⟩⟩
  have s7:=aE.new (o:=.tup [.int n,.ref r5]) VE
  have Eo:=ml.trans (s5.trans (s6.trans s7))
  have dn:Den K (upd H5 nr (.tup [.int n,.ref r5])) (cJ n (de ws i [h])) (.ref nr):=by
   refine bF.mpr ⟨nr,_,rfl,aj.of aB,aS.mpr ⟨_,_,rfl,cI.mpr rfl,aS.mpr ⟨_,_,rfl,bF.mpr ⟨r5,_,rfl,s7.ai g5,?_⟩,aW.mpr rfl⟩⟩⟩
   have z:=Eo.ag _ _ dk
   unfold de
   rw [Qy,Qy,Yv,Yw]
   exact bA (bA (L2.qZ i z) (aS.mpr ⟨_,_,rfl,bC.mpr ⟨q1,rfl,aj.of ((s3.trans (s4.trans (s5.trans (s6.trans s7)))) _ _ eq1)⟩,aW.mpr rfl⟩)) (mG (i+1) z)
  generalize upd H5 nr (.tup [.int n,.ref r5])=H6 at s7 Eo dn ⊢
  dsimp only [eY]
  refine ⟨_,rfl,ZP (i:=1) (j:=2) (c:=c) (m:=i) (y:=.int h) (xs:=hs.map V.int) rfl rfl (Eo.ai hc) (by rw [EY]; omega) (λH7 _ Q1 q=>⟨_,rfl,q H7 (aE.refl _)⟩) λr6 H7 s8 g7=>?_⟩
  have Lr:=Eo.trans s8
  have dd:Den K H7 (iH (de hs i h)) (.ref r6):=bC.mpr ⟨r6,rfl,by unfold de; rw [Qy,Qy,Yv,Yw]; exact g7⟩
  refine ⟨.ref nr,.ref r6,n,de ws i [h],de hs i h,rfl,⟨s8.den _ _ dn,nb,dd,nd⟩,Lr _ _ hP,λp8 H8 s9 T=>?_⟩
  obtain ⟨wl,dl,qs,Ws,he,lv,EU,_,_,_,jk,mr,_⟩:=T
  refine ⟨p8,_,rfl,aj.of EU,rfl,_,_,rfl,_,_,rfl,rfl,?_⟩
  have Lq:=Lr.trans s9
  refine ⟨_,rfl,_,rfl,.ref nr,.ref dl,n,de ws i [h],he,rfl,⟨(s8.trans s9).den _ _ dn,nb,bC.mpr ⟨dl,rfl,aj.of jk⟩,oQ mr nd⟩,λp9 H9 ms pf _ e9 _ _=>?_⟩
  refine ⟨_,rfl,_,rfl,.ref ba,.ref c,n,ws,hs,rfl,g.same (Lq.trans pf),λGg jy UL pe _ Fh _ _=>?_⟩
  exact ⟨.list (ms.map .int),.list (UL.map .int),eI.mpr ⟨p9,_,rfl,ak.of (pe _ _ e9),cS.mpr rfl⟩,eI.mpr ⟨Gg,_,rfl,ak.of Fh,cS.mpr rfl⟩,hG _,hG _,iZ _,iZ _,k _ _ (Lq.trans (pf.trans pe))⟩
def QL (K:Rc) (Pt:Addr):Sp:=λvs H Q _=>∃ (x:V) (n:Int) (ws:List (List Int)),vs = [x]/\Den K H (cJ n ws) x/\bU (cJ n ws)=true/\H Pt=some (.tab pP)/\∀ (p:Addr) (xs:List V) H',aE H H'->H' p=some (.lst xs)->Q (.ref p) H'
theorem lM:ah ["book", "deal", "told", "work", "able"] ["book"] (aL qP):=⟨rfl,rfl,rfl,by decide +kernel,rfl,by decide +kernel,by decide +kernel⟩
set_option maxHeartbeats 2000000 in
theorem X! {fA:Addr} {dA:FuncData} (G:Fn K mg "may_go" qP ["book"] f fd) (B:Bl mg) (Du:Fn K mg "evenest" gR ["book"] fE dE) (wq:af P w K mg base a_ 11 fE dE ["book"] (kW K Pt)) (GAE:Fn K mg "is_as_even" rX ["book", "deal", "work", "hand"] fA dA) (OAE:af P w K mg base a_ 11 fA dA ["book", "deal", "work", "hand"] (RQ K Pt)):af P w K mg base a_ 12 f fd ["book"] (QL K Pt):=by
 refine G.fn.ok lM (λvs H Q E h=>?_) (λbj A outer s H vs Q E hr h=>?_)
 ·obtain ⟨x,n,ws,rfl,_⟩:=h
  rfl
 ·obtain ⟨x,n,ws,rfl,hx,hb,hP,k⟩:=h
  have Er:ay 11 _:=hr
  refine ⟨_,(aG (aT (i:=1) lM.nd rfl (Or.inr rfl) (bK (cD (K:=K) rfl) (bH Du wq Er rfl (aA (pv 0) aD)) aI (λ_ _=>rfl)))
  (aG (aT (i:=2) lM.nd rfl (Or.inl rfl) (cP aD))
  (aG (eS PassesOwn.never rfl (F! .t rfl B.enumerate (aA (bK (cD (K:=K) rfl) (pv 0) aI (λ_ _=>rfl)) aD)) (gE rfl (aX (aQ (i:=3) lM.nd rfl (Or.inr rfl)) (aX (aQ (i:=4) lM.nd rfl (Or.inl rfl)) cU)))
   (aJ (bX (nS Rr Td Tf iL (pv 2) (aA (cB cC rfl B.tuple dZ (aA (cQ (own:=["hand"]) (fr:=[0,1,3]) (bc:=["book", "deal", "work"]) (bP (aL qP) ["book", "deal", "told", "work", "able"] rfl rfl (by decide +kernel)) rfl (iK (pv 4))
    (λ_ _ _ _=>(aQ (i:=0) (show (["hand", "book", "deal", "work"]:List Str).Nodup by decide +kernel) rfl (Or.inl rfl))) (λ_ _ _ _=>qB (eJ (bH GAE OAE Er rfl (aA (pv 1) (aA (pv 2) (aA (pv 3) (aA (pv 0) aD)))))))
    (λ_ _ _ _=>(pv 0))) aD)) aD)))))
  (aJ (aY (pv 2)))))),?_⟩
  obtain ⟨jq,ia,gu,fv⟩:=bO hb
  refine ⟨_,rfl,x,n,ws,rfl,hx,hb,hP,λp dp lp hs lv H1 s1 hp MC hd mn L=>?_⟩
  refine ⟨p,_,0,.ref dp,rfl,rfl,aj.of hp,rfl,dJ (Jb _),λtl LK=>?_⟩
  obtain ⟨ba,bb,ys,rfl,ha,ee,dk⟩:=dM (s1.den _ _ hx)
  have i8:=aH dk
  rw [Qc] at i8
  have g1:gA K H1 (.ref ba) (.ref dp) n ws hs:=⟨s1.den _ _ hx,hb,bC.mpr ⟨dp,rfl,aj.of MC⟩,hd⟩
  have s2:=aE.new (o:=.lst []) LK
  have e2:upd H1 tl (.lst []) tl=some (.lst []):=aB
  generalize upd H1 tl (.lst [])=H2 at s2 e2 ⊢
  dsimp only [eY]
  refine ⟨_,rfl,ba,_,1,.ref bb,rfl,rfl,s2.ai ha,rfl,bb,_,rfl,s2.ai ee,aEw (K:=K) (k:=.t) (a:=bb) (xs:=ys) (λi σ H3=>(∃ v3 v4,σ = [some (.ref ba),some (.ref dp),some (.ref tl),v3,v4])/\aE H1 H3/\∃ xs,H3 tl=some (.lst xs)/\xs.length<=i) ⟨⟨_,_,rfl⟩,s2,[],e2,Qe _⟩ (λi σ H3 _ h=>h.2.1.ai ee) ?_ ?_⟩
  ·rintro i y q σ H3 hy ⟨⟨v3,v4,rfl⟩,s3,xs,e3,hx3⟩ hq
   have hi:i < ys.length:=(Qd.mp hy).1
   obtain ⟨dv,dm,ie⟩:=bS dk hy
   rw [Qh] at dm
   obtain ⟨l,hl,rfl⟩:∃ l,ws[i]?=some l/\cZ l=dv:=by
    cases q:ws[i]? with
    | none=>rw [q] at dm; cases dm
    | some l=>rw [q] at dm; exact ⟨l,rfl,Option.some.inj dm⟩
   obtain ⟨pw,rfl,oj⟩:=bC.mp ie
   have s4:=aE.new (o:=.tup [.int (i:Nat),.ref pw]) hq
   have t4:upd H3 q (.tup [.int (i:Nat),.ref pw]) q=some (.tup [.int (i:Nat),.ref pw]):=aB
   have e4:=s4 _ _ e3
   have mj:=s3.trans s4
   generalize upd H3 q (.tup [.int (i:Nat),.ref pw])=H4 at s4 t4 e4 mj ⊢
   refine ⟨q,_,rfl,aj.of t4,rfl,_,_,rfl,_,_,rfl,rfl,?_⟩
   have WH:=s1 _ _ hP
   have l12:l.length<=12:=by
    have w:=bV (fv l (Qi hl))
    have z:=lH (l:=l) (m:=(List.range n.toNat).map Int.ofNat) (w.2.2.imp λ{a b} h=>by omega) λh hh=>Qx.mpr ⟨h.toNat,Xe.mpr (by have:=w.2.1 h hh; omega),by have:=w.2.1 h hh; show ((h.toNat:Nat):Int)=h; omega⟩
    rw [Qc,Xs] at z
    omega
   dsimp only [eY]
   refine ⟨_,rfl,.inl ⟨rfl,_,ak.of e4⟩,_,rfl,pw,rfl,⟨_,mj.ai oj⟩,kR (K:=K) (a:=pw) (xs:=l.map V.int) (λσ=>∃ v,σ = [v,some (.ref ba),some (.ref dp),some (.int (i:Nat))]) (λj zs H5=>aE H4 H5/\zs.length<=j) (by rw [Qc]; exact dJ (by omega)) ⟨none,rfl⟩ ⟨aE.refl _,Qe _⟩ (λ_ _ _ h=>h.2) (λ_ _ _ h=>(mj.trans h.1).ai oj) ?_ ?_⟩
   ·rintro j zs σ xv H5 fu ⟨v,rfl⟩ ⟨s5,Bu⟩ hz
    rw [Qh] at fu
    cases qv:l[j]? with
    | none=>rw [qv] at fu; cases fu
    | some h =>
     rw [qv] at fu
     obtain rfl:V.int h=xv:=Option.some.inj fu
     have rk:=mj.trans s5
     refine ⟨_,rfl,_,rfl,_,rfl,_,rfl,.ref ba,.ref dp,n,ws,hs,i,l,h,rfl,g1.same rk,rk _ _ WH,hl,Qi qv,λb H6 s6=>⟨_,rfl,?_⟩⟩
     cases b with
     | true=>exact jD ⟨_,rfl,hz,⟨_,rfl⟩,s5.trans s6,by rw [Qn]; show _+1<=_; omega⟩
     | false=>exact iN ⟨⟨_,rfl⟩,s5.trans s6,by omega⟩
   ·rintro zs H5 ⟨s5,_⟩ z hz
    refine ⟨z,_,rfl,.inl ⟨ak.of aB,λtp U1=>?_⟩⟩
    have s6:=s5.trans ((aE.new (o:=.lst zs) hz).trans (aE.new (o:=.tup zs) U1))
    have e6:=s6 _ _ e4
    refine ⟨tl,xs,.ref tp,rfl,rfl,e6,by rw [Rg]; omega,⟨_,_,rfl⟩,λb u h=>?_,_,aB,by rw [Qn]; show _+1<=_; omega⟩
    rw [aK (λz=>by rw [z,LK] at h; cases h)]
    exact (mj.trans s6) _ _ h
  ·rintro σ H3 ⟨⟨v3,v4,rfl⟩,s3,xs,e3,_⟩
   exact ⟨_,rfl,k tl xs H3 (s1.trans s3) e3⟩
end Ab
namespace L2
open PySem
theorem vH (hw:X.w=w) (hc:X.calm=true):eN X (.builtin "sorted") (λxs H Q=>∃ (p:Addr) (ns:List Int),xs = [.ref p]/\H p=some (Ay w p ns)/\ns.length<=12/\∀ q out,tJ out ns->H q=none->Q (.ref q) (upd H q (.lst (out.map V.int)))):=by subst hw; exact pH hc
theorem aBN {d:Expr} (hw:X.w=w) (S:br X scope z own fr bc) (hc:X.calm=true) (hi:PE X d td) (hg:∀ C s0 H0 fp,PG (bN X scope z (own++bc) C s0 H0 fp) tg g) (ht:∀ C s0 H0 fp,PF (bN X scope z (own++bc) C s0 H0 fp) ifs tt) (he:∀ C s0 H0 fp,PE (bN X scope z (own++bc) C s0 H0 fp) elt te) (hs:∀ x,foldedSetIterable d X.env x=pure x:=by intro _; rfl):PE X (.SetComp elt [⟨tg,d,ifs,0⟩] scope pos) (QB w own.length fr td g tt te):=by subst hw; exact aDr S hc hi hg ht he hs
end L2
namespace Ab
open PySem L2
theorem L! {h:Nat} {x:Int} (hl:h < l.length) (e:(mV l h)[j]?=some x):(j=h/\x=l.getD h 0+1)∨l[j]?=some x:=by
 unfold mV at e
 have el:(l.take h).length=h:=by rw [Qu]; omega
 by_cases h1:j < h
 ·rw [Xr,Qz (by omega),Zu h1] at e
  exact .inr e
 ·rw [Xr,Jr (by omega),el] at e
  by_cases h2:j=h
  ·subst h2
   rw [Wz] at e
   exact .inl ⟨rfl,(Option.some.inj e).symm⟩
  ·obtain ⟨d,rfl⟩:∃ d,j=h+1+d:=⟨j - h - 1,by omega⟩
   have ed:h+1+d - h=d+1:=by omega
   rw [ed] at e
   have e':(l.drop (h+1))[d]?=some x:=e
   rw [Wr] at e'
   exact .inr e'
def vI (lv:List Int) (k:List Int):Prop:=∀ (j:Nat) (x:Int),k[j]?=some x->x<=lv.getD j 0+1
theorem W? {g:List (List Int×Int)} {p:List Int×Int} {h:Int} (hg:∀ q∈g,vI lv q.1) (hp:vI lv p.1) (hh:h.toNat < p.1.length):∀ q∈jR lv g p h,vI lv q.1:=by
 intro q hq
 unfold jR at hq
 split at hq
 ·rename_i hc
  rcases uF hq with rfl | hq
  ·intro j x e
   rcases L! hh e with ⟨rfl,rfl⟩ | e
   ·omega
   ·exact hp j x e
  ·exact hg q hq
 ·exact hg q hq
theorem wQ {p:List Int×Int} (hp:vI lv p.1):∀ (tk:List Int) (g:List (List Int×Int)),(∀ h∈tk,h.toNat < p.1.length)->(∀ q∈g,vI lv q.1)->∀ q∈bz lv tk g p,vI lv q.1
 | [],_,_,hg=>hg
 | h::tk,g,ht,hg=>wQ hp tk (jR lv g p h) (λx hx=>ht x (Ql _ hx)) (W? hg hp (ht h (Qk ..)))
theorem RP {tk:List Int}:∀ (R g:List (List Int×Int)),(∀ p∈R,vI lv p.1/\∀ h∈tk,h.toNat < p.1.length)->(∀ q∈g,vI lv q.1)->∀ q∈R.foldl (λg p=>bz lv tk g p) g,vI lv q.1
 | [],_,_,hg=>hg
 | p::R,g,hR,hg=>RP R (bz lv tk g p) (λq hq=>hR q (Ql _ hq)) (wQ (hR p (Qk ..)).1 tk g (hR p (Qk ..)).2 hg)
theorem RO (n:Nat) (lv:List Int) (ws:List (List Int)) (p_:∀ j,-1<=lv.getD j 0) (hw:∀ l∈ws,∀ h∈l,0<=h/\h < (n:Int)):∀ i:Nat,i<=ws.length->∀ p∈eR n lv (ws.take i),vI lv p.1
 | 0,_=>by
  intro p hp j x e
  have ep:p=(List.replicate n 0,1):=by simpa [eR] using hp
  subst ep
  have:=Zw (Qi e)
  have:=p_ j
  omega
 | i+1,h=>by
  have hi:i < ws.length:=by omega
  rw [kB n lv ws (Qb hi)]
  have k:=iR n lv ws hw i (by omega)
  have ih:=RO n lv ws p_ hw i (by omega)
  exact RP _ [] (λp hp=>⟨ih p hp,λh hh=>by
   have:=hw _ (Jt hi) h (Xc.mp hh).1
   have:=(k.box p hp).1
   omega⟩) (λq hq=>by cases hq)
theorem W! {n:Int} (hb:bU (cJ n ws)=true) (L:jA n ws hs lv) {p:List Int×Int} (hp:p∈mX n.toNat lv ws) (hj:j < n.toNat):∃ x,p.1[j]?=some x/\x∈[lv.getD j 0,lv.getD j 0+1]:=by
 obtain ⟨jq,ia,gu,fv⟩:=bO hb
 have og:∀ l∈ws,∀ h∈l,0<=h/\h < ((n.toNat:Nat):Int):=λl hl h hh=>by have:=(bV (fv l hl)).2.1 h hh; omega
 have p_:∀ j,-1<=lv.getD j 0:=λj=>by
  rw [Jk]
  cases q:lv[j]? with
  | none=>decide
  | some v =>
   have:=(L.2 j v q).2
   show -1<=v
   omega
 obtain ⟨h1,h2⟩:=Xc.mp hp
 have t:=RO n.toNat lv ws p_ og ws.length (Qe _)
 have k:=iR n.toNat lv ws og ws.length (Qe _)
 rw [Jq] at t k
 have lk:=(k.box p h1).1
 refine ⟨p.1[j]'(by omega),Qb (by omega),?_⟩
 have a:=t p h1 j _ (Qb (show j < p.1.length by omega))
 have ll:=L.1
 have z:(p.1[j]'(by omega),lv[j]'(by omega))∈p.1.zip lv:=Jd.mpr ⟨j,by rw [Jh]; exact ⟨Qb (by omega),Qb (by omega)⟩⟩
 have b:=of_decide_eq_true (Jm.mp h2 _ z)
 have e:lv.getD j 0=lv[j]'(by omega):=by rw [Jk,Qb (by omega)]; rfl
 rw [e] at a ⊢
 have b':lv[j]'(by omega)<=p.1[j]'(by omega):=b
 rw [Qj,Qq]
 omega
def aId:Scope:=match (dU iF).getD 1 (.Pass ⟨0,0,0,0⟩) with
 | .Return (some (.ListComp _ _ sc _)) _=>sc
 | _=>aL iF
def wR (K:Rc) (Pt:Addr):Sp:=λvs H Q _=>∃ (x:V) (n:Int) (ws:List (List Int)),vs = [x]/\Den K H (cJ n ws) x/\bU (cJ n ws)=true/\H Pt=some (.tab pP)/\∀ (p:Addr) (xs:List V) H',aE H H'->H' p=some (.lst xs)->Q (.ref p) H'
theorem nM:ah ["book", "rows"] ["book"] (aL iF):=⟨rfl,rfl,rfl,by decide +kernel,rfl,by decide +kernel,by decide +kernel⟩
set_option maxHeartbeats 2000000 in
theorem aBO (G:Fn K mg "may_have" iF ["book"] f fd) (B:Bl mg) (JX:Fn K mg "even_loads" iE ["book"] fE dE) (B4:af P w K mg base a_ 12 fE dE ["book"] (sF K Pt)):af P w K mg base a_ 13 f fd ["book"] (wR K Pt):=by
 refine G.fn.ok nM (λvs H Q E h=>?_) (λbj A outer s H vs Q E hr h=>?_)
 ·obtain ⟨x,n,ws,rfl,_⟩:=h
  rfl
 ·obtain ⟨x,n,ws,rfl,hx,sg,hP,k⟩:=h
  have Gd:ay 12 _:=hr
  refine ⟨_,(aG (aT (i:=1) nM.nd rfl (Or.inr rfl) (bH JX B4 Gd rfl (aA (pv 0) aD)))
   (aJ (aY (cQ (z:=some "hand") (own:=["hand"]) (fr:=[1]) (bc:=["rows"]) (aA6 (aL iF) ["book", "rows"] rfl rfl (λ_ _=>rfl) (λ_=>rfl) (by decide +kernel)) rfl (fT rfl B.range (aA (bK (cD (K:=K) rfl) (pv 0) aI (λ_ _=>rfl)) aD))
    (λ_ _ _ _=>aQ (i:=0) (show (["hand", "rows"]:List Str).Nodup by decide +kernel) rfl (Or.inr rfl)) (λ_ _ _ _=>eO)
    (λ_ _ _ _=>cB (c! (K:=K) rfl) rfl B.tuple dZ (aA (aV (vH (w:=w) rfl rfl) rfl B.sorted RA (aA (aBN (w:=w) rfl (own:=["many"]) (fr:=[0]) (bc:=["hand"]) (bP (Oz aId (aL iF)) ["hand", "rows"] rfl rfl (by decide +kernel)) rfl (pv 1)
     (λ_ _ _ _=>aQ (i:=0) (show (["many", "hand"]:List Str).Nodup by decide +kernel) rfl (Or.inl rfl)) (λ_ _ _ _=>eO) (λ_ _ _ _=>bK (cD (K:=K) rfl) (pv 0) (pv 1) (λ_ _=>rfl))) aD)) aD)))))),?_⟩
  obtain ⟨jq,ia,gu,fv⟩:=bO sg
  refine ⟨_,rfl,x,n,ws,rfl,hx,sg,hP,λrp hs lv H1 s1 hd L e1=>?_⟩
  obtain ⟨ba,bb,ys,rfl,ha,ee,dk⟩:=dM (s1.den _ _ hx)
  have ek:∀ (i:Nat) p,(enc (mX n.toNat lv ws))[i]?=some p->∃ q∈mX n.toNat lv ws,p=(q.1.map Sum.inl,.int q.2):=λi p h=>by
   unfold enc at h
   rw [Qh] at h
   cases q:(mX n.toNat lv ws)[i]? with
   | none=>rw [q] at h; cases h
   | some u=>rw [q] at h; exact ⟨u,Qi q,(Option.some.inj h).symm⟩
  generalize enc (mX n.toNat lv ws)=kvs at e1 ek
  dsimp only [eY]
  have kl:∀ {H'},aE H1 H'->H' rp=some (.dT kvs):=λs=>s _ _ e1
  refine ⟨_,rfl,ba,_,0,.int n,rfl,rfl,ha,rfl,n,rfl,by omega,by omega,jM (lo:=0) (n:=n.toNat) (λσ=>∃ v,σ = [v,some (.ref rp)]) (λi zs H2=>aE H1 H2/\zs.length<=i) (dJ (by omega)) ⟨none,rfl⟩ ⟨aE.refl _,Qe _⟩ (λ_ _ _ h=>h.2) ?_ ?_⟩
  ·rintro j zs σ H2 hj ⟨v,rfl⟩ ⟨s2,uw⟩ hz
   refine eT ?_
   refine ⟨[lv.getD j 0,lv.getD j 0+1],by show 2<=3; decide,_,rfl,rp,kvs,rfl,kl s2,λo=>?_⟩
   refine aAs (λσ=>∃ v,σ = [v,some (.int (0+(j:Int)))]) (λ_ _ H3=>H3 rp=some (.cq o (.dT kvs))/\∀ b u,b≠rp->H2 b=some u->H3 b=some u) ⟨none,rfl⟩ ⟨aB,λb u n e=>by rw [aK n]; exact e⟩ (λ_ _ _ h=>h.1) ?_ ?_
   ·rintro i ys σ p b H3 hp hb ⟨v,rfl⟩ h3
    obtain ⟨q,hq,rfl⟩:=ek i p hp
    obtain ⟨x,hx,Gy⟩:=W! sg L hq hj
    have e_:H3 b=some (.tup (q.1.map V.int)):=by rw [<- qV]; exact hb
    refine eT ?_
    refine ⟨_,rfl,_,rfl,b,_,(0+(j:Int)),.int x,rfl,rfl,aj.of e_,by rw [Ww]; exact cW (by rw [Qh,hx]; rfl),?_⟩
    exact ⟨x,rfl,Gy,⟨_,rfl⟩,h3⟩
   ·rintro ys H3 ⟨h3,k3⟩ p us hp nd hu hl
    have TV:p≠rp:=λz=>by rw [z,h3] at hp; cases hp
    refine ⟨p,us,rfl,by rw [aK TV]; exact aB,by omega,λq out _ hq=>?_⟩
    refine ⟨q,_,rfl,.inl ⟨ak.of aB,λl CH=>?_⟩⟩
    refine ⟨hz,⟨_,rfl⟩,?_,by rw [Qn]; show _+1<=_; omega⟩
    have s4:aE H1 (upd (upd H3 p (Ay w p us)) rp (.dT kvs)):=λb u e=>by
     by_cases hb:b=rp
     ·subst hb
      rw [aB,<- e1,e]
     ·rw [aK hb,aK (λz=>by
       have:=k3 b u hb (s2 _ _ e)
       rw [z,hp] at this; cases this)]
      exact k3 b u hb (s2 _ _ e)
    exact s4.trans ((aE.new hq).trans (aE.new CH))
  ·rintro zs H2 ⟨s2,_⟩ p hp
   exact k p zs _ (s1.trans (s2.trans (aE.new hp))) aB
end Ab
namespace L2
open PySem PySem.Spec PyProof.Rows
section
variable {k:Nat} {Li:Sp}
theorem af.u5 (F:af P w K mg base a_ k f fd ps sp):af P w K mg base (bx P w) k f fd ps sp :=
 ⟨F.len,λA outer s H args us vs Q E hr he hb hv hs=>Ui (F.run A outer s H args us vs Q E hr he hb hv hs) λr s' q=>by
  cases r with
  | error e=>exact False.elim q
  | ok fl=>cases fl <;> exact q⟩
def uI (a b:Sp):Sp:=λvs H Q E=>a vs H Q E∨b vs H Q E
theorem af.or (F:af P w K mg base CX k f fd ps sp) (F':af P w K mg base CX k f fd ps Li):af P w K mg base CX k f fd ps (uI sp Li) :=
 ⟨λvs H Q E h=>h.elim (F.len vs H Q E) (F'.len vs H Q E),λA outer s H args us vs Q E hr he hb hv hs=>hs.elim (F.run A outer s H args us vs Q E hr he hb hv) (F'.run A outer s H args us vs Q E hr he hb hv)⟩
end
theorem cV {k:Nat} {E:XK} {t:TA} (G:Fn X.K X.mg x st ps f fd) (ok:af X.prog X.w X.K X.mg X.base (bx X.prog X.w) k f fd ps sp) (hr:ay k X.A) (hg:Gl X x) (hp:qA (bx X.prog X.w) X E) (ha:PA X (e::es) t) (j9:(x==("__debug__" : Str))=false:=by decide) (he:starEach (e::es) X.env=(false,eval e X.env)::starEach es X.env:=by rfl) (iq:(backTo pos (starEach es X.env)).any (·.1)=false:=by rfl) :
  PE X (.Call (.Name x p) (e::es) [] pos) (vM sp [] E t):=Q6 ok hr hg G.Cp G.kp G.bd .nil hp ha j9 he iq
end L2
namespace Ab
open PySem L2
section
variable {CB CD CW:Addr} {BX X8:List Value}
structure Rf (K:Rc) (mg:Str->Option Value) (CB CD:Addr) (ni BX:List Value):Prop where
 mB:mg "NoBook" = some (.ref CB)
 mD:mg "NoDeal" = some (.ref CD)
 eB:∀ h:Heap,K.In h->i4 h CB ni
 eD:∀ h:Heap,K.In h->i4 h CD BX
def cN (K:Rc) (CB:Addr):Sp:=λvs H _ E=>∃ x d,vs = [x]/\Den K H d x/\bU d=false/\∀ H',aE H H'->E (.ref CB) none H'
theorem wS (B:Bl mg) (R:Pr K mg fW fH fK fB gk fD f' fL dW dH dK dB gm dD f_ dL) (Z:Rf K mg CB CD ni BX):af P w K mg base (bx P w) 4 gk gm ["book"] (cN K CB):=by
 have OB:af P w K mg base a_ 3 fB dB ["thing"] (yA K):=Q_ R.B B R.W R.H R.Kw
 refine R.NB.fn.k9 P8 (λvs H Q E h=>?_) (λbj A outer s H vs Q E hr h=>?_)
 ·obtain ⟨x,d,rfl,_⟩:=h
  rfl
 ·obtain ⟨x,d,rfl,hd,hb,k⟩:=h
  refine ⟨_,aJ (bT (eM (eJ (bH R.B OB hr rfl (aA (pv 0) aD)))) (aJ (sX Z.eB rfl Z.mB rfl (λ_ _ _ _ _ _ _ I m q=>xF I m q))) bG),?_⟩
  refine ⟨_,rfl,x,d,rfl,hd,λH' hs=>⟨_,rfl,?_⟩⟩
  rw [hb]
  refine jD ?_
  exact k H' hs
def RN (K:Rc) (CB:Addr):Sp:=λvs H _ E=>∃ x y d,vs = [x,y]/\Den K H d x/\bU d=false/\∀ H',aE H H'->E (.ref CB) none H'
theorem aDF (B:Bl mg) (R:Pr K mg fW fH fK fB gk fD f' fL dW dH dK dB gm dD f_ dL) (Z:Rf K mg CB CD ni BX):af P w K mg base (bx P w) 5 fD dD ["book", "thing"] (RN K CB):=by
 have ON:af P w K mg base (bx P w) 4 gk gm ["book"] (cN K CB):=wS B R Z
 refine R.D.fn.k9 yE (λvs H Q E h=>?_) (λbj A outer s H vs Q E hr h=>?_)
 ·obtain ⟨x,y,d,rfl,_⟩:=h
  rfl
 ·obtain ⟨x,y,d,rfl,hd,hb,k⟩:=h
  refine ⟨_,aG (bX (cV R.NB ON hr rfl fJ (aA (pv 0) aD))) cO,?_⟩
  exact ⟨_,rfl,x,d,rfl,hd,hb,k⟩
def AM (K:Rc) (CB CD:Addr) (H:Hp) (x y:V) (C:Addr):Prop:=(∃ d,Den K H d x/\bU d=false/\C=CB)∨∃ n ws d,Den K H (cJ n ws) x/\bU (cJ n ws)=true/\Den K H d y/\fP ws d=false/\C=CD
theorem AM.same {x:V} (b:AM K CB CD H x y C) (e:aE H H'):AM K CB CD H' x y C:=by
 rcases b with ⟨d,h1,h2⟩ | ⟨n,ws,d,h1,h2,h3,h4⟩
 ·exact .inl ⟨d,e.den _ _ h1,h2⟩
 ·exact .inr ⟨n,ws,d,e.den _ _ h1,h2,e.den _ _ h3,h4⟩
def jS (K:Rc) (CB CD:Addr):Sp:=λvs H _ E=>∃ x y C,vs = [x,y]/\AM K CB CD H x y C/\∀ H',aE H H'->E (.ref C) none H'
theorem wT (B:Bl mg) (R:Pr K mg fW fH fK fB gk fD f' fL dW dH dK dB gm dD f_ dL) (Z:Rf K mg CB CD ni BX):af P w K mg base (bx P w) 6 f' f_ ["book", "deal"] (jS K CB CD):=by
 have OD:af P w K mg base (bx P w) 5 fD dD ["book", "thing"] (uI (RN K CB) (yD K)):=(aDF B R Z).or (Q8 B R).u5
 refine R.ND.fn.k9 P6 (λvs H Q E h=>?_) (λbj A outer s H vs Q E hr h=>?_)
 ·obtain ⟨x,y,C,rfl,_⟩:=h
  rfl
 ·obtain ⟨x,y,C,rfl,b,k⟩:=h
  refine ⟨_,aJ (bT (eM (eJ (cV R.D OD hr rfl fJ (aA (pv 0) (aA (pv 1) aD))))) (aJ (sX Z.eD rfl Z.mD rfl (λ_ _ _ _ _ _ _ I m q=>xF I m q))) bG),?_⟩
  rcases b with ⟨d,h1,h2,rfl⟩ | ⟨n,ws,d,h1,h2,h3,h4,rfl⟩
  ·exact ⟨_,rfl,_,rfl,.inl ⟨x,y,d,rfl,h1,h2,k⟩⟩
  ·refine ⟨_,rfl,_,rfl,.inr ⟨x,y,n,ws,d,rfl,h1,h2,h3,λH' hs=>⟨_,rfl,?_⟩⟩⟩
   rw [h4]
   refine jD ?_
   exact k H' hs
theorem aDG (B:Bl mg) (R:Pr K mg fW fH fK fB gk fD f' fL dW dH dK dB gm dD f_ dL) (Z:Rf K mg CB CD ni BX):af P w K mg base (bx P w) 7 fL dL ["book", "deal"] (jS K CB CD):=by
 have ON:af P w K mg base (bx P w) 6 f' f_ ["book", "deal"] (jS K CB CD):=wT B R Z
 refine R.L.fn.k9 P5 (λvs H Q E h=>?_) (λbj A outer s H vs Q E hr h=>?_)
 ·obtain ⟨x,y,C,rfl,_⟩:=h
  rfl
 ·obtain ⟨x,y,C,rfl,b,k⟩:=h
  refine ⟨_,aG (bX (cV R.ND ON hr rfl fJ (aA (pv 0) (aA (pv 1) aD)))) cO,?_⟩
  exact ⟨_,rfl,_,rfl,x,y,C,rfl,b,k⟩
def uJ (K:Rc) (CB CD:Addr):Sp:=λvs H _ E=>∃ x y z C,vs = [x,y,z]/\AM K CB CD H x y C/\∀ H',aE H H'->E (.ref C) none H'
def OV (K:Rc) (CB CD CW:Addr) (H:Hp) (x y z:V) (C:Addr):Prop:=AM K CB CD H x y C∨∃ p xs n ws hs L,z=.ref p/\so K H x y p xs n ws hs L/\oO ws hs L=false/\C=CW
def mY (K:Rc) (CB CD CW:Addr):Sp:=λvs H _ E=>∃ x y z C,vs = [x,y,z]/\OV K CB CD CW H x y z C/\∀ H',aE H H'->E (.ref C) none H'
theorem QK (G:Fn K mg "is_way" vE ["book", "deal", "some"] f fd) (R:Pr K mg fW fH fK fB gk fD f' fL dW dH dK dB gm dD f_ dL) (ON:af P w K mg base (bx P w) 6 f' f_ ["book", "deal"] (jS K CB CD)):af P w K mg base (bx P w) 7 f fd ["book", "deal", "some"] (uJ K CB CD):=by
 refine G.fn.k9 Fs (λvs H Q E h=>?_) (λbj A outer s H vs Q E hr h=>?_)
 ·obtain ⟨x,y,z,C,rfl,_⟩:=h
  rfl
 ·obtain ⟨x,y,z,C,rfl,b,k⟩:=h
  refine ⟨_,aG (bX (cV R.ND ON hr rfl fJ (aA (pv 0) (aA (pv 1) aD)))) cO,?_⟩
  exact ⟨_,rfl,_,rfl,x,y,C,rfl,b,k⟩
theorem K? (G:Fn K mg "are_levels" nD ["book", "deal", "levels"] f fd) (R:Pr K mg fW fH fK fB gk fD f' fL dW dH dK dB gm dD f_ dL) (OL:af P w K mg base (bx P w) 7 fL dL ["book", "deal"] (jS K CB CD)):af P w K mg base (bx P w) 8 f fd ["book", "deal", "levels"] (uJ K CB CD):=by
 refine G.fn.k9 kX (λvs H Q E h=>?_) (λbj A outer s H vs Q E hr h=>?_)
 ·obtain ⟨x,y,z,C,rfl,_⟩:=h
  rfl
 ·obtain ⟨x,y,z,C,rfl,b,k⟩:=h
  refine ⟨_,aG (aT (i:=3) kX.nd rfl (Or.inl rfl) (cV R.L OL hr rfl fJ (aA (pv 0) (aA (pv 1) aD)))) cO,?_⟩
  exact ⟨_,rfl,_,rfl,x,y,C,rfl,b,k⟩
theorem K! (G:Fn K mg "levels_or_way" yy ["book", "deal"] f fd) (R:Pr K mg fW fH fK fB gk fD f' fL dW dH dK dB gm dD f_ dL) (OL:af P w K mg base (bx P w) 7 fL dL ["book", "deal"] (jS K CB CD)):af P w K mg base (bx P w) 8 f fd ["book", "deal"] (jS K CB CD):=by
 refine G.fn.k9 pQ (λvs H Q E h=>?_) (λbj A outer s H vs Q E hr h=>?_)
 ·obtain ⟨x,y,C,rfl,_⟩:=h
  rfl
 ·obtain ⟨x,y,C,rfl,b,k⟩:=h
  refine ⟨_,aG (aT (i:=2) pQ.nd rfl (Or.inr rfl) (cV R.L OL hr rfl fJ (aA (pv 0) (aA (pv 1) aD)))) cO,?_⟩
  exact ⟨_,rfl,_,rfl,x,y,C,rfl,b,k⟩
theorem aDH (G:Fn K mg "bettered" gZ ["book", "deal"] f fd) (GE:Fn K mg "levels_or_way" yy ["book", "deal"] fE dE) (OE:af P w K mg base (bx P w) 8 fE dE ["book", "deal"] (jS K CB CD)):af P w K mg base (bx P w) 10 f fd ["book", "deal"] (jS K CB CD):=by
 refine G.fn.k9 dP (λvs H Q E h=>?_) (λbj A outer s H vs Q E hr h=>?_)
 ·obtain ⟨x,y,C,rfl,_⟩:=h
  rfl
 ·obtain ⟨x,y,C,rfl,b,k⟩:=h
  refine ⟨_,aG (aT (i:=2) dP.nd rfl (Or.inl rfl) (cP aD)) (aG (gU (cV GE OE (hr.mono (by decide)) rfl fJ (aA (pv 0) (aA (pv 1) aD))) (gE rfl (aX (aQ (i:=3) dP.nd rfl (Or.inl rfl)) (aX (aQ (i:=4) dP.nd rfl (Or.inl rfl)) cU)))) cO),?_⟩
  exact ⟨dJ (Jb _),λp hp=>⟨_,rfl,_,rfl,x,y,C,rfl,b.same (aE.new hp),λH' s=>k H' ((aE.new hp).trans s)⟩⟩
theorem aDI {fY:Addr} {dY:FuncData} (G:Fn K mg "need_way" oK ["book", "deal", "some"] f fd) (B:Bl mg) (R:Pr K mg fW fH fK fB gk fD f' fL dW dH dK dB gm dD f_ dL) (GW:Fn K mg "is_way" vE ["book", "deal", "some"] fY dY) (GS:Fn K mg "is_step" tQ ["book", "deal", "step"] fS dS) (ON:af P w K mg base (bx P w) 6 f' f_ ["book", "deal"] (jS K CB CD)) (eW:∀ h:Heap,K.In h->i4 h CW X8) (mW:mg "NoWay" = some (.ref CW)):af P w K mg base (bx P w) 8 f fd ["book", "deal", "some"] (mY K CB CD CW):=by
 have OW:af P w K mg base (bx P w) 7 fY dY ["book", "deal", "some"] (uI (uJ K CB CD) (Ft K)):=(QK GW R ON).or (JB GW B R GS).u5
 refine G.fn.k9 PY (λvs H Q E h=>?_) (λbj A outer s H vs Q E hr h=>?_)
 ·obtain ⟨x,y,z,C,rfl,_⟩:=h
  rfl
 ·obtain ⟨x,y,z,C,rfl,b,k⟩:=h
  refine ⟨_,aJ (bT (eM (eJ (cV GW OW hr rfl fJ (aA (pv 0) (aA (pv 1) (aA (pv 2) aD)))))) (aJ (sX eW rfl mW rfl (λ_ _ _ _ _ _ _ I m q=>xF I m q))) bG),?_⟩
  rcases b with b | ⟨p,xs,n,ws,hs,L,rfl,g,hb,rfl⟩
  ·exact ⟨_,rfl,_,rfl,_,rfl,.inl ⟨x,y,z,C,rfl,b,k⟩⟩
  ·refine ⟨_,rfl,_,rfl,_,rfl,.inr ⟨x,y,p,xs,n,ws,hs,L,rfl,g.1,g.2.1,g.2.2.1,g.2.2.2.1,g.2.2.2.2,λH' s=>⟨_,rfl,?_⟩⟩⟩
   rw [hb]
   refine jD ?_
   exact k H' s
theorem V? (G:Fn K mg "gone" wE ["book", "deal", "some"] f fd) (GE:Fn K mg "need_way" oK ["book", "deal", "some"] fE dE) (OE:af P w K mg base (bx P w) 8 fE dE ["book", "deal", "some"] (mY K CB CD CW)):af P w K mg base (bx P w) 9 f fd ["book", "deal", "some"] (mY K CB CD CW):=by
 refine G.fn.k9 qS (λvs H Q E h=>?_) (λbj A outer s H vs Q E hr h=>?_)
 ·obtain ⟨x,y,z,C,rfl,_⟩:=h
  rfl
 ·obtain ⟨x,y,z,C,rfl,b,k⟩:=h
  refine ⟨_,aG (bX (cV GE OE hr rfl fJ (aA (pv 0) (aA (pv 1) (aA (pv 2) aD))))) cO,?_⟩
  exact ⟨_,rfl,_,rfl,_,rfl,x,y,z,C,rfl,b,k⟩
theorem J? (G:Fn K mg "betters" pK ["book", "deal", "some"] f fd) (GE:Fn K mg "need_way" oK ["book", "deal", "some"] fE dE) (OE:af P w K mg base (bx P w) 8 fE dE ["book", "deal", "some"] (mY K CB CD CW)):af P w K mg base (bx P w) 9 f fd ["book", "deal", "some"] (mY K CB CD CW):=by
 refine G.fn.k9 aDy (λvs H Q E h=>?_) (λbj A outer s H vs Q E hr h=>?_)
 ·obtain ⟨x,y,z,C,rfl,_⟩:=h
  rfl
 ·obtain ⟨x,y,z,C,rfl,b,k⟩:=h
  refine ⟨_,aG (bX (cV GE OE hr rfl fJ (aA (pv 0) (aA (pv 1) (aA (pv 2) aD))))) cO,?_⟩
  exact ⟨_,rfl,_,rfl,_,rfl,x,y,z,C,rfl,b,k⟩
theorem V! (G:Fn K mg "evenest" gR ["book"] f fd) (R:Pr K mg fW fH fK fB gk fD f' fL dW dH dK dB gm dD f_ dL) (ON:af P w K mg base (bx P w) 4 gk gm ["book"] (cN K CB)):af P w K mg base (bx P w) 11 f fd ["book"] (cN K CB):=by
 refine G.fn.k9 nK (λvs H Q E h=>?_) (λbj A outer s H vs Q E hr h=>?_)
 ·obtain ⟨x,d,rfl,_⟩:=h
  rfl
 ·obtain ⟨x,d,rfl,hd,hb,k⟩:=h
  refine ⟨_,aG (bX (cV R.NB ON (hr.mono (by decide)) rfl fJ (aA (pv 0) aD))) cO,?_⟩
  exact ⟨_,rfl,x,d,rfl,hd,hb,k⟩
theorem aDJ (G:Fn K mg "may_go" qP ["book"] f fd) (B:Bl mg) (GE:Fn K mg "evenest" gR ["book"] fE dE) (OE:af P w K mg base (bx P w) 11 fE dE ["book"] (cN K CB)):af P w K mg base (bx P w) 12 f fd ["book"] (cN K CB):=by
 refine G.fn.k9 lM (λvs H Q E h=>?_) (λbj A outer s H vs Q E hr h=>?_)
 ·obtain ⟨x,d,rfl,_⟩:=h
  rfl
 ·obtain ⟨x,d,rfl,hd,hb,k⟩:=h
  refine ⟨_,aG (aT (i:=1) lM.nd rfl (Or.inr rfl) (bK (cD (K:=K) rfl) (cV GE OE hr rfl fJ (aA (pv 0) aD)) aI (λ_ _=>rfl))) cO,?_⟩
  exact ⟨_,rfl,x,d,rfl,hd,hb,k⟩
theorem aDK (G:Fn K mg "even_loads" iE ["book"] f fd) (B:Bl mg) (GE:Fn K mg "evenest" gR ["book"] fE dE) (OE:af P w K mg base (bx P w) 11 fE dE ["book"] (cN K CB)):af P w K mg base (bx P w) 12 f fd ["book"] (cN K CB):=by
 refine G.fn.k9 kC (λvs H Q E h=>?_) (λbj A outer s H vs Q E hr h=>?_)
 ·obtain ⟨x,d,rfl,_⟩:=h
  rfl
 ·obtain ⟨x,d,rfl,hd,hb,k⟩:=h
  refine ⟨_,aG (aT (i:=1) kC.nd rfl (Or.inr rfl) (bK (cD (K:=K) rfl) (cV GE OE hr rfl fJ (aA (pv 0) aD)) aI (λ_ _=>rfl))) cO,?_⟩
  exact ⟨_,rfl,x,d,rfl,hd,hb,k⟩
theorem aAQ (G:Fn K mg "may_have" iF ["book"] f fd) (B:Bl mg) (GE:Fn K mg "even_loads" iE ["book"] fE dE) (OE:af P w K mg base (bx P w) 12 fE dE ["book"] (cN K CB)):af P w K mg base (bx P w) 13 f fd ["book"] (cN K CB):=by
 refine G.fn.k9 nM (λvs H Q E h=>?_) (λbj A outer s H vs Q E hr h=>?_)
 ·obtain ⟨x,d,rfl,_⟩:=h
  rfl
 ·obtain ⟨x,d,rfl,hd,hb,k⟩:=h
  refine ⟨_,aG (aT (i:=1) nM.nd rfl (Or.inr rfl) (cV GE OE hr rfl fJ (aA (pv 0) aD))) cO,?_⟩
  exact ⟨_,rfl,x,d,rfl,hd,hb,k⟩
theorem aAR (G:Fn K mg "how_many" mR ["book"] f fd) (B:Bl mg) (GE:Fn K mg "even_loads" iE ["book"] fE dE) (OE:af P w K mg base (bx P w) 12 fE dE ["book"] (cN K CB)):af P w K mg base (bx P w) 13 f fd ["book"] (cN K CB):=by
 refine G.fn.k9 wP (λvs H Q E h=>?_) (λbj A outer s H vs Q E hr h=>?_)
 ·obtain ⟨x,d,rfl,_⟩:=h
  rfl
 ·obtain ⟨x,d,rfl,hd,hb,k⟩:=h
  refine ⟨_,aJ (aY (QC rfl rfl B.sum IY (cV GE OE hr rfl fJ (aA (pv 0) aD)))),?_⟩
  exact ⟨_,rfl,x,d,rfl,hd,hb,k⟩
end
def LA:List Str:=["NoBook", "NoCosts", "NoDeal", "NoHand", "NoRooms", "NoRow", "NoText", "NoWay", "NoWeights", "NoWork", "TooMany"]
structure Cl (K:Rc) (mg:Str->Option Value) (cE:Addr) (c:Nat->Addr):Prop where
 mc:∀ (i:Nat) (n:Str),LA[i]?=some n->mg n=some (.ref (c i))
 ec:∀ i,i < 11->∀ h:Heap,K.In h->i4 h (c i) (.ref cE::il)
 inj:∀ i j,i < 11->j < 11->c i=c j->i=j
 ne:∀ i,i < 11->c i≠cE
 mE:mg "DealError" = some (.ref cE)
 eE:∀ h:Heap,K.In h->i4 h cE il
section
variable {c:Nat->Addr}
theorem Cl.has (Z:Cl K mg cE c) (hi:i < 11) (hj:j < 11):(Value.ref (c j)::.ref cE::il).contains (.ref (c i))=decide (j=i):=by
 by_cases e:j=i
 ·subst e; simp
 ·have h1:(Value.ref (c i)==Value.ref (c j))=false:=by
   rw [beq_eq_false_iff_ne]
   intro z
   injection z with z
   exact e (Z.inj j i hj hi z.symm)
  have h2:(Value.ref (c i)==Value.ref cE)=false:=by
   rw [beq_eq_false_iff_ne]
   intro z
   injection z with z
   exact Z.ne i hi z
  rw [Yl,Yl,h1,h2,decide_eq_false e]
  rfl
theorem Cl.up (Z:Cl K mg cE c):(Value.ref (c j)::.ref cE::il).contains (.ref cE)=true:=by simp
def YD (c:Nat->Addr) (i:Nat):TE:=λσ H Q=>∃ (a:Addr) (j:Nat),σ[0]?=some (some (.ref a))/\H a=some (xb (c j) a)/\j < 11/\Q (.bl (decide (j=i))) H
theorem jT {n:Str} (Z:Cl K mg cE c) (B:Bl mg) (hK:X.K=K) (yh:X.mg=mg) (hN:LA[i]?=some n) (hg:Gl X "isinstance") (VT:Gl X n) (h0:X.N[0]?=some x) (hx:X.env.scope.names.lookup x=some .local) (hd:(x==("__debug__" : Str))=false:=by decide) (jm:(x==("__classdict__" : Str))=false:=by decide) (V0:(n==("__debug__" : Str))=false:=by decide) (he:starEach [.Name x p1,.Name n p2] X.env=(false,eval (.Name x p1) X.env)::starEach [.Name n p2] X.env:=by rfl) (iq:(backTo pos (starEach [.Name n p2] X.env)).any (·.1)=false:=by rfl) :
  PE X (.Call (.Name "isinstance" p) [.Name x p1,.Name n p2] [] pos) (YD c i):=by
 have hi:i < 11:=(Qd.mp hN).1
 have si:∀ h:Heap,K.In h->∃ dd cd sl,h.get? (c i)=some { cls:=.type "type",dict:=dd,data:=.cls cd,slots:=sl }:=λh EZ=>by
  obtain ⟨N,nm,q,bs,hdct,sn,sub,ab,col,dd,k0,k1,k2,k3,k5,mN,hC,_⟩:=Z.ec i hi h EZ
  exact ⟨_,_,_,hC⟩
 have J:PE X (.Call (.Name "isinstance" p) [.Name x p1,.Name n p2] [] pos) _:=aV (xH (X:=X) (K:=K) (C':=c i) hK si) hg (by rw [yh]; exact B.isinstance) mO (aA (pv 0 h0 (.inl hx) hd jm) (aA (wY (v:=.ref (c i)) VT (by rw [yh]; exact Z.mc i n hN) rfl V0) aD)) (by decide) (by decide) he iq
 intro aa s σ H Q I h
 obtain ⟨a,j,e0,hH,hj,q⟩:=h
 refine J aa s σ H Q I ⟨_,e0,a,c j,_,rfl,hH,Z.ec j hj,?_⟩
 rw [Z.has hi hj]
 exact q
def Az (j:Nat):List Bool:=[decide (j=0),decide (j=1),decide (j=2),decide (j=3),decide (j=4),decide (j=5),decide (j=6),decide (j=7),decide (j=8),decide (j=9),decide (j=10)]
def QJ (c:Nat->Addr):Sp:=λvs H Q _=>∃ (a:Addr) (j:Nat),vs = [.ref a]/\H a=some (xb (c j) a)/\j < 11/\∀ p H',aE H H'->H' p=some (.lst ((Az j).map V.bl))->Q (.ref p) H'
theorem yN:ah ["e", "kinds"] ["e"] (aL tR):=⟨rfl,rfl,rfl,by decide +kernel,rfl,by decide +kernel,by decide +kernel⟩
theorem Lg (x y z:V) : [x,y,z].length<=sizeLine:=by rw [Rg]; simp
theorem Lf (x y z u:V) : [x,y,z,u].length<=sizeLine:=by rw [Rg]; simp
theorem U? (G:Fn K mg "_law_b_kinds" tR ["e"] f fd) (B:Bl mg) (Z:Cl K mg cE c):af P w K mg base a_ 1 f fd ["e"] (QJ c):=by
 refine G.fn.ok yN (λvs H Q E h=>?_) (λbj A outer s H vs Q E hr h=>?_)
 ·obtain ⟨a,j,rfl,_⟩:=h
  rfl
 ·obtain ⟨a,j,rfl,hH,hj,k⟩:=h
  refine ⟨_,aG (aT (i:=1) yN.nd rfl (Or.inl rfl) (cP (aA (jT (i:=0) Z B rfl rfl rfl rfl rfl rfl rfl) (aA (jT (i:=1) Z B rfl rfl rfl rfl rfl rfl rfl) (aA (jT (i:=2) Z B rfl rfl rfl rfl rfl rfl rfl) (aA (jT (i:=3) Z B rfl rfl rfl rfl rfl rfl rfl) aD))))))
   (aG (aT (i:=1) yN.nd rfl (Or.inl rfl) (bE iM (pv 1) (cP (aA (jT (i:=4) Z B rfl rfl rfl rfl rfl rfl rfl) (aA (jT (i:=5) Z B rfl rfl rfl rfl rfl rfl rfl) (aA (jT (i:=6) Z B rfl rfl rfl rfl rfl rfl rfl) (aA (jT (i:=7) Z B rfl rfl rfl rfl rfl rfl rfl) aD)))))))
   (aJ (aY (bE iM (pv 1) (cP (aA (jT (i:=8) Z B rfl rfl rfl rfl rfl rfl rfl) (aA (jT (i:=9) Z B rfl rfl rfl rfl rfl rfl rfl) (aA (jT (i:=10) Z B rfl rfl rfl rfl rfl rfl rfl) aD)))))))),?_⟩
  refine ⟨a,j,rfl,hH,hj,a,j,rfl,hH,hj,a,j,rfl,hH,hj,a,j,rfl,hH,hj,Lf _ _ _ _,λp1 ib=>?_⟩
  have h1:=λo=>(aE.new (o:=o) ib) _ _ hH
  refine ⟨_,rfl,a,j,rfl,h1 _,hj,a,j,rfl,h1 _,hj,a,j,rfl,h1 _,hj,a,j,rfl,h1 _,hj,Lf _ _ _ _,λp2 my=>?_⟩
  refine ⟨_,_,_,_,rfl,rfl,(aE.new my) _ _ aB,aB,by rw [Rg]; simp,λp3 qr=>?_⟩
  have s3:=λo=>(aE.new ib).trans ((aE.new my).trans (aE.new (o:=o) qr))
  have h3:=λo=>s3 o _ _ hH
  refine ⟨_,rfl,a,j,rfl,h3 _,hj,a,j,rfl,h3 _,hj,a,j,rfl,h3 _,hj,Lg _ _ _,λp4 EW=>?_⟩
  refine ⟨_,_,_,_,rfl,rfl,(aE.new EW) _ _ aB,aB,by rw [Rg]; simp,λp5 VA=>?_⟩
  refine k p5 _ ((s3 _).trans ((aE.new EW).trans (aE.new VA))) ?_
  rw [aB]
  rfl
theorem YC:bootBuiltins "ValueError" = some (.type "ValueError"):=by decide +kernel
def IP:List Str:=["book", "costs", "deal", "hand", "rooms", "row", "text", "way", "weights", "work", "many"]
theorem aFB:∀ j,j < 11->(Az j).count true=1:=by decide +kernel
theorem YZ:∀ j,j < 11->(Az j)[j]?=some true:=by decide +kernel
theorem YY:∀ j,j < 11->∀ m,m < j->(Az j)[m]?≠some true:=by decide +kernel
def Pn (c:Nat->Addr):Sp:=λvs H Q _=>(vs = [.bw]/\Q (.str "told") H)∨∃ (a:Addr) (j:Nat) (t:Str),vs = [.ref a]/\H a=some (xb (c j) a)/\j < 11/\IP[j]?=some t/\∀ H',aE H H'->Q (.str t) H'
theorem JK:ah ["e", "kinds", "names"] ["e"] (aL Fu):=⟨rfl,rfl,rfl,by decide +kernel,rfl,by decide +kernel,by decide +kernel⟩
theorem J! (G:Fn K mg "_law_b_word" Fu ["e"] f fd) (GK:Fn K mg "_law_b_kinds" tR ["e"] fK dK) (B:Bl mg) (Z:Cl K mg cE c):af P w K mg base a_ 2 f fd ["e"] (Pn c):=by
 have OK:af P w K mg base a_ 1 fK dK ["e"] (QJ c):=U? GK B Z
 refine G.fn.ok JK (λvs H Q E h=>?_) (λbj A outer s H vs Q E hr h=>?_)
 ·rcases h with ⟨rfl,_⟩ | ⟨a,j,t,rfl,_⟩ <;> rfl
 ·refine ⟨_,ff.go (bI ⟨bT (bB υ (pv 0) oC (bD _)) (aJ (aY gD)) bG⟩
   (bI ⟨aT (i:=1) JK.nd rfl (Or.inl rfl) (bH GK OK hr rfl (aA (pv 0) aD))⟩
   (bI ⟨bT (PW.pt (kL (bB lV (JD (K:=K) rfl Rr Mp PySem.F.type_list_count (aBa (K:=K) rfl) (pv 1) (aA eX aD)) aI (bD _))
    (jC (eM (eJ (aV (zT (K:=K) rfl) rfl B.isinstance mO (aA (pv 0) (aA (iT (v:=.ty "ValueError") rfl B.ve YC rfl) aD)))))))) (aJ (aY gD)) bG⟩
   (bI (jY (i:=2) JK.nd rfl (Or.inl rfl) (dX (aO iC (aO iC (aO iC (aO iC (aO iC (aO iC (aO iC (aO iC (aO iC (aO iC (aO iC bQ aF) aF) aF) aF) aF) aF) aF) aF) aF) aF) aF)))
   (eQ ⟨aY (bK cX (pv 2) (JD (K:=K) rfl Rr Mq PySem.F.type_list_index (aBb (K:=K) rfl) (pv 1) (aA eX aD)) (λ_ _=>rfl))⟩))))),?_⟩
  rcases h with ⟨rfl,q⟩ | ⟨a,j,t,rfl,hH,hj,ht,k⟩
  ·refine ⟨_,rfl,rfl,_,rfl,?_⟩
   exact jD q
  ·refine ⟨_,rfl,rfl,_,rfl,?_⟩
   refine iN ?_
   refine ⟨_,rfl,a,j,rfl,hH,hj,λp H1 s1 hp=>?_⟩
   have h1:=s1 _ _ hH
   have ec:((Az j).count true:Int)=1:=by rw [aFB j hj]; rfl
   refine ⟨_,rfl,.inl ⟨rfl,_,ak.of hp⟩,p,Az j,true,rfl,rfl,ak.of hp,rfl,_,rfl,?_⟩
   rw [ec]
   refine iN ?_
   refine ⟨_,rfl,a,c j,_,rfl,h1,Z.ec j hj,_,rfl,?_⟩
   refine iN ?_
   refine ⟨by rw [Rg]; decide,λp2 my=>?_⟩
   refine ⟨_,rfl,_,rfl,.inl ⟨rfl,_,ak.of ((aE.new my) _ _ hp)⟩,p,Az j,true,j,rfl,rfl,ak.of ((aE.new my) _ _ hp),YZ j hj,YY j hj,p2,IP.map V.str,j,.str t,rfl,rfl,ak.of aB,cW ?_,?_⟩
   ·rw [Qh,ht]; rfl
   ·exact k _ (s1.trans (aE.new my))
end
section
variable {c:Nat->Addr}
variable {CB CD CW:Addr}
def y6 (K:Rc) (CB CD CW:Addr) (H:Hp) (way:Int) (x y z:V) (C:Addr):Prop:=(∃ d,Den K H d x/\bU d=false/\C=CB)∨(way<=5/\∃ n ws d,Den K H (cJ n ws) x/\bU (cJ n ws)=true/\Den K H d y/\fP ws d=false/\C=CD) ∨
 ((way=4∨way=5)/\∃ p xs n ws hs L,z=.ref p/\so K H x y p xs n ws hs L/\oO ws hs L=false/\C=CW)
theorem y6.book {x z:V} (r:y6 K CB CD CW H way x y z C) (h:5 < way):∃ d,Den K H d x/\bU d=false/\C=CB:=by
 rcases r with r | ⟨h1,_⟩ | ⟨h1,_⟩
 ·exact r
 ·omega
 ·omega
theorem y6.bad {x z:V} (r:y6 K CB CD CW H way x y z C) (h4:way≠4) (h5:way≠5):AM K CB CD H x y C:=by
 rcases r with r | ⟨_,r⟩ | ⟨h1,_⟩
 ·exact .inl r
 ·exact .inr r
 ·omega
theorem y6.D6 {x z:V} (r:y6 K CB CD CW H way x y z C):OV K CB CD CW H x y z C:=by
 rcases r with r | ⟨_,r⟩ | ⟨_,r⟩
 ·exact .inl (.inl r)
 ·exact .inl (.inr r)
 ·exact .inr r
structure D7 (K:Rc) (Pt:Addr) (H:Hp) (way:Int) (x y z m:V) (n:Int) (ws:List (List Int)) (hs:List Int):Prop where
 g:gA K H x y n ws hs
 tb:H Pt=some (.tab pP)
 n4:way≠4
 n5:way≠5
 w0:way=0->∃ p xs L,z=.ref p/\so K H x y p xs n ws hs L
 w1:way=1->∃ (p:Addr) (ls:List Int),m=.ref p/\aj K H p (ls.map V.int)
def IM (K:Rc) (CB CD CW Pt:Addr):Sp:=λvs H Q E=>∃ way x y z m,vs = [.int way,x,y,z,m]/\0<=way/\way<=9 /\
 ((∃ n ws hs,D7 K Pt H way x y z m n ws hs/\∀ H',aE H H'->Q .bw H')∨∃ C,y6 K CB CD CW H way x y z C/\∀ H',aE H H'->E (.ref C) none H')
theorem YX:ah ["way", "book", "deal", "some", "marks"] ["way", "book", "deal", "some", "marks"] (aL Fm):=⟨rfl,rfl,rfl,by decide +kernel,rfl,by decide +kernel,by decide +kernel⟩
theorem ZO {C7 NJ NN NT NQ NI NH NL:Addr} {C9 N4 N9 Oc N_ N3 N1 N6:FuncData} (G:Fn K mg "_law_b_ask" Fm ["way", "book", "deal", "some", "marks"] f fd) (GWy:Fn K mg "is_way" vE ["book", "deal", "some"] C7 C9) (JU:af P w K mg base (bx P w) 7 C7 C9 ["book", "deal", "some"] (uI (uJ K CB CD) (Ft K))) (GLv:Fn K mg "are_levels" nD ["book", "deal", "levels"] NJ N4) (OLv:af P w K mg base (bx P w) 8 NJ N4 ["book", "deal", "levels"] (uI (uJ K CB CD) (O0 K))) (B7:Fn K mg "levels_or_way" yy ["book", "deal"] BQ BV) (B3:af P w K mg base (bx P w) 8 BQ BV ["book", "deal"] (uI (jS K CB CD) (Dj K Pt))) (Dv:Fn K mg "bettered" gZ ["book", "deal"] BR BW) (wu:af P w K mg base (bx P w) 10 BR BW ["book", "deal"] (uI (jS K CB CD) (jQ K Pt))) (GGn:Fn K mg "gone" wE ["book", "deal", "some"] NN N9) (OGn:af P w K mg base (bx P w) 9 NN N9 ["book", "deal", "some"] (mY K CB CD CW)) (GBe:Fn K mg "betters" pK ["book", "deal", "some"] NT Oc) (OBe:af P w K mg base (bx P w) 9 NT Oc ["book", "deal", "some"] (mY K CB CD CW)) (Du:Fn K mg "evenest" gR ["book"] NQ N_) (wq:af P w K mg base (bx P w) 11 NQ N_ ["book"] (uI (cN K CB) (kW K Pt))) (GMg:Fn K mg "may_go" qP ["book"] NI N3) (OMg:af P w K mg base (bx P w) 12 NI N3 ["book"] (uI (cN K CB) (QL K Pt))) (GMh:Fn K mg "may_have" iF ["book"] NH N1) (OMh:af P w K mg base (bx P w) 13 NH N1 ["book"] (uI (cN K CB) (wR K Pt))) (GHm:Fn K mg "how_many" mR ["book"] NL N6) (OHm:af P w K mg base (bx P w) 13 NL N6 ["book"] (uI (cN K CB) (wO K Pt))):af P w K mg base (bx P w) 14 f fd ["way", "book", "deal", "some", "marks"] (IM K CB CD CW Pt):=by
 refine G.fn.k9 YX (λvs H Q E h=>?_) (λbj A outer s H vs Q E hr h=>?_)
 ·obtain ⟨way,x,y,z,m,rfl,_⟩:=h
  rfl
 ·obtain ⟨way,x,y,z,m,rfl,w0,w9,k⟩:=h
  refine ⟨_,(aJ (bT (bB gL (pv 0) aI (bD _)) (aJ (bX (cV GWy JU (hr.mono (by decide)) rfl fJ (aA (pv 1) (aA (pv 2) (aA (pv 3) aD)))))) (aJ (bT (bB gL (pv 0) aI (bD _)) (aJ (bX (cV GLv OLv (hr.mono (by decide)) rfl fJ (aA (pv 1) (aA (pv 2) (aA (pv 4) aD)))))) (aJ (bT (bB gL (pv 0) aI (bD _)) (aJ (bX (cV B7 B3 (hr.mono (by decide)) rfl fJ (aA (pv 1) (aA (pv 2) aD))))) (aJ (bT (bB gL (pv 0) aI (bD _)) (aJ (bX (cV Dv wu (hr.mono (by decide)) rfl fJ (aA (pv 1) (aA (pv 2) aD))))) (aJ (bT (bB gL (pv 0) aI (bD _)) (aJ (bX (cV GGn OGn (hr.mono (by decide)) rfl fJ (aA (pv 1) (aA (pv 2) (aA (pv 3) aD)))))) (aJ (bT (bB gL (pv 0) aI (bD _)) (aJ (bX (cV GBe OBe (hr.mono (by decide)) rfl fJ (aA (pv 1) (aA (pv 2) (aA (pv 3) aD)))))) (aJ (bT (bB gL (pv 0) aI (bD _)) (aJ (bX (cV Du wq (hr.mono (by decide)) rfl fJ (aA (pv 1) aD)))) (aJ (bT (bB gL (pv 0) aI (bD _)) (aJ (bX (cV GMg OMg (hr.mono (by decide)) rfl fJ (aA (pv 1) aD)))) (aJ (bT (bB gL (pv 0) aI (bD _)) (aJ (bX (cV GMh OMh (hr.mono (by decide)) rfl fJ (aA (pv 1) aD)))) (aJ (bX (cV GHm OHm (hr.mono (by decide)) rfl fJ (aA (pv 1) aD)))))))))))))))))))))),?_⟩
  have iw:∀ {n:Int},decide (V.int way=V.int n)=true->way=n:=λ{n} c=>by
   have:=of_decide_eq_true c
   injection this
  have nw:∀ {n:Int},¬ decide (V.int way=V.int n)=true->way≠n:=λ{n} c z=>c (decide_eq_true (by rw [z]))
  refine ⟨_,rfl,rfl,_,rfl,?_⟩
  refine cR (λc=>?_) (λc0=>?_)
  ·have e:=iw c
   subst e
   refine ⟨_,rfl,_,rfl,_,rfl,?_⟩
   rcases k with ⟨n,ws,hs,T,k⟩ | ⟨C,r,k⟩
   ·obtain ⟨p,xs,L,rfl,hw⟩:=T.w0 rfl
    exact .inr ⟨x,y,_,_,n,ws,hs,L,rfl,T.g,hw.2.1,hw.2.2.1,hw.2.2.2.1,hw.2.2.2.2,k⟩
   ·exact .inl ⟨x,y,_,C,rfl,r.bad (by decide) (by decide),k⟩
  refine ⟨_,rfl,rfl,_,rfl,?_⟩
  refine cR (λc=>?_) (λc1=>?_)
  ·have e:=iw c
   subst e
   refine ⟨_,rfl,_,rfl,_,rfl,?_⟩
   rcases k with ⟨n,ws,hs,T,k⟩ | ⟨C,r,k⟩
   ·obtain ⟨p,ls,rfl,hm⟩:=T.w1 rfl
    exact .inr ⟨x,y,_,n,ws,hs,ls,rfl,T.g,hm,k⟩
   ·exact .inl ⟨x,y,_,C,rfl,r.bad (by decide) (by decide),k⟩
  refine ⟨_,rfl,rfl,_,rfl,?_⟩
  refine cR (λc=>?_) (λc2=>?_)
  ·have e:=iw c
   subst e
   refine ⟨_,rfl,_,rfl,?_⟩
   rcases k with ⟨n,ws,hs,T,k⟩ | ⟨C,r,k⟩
   ·exact .inr ⟨x,y,n,ws,hs,rfl,T.g,T.tb,λ_ H' s _=>k H' s⟩
   ·exact .inl ⟨x,y,C,rfl,r.bad (by decide) (by decide),k⟩
  refine ⟨_,rfl,rfl,_,rfl,?_⟩
  refine cR (λc=>?_) (λc3=>?_)
  ·have e:=iw c
   subst e
   refine ⟨_,rfl,_,rfl,?_⟩
   rcases k with ⟨n,ws,hs,T,k⟩ | ⟨C,r,k⟩
   ·exact .inr ⟨x,y,n,ws,hs,rfl,T.g,T.tb,λ_ H' s _=>k H' s⟩
   ·exact .inl ⟨x,y,C,rfl,r.bad (by decide) (by decide),k⟩
  refine ⟨_,rfl,rfl,_,rfl,?_⟩
  refine cR (λc=>?_) (λc4=>?_)
  ·have e:=iw c
   subst e
   refine ⟨_,rfl,_,rfl,_,rfl,?_⟩
   rcases k with ⟨n,ws,hs,T,k⟩ | ⟨C,r,k⟩
   ·exact absurd rfl T.n4
   ·exact ⟨x,y,z,C,rfl,r.D6,k⟩
  refine ⟨_,rfl,rfl,_,rfl,?_⟩
  refine cR (λc=>?_) (λc5=>?_)
  ·have e:=iw c
   subst e
   refine ⟨_,rfl,_,rfl,_,rfl,?_⟩
   rcases k with ⟨n,ws,hs,T,k⟩ | ⟨C,r,k⟩
   ·exact absurd rfl T.n5
   ·exact ⟨x,y,z,C,rfl,r.D6,k⟩
  refine ⟨_,rfl,rfl,_,rfl,?_⟩
  refine cR (λc=>?_) (λc6=>?_)
  ·have e:=iw c
   subst e
   refine ⟨_,rfl,?_⟩
   rcases k with ⟨n,ws,hs,T,k⟩ | ⟨C,r,k⟩
   ·exact .inr ⟨x,n,ws,rfl,T.g.1,T.g.2.1,T.tb,λ_ _ _ _ _ H' s _ _ _ _ _=>k H' s⟩
   ·obtain ⟨d,h1,h2,rfl⟩:=r.book (by decide)
    exact .inl ⟨x,d,rfl,h1,h2,k⟩
  refine ⟨_,rfl,rfl,_,rfl,?_⟩
  refine cR (λc=>?_) (λc7=>?_)
  ·have e:=iw c
   subst e
   refine ⟨_,rfl,?_⟩
   rcases k with ⟨n,ws,hs,T,k⟩ | ⟨C,r,k⟩
   ·exact .inr ⟨x,n,ws,rfl,T.g.1,T.g.2.1,T.tb,λ_ _ H' s _=>k H' s⟩
   ·obtain ⟨d,h1,h2,rfl⟩:=r.book (by decide)
    exact .inl ⟨x,d,rfl,h1,h2,k⟩
  refine ⟨_,rfl,rfl,_,rfl,?_⟩
  refine cR (λc=>?_) (λc8=>?_)
  ·have e:=iw c
   subst e
   refine ⟨_,rfl,?_⟩
   rcases k with ⟨n,ws,hs,T,k⟩ | ⟨C,r,k⟩
   ·exact .inr ⟨x,n,ws,rfl,T.g.1,T.g.2.1,T.tb,λ_ _ H' s _=>k H' s⟩
   ·obtain ⟨d,h1,h2,rfl⟩:=r.book (by decide)
    exact .inl ⟨x,d,rfl,h1,h2,k⟩
  ·have e:way=9:=by have h0:=nw c0; have h1:=nw c1; have h2:=nw c2; have h3:=nw c3; have h4:=nw c4; have h5:=nw c5; have h6:=nw c6; have h7:=nw c7; have h8:=nw c8; omega
   subst e
   refine ⟨_,rfl,?_⟩
   rcases k with ⟨n,ws,hs,T,k⟩ | ⟨C,r,k⟩
   ·exact .inr ⟨x,n,ws,rfl,T.g.1,T.g.2.1,T.tb,λ_ _ H' s _ _=>k H' s⟩
   ·obtain ⟨d,h1,h2,rfl⟩:=r.book (by decide)
    exact .inl ⟨x,d,rfl,h1,h2,k⟩
theorem Cl.rf (Z:Cl K mg cE c):Rf K mg (c 0) (c 2) (.ref cE::il) (.ref cE::il):=⟨Z.mc 0 _ rfl,Z.mc 2 _ rfl,Z.ec 0 (by decide),Z.ec 2 (by decide)⟩
def QI (K:Rc) (c:Nat->Addr) (Pt:Addr):Sp:=λvs H Q _=>∃ way x y z m,vs = [.int way,x,y,z,m]/\0<=way/\way<=9 /\
 ((∃ n ws hs,D7 K Pt H way x y z m n ws hs/\∀ H',aE H H'->Q (.str "told") H')∨∃ (j:Nat) (t:Str),j < 11/\IP[j]?=some t/\y6 K (c 0) (c 2) (c 7) H way x y z (c j)/\∀ H',aE H H'->Q (.str t) H')
theorem yO:ah ["way", "book", "deal", "some", "marks", "caught", "e"] ["way", "book", "deal", "some", "marks"] (aL xZ):=⟨rfl,rfl,rfl,by decide +kernel,rfl,by decide +kernel,by decide +kernel⟩
theorem aFE {fA fO fI:Addr} {dA dO dI:FuncData} (G:Fn K mg "_law_b_asked" xZ ["way", "book", "deal", "some", "marks"] f fd) (GA:Fn K mg "_law_b_ask" Fm ["way", "book", "deal", "some", "marks"] fA dA) (GO:Fn K mg "_law_b_word" Fu ["e"] fO dO) (GI:Fn K mg "_law_b_kinds" tR ["e"] fI dI) (B:Bl mg) (Z:Cl K mg cE c) (OA:af P w K mg base (bx P w) 14 fA dA ["way", "book", "deal", "some", "marks"] (IM K (c 0) (c 2) (c 7) Pt)):af P w K mg base a_ 15 f fd ["way", "book", "deal", "some", "marks"] (QI K c Pt):=by
 have OO:af P w K mg base a_ 2 fO dO ["e"] (Pn c):=J! GO GI B Z
 refine G.fn.ok yO (λvs H Q E h=>?_) (λbj A outer s H vs Q E hr h=>?_)
 ·obtain ⟨way,x,y,z,m,rfl,_⟩:=h
  rfl
 ·obtain ⟨way,x,y,z,m,rfl,w0,w9,k⟩:=h
  have h2:ay 2 _:=hr.mono (by decide)
  refine ⟨_,aG (aT (i:=5) yO.nd rfl (Or.inl rfl) oC)
   (aG (i? (i:=5) (j:=6) (aF6 OA hr rfl GA.Cp GA.kp GA.bd .nil (aA (pv 0) (aA (pv 1) (aA (pv 2) (aA (pv 3) (aA (pv 4) aD)))))) rfl rfl rfl rfl Z.mE Z.eE yO.nd rfl rfl (by decide) rfl rfl)
   (aJ (aY (bH GO OO h2 rfl (aA (pv 5) aD))))),?_⟩
  refine ⟨_,rfl,_,rfl,_,rfl,_,rfl,_,rfl,way,x,y,z,m,rfl,w0,w9,?_⟩
  rcases k with ⟨n,ws,hs,T,k⟩ | ⟨j,t,hj,ht,r,k⟩
  ·exact .inl ⟨n,ws,hs,T,λH' s1=>⟨_,rfl,.inl ⟨rfl,k H' s1⟩⟩⟩
  ·refine .inr ⟨c j,r,λH' s1=>⟨c j,_,rfl,Z.ec j hj,Z.up,λa ha=>?_⟩⟩
   exact ⟨_,rfl,.inr ⟨a,j,t,rfl,aB,hj,ht,λH2 s2=>k H2 (s1.trans ((aE.new ha).trans s2))⟩⟩
end
def EF:List PyData:=[.none,.tuple [],.int 2,.tuple [.int 2],.tuple [.int 0,.tuple []],.tuple [.int 7,.tuple []],.tuple [.int (-1),.tuple []],.tuple [.bool true,.tuple []],.tuple [.str "2",.tuple []],.tuple [.int 2,.list []],.list [.int 2,.tuple []],.tuple [.int 2,.tuple [.tuple []]]]
def EE:List PyData:=[.tuple [.int 2,.tuple [.tuple [.int 2]]],.tuple [.int 2,.tuple [.tuple [.int (-1)]]],.tuple [.int 2,.tuple [.tuple [.int 1,.int 0]]],.tuple [.int 2,.tuple [.tuple [.int 0,.int 0]]],.tuple [.int 2,.tuple [.list [.int 0]]],.tuple [.int 2,.tuple [.int 0]]]
def EC:List PyData:=[.tuple [.int 2,.tuple [.tuple [.bool true]]],.tuple [.int 2,.tuple [.tuple [.int 0,.none]]],.tuple [.int 2,.tuple [],.tuple []],.tuple [.int 2,.none],.tuple [.int 1,.tuple (List.replicate 13 [.tuple [.int 0]]).flatten],.dict [],.str "hands 2"]
def EB:List PyData:=[.tuple [.int 2,.tuple [.none,.tuple [.int 0,.int 1]]],.tuple [.int 3,.tuple [.tuple [.int 1,.int 0,.int 2]]],.tuple [.int 3,.tuple [.tuple [.int 0,.int 0,.int 1]]],.tuple [.int 3,.tuple [.tuple [.int 1,.int 2],.tuple [.int 3],.tuple [.int 1]]]]
def EA:List PyData:=[.tuple [.int 2,.str ""],.tuple [.int 2,.dict []],.tuple [.int 2,.tuple [.str ""]],.tuple [.int 2,.tuple [.dict []]],.tuple [.list [],.tuple []],.tuple [.dict [],.tuple []],.tuple [.str "",.tuple []],.tuple [.int 2,.tuple [.tuple [.int 0,.int 1],.str ""]]]
def Ez:List PyData:=[.tuple [.int 2,.tuple [.tuple [.int 0,.int 1],.none]],.tuple [.tuple [.int 2,.tuple []]],.tuple [.int 2,.tuple [.tuple [.int 0,.int 1],.tuple [.int 1,.int 2]]],.tuple [.int 2,.tuple [.tuple [.int 2],.tuple [.int 0]]]]
def sG:List PyData:=EF++EE++EC++EB++EA++Ez
theorem aBR:∀ d∈sG,bU d=false:=by
 have h:sG.all (λd=>!bU d)=true:=by decide +kernel
 intro d hd
 have:=Jm.mp h d hd
 simpa using this
def wU (K:Rc):Sp:=λvs H Q _=>∃ Z,vs = []/\Fx Z H/\∀ p xs H',aE H H'->H p=none->H' p=some (.lst xs)->aZ K (Vw Z H') sG xs->Q (.ref p) H'
theorem wV:ah ["found"] [] (aL iG):=⟨rfl,rfl,rfl,by decide +kernel,rfl,by decide +kernel,by decide +kernel⟩
def Br (k:Nat):Expr:=match (dU iG).getD k (.Pass ⟨0,0,0,0⟩) with
 | .Assign _ e _=>(match e with | .BinOp _ _ e _=>e | e=>e)
 | .Return (some (.BinOp _ _ e _)) _=>e
 | _=>.Constant .none 0 ⟨0,0,0,0⟩
theorem YB (hK:X.K=K):jo X (Br 0) (ji K Z (λ_=>True) EF) :=
 lG (aC qI (aC (aR aN) (aC aU (aC (aR (aC aU aN aF)) (aC (aR (aC aU (aC (aR aN) aN aM) aF)) (aC (aR (aC aU (aC (aR aN) aN aM) aF)) (aC (aR (aC xI (aC (aR aN) aN aM) vX)) (aC (aR (aC IU (aC (aR aN) aN aM) aF)) (aC (aR (aC mJ (aC (aR aN) aN aM) aF)) (aC (aR (aC aU (aC (sZ aN) aN fV) aF)) (aC (sZ (aC aU (aC (aR aN) aN aM) aF)) (aC (aR (aC aU (aC (aR (aC (aR aN) aN aM)) aN aM) aF)) aN aM) fV) aM) aM) aM) aM) aM) aM) aM) aF) aM) aF) (by decide)
theorem YA (hK:X.K=K):jo X (Br 1) (ji K Z (λ_=>True) EE) :=
 lG (aC (aR (aC aU (aC (aR (aC (aR (aC aU aN aF)) aN aM)) aN aM) aF)) (aC (aR (aC aU (aC (aR (aC (aR (aC xI aN vX)) aN aM)) aN aM) aF)) (aC (aR (aC aU (aC (aR (aC (aR (aC aU (aC aU aN aF) aF)) aN aM)) aN aM) aF)) (aC (aR (aC aU (aC (aR (aC (aR (aC aU (aC aU aN aF) aF)) aN aM)) aN aM) aF)) (aC (aR (aC aU (aC (aR (aC (sZ (aC aU aN aF)) aN fV)) aN aM) aF)) (aC (aR (aC aU (aC (aR (aC aU aN aF)) aN aM) aF)) aN aM) aM) aM) aM) aM) aM) (by decide)
theorem Y9 (hK:X.K=K):jo X (Br 2) (ji K Z (λ_=>True) EC) :=
 lG (aC (aR (aC aU (aC (aR (aC (aR (aC IU aN aF)) aN aM)) aN aM) aF)) (aC (aR (aC aU (aC (aR (aC (aR (aC aU (aC qI aN aF) aF)) aN aM)) aN aM) aF)) (aC (aR (aC aU (aC (aR aN) (aC (aR aN) aN aM) aM) aF)) (aC (aR (aC aU (aC qI aN aF) aF)) (aC (aR (aC aU (aC (i! hK (aR (aC (aR (aC aU aN aF)) aN aM))) aN sU) aF)) (aC mK (aC mJ aN aF) pD) aM) aM) aM) aM) aM) (by decide)
theorem Y8 (hK:X.K=K):jo X (Br 3) (ji K Z (λ_=>True) EB) :=
 lG (aC (aR (aC aU (aC (aR (aC qI (aC (aR (aC aU (aC aU aN aF) aF)) aN aM) aF)) aN aM) aF)) (aC (aR (aC aU (aC (aR (aC (aR (aC aU (aC aU (aC aU aN aF) aF) aF)) aN aM)) aN aM) aF)) (aC (aR (aC aU (aC (aR (aC (aR (aC aU (aC aU (aC aU aN aF) aF) aF)) aN aM)) aN aM) aF)) (aC (aR (aC aU (aC (aR (aC (aR (aC aU (aC aU aN aF) aF)) (aC (aR (aC aU aN aF)) (aC (aR (aC aU aN aF)) aN aM) aM) aM)) aN aM) aF)) aN aM) aM) aM) aM) (by decide)
theorem Y7 (hK:X.K=K):jo X (Br 4) (ji K Z (λ_=>True) EA) :=
 lG (aC (aR (aC aU (aC mJ aN aF) aF)) (aC (aR (aC aU (aC mK aN pD) aF)) (aC (aR (aC aU (aC (aR (aC mJ aN aF)) aN aM) aF)) (aC (aR (aC aU (aC (aR (aC mK aN pD)) aN aM) aF)) (aC (aR (aC (sZ aN) (aC (aR aN) aN aM) fV)) (aC (aR (aC mK (aC (aR aN) aN aM) pD)) (aC (aR (aC mJ (aC (aR aN) aN aM) aF)) (aC (aR (aC aU (aC (aR (aC (aR (aC aU (aC aU aN aF) aF)) (aC mJ aN aF) aM)) aN aM) aF)) aN aM) aM) aM) aM) aM) aM) aM) aM) (by decide)
theorem Y6 (hK:X.K=K):jo X (Br 5) (ji K Z (λ_=>True) Ez) :=
 lG (aC (aR (aC aU (aC (aR (aC (aR (aC aU (aC aU aN aF) aF)) (aC qI aN aF) aM)) aN aM) aF)) (aC (aR (aC (aR (aC aU (aC (aR aN) aN aM) aF)) aN aM)) (aC (aR (aC aU (aC (aR (aC (aR (aC aU (aC aU aN aF) aF)) (aC (aR (aC aU (aC aU aN aF) aF)) aN aM) aM)) aN aM) aF)) (aC (aR (aC aU (aC (aR (aC (aR (aC aU aN aF)) (aC (aR (aC aU aN aF)) aN aM) aM)) aN aM) aF)) aN aM) aM) aM) aM) (by decide)
theorem I? {t:Option Expr} {l:Nat} {env:Env}:swapsWith (.List es p) t l env=pure false:=rfl
theorem yP {a b:Expr} {op:Operator} {t:Option Expr} {l:Nat} {env:Env}:swapsWith (.BinOp a op b p) t l env=pure false:=rfl
structure fk (X:Cx) (K:Rc):Prop where
 hK:X.K=K
 hN:X.N.Nodup
 h0:X.N[0]?=some ("found" : Str)
 hl:X.env.scope.names.lookup ("found" : Str)=some .local
def qm (k:Nat):Stmt:=(dU iG).getD k (.Pass ⟨0,0,0,0⟩)
theorem Y5 (x:fk X K):sr X (qm 0) (lT (ji K Z (λ_=>True) EF) (eY 0)):=jY (i:=0) x.hN x.h0 (Or.inl x.hl) (YB x.hK) I? (.inr x.hl)
theorem Y4 (x:fk X K):sr X (qm 1) (lT (iy sN (jB 0) (ji K Z (λ_=>True) EE)) (eY 0)):=jY (i:=0) x.hN x.h0 (Or.inl x.hl) (sY iM (zW (pv 0 x.h0 (.inl x.hl))) (YA x.hK)) yP (.inr x.hl)
theorem Y3 (x:fk X K):sr X (qm 2) (lT (iy sN (jB 0) (ji K Z (λ_=>True) EC)) (eY 0)):=jY (i:=0) x.hN x.h0 (Or.inl x.hl) (sY iM (zW (pv 0 x.h0 (.inl x.hl))) (Y9 x.hK)) yP (.inr x.hl)
theorem Y2 (x:fk X K):sr X (qm 3) (lT (iy sN (jB 0) (ji K Z (λ_=>True) EB)) (eY 0)):=jY (i:=0) x.hN x.h0 (Or.inl x.hl) (sY iM (zW (pv 0 x.h0 (.inl x.hl))) (Y8 x.hK)) yP (.inr x.hl)
theorem Y1 (x:fk X K):sr X (qm 4) (lT (iy sN (jB 0) (ji K Z (λ_=>True) EA)) (eY 0)):=jY (i:=0) x.hN x.h0 (Or.inl x.hl) (sY iM (zW (pv 0 x.h0 (.inl x.hl))) (Y7 x.hK)) yP (.inr x.hl)
theorem Y0 (x:fk X K):sr X (qm 5) (Fp (iy sN (jB 0) (ji K Z (λ_=>True) Ez))):=aF7 (sY iM (zW (pv 0 x.h0 (.inl x.hl))) (Y6 x.hK))
def aFF (K:Rc) (Z:List Addr):TS:=yU (lT (ji K Z (λ_=>True) EF) (eY 0)) (yU (lT (iy sN (jB 0) (ji K Z (λ_=>True) EE)) (eY 0)) (yU (lT (iy sN (jB 0) (ji K Z (λ_=>True) EC)) (eY 0)) (yU (lT (iy sN (jB 0) (ji K Z (λ_=>True) EB)) (eY 0)) (yU (lT (iy sN (jB 0) (ji K Z (λ_=>True) EA)) (eY 0)) (Fp (iy sN (jB 0) (ji K Z (λ_=>True) Ez)))))))
theorem I!:dU iG = [qm 0,qm 1,qm 2,qm 3,qm 4,qm 5]:=rfl
theorem ZN (x:fk X K):ff X (dU iG) (aFF K Z):=by
 rw [I!]
 exact (bI (Y5 x) (bI (Y4 x) (bI (Y3 x) (bI (Y2 x) (bI (Y1 x) (eQ (Y0 x)))))))
theorem aBS (G:Fn K mg "_law_b_no_books" iG [] f fd):af P w K mg base a_ 1 f fd [] (wU K):=by
 refine G.fn.ok wV (λvs H Q E h=>?_) (λbj A outer s H vs Q E hr h=>?_)
 ·obtain ⟨_,rfl,_⟩:=h
  rfl
 ·obtain ⟨Z,rfl,hZ,k⟩:=h
  have hx:fk (oG a_ P w K mg base ["found"] "_law_b_no_books" (aL iG) f bj A outer s H E).vd K:=⟨rfl,wV.nd,rfl,rfl⟩
  refine ff.ex (ZN (Z:=Z) hx) ?_
  refine ⟨trivial,hZ,λp0 x0 H0 s0 n0 e0 d0=>?_⟩
  refine ⟨_,rfl,trivial,hZ.same s0,λq1 y1 J1 t1 m1 f1 g1=>?_⟩
  have l1:=aH g1
  have k1:=aH d0
  refine ⟨_,_,_,_,rfl,rfl,t1 _ _ e0,f1,?_,λp1 n1=>?_⟩
  ·rw [l1,k1,Rg]; decide
  have s1:=s0.trans (t1.trans (aE.new (o:=.lst (x0++y1)) n1))
  have e1:upd J1 p1 (.lst (x0++y1)) p1=some (.lst (x0++y1)):=aB
  have d1:=bA ((Vw.same (t1.trans (aE.new (o:=.lst (x0++y1)) n1))).ag _ _ d0) ((Vw.same (aE.new (o:=.lst (x0++y1)) n1)).ag _ _ g1)
  refine ⟨_,rfl,trivial,hZ.same s1,λq2 y2 J2 t2 m2 f2 g2=>?_⟩
  have l2:=aH g2
  have k2:=aH d1
  refine ⟨_,_,_,_,rfl,rfl,t2 _ _ e1,f2,?_,λp2 n2=>?_⟩
  ·rw [l2,k2,Rg]; decide
  have s2:=s1.trans (t2.trans (aE.new (o:=.lst ((x0++y1)++y2)) n2))
  have e2:upd J2 p2 (.lst ((x0++y1)++y2)) p2=some (.lst ((x0++y1)++y2)):=aB
  have d2:=bA ((Vw.same (t2.trans (aE.new (o:=.lst ((x0++y1)++y2)) n2))).ag _ _ d1) ((Vw.same (aE.new (o:=.lst ((x0++y1)++y2)) n2)).ag _ _ g2)
  refine ⟨_,rfl,trivial,hZ.same s2,λq3 y3 J3 t3 m3 f3 g3=>?_⟩
  have l3:=aH g3
  have k3:=aH d2
  refine ⟨_,_,_,_,rfl,rfl,t3 _ _ e2,f3,?_,λp3 n3=>?_⟩
  ·rw [l3,k3,Rg]; decide
  have s3:=s2.trans (t3.trans (aE.new (o:=.lst (((x0++y1)++y2)++y3)) n3))
  have e3:upd J3 p3 (.lst (((x0++y1)++y2)++y3)) p3=some (.lst (((x0++y1)++y2)++y3)):=aB
  have d3:=bA ((Vw.same (t3.trans (aE.new (o:=.lst (((x0++y1)++y2)++y3)) n3))).ag _ _ d2) ((Vw.same (aE.new (o:=.lst (((x0++y1)++y2)++y3)) n3)).ag _ _ g3)
  refine ⟨_,rfl,trivial,hZ.same s3,λq4 y4 J4 t4 m4 f4 g4=>?_⟩
  have l4:=aH g4
  have k4:=aH d3
  refine ⟨_,_,_,_,rfl,rfl,t4 _ _ e3,f4,?_,λp4 n4=>?_⟩
  ·rw [l4,k4,Rg]; decide
  have s4:=s3.trans (t4.trans (aE.new (o:=.lst ((((x0++y1)++y2)++y3)++y4)) n4))
  have e4:upd J4 p4 (.lst ((((x0++y1)++y2)++y3)++y4)) p4=some (.lst ((((x0++y1)++y2)++y3)++y4)):=aB
  have d4:=bA ((Vw.same (t4.trans (aE.new (o:=.lst ((((x0++y1)++y2)++y3)++y4)) n4))).ag _ _ d3) ((Vw.same (aE.new (o:=.lst ((((x0++y1)++y2)++y3)++y4)) n4)).ag _ _ g4)
  refine ⟨_,rfl,trivial,hZ.same s4,λq5 y5 J5 t5 m5 f5 g5=>?_⟩
  have l5:=aH g5
  have k5:=aH d4
  refine ⟨_,_,_,_,rfl,rfl,t5 _ _ e4,f5,?_,λp5 n5=>?_⟩
  ·rw [l5,k5,Rg]; decide
  have s5:=s4.trans (t5.trans (aE.new (o:=.lst (((((x0++y1)++y2)++y3)++y4)++y5)) n5))
  have e5:upd J5 p5 (.lst (((((x0++y1)++y2)++y3)++y4)++y5)) p5=some (.lst (((((x0++y1)++y2)++y3)++y4)++y5)):=aB
  have d5:=bA ((Vw.same (t5.trans (aE.new (o:=.lst (((((x0++y1)++y2)++y3)++y4)++y5)) n5))).ag _ _ d4) ((Vw.same (aE.new (o:=.lst (((((x0++y1)++y2)++y3)++y4)++y5)) n5)).ag _ _ g5)
  exact k p5 _ _ s5 (s4.free (t5.free n5)) e5 d5
def FE (n ku:Int):List PyData:=[.tuple [.int n],.tuple [.int (n+ku)],.tuple [.int (-1)],.tuple [.int (-1),.int 0],.tuple [],.tuple [.int 0,.int 0],.tuple [.int 1,.int 0],.list [.int 0],.none,.tuple [.bool true],.int 0,.str "0",.tuple [.str "0"],.dict []]
theorem H? {n ku:Int} (hf:0<=ku):∀ d∈FE n ku,cT n d=false:=by
 intro d hd
 unfold FE at hd
 simp only [Qj,Qp,or_false] at hd
 have e1:¬ (n < n):=by omega
 have e2:¬ (n+ku < n):=by omega
 rcases hd with rfl | rfl | rfl | rfl | rfl | rfl | rfl | rfl | rfl | rfl | rfl | rfl | rfl | rfl <;> simp [cT,eK,e1,e2]
theorem aFG {n:Int} {a b:List PyData} (h:cT n d=false):bU (.tuple [.int n,.tuple (a++[d]++b)])=false:=by
 show (decide (1<=n) && decide (n<=6) && decide ((a++[d]++b).length<=12) && (a++[d]++b).all (cT n))=false
 simp [h]
mutual
theorem Fx.den (f:Fx S H):∀ (d:PyData) (v:V),eU d=true->Den K H d v->Den K (Vw S H) d v
 | .none,v,_,h=>by unfold Den at h ⊢; exact h
 | .bool b,v,_,h=>by unfold Den at h ⊢; exact h
 | .int i,v,_,h=>by unfold Den at h ⊢; exact h
 | .str x,v,_,h=>by unfold Den at h ⊢; exact h
 | .list ds,v,n,h=>by unfold eU at n; cases n
 | .tuple ds,v,n,h=>by unfold eU at n; unfold Den at h ⊢; obtain ⟨a,xs,h1,h2,h3⟩:=h; exact ⟨a,xs,h1,f.ai h2,Fx.ag f ds xs n h3⟩
 | .dict kvs,v,n,h=>by unfold eU at n; cases n
theorem Fx.ag (f:Fx S H):∀ (ds:List PyData) (xs:List V),gT ds=true->aZ K H ds xs->aZ K (Vw S H) ds xs
 | [],xs,_,h=>by unfold aZ at h ⊢; exact h
 | d::ds,xs,n,h=>by
  unfold gT at n; rw [Jc] at n
  unfold aZ at h ⊢; obtain ⟨x,r,h1,h2,h3⟩:=h; exact ⟨x,r,h1,Fx.den f d x n.1 h2,Fx.ag f ds r n.2 h3⟩
end
theorem az.vw {t:Addr} (e:az t H H') (h:t∈S):aE (Vw S H) (Vw S H'):=Vw.keep λb o n q=>e b o (λz=>n (z ▸ h)) q
theorem Vw.less {p:Addr}:aE (Vw (p::S) H) (Vw S H):=λb o h=>by
 unfold Vw at h ⊢
 by_cases hb:b∈S
 ·rw [if_pos (Ql _ hb)] at h; cases h
 ·rw [if_neg hb]
  by_cases hp:b∈p::S
  ·rw [if_pos hp] at h; cases h
  ·rw [if_neg hp] at h; exact h
theorem Nx {t:Addr} (T:gB K H t a ns) (h:H f=some (.lst xs)):Fx [f,t] H:=λb hb=>by
 rcases Qj.mp hb with rfl | hb
 ·exact ⟨_,h⟩
 ·rw [Qq.mp hb]
  obtain ⟨p,q,_,e⟩:=T.1
  exact ⟨_,e⟩
def RM (K:Rc):Sp:=λvs H Q _=>∃ (t a:Addr) (ns:List Int) (x:V) (n:Int) (ws:List (List Int)),vs = [.ref t,x]/\gB K H t a ns/\Den K H (cJ n ws) x/\bU (cJ n ws)=true /\
 ∀ p xs ds H',az t H H'->gB K H' t a ns->H' p=some (.lst xs)->p≠t->aZ K (Vw [t] H') ds xs->(∀ d∈ds,bU d=false)->ds.length=14->Q (.ref p) H'
theorem jU:ah ["tape", "book", "hands", "works", "far", "at", "found", "bad"] ["tape", "book"] (aL pL):=⟨rfl,rfl,rfl,by decide +kernel,rfl,by decide +kernel,by decide +kernel⟩
def NC:Expr:=match (dU pL).getD 4 (.Pass ⟨0,0,0,0⟩) with
 | .For _ e _ _ _=>e
 | _=>.Constant .none 0 ⟨0,0,0,0⟩
theorem H! {n ku:Int} (h2:X.N[2]?=some ("hands" : Str)) (l2:X.env.scope.names.lookup ("hands" : Str)=some .local) (h4:X.N[4]?=some ("far" : Str)) (l4:X.env.scope.names.lookup ("far" : Str)=some .local) :
  jo X NC (ji K Z (λσ=>σ[2]?=some (some (.int n))/\σ[4]?=some (some (.int ku))) (FE n ku)) :=
 lG (aC (aR (aC (Po (v:=.int n) (pv 2 h2 (.inl l2)) (λσ H Q s q=>⟨_,s.1,q⟩) (λH=>cI.mpr rfl)) aN aFZ) (by show 1<=1000; decide))
  (aC (aR (aC (Po (v:=.int (n+ku)) (bE eA (pv 2 h2 (.inl l2)) (pv 4 h4 (.inl l4))) (λσ H Q s q=>⟨_,s.1,_,s.2,_,_,rfl,rfl,q⟩) (λH=>cI.mpr rfl)) aN sU) (by show 1<=1000; decide))
  (aC (aR (aC xI aN vX)) (aC (aR (aC xI (aC aU aN aF) vX)) (aC (aR aN) (aC (aR (aC aU (aC aU aN aF) aF))
  (aC (aR (aC aU (aC aU aN aF) aF)) (aC (sZ (aC aU aN aF)) (aC qI (aC (aR (aC IU aN aF)) (aC aU (aC mJ
  (aC (aR (aC mJ aN aF)) (aC mK aN pD) aM) aF) aF) aM) aF) fV) aM) aM) aM) aM) aM) aM) aM) (by show 14<=1000; decide)
def SO (K:Rc):TE:=λσ H Q=>∃ (Z:List Addr) (n ku:Int),ji K Z (λσ=>σ[2]?=some (some (.int n))/\σ[4]?=some (some (.int ku))) (FE n ku) σ H Q
theorem ZM (h2:X.N[2]?=some ("hands" : Str)) (l2:X.env.scope.names.lookup ("hands" : Str)=some .local) (h4:X.N[4]?=some ("far" : Str)) (l4:X.env.scope.names.lookup ("far" : Str)=some .local):jo X NC (SO K):=by
 constructor
 intro aa s σ H Q I h
 obtain ⟨Z,n,ku,h⟩:=h
 obtain ⟨go⟩:=H! (K:=K) (Z:=Z) (n:=n) (ku:=ku) h2 l2 h4 l4
 exact go aa s σ H Q I h
theorem aDL (G:Fn K mg "_law_b_faulty" pL ["tape", "book"] f fd) (B:Bl mg) (GD:Fn K mg "_law_b_digit" lI ["tape", "many"] fD qx) (OD:af P w K mg base a_ 2 fD qx ["tape", "many"] (kA K)):af P w K mg base a_ 3 f fd ["tape", "book"] (RM K):=by
 refine G.fn.ok jU (λvs H Q E h=>?_) (λbj A outer s H vs Q E hr h=>?_)
 ·obtain ⟨t,a,ns,x,n,ws,rfl,_⟩:=h
  rfl
 ·obtain ⟨t,a,ns,x,n,ws,rfl,hT,hx,hb,k⟩:=h
  obtain ⟨c,b,ys,rfl,hc,ee,dk⟩:=dM hx
  obtain ⟨jq,ia,Fd,Ah⟩:=bO hb
  have i8:=aH dk
  rw [Qc] at i8
  refine ff.ex (bI ⟨gU (pv 1) (gE rfl (aX (aQ (i:=2) jU.nd rfl (Or.inl rfl)) (aX (aQ (i:=3) jU.nd rfl (Or.inl rfl)) cU)))⟩
   (bI ⟨aT (i:=4) jU.nd rfl (Or.inl rfl) (bH GD OD hr rfl (aA (pv 0) (aA (bE JM aI aI) aD)))⟩
   (bI ⟨aT (i:=5) jU.nd rfl (Or.inl rfl) (bH GD OD hr rfl (aA (pv 0) (aA (bE eA (aV (aCQ rfl) rfl B.min O8 (aA aI (aA (aV bL rfl B.len gY (aA (pv 3) aD)) aD))) aI) aD)))⟩
   (bI ⟨aT (i:=6) jU.nd rfl (Or.inl rfl) (cP aD)⟩
   (bI (rA PassesOwn.never rfl (ZM (K:=K) rfl rfl rfl rfl) (aQ (i:=7) jU.nd rfl (Or.inl rfl))
    (eQ ⟨bX (nS Rr Td Tf iL (pv 6) (aA (cL (aA (pv 2) (aA (bE (iB (K:=K) rfl) (bE (iB (K:=K) rfl) (eZ (gF (K:=K) rfl) (pv 3) hV (gK (pv 5))) (cL (aA (pv 7) aD))) (eZ (gF (K:=K) rfl) (pv 3) (gK (pv 5)) (gK aI))) aD))) aD))⟩) QH)
   (eQ ⟨aY (pv 6)⟩)))))) ?_
  refine ⟨_,rfl,c,_,rfl,hc,rfl,_,_,rfl,_,_,rfl,rfl,?_⟩
  refine ⟨_,rfl,_,_,rfl,rfl,⟨by decide,by decide,by decide⟩,t,a,ns,100000000000000000000,rfl,hT,by decide,by decide,λku H1 mq Ap b1 T1=>?_⟩
  have MM:=hT.ai b1 ee
  have hm:0 < (if (ys.length:Int) < 11 then (ys.length:Int) else 11)+1/\(if (ys.length:Int) < 11 then (ys.length:Int) else 11)+1 < 100:=by split <;> omega
  refine ⟨_,rfl,_,rfl,b,ys,rfl,.inr MM,_,_,rfl,_,_,rfl,rfl,t,a,ns,_,rfl,T1,hm.1,by have:=hm.2; omega,λDc H2 Ht MO b2 T2=>?_⟩
  obtain ⟨m,rfl⟩:∃ m:Nat,Dc=m:=⟨Dc.toNat,by omega⟩
  have KH:=T1.ai b2 MM
  refine ⟨dJ (Jb _),λfl m9=>?_⟩
  have ph:t≠fl:=λz=>T2.ne m9 z.symm
  have F:FR K a fl ns:=PD T2.2 m9
  have s3:=aE.new (o:=.lst []) m9
  have T3:=T2.same s3
  have qa:=s3.ai KH
  have nu:upd H2 fl (.lst []) fl=some (.lst []):=aB
  have BY:az t H (upd H2 fl (.lst [])):=(b1.trans b2).trans (az.of s3)
  have xq:H fl=none:=(b1.trans b2).free m9 (Ne.symm ph)
  have DG:=BY.ag hT.1.choose_spec.choose_spec.2 _ _ (cG _ cK ws) dk
  generalize WQ:upd H2 fl (.lst [])=H3 at T3 BY nu qa DG ⊢
  have f3:Fx [fl,t] H3:=Nx T3 nu
  refine ⟨[fl,t],n,ku,⟨rfl,rfl⟩,f3,λpb bs H4 s4 Lz LU u3=>?_⟩
  have TX:pb≠fl:=λz=>by rw [z,nu] at Lz; cases Lz
  have A2:=s4 _ _ nu
  refine ⟨pb,rfl,⟨_,ak.of LU⟩,jJ (K:=K) (a:=pb) (xs:=bs) (λi σ H5=>∃ xs ds v,σ = [some (.ref t),some (.ref c),some (.int n),some (.ref b),some (.int ku),some (.int m),some (.ref fl),v]/\H5 fl=some (.lst xs)/\aZ K (Vw [fl,t] H5) ds xs/\(∀ d∈ds,bU d=false)/\ds.length=i/\az fl H4 H5)
   ⟨[],[],none,rfl,A2,aW.mpr rfl,λ_ h=>(Qp h).elim,rfl,az.refl _ _⟩ (λi σ H5 _ ⟨_,_,_,_,_,_,_,_,b5⟩=>b5.cm TX (ak.of LU)) ?_ ?_⟩
  ·rintro i y σ H5 hy ⟨xs,ds,v,rfl,EK,hd,h_,hl,b5⟩
   have hi:i < bs.length:=(Qd.mp hy).1
   have aap:bs.length=14:=aH u3
   have pq:=aH hd
   obtain ⟨d,ux,CM⟩:=bS ((az.vw (S:=[fl,t]) b5 (Qk ..)).ag _ _ u3) hy
   have Hm:=H? mq d (Qi ux)
   have ML:=b5.ai A2 (s4.ai qa)
   have Kf:=b5.ag A2 _ _ (cG _ cK ws) (s4.ag _ _ DG)
   refine ⟨_,rfl,.inl ⟨rfl,_,ak.of EK⟩,_,rfl,_,rfl,_,rfl,_,rfl,b,ys,rfl,ML,λp1 H6 s6 q6=>?_⟩
   refine ⟨_,rfl,rj _,λp2 h2=>?_⟩
   have l1:=zQ (xs:=ys) (lo:=none) (hi:=some (m:Int))
   have l2:=zQ (xs:=ys) (lo:=some (m:Int)) (hi:=some 11)
   refine ⟨p1,p2,_,_,rfl,rfl,(aE.new h2).ai q6,aj.of aB,by rw [Rg]; show _+1<=_; omega,λp3 H7 s7 q7=>?_⟩
   have Ln:=s6.trans ((aE.new h2).trans s7)
   refine ⟨_,rfl,_,rfl,_,rfl,_,rfl,b,ys,rfl,Ln.ai ML,λp4 H8 s8 q8=>?_⟩
   refine ⟨p3,p4,_,_,rfl,rfl,s8.ai q7,q8,by rw [Rg,Qn]; show _+1+_<=_; omega,λp5 H9 s9 q9=>?_⟩
   refine ⟨uo _ _,λp6 h6=>?_⟩
   have zu:=Ln.trans (s8.trans (s9.trans (aE.new (o:=.tup [.int n,.ref p5]) h6)))
   have Bp:aj K (upd H9 p6 (.tup [.int n,.ref p5])) p6 [.int n,.ref p5]:=aj.of aB
   have Ls:=(aE.new (o:=.tup [.int n,.ref p5]) h6).ai q9
   generalize upd H9 p6 (.tup [.int n,.ref p5])=jy at zu Bp Ls ⊢
   have DJ:=zu _ _ EK
   have HI:Fx [fl,t] jy:=Nx ((((T3.same s4).wr b5 ph F)).same zu) DJ
   refine ⟨fl,xs,.ref p6,rfl,rfl,DJ,by rw [Rg]; omega,?_⟩
   have DF:=Ab.Fx.ag HI _ _ (cG _ cK ws) (zu.ag _ _ Kf)
   obtain ⟨dA,hA⟩:=xJ (K:=K) (H:=Vw [fl,t] jy) (xs:=kE ys none (some (m:Int))) λx hx=>zX DF x (zP hx)
   obtain ⟨dB,hB⟩:=xJ (K:=K) (H:=Vw [fl,t] jy) (xs:=kE ys (some (m:Int)) (some 11)) λx hx=>zX DF x (zP hx)
   have V3:=(Vw.same (S:=[fl,t]) zu).den _ _ CM
   have key:Den K (Vw [fl,t] jy) (.tuple [.int n,.tuple (dA++[d]++dB)]) (.ref p6):=bF.mpr ⟨p6,_,rfl,HI.ai Bp,aS.mpr ⟨_,_,rfl,cI.mpr rfl,aS.mpr ⟨_,_,rfl,bF.mpr ⟨p5,_,rfl,HI.ai Ls,bA (bA hA (aS.mpr ⟨_,_,rfl,V3,aW.mpr rfl⟩)) hB⟩,aW.mpr rfl⟩⟩⟩
   have wm:az fl jy (upd jy fl (.lst (xs++[.ref p6]))):=az.at
   refine ⟨xs++[.ref p6],ds++[.tuple [.int n,.tuple (dA++[d]++dB)]],_,rfl,aB,(az.vw (S:=[fl,t]) wm (Qk ..)).ag _ _ (bA ((Vw.same zu).ag _ _ hd) (aS.mpr ⟨_,_,rfl,key,aW.mpr rfl⟩)),λd2 h2=>?_,by rw [Qn,hl]; rfl,b5.trans ((az.of zu).trans wm)⟩
   rcases Qw.mp h2 with h | h
   ·exact h_ d2 h
   ·rw [Qq.mp h]; exact aFG Hm
  ·rintro σ H5 ⟨xs,ds,v,rfl,EK,hd,h_,hl,b5⟩
   refine ⟨_,rfl,k fl xs ds H5 (λb o nb hb=>b5 b o (λz=>by rw [z,xq] at hb; cases hb) (s4 _ _ (BY b o nb hb))) ((T3.same s4).wr b5 ph F) EK (Ne.symm ph) (Vw.less.ag _ _ hd) h_ ?_⟩
   rw [hl]
   exact aH u3
end Ab
namespace L2
open PySem
theorem qX {u:TS} {σ:St} (h:te σ H λv H1=>u D (σ.set i (some v)) H1):yU (lT te (eY i)) u D σ H:=h
section
variable {σ:St} {tb:TE} {t:TA} {es:List PyData}
def ED (K:Rc) (S:List Addr) (d:PyData):Hp->V->Prop:=λH v=>Den K (Vw S H) d v
instance:Mo (ED K S d):=⟨λe h=>(Vw.same e).den _ _ h⟩
def AI (H0:Hp) (K:Rc) (S:List Addr) (ds:List PyData) (t:TA) (σ:St):Prop:=∀ H,aE H0 H->Fx S H->∀ Q:List V->Hp->Prop,(∀ vs H',aE H H'->aZ K (Vw S H') ds vs->Q vs H')->t σ H Q
theorem bJ:AI H0 K S [] rK σ:=λH _ _ Q k=>k [] H (aE.refl H) (aW.mpr rfl)
theorem aP (h:Al H0 S te σ (ED K S d)) (r:AI H0 K S ds tr σ):AI H0 K S (d::ds) (lW te tr) σ:=λH s f Q k=>h H s f _ λv H1 s1 d1=>r H1 (s.trans s1) (f.same s1) _ λvs H2 s2 d2=>k _ _ (s1.trans s2) (aS.mpr ⟨v,vs,rfl,(Vw.same s2).den _ _ d1,d2⟩)
theorem cM {i:Int}:Al H0 S (tC (.int i)) σ (ED K S (.int i)):=IH (R:=ED K S (.int i)) (cI.mpr rfl)
theorem ZL:Al H0 S (tC .bw) σ (ED K S .none):=IH (R:=ED K S .none) (mF.mpr rfl)
theorem Pm {i:Int}:Al H0 S (Ld (rU λi=>.int (-i)) (tC (.int i))) σ (ED K S (.int (-i))):=λH s f Q k=>⟨i,rfl,k _ H (aE.refl H) (cI.mpr rfl)⟩
theorem yQ (h:σ[i]?=some (some v)) (r:Den K (Vw S H0) d v):Al H0 S (jB i) σ (ED K S d):=k? (R:=ED K S d) h r
theorem eV (h:AI H0 K S ds t σ) (hn:ds.length<=1000:=by simp):Al H0 S (Df t) σ (ED K S (.tuple ds)):=λH s f Q k=>h H s f _ λvs H1 s1 d=>⟨by rw [aH d,Rg]; omega,λp hp=>k _ _ (s1.trans (aE.new hp)) (bF.mpr ⟨p,vs,rfl,aj.of (Vw.at (f.same s1) hp),(Vw.same (aE.new hp)).ag _ _ d⟩)⟩
theorem iS (h:AI H0 K S ds t σ) (hn:ds.length<=1000:=by simp):Al H0 S (AB t) σ (ED K S (.list ds)):=λH s f Q k=>h H s f _ λvs H1 s1 d=>⟨by rw [aH d,Rg]; omega,λp hp=>k _ _ (s1.trans (aE.new hp)) (eI.mpr ⟨p,vs,rfl,ak.of (Vw.at (f.same s1) hp),(Vw.same (aE.new hp)).ag _ _ d⟩)⟩
theorem ZK (ha:Al H0 S ta σ (ED K S (.tuple ds))) (hb:Al H0 S tb σ (ED K S (.tuple es))) (hn:ds.length+es.length<=1000):Al H0 S (iy (vW K) ta tb) σ (ED K S (.tuple (ds++es))):=λH s f Q k=>ha H s f _ λv H1 s1 d1=>hb H1 (s.trans s1) (f.same s1) _ λu H2 s2 d2=>by
 obtain ⟨p,xs,rfl,g,qp⟩:=bF.mp ((Vw.same s2).den _ _ d1)
 obtain ⟨q,ys,rfl,g',dk⟩:=bF.mp d2
 exact ⟨p,q,xs,ys,rfl,rfl,Vw.sub.ai g,Vw.sub.ai g',by rw [Rg,aH qp,aH dk]; omega,λr H3 s3 g3=>k _ _ (s1.trans (s2.trans s3)) (bF.mpr ⟨r,_,rfl,(((f.same s1).same s2).same s3).ai g3,bA ((Vw.same s3).ag _ _ qp) ((Vw.same s3).ag _ _ dk)⟩)⟩
theorem G? {m:Nat} (ha:Al H0 S ta σ (ED K S (.tuple ds))) (hm:Al H0 S tb σ λ_ v=>v=.int m):Al H0 S (Bi (B0 K) ta (vR tb) nB) σ (ED K S (.tuple (ds.drop m))):=λH s f Q k=>ha H s f _ λv H1 s1 d1=>hm H1 (s.trans s1) (f.same s1) _ λu H2 s2 e=>by
 obtain ⟨p,xs,rfl,g,qp⟩:=bF.mp ((Vw.same s2).den _ _ d1)
 exact ⟨m,e,p,xs,rfl,Vw.sub.ai g,λr H3 s3 g3=>k _ _ (s1.trans (s2.trans s3)) (bF.mpr ⟨r,_,rfl,(((f.same s1).same s2).same s3).ai (by rw [<- kQ]; exact g3),mG m ((Vw.same s3).ag _ _ qp)⟩)⟩
theorem aDM (ha:Al H0 S ta σ (ED K S (.tuple ds))):Al H0 S (F2 (QY K) (lW ta rK)) σ (ED K S (.list ds)):=λH s f Q k=>ha H s f _ λv H1 s1 d1=>by
 obtain ⟨p,xs,rfl,g,qp⟩:=bF.mp d1
 exact ⟨p,xs,rfl,.inr (Vw.sub.ai g),λq hq=>k _ _ (s1.trans (aE.new hq)) (eI.mpr ⟨q,xs,rfl,ak.of (Vw.at (f.same s1) hq),(Vw.same (aE.new hq)).ag _ _ qp⟩)⟩
theorem ZJ {c:Nat} (ha:Al H0 S ta σ (ED K S (.tuple ds))) (h2:c<=1000:=by decide) (hn:ds.length<=1000:=by decide):Al H0 S (iy (O5 K) ta (tC (.int c))) σ (ED K S (.tuple (List.replicate c ds).flatten)):=λH s f Q k=>ha H s f _ λv H1 s1 d1=>by
 obtain ⟨p,xs,rfl,g,qp⟩:=bF.mp d1
 exact ⟨p,c,xs,rfl,rfl,Vw.sub.ai g,h2,by rw [aH qp]; exact hn,λq H' s' hq=>k _ H' (s1.trans s') (bF.mpr ⟨q,_,rfl,((f.same s1).same s').ai hq,lF ((Vw.same s').ag _ _ qp) c⟩)⟩
theorem YW:Al H0 S (tC v) σ λ_ x=>x=v:=λH s f Q k=>k v H (aE.refl H) rfl
theorem pV {Q:VK} (f:Fx S H) (h:AI H K S ds t σ) (k:∀ p xs H1,aE H H1->H1 p=none->aZ K (Vw S H1) ds xs->Q (.ref p) (upd H1 p (.lst xs))) (hn:ds.length<=1000:=by simp):AB t σ H Q:=h H (aE.refl H) f _ λvs H1 s1 d=>⟨by rw [aH d,Rg]; omega,λp hp=>k p vs H1 s1 hp d⟩
theorem Pl:Al H0 S (tC (.str x)) σ (ED K S (.str x)):=IH (R:=ED K S (.str x)) (lC.mpr rfl)
end
section
variable {σ:St}
theorem G! {m:Nat} {Q:VK} (hi:σ[i]?=some (some (.ref c))) (hj:σ[j]?=some (some (.int m))) (hc:aj K H c xs) (hl:xs.length<=100) (hx:∀ H1,aE H H1->∀ Q1:VK,(∀ H2,aE H1 H2->Q1 y H2)->tx σ H1 Q1) (k:∀ r H',aE H H'->aj K H' r (xs.take m++[y]++xs.drop (m+1))->Q (.ref r) H') :
  iy (vW K) (iy (vW K) (Bi (B0 K) (jB i) nB (vR (jB j))) (Df (lW tx rK))) (Bi (B0 K) (jB i) (vR (iy (ur λi j=>.int (i+j)) (jB j) (tC (.int 1)))) nB) σ H Q:=by
 refine ⟨_,hi,_,hj,_,rfl,c,_,rfl,hc,λr1 H1 s1 g1=>?_⟩
 rw [rS] at g1
 refine hx H1 s1 _ λH2 s2=>⟨by rw [Rg]; simp,λr2 fg=>?_⟩
 have l1:(xs.take m).length<=100:=by rw [Qu]; omega
 refine ⟨r1,r2,_,_,rfl,rfl,(s2.trans (aE.new fg)).ai g1,aj.of aB,by rw [Rg]; show _+1<=_; omega,λr3 H3 s3 g3=>?_⟩
 have ml:=s1.trans (s2.trans ((aE.new (o:=.tup [y]) fg).trans s3))
 refine ⟨_,hi,_,hj,_,_,rfl,rfl,_,rfl,c,_,rfl,ml.ai hc,λr4 H4 s4 g4=>?_⟩
 rw [show (m:Int)+1=((m+1:Nat):Int) by omega,kQ] at g4
 have l4:(xs.drop (m+1)).length<=100:=by rw [Jp]; omega
 exact ⟨r3,r4,_,_,rfl,rfl,s4.ai g3,g4,by rw [Rg,Qn]; show _+1+_<=_; omega,λr5 H5 s5 g5=>k r5 H5 (ml.trans (s4.trans s5)) g5⟩
end
end L2
namespace Ab
open PySem L2
theorem nW (hK:X.K=K):dr X (compareOp .NotIn) (Ce K true):=by subst hK; exact lA
theorem pW (h:ds.length≠ws.length):fP ws (.tuple ds)=false:=by
 show (decide (ds.length=ws.length) && _)=false
 rw [decide_eq_false h,Zg]
theorem wW {dA dB:List PyData} (hl:ws[dA.length]?=some l) (h:eG d l=false):fP ws (.tuple (dA++[d]++dB))=false:=by
 show (decide ((dA++[d]++dB).length=ws.length) && ((dA++[d]++dB).zip ws).all λp=>eG p.1 p.2)=false
 have ax:dA.length < ws.length:=(Qd.mp hl).1
 have:((dA++[d]++dB).zip ws).all (λp=>eG p.1 p.2)=false:=by
  rw [List.all_eq_false]
  refine ⟨(d,l),?_,by simp [h]⟩
  refine Jd.mpr ⟨dA.length,?_⟩
  rw [Jh]
  exact ⟨by simp,hl⟩
 rw [this,Zr]
theorem aFJ:fP ws (.tuple [.tuple ds])=false:=by
 cases ws with
 | nil=>exact pW (by simp)
 | cons l r=>exact wW (dA:=[]) (dB:=[]) (l:=l) rfl rfl
theorem F? (h:fP ws (iH hs)=true):hs.length=ws.length:=by
 have h:(decide ((hs.map PyData.int).length=ws.length) && ((hs.map PyData.int).zip ws).all λp=>eG p.1 p.2)=true:=h
 simp only [Jc,decide_eq_true_eq,Qc] at h
 exact h.1
theorem uK {i:Int} (h:∀ x∈l,x≠i):eG (.int i) l=false:=by
 show l.any (·==i)=false
 rw [List.any_eq_false]
 intro x hx
 simpa using h x hx
theorem C3 {t:Addr} (T:gB K H t a ns):Fx [t] H:=λb hb=>by rw [Qq.mp hb]; obtain ⟨p,q,_,e⟩:=T.1; exact ⟨_,e⟩
def Cn (hs:List Int):List PyData:=[.list (hs.map .int),.tuple (hs.map .int++[.int 0]),.none,.str "deal",.tuple [.tuple (hs.map .int)],.str ""]
theorem Pk (h:hs.length=ws.length):∀ d∈Cn hs,fP ws d=false:=by
 intro d hd
 unfold Cn at hd
 simp only [Qj,Qp,or_false] at hd
 rcases hd with rfl | rfl | rfl | rfl | rfl | rfl
 ·rfl
 ·exact pW (by simp [h])
 ·rfl
 ·rfl
 ·exact aFJ
 ·rfl
def IC (n:Int) (l0:List Int):List PyData:=[.int n,.int (-1),.bool true,.none]++l0.map .int
theorem ZI {n:Int} {l0:List Int} (h:∀ x∈l,0<=x/\x < n) (h0:∀ x∈l0,eG (.int x) l=false):∀ d∈IC n l0,eG d l=false:=by
 intro d hd
 unfold IC at hd
 rcases Qw.mp hd with hd | hd
 ·simp only [Qj,Qp,or_false] at hd
  rcases hd with rfl | rfl | rfl | rfl
  ·exact uK λx hx=>by have:=h x hx; omega
  ·exact uK λx hx=>by have:=h x hx; omega
  ·rfl
  ·rfl
 ·obtain ⟨x,hx,rfl⟩:=Qx.mp hd
  exact h0 x hx
theorem U! {n:Int} {l0:List Int}:aZ K H (IC n l0) ([.int n,.int (-1),.bl true,.bw]++l0.map V.int) :=
 bA (aS.mpr ⟨_,_,rfl,cI.mpr rfl,aS.mpr ⟨_,_,rfl,cI.mpr rfl,aS.mpr ⟨_,_,rfl,oZ.mpr rfl,aS.mpr ⟨_,_,rfl,mF.mpr rfl,aW.mpr rfl⟩⟩⟩⟩) (cS.mpr rfl)
def wX (K:Rc):Sp:=λvs H Q _=>∃ (t a:Addr) (ns:List Int) (x y:V) (n:Int) (ws:List (List Int)) (hs:List Int),vs = [.ref t,x,y]/\gB K H t a ns/\gA K H x y n ws hs /\
 ∀ p xs ds H',az t H H'->gB K H' t a ns->H' p=some (.lst xs)->p≠t->aZ K (Vw [t] H') ds xs->(∀ d∈ds,fP ws d=false)->Q (.ref p) H'
theorem jH:ah ["tape", "book", "deal", "found", "at", "odd"] ["tape", "book", "deal"] (aL kS):=⟨rfl,rfl,rfl,by decide +kernel,rfl,by decide +kernel,by decide +kernel⟩
set_option maxHeartbeats 2000000 in
theorem aBT (G:Fn K mg "_law_b_no_deals" kS ["tape", "book", "deal"] f fd) (B:Bl mg) (GD:Fn K mg "_law_b_digit" lI ["tape", "many"] fD qx) (OD:af P w K mg base a_ 2 fD qx ["tape", "many"] (kA K)):af P w K mg base a_ 3 f fd ["tape", "book", "deal"] (wX K):=by
 refine G.fn.ok jH (λvs H Q E h=>?_) (λbj A outer s H vs Q E hr h=>?_)
 ·obtain ⟨t,a,ns,x,y,n,ws,hs,rfl,_⟩:=h
  rfl
 ·obtain ⟨t,a,ns,x,y,n,ws,hs,rfl,hT,g,k⟩:=h
  have r2:ay 2 _:=hr
  refine ⟨_,(aG (aT (i:=3) jH.nd rfl (Or.inl rfl) (cP (aA (cB (uU (K:=K) rfl) rfl B.list JH (aA (pv 2) aD)) (aA (bE (iB (K:=K) rfl) (pv 2) (cL (aA aI aD))) (aA oC (aA gD (aA (cL (aA (pv 2) aD)) (aA gD aD))))))))
  (aG (bT (bB (JO hr.B_) (pv 2) (cL aD) (bD _))
   (aG (aT (i:=3) jH.nd rfl (Or.inl rfl) (bE iM (pv 3) (cP (aA (eZ (gF (K:=K) rfl) (pv 2) (gK aI) hV) (aA (cL aD) aD)))))
  (aG (aT (i:=4) jH.nd rfl (Or.inr rfl) (bH GD OD r2 rfl (aA (pv 0) (aA (aV (kJ (K:=K) rfl) rfl B.len gY (aA (pv 2) aD)) aD))))
  (aG (aT (i:=5) jH.nd rfl (Or.inl rfl) (bE iM (cP (aA (bK (cD (K:=K) rfl) (pv 1) aI (λ_ _=>rfl)) (aA (sK oF aI) (aA eX (aA oC aD))))) (cQ (own:=["hand"]) (fr:=[4,1]) (bc:=["at", "book"]) (bP (aL kS) ["tape", "book", "deal", "found", "at", "odd"] rfl rfl (by decide +kernel)) rfl (fT rfl B.range (aA (bK (cD (K:=K) rfl) (pv 1) aI (λ_ _=>rfl)) aD))
    (λ_ _ _ _=>(aQ (i:=0) (show (["hand", "at", "book"]:List Str).Nodup by decide +kernel) rfl (Or.inl rfl))) (λ_ _ _ _=>qB (bB (nW (K:=K) rfl) (pv 0) (bK (cD (K:=K) rfl) (bK (cD (K:=K) rfl) (pv 2) aI (λ_ _=>rfl)) (pv 1) (λ_ _=>rfl)) (by with_unfolding_all rfl)))
    (λ_ _ _ _=>(pv 0)))))
  (aJ (aT (i:=3) jH.nd rfl (Or.inl rfl) (bE iM (pv 3) (cQ (own:=["hand"]) (fr:=[4,2]) (bc:=["at", "deal"]) (bP (aL kS) ["tape", "book", "deal", "found", "at", "odd"] rfl rfl (by decide +kernel)) rfl (hJ (pv 5))
    (λ_ _ _ _=>(aQ (i:=0) (show (["hand", "at", "deal"]:List Str).Nodup by decide +kernel) rfl (Or.inl rfl))) (λ_ _ _ _=>eO)
    (λ_ _ _ _=>(bE (iB (K:=K) rfl) (bE (iB (K:=K) rfl) (eZ (gF (K:=K) rfl) (pv 2) hV (gK (pv 1))) (cL (aA (pv 0) aD))) (eZ (gF (K:=K) rfl) (pv 2) (gK (bE eA (pv 1) aI)) hV))))))))))
   bG)
  (aJ (aY (pv 3))))),?_⟩
  obtain ⟨jt,jq,ia⟩:=g.len
  obtain ⟨ba,bb,ys,rfl,ha,ee,dk⟩:=dM g.1
  obtain ⟨c,rfl,hc⟩:=bC.mp g.2.2.1
  have hm:(hs.map V.int).length=hs.length:=Qc ..
  have hlen:=F? g.2.2.2
  have f0:Fx [t] H:=C3 hT
  have dv:∀ {H'},aE H H'->Den K (Vw [t] H') (.tuple (hs.map .int)) (.ref c):=λs'=>bC.mpr ⟨c,rfl,(f0.same s').ai (s'.ai hc)⟩
  have HW:=dv (aE.refl H)
  refine qX (pV f0 (aP (aDM (yQ rfl HW)) (aP (ZK (yQ rfl HW) (eV (aP cM bJ)) (by rw [Qc]; show _+1<=_; omega)) (aP ZL (aP Pl (aP (eV (aP (yQ rfl HW) bJ)) (aP Pl bJ)))))) λp0 qk H1 s1 CG d1=>?_)
  have d1:aZ K (Vw [t] H1) (Cn hs) qk:=d1
  have l0:qk.length=6:=aH d1
  have s2:=aE.new (o:=.lst qk) CG
  have e2:upd H1 p0 (.lst qk) p0=some (.lst qk):=aB
  have d2:=(Vw.same (S:=[t]) s2).ag _ _ d1
  have Gm:p0≠t:=(hT.same s1).ne CG
  have zx:=s1.trans s2
  generalize upd H1 p0 (.lst qk)=H2 at s2 e2 d2 zx ⊢
  refine ⟨_,rfl,dJ (Jb _),λz hz=>?_⟩
  have s3:=aE.new (o:=.tup []) hz
  refine ⟨.tuple (hs.map .int),.tuple (([]:List Int).map .int),bC.mpr ⟨c,rfl,(zx.trans s3).ai hc⟩,bC.mpr ⟨z,rfl,aj.of aB⟩,pN _,pN _,pM _,pM _,_,rfl,?_⟩
  have e3:=s3 _ _ e2
  have d3:=(Vw.same (S:=[t]) s3).ag _ _ d2
  have ml:=zx.trans s3
  generalize upd H2 z (.tup [])=H3 at s3 e3 d3 ml ⊢
  refine cR (λc1=>?_) (λc1=>?_)
  ·have cb:hs≠[]:=λz=>by rw [z] at c1; exact absurd c1 (by decide +kernel)
   have qf:0 < hs.length:=Zf.mpr cb
   have XM:=dv ml
   refine qX ⟨_,rfl,pV (f0.same ml) (aP (G? (m:=1) (yQ rfl XM) YW) (aP (eV bJ) bJ)) λp1 uk H4 s4 ib d4=>⟨p0,p1,qk,uk,rfl,rfl,(s4.trans (aE.new ib)) _ _ e3,aB,by rw [aH d4,l0]; exact dJ (show 8<=1000 by decide),λfl m9=>?_⟩⟩
   have l1:uk.length=2:=aH d4
   have F7:=(aE.new (o:=.lst uk) ib).trans (aE.new (o:=.lst (qk++uk)) m9)
   have e5:upd (upd H4 p1 (.lst uk)) fl (.lst (qk++uk)) fl=some (.lst (qk++uk)):=aB
   have d5:=(Vw.same (S:=[t]) F7).ag _ _ (bA ((Vw.same (S:=[t]) s4).ag _ _ d3) d4)
   have T4:=hT.same (ml.trans s4)
   have UB:fl≠t:=(T4.same (aE.new ib)).ne m9
   have Ep:=ml.trans (s4.trans F7)
   generalize upd (upd H4 p1 (.lst uk)) fl (.lst (qk++uk))=H5 at F7 e5 d5 Ep ⊢
   have T5:=hT.same Ep
   refine qX ⟨_,rfl,_,rfl,c,_,rfl,.inr (Ep.ai hc),t,a,ns,_,rfl,T5,by rw [hm]; omega,by rw [hm]; omega,λDc H6 Ht MO b6 T6=>?_⟩
   rw [hm] at MO
   obtain ⟨m,rfl⟩:∃ m:Nat,Dc=m:=⟨Dc.toNat,by omega⟩
   have C_:=(az.of (t:=t) Ep).trans b6
   have V8:=hT.ai C_ hc
   have Hr:=hT.ai C_ ha
   have V_:=hT.ai C_ ee
   have Ke:=C_.ag hT.1.choose_spec.choose_spec.2 _ _ (cG _ cK ws) dk
   have e6:=b6 fl _ UB e5
   have d6:=(az.vw (S:=[t]) b6 (Xg _)).ag _ _ d5
   have G4:m < ws.length:=by omega
   obtain ⟨y,hy,CM⟩:=oH (i:=m) (d:=cZ ws[m]) Ke (by rw [Qh,Qb G4]; rfl)
   obtain ⟨pw,rfl,oj⟩:=bC.mp CM
   have Ah:=(bO g.2.1).2.2.2 ws[m] (Jt G4)
   have vj:ws[m]?=some ws[m]:=Qb G4
   generalize ws[m]=l at oj Ah vj
   obtain ⟨w1,w2,w3⟩:=bV Ah
   refine qX ⟨_,rfl,ba,_,0,.int n,rfl,rfl,Hr,rfl,_,rfl,dJ (show 4<=1000 by decide),λo1 G0=>?_⟩
   have s7:=aE.new (o:=.lst [.int n,.int (-1),.bl true,.bw]) G0
   have e7:upd H6 o1 (.lst [.int n,.int (-1),.bl true,.bw]) o1=some (.lst [.int n,.int (-1),.bl true,.bw]):=aB
   generalize upd H6 o1 (.lst [.int n,.int (-1),.bl true,.bw])=H7 at s7 e7 ⊢
   refine ⟨_,rfl,ba,_,0,.int n,rfl,rfl,s7.ai Hr,rfl,n,rfl,by omega,by omega,jM (lo:=0) (n:=n.toNat) (λσ=>∃ v,σ = [v,some (.int m),some (.ref ba)]) (λi zs H8=>∃ l0:List Int,H8=H7/\zs=l0.map V.int/\(∀ x∈l0,eG (.int x) l=false)/\l0.length<=i) (dJ (by omega)) ⟨none,rfl⟩
    ⟨[],rfl,rfl,λ_ h=>(Qp h).elim,Qe _⟩ ?_ ?_ ?_⟩
   ·rintro i zs H8 ⟨l0,rfl,rfl,_,vq⟩
    rw [Qc]; exact vq
   ·rintro i zs σ H8 hi ⟨v,rfl⟩ ⟨l0,rfl,rfl,h_,vq⟩ hz
    refine ⟨_,rfl,_,rfl,ba,_,1,.ref bb,rfl,rfl,s7.ai Hr,rfl,_,rfl,bb,ys,m,.ref pw,rfl,rfl,s7.ai V_,cW hy,pw,l.map V.int,rfl,.inr (s7.ai oj),rfl,qQ _,_,rfl,?_⟩
    refine cR (λc2=>?_) (λc2=>?_)
    ·refine ⟨_,rfl,hz,⟨_,rfl⟩,l0++[(0+(i:Int))],rfl,by simp,λx hx=>?_,by rw [Qn]; show _+1<=_; omega⟩
     rcases Qw.mp hx with hx | hx
     ·exact h_ x hx
     ·rw [Qq.mp hx]
      have c3:uu (.int (0+(i:Int))) (l.map V.int)=false:=by simpa using c2
      rw [sA] at c3
      exact c3
    ·exact ⟨⟨_,rfl⟩,l0,rfl,rfl,h_,by omega⟩
   ·rintro zs H8 ⟨l0,rfl,rfl,h_,vq⟩ p8 EU
    have hk:=ZI w2 h_
    have LX:(([.int n,.int (-1),.bl true,.bw]:List V)++l0.map V.int).length<=10:=by rw [Qn,Qc]; show 4+_<=_; omega
    refine ⟨o1,p8,_,_,rfl,rfl,(aE.new EU) _ _ e7,aB,dJ (by rw [Qn] at LX; omega),λo2 mz=>?_⟩
    have Lk:=(aE.new (o:=.lst (l0.map V.int)) EU).trans (aE.new (o:=.lst ([.int n,.int (-1),.bl true,.bw]++l0.map V.int)) mz)
    have e9:upd (upd H8 p8 (.lst (l0.map V.int))) o2 (.lst ([.int n,.int (-1),.bl true,.bw]++l0.map V.int)) o2=some (.lst ([.int n,.int (-1),.bl true,.bw]++l0.map V.int)):=aB
    have s9:=s7.trans Lk
    generalize upd (upd H8 p8 (.lst (l0.map V.int))) o2 (.lst ([.int n,.int (-1),.bl true,.bw]++l0.map V.int))=H9 at Lk s9 e9 ⊢
    have od:=λH'=>U! (K:=K) (H:=H') (n:=n) (l0:=l0)
    generalize ([.int n,.int (-1),.bl true,.bw]:List V)++l0.map V.int=xo at LX e9 od
    have T9:=T6.same s9
    refine ⟨_,rfl,_,rfl,o2,rfl,⟨_,ak.of e9⟩,vV (K:=K) (a:=o2) (xs:=xo) (λσ=>∃ v,σ = [v,some (.int m),some (.ref c)]) (λi zs jy=>∃ ds,aE H9 jy/\aZ K (Vw [t] jy) ds zs/\(∀ d∈ds,fP ws d=false)/\ds.length=i) (dJ (by omega)) ⟨none,rfl⟩
     ⟨[],aE.refl _,aW.mpr rfl,λ_ h=>(Qp h).elim,rfl⟩ ?_ ?_ ?_ ?_⟩
    ·rintro i zs jy ⟨ds,_,hd,_,hl⟩
     rw [aH hd,hl]; exact Qe _
    ·rintro i zs jy ⟨ds,pf,_⟩
     exact pf.cm (ak.of e9)
    ·rintro i zs σ x jy hx ⟨v,rfl⟩ ⟨ds,pf,hd,AZ,hl⟩ hz
     obtain ⟨d,ux,_⟩:=bS (od (Vw [t] jy)) hx
     have V1:=hk d (Qi ux)
     refine eT ?_
     refine G! (i:=2) (j:=1) (c:=c) (m:=m) (y:=x) (xs:=hs.map V.int) rfl rfl ((s9.trans pf).ai V8) (by rw [hm]; omega) (λqd _ Q1 q=>⟨_,rfl,q qd (aE.refl _)⟩) λr qd pe BO=>?_
     rw [<- Yv,<- Yw] at BO
     have XB:=(C3 T9).same (pf.trans pe)
     obtain ⟨d',sd,m_⟩:=bS (od (Vw [t] qd)) hx
     obtain rfl:d=d':=by rw [ux] at sd; exact Option.some.inj sd
     refine ⟨hz,⟨_,rfl⟩,ds++[.tuple ((hs.take m).map .int++[d]++(hs.drop (m+1)).map .int)],pf.trans pe,bA ((Vw.same (S:=[t]) pe).ag _ _ hd) (aS.mpr ⟨_,_,rfl,bF.mpr ⟨r,_,rfl,XB.ai BO,bA (bA (cS.mpr rfl) (aS.mpr ⟨_,_,rfl,m_,aW.mpr rfl⟩)) (cS.mpr rfl)⟩,aW.mpr rfl⟩),λd2 h2=>?_,by rw [Qn,hl]; rfl⟩
     rcases Qw.mp h2 with h | h
     ·exact AZ d2 h
     ·rw [Qq.mp h]
      exact wW (l:=l) (by rw [Qc,Qu,Wb (by omega)]; exact vj) V1
    ·rintro zs jy ⟨ds,pf,hd,AZ,hl⟩ Gg AX
     have Gs:=aH hd
     have s_:=s9.trans pf
     refine ⟨fl,Gg,_,_,rfl,rfl,(aE.new AX) _ _ (s_ _ _ e6),aB,dJ (by rw [Qn,Gs,hl]; omega),λEt DM=>?_⟩
     have uq:=(aE.new (o:=.lst zs) AX).trans (aE.new (o:=.lst ((qk++uk)++zs)) DM)
     refine ⟨_,rfl,k Et _ ((Cn hs++_)++ds) _ (C_.trans (az.of (s_.trans uq))) (T6.same (s_.trans uq)) aB ((T6.same (s_.trans (aE.new AX))).ne DM) ((Vw.same (S:=[t]) uq).ag _ _ (bA ((Vw.same (S:=[t]) s_).ag _ _ d6) hd)) (λd h=>?_)⟩
     rcases Qw.mp h with h | h
     ·rcases Qw.mp h with h | h
      ·exact Pk hlen d h
      ·simp only [Qj,Qp,or_false] at h
       rcases h with rfl | rfl
       ·exact pW (by rw [Jp,Qc]; omega)
       ·exact pW (by show 0≠_; omega)
     ·exact AZ d h
  ·exact ⟨_,rfl,k p0 _ (Cn hs) _ (az.of ml) (hT.same ml) e3 Gm d3 (Pk hlen)⟩
end Ab
namespace L2
open PySem
section
variable {σ:St} {t:TA}
theorem T? {c:Nat} (h:AI H0 K S ds t σ) (hc:c<=1000:=by decide) (hn:ds.length<=1000:=by simp) (hm:ds.length*c<=1000:=by simp):Al H0 S (iy OI (AB t) (tC (.int c))) σ (ED K S (.list (List.replicate c ds).flatten)):=λH s f Q k=>h H s f _ λvs H1 s1 d1=>⟨by rw [aH d1,Rg]; omega,λp hp=>⟨p,c,vs,rfl,rfl,aB,by omega,by omega,by rw [aH d1,Rg,Jf]; omega,λq hq=>k _ _ (s1.trans ((aE.new hp).trans (aE.new hq))) (eI.mpr ⟨q,_,rfl,ak.of (Vw.at ((f.same s1).same (aE.new hp)) hq),lF ((Vw.same ((aE.new hp).trans (aE.new hq))).ag _ _ d1) c⟩)⟩⟩
theorem ZH:Al H0 S (iy (rI OT λi j=>.int (i^j.toNat)) (tC (.int 10)) (tC (.int 20))) σ (ED K S (.int (10^20))):=λH s f Q k=>⟨_,_,rfl,rfl,⟨by decide,by decide,by decide⟩,k _ H (aE.refl H) (cI.mpr rfl)⟩
end
end L2
namespace Ab
open PySem L2
def RK (K:Rc):Sp:=λvs H Q _=>∃ (t a:Addr) (ns:List Int),vs = [.ref t]/\gB K H t a ns /\
 ∀ p lp mp xs ys H',az t H H'->gB K H' t a ns->H' p=some (.tup [.ref lp,.ref mp])->ak K H' lp xs->aj K H' mp ys->Q (.ref p) H'
theorem uL:ah ["tape", "lists", "rows"] ["tape"] (aL rY):=⟨rfl,rfl,rfl,by decide +kernel,rfl,by decide +kernel,by decide +kernel⟩
set_option maxHeartbeats 2000000 in
theorem aDN (G:Fn K mg "_law_b_beside" rY ["tape"] f fd) (B:Bl mg) (GD:Fn K mg "_law_b_digit" lI ["tape", "many"] fD qx) (OD:af P w K mg base a_ 2 fD qx ["tape", "many"] (kA K)):af P w K mg base a_ 3 f fd ["tape"] (RK K):=by
 refine G.fn.ok uL (λvs H Q E h=>?_) (λbj A outer s H vs Q E hr h=>?_)
 ·obtain ⟨t,a,ns,rfl,_⟩:=h
  rfl
 ·obtain ⟨t,a,ns,rfl,hT,k⟩:=h
  have r2:ay 2 _:=hr
  refine ff.ex (bI (jY (i:=1) uL.nd rfl (Or.inl rfl) (dX (aO (dX bQ) (aO (dX (aO (fX (aO bW (aO bW (aO bW bQ aF) aF) aF)) bQ aM)) (aO (dX (aO (fX (aO bW bQ aF)) bQ aM)) (aO (dX (aO (fX bQ) bQ aM)) (aO (dX (aO (fX (aO bW (aO bW (aO bW (aO bW bQ aF) aF) aF) aF)) bQ aM)) (aO (dX (aO (fX (aO bW (aO bW (aO bW bQ aF) aF) aF)) bQ aM)) (aO (dX (aO (fX (aO ⟨sK oF aI⟩ (aO bW (aO bW bQ aF) aF) vX)) bQ aM)) (aO ⟨bE Px (cP (aA (cL (aA aI (aA aI (aA aI aD)))) aD)) aI⟩ bQ sU) fV) fV) fV) fV) fV) fV) fV))) (bI (jY (i:=2) uL.nd rfl (Or.inl rfl) (dX (aO (fX (aO bW bQ aF)) (aO (fX bQ) (aO ⟨bE (y? (K:=K) rfl) (cL (aA aI aD)) aI⟩ (aO (fX (aO ⟨bE JM aI aI⟩ bQ sU)) bQ aM) sU) aM) aM))) (eQ ⟨(aY (cL (aA (bK cX (pv 1) (bH GD OD r2 rfl (aA (pv 0) (aA aI aD))) (λ_ _=>rfl)) (aA (bK cX (pv 2) (bH GD OD r2 rfl (aA (pv 0) (aA aI aD))) (λ_ _=>rfl)) aD))))⟩))) ?_
  refine qX (pV (K:=K) (C3 hT) (aP (iS bJ) (aP (iS (aP (eV (aP cM (aP cM (aP cM bJ)))) bJ)) (aP (iS (aP (eV (aP cM bJ)) bJ)) (aP (iS (aP (eV bJ) bJ)) (aP (iS (aP (eV (aP cM (aP cM (aP cM (aP cM bJ))))) bJ)) (aP (iS (aP (eV (aP cM (aP cM (aP cM bJ)))) bJ)) (aP (iS (aP (eV (aP Pm (aP cM (aP cM bJ)))) bJ)) (aP (T? (c:=7) (aP (eV (aP cM (aP cM (aP cM bJ)))) bJ)) bJ)))))))) λp0 va H1 s1 CG d1=>?_)
  have s2:=aE.new (o:=.lst va) CG
  have e2:upd H1 p0 (.lst va) p0=some (.lst va):=aB
  have d2:=(Vw.same (S:=[t]) s2).ag _ _ d1
  have Gm:p0≠t:=(hT.same s1).ne CG
  have zx:=s1.trans s2
  generalize upd H1 p0 (.lst va)=H2 at s2 e2 d2 zx ⊢
  have T2:=hT.same zx
  refine qX (pV (K:=K) (C3 T2) (aP (eV (aP cM bJ)) (aP (eV bJ) (aP (ZJ (c:=7) (eV (aP cM bJ))) (aP (eV (aP ZH bJ)) bJ)))) λp1 kq H3 s3 ib d3=>?_)
  have s4:=aE.new (o:=.lst kq) ib
  have e4:upd H3 p1 (.lst kq) p1=some (.lst kq):=aB
  have d4:=(Vw.same (S:=[t]) s4).ag _ _ d3
  have UK:p1≠t:=(T2.same s3).ne ib
  have Cc:=s3.trans s4
  generalize upd H3 p1 (.lst kq)=H4 at s4 e4 d4 Cc ⊢
  have T4:=T2.same Cc
  have XY:=(Vw.same (S:=[t]) Cc).ag _ _ d2
  have jn:=Cc _ _ e2
  have l0:va.length=8:=aH d2
  have l1:kq.length=4:=aH d4
  refine ⟨_,rfl,_,rfl,t,a,ns,8,rfl,T4,by decide,by decide,λr5 H5 h50 h51 b5 T5=>?_⟩
  obtain ⟨j,rfl⟩:∃ j:Nat,r5=j:=⟨r5.toNat,by omega⟩
  have hj:j < va.length:=by omega
  refine ⟨p0,va,j,va[j],rfl,rfl,ak.of (b5 _ _ Gm jn),cW (Qb hj),?_⟩
  refine ⟨_,rfl,_,rfl,t,a,ns,4,rfl,T5,by decide,by decide,λr6 H6 h60 h61 b6 T6=>?_⟩
  obtain ⟨i,rfl⟩:∃ i:Nat,r6=i:=⟨r6.toNat,by omega⟩
  have hi:i < kq.length:=by omega
  have Fj:=b5.trans b6
  refine ⟨p1,kq,i,kq[i],rfl,rfl,ak.of (Fj _ _ UK e4),cW (Qb hi),uo _ _,λp hp=>?_⟩
  obtain ⟨d,hd,dx⟩:=bS ((az.vw (S:=[t]) Fj (Xg _)).ag _ _ XY) (Qb hj)
  obtain ⟨d',sd,NY⟩:=bS ((az.vw (S:=[t]) Fj (Xg _)).ag _ _ d4) (Qb hi)
  generalize va[j]=x at dx ⊢
  generalize kq[i]=y at NY ⊢
  have ld:∃ ds,d=.list ds:=by
   have:=Qi hd
   simp only [Qj,Qp,or_false] at this
   rcases this with rfl | rfl | rfl | rfl | rfl | rfl | rfl | rfl <;> exact ⟨_,rfl⟩
  have td:∃ ds,d'=.tuple ds:=by
   have:=Qi sd
   simp only [Qj,Qp,or_false] at this
   rcases this with rfl | rfl | rfl | rfl <;> exact ⟨_,rfl⟩
  obtain ⟨ds,rfl⟩:=ld
  obtain ⟨ds',rfl⟩:=td
  obtain ⟨lp,xs,rfl,hl,_⟩:=eI.mp dx
  obtain ⟨mp,ys,rfl,hm,_⟩:=bF.mp NY
  exact k p lp mp xs ys _ ((az.of zx).trans ((az.of Cc).trans (Fj.trans (az.of (aE.new hp))))) (T6.same (aE.new hp)) aB ((aE.new hp).cm (Vw.sub.cm hl)) ((aE.new hp).ai (Vw.sub.ai hm))
end Ab
namespace L2
open PySem
theorem T! {ta:TA} {σ:St} (h:AB ta σ H λx H1=>∃ a,x=.ref a/\(∃ xs,ak K H1 a xs)/\∃ W:Nat->Nat->St->Hp->Prop,(∃ m,W 0 m σ H1)/\∀ i m σ H,W i m σ H->((u7 K a).stop i H/\D.nx σ H)∨((u7 K a).go i H/\∃ N:St->Hp->Prop,(∀ ao H',N ao H'->∃ m',m' < m/\W (i+1) m' ao H') /\
  ∀ x H',(u7 K a).kz i H x H'->g x σ H' λar H2=>tb { D with nx:=N,ct:=N,bk:=D.nx } ar H2)):IF (I_ K (AB ta)) g tb D σ H:=h
end L2
namespace Ab
open PySem L2
theorem aFL {tA tB:TT} {σ:St} {Q:Bool->Hp->Prop} (hA:∀ R:Bool->Hp->Prop,(∀ b,R b H)->tA σ H R) (hB:∀ R:Bool->Hp->Prop,(∀ b,R b H)->tB σ H R) (h:∀ b,Q b H):Ow tA tB σ H Q:=by
 refine hA _ λb=>?_
 cases b with
 | false=>exact iN (h false)
 | true=>exact jD (hB _ h)
theorem nN (v:V):(!decide (v=v))=false:=by simp
theorem WZ {t:Addr} (T:gB K H t a ns):Fx [t] H:=C3 T
def JJ:List (List (List Int)):=[[],[[0,0,0]],[[-1,0,1]],[[12,0,1]],[[0]],[[]]]
theorem aDO (h:hs.length<=12):∀ L∈JJ,oO ws hs L=false/\L.length<=30/\∀ l∈L,l.length<=1000:=by
 have one:∀ {st:List Int},gI ws hs st=false->oO ws hs [st]=false:=λ{st} h=>by
  show (true && (([st]:List (List Int)).all (gI ws hs) && _))=false
  rw [Wp,h,Zg,Zg,Zr]
 have sz:∀ {st:List Int},st.length<=3->([st]:List (List Int)).length<=30/\∀ l∈([st]:List (List Int)),l.length<=1000:=λ{st} h=>⟨by show 1<=30; decide,λl hl=>by rw [Qq.mp hl]; omega⟩
 intro L hL
 unfold JJ at hL
 simp only [Qj,Qp,or_false] at hL
 rcases hL with rfl | rfl | rfl | rfl | rfl | rfl
 ·exact ⟨rfl,by decide,λ_ h=>(Qp h).elim⟩
 ·exact ⟨one (by simp [gI]),sz (by decide)⟩
 ·exact ⟨one (by simp [gI]),sz (by decide)⟩
 ·refine ⟨one ?_,sz (by decide)⟩
  show (decide ((0:Int)<=12) && (decide ((12:Int) < hs.length) && _))=false
  rw [decide_eq_false (show ¬ (12:Int) < hs.length by omega),Zg,Zr]
 ·exact ⟨one rfl,sz (by decide)⟩
 ·exact ⟨one rfl,sz (by decide)⟩
theorem YV {n:Int} (hb:bU (cJ n ws)=true) (hl:l∈ws):l.length<=6:=by
 obtain ⟨jq,ia,_,fv⟩:=bO hb
 have w:=bV (fv l hl)
 have z:=lH (l:=l) (m:=(List.range n.toNat).map Int.ofNat) (w.2.2.imp λ{a b} h=>by omega) λh hh=>Qx.mpr ⟨h.toNat,Xe.mpr (by have:=w.2.1 h hh; omega),by have:=w.2.1 h hh; show ((h.toNat:Nat):Int)=h; omega⟩
 rw [Qc,Xs] at z
 omega
section
variable {c:Nat->Addr}
def FD (K:Rc) (Pt:Addr):Sp:=λvs H Q _=>∃ (a:Addr) (ns:List Int),vs = [.ref a]/\ak K H a (ns.map V.int)/\H Pt=some (.tab pP)/\∀ H',H' Pt=some (.tab pP)->Q (.bl true) H'
theorem jV:ah ["script", "tape", "k", "book", "deal", "odd", "some", "marks", "way"] ["script"] (aL De):=⟨rfl,rfl,rfl,by decide +kernel,rfl,by decide +kernel,by decide +kernel⟩
set_option maxHeartbeats 8000000 in
theorem ZG {fN fF fG fQ:Addr} {dN dF dG dQ:FuncData} (G:Fn K mg "law" De ["script"] f fd) (B:Bl mg) (GB:Fn K mg "_law_b_book" Fv ["tape", "hands", "works"] fB dB) (OB:af P w K mg base a_ 4 fB dB ["tape", "hands", "works"] (Pj K)) (GDl:Fn K mg "_law_b_deal" Dg ["tape", "book"] fE dE) (ODl:af P w K mg base a_ 3 fE dE ["tape", "book"] (Ph K)) (JW:Fn K mg "_law_b_no_books" iG [] fN dN) (ONb:af P w K mg base a_ 1 fN dN [] (wU K)) (GFy:Fn K mg "_law_b_faulty" pL ["tape", "book"] fF dF) (OFy:af P w K mg base a_ 3 fF dF ["tape", "book"] (RM K)) (GNd:Fn K mg "_law_b_no_deals" kS ["tape", "book", "deal"] fG dG) (ONd:af P w K mg base a_ 3 fG dG ["tape", "book", "deal"] (wX K)) (Sd:Fn K mg "_law_b_beside" rY ["tape"] fS dS) (R7:af P w K mg base a_ 3 fS dS ["tape"] (RK K)) (Dw:Fn K mg "_law_b_asked" xZ ["way", "book", "deal", "some", "marks"] fQ dQ) (Dp:af P w K mg base a_ 15 fQ dQ ["way", "book", "deal", "some", "marks"] (QI K c Pt)) :
  af P w K mg base a_ 16 f fd ["script"] (FD K Pt):=by
 refine G.fn.ok jV (λvs H Q E h=>?_) (λbj A outer s H vs Q E hr h=>?_)
 ·obtain ⟨a,ns,rfl,_⟩:=h
  rfl
 ·obtain ⟨a,ns,rfl,iz,yq,k⟩:=h
  have r1:ay 1 _:=hr.mono (by decide)
  have r3:ay 3 _:=hr.mono (by decide)
  have r4:ay 4 _:=hr.mono (by decide)
  have Cf:ay 15 _:=hr
  refine ff.ex (bI ⟨(aT (i:=1) jV.nd rfl (Or.inl rfl) (cP (aA (pv 0) (aA aI (aA aI aD)))))⟩ (bI ⟨(eS PassesOwn.never rfl (fT rfl B.range (aA aI aD)) (aQ (i:=2) jV.nd rfl (Or.inl rfl)) (ff.go (bI ⟨(bT (PW.pt (PN (bB FF (pv 2) aI (bD _)) (QV (bB yX (bK cX (pv 1) aI (λ_ _=>rfl)) (aV bL rfl B.len gY (aA (pv 0) aD)) (bD _)))))
   (aJ aDU)
   bG)⟩ (bI ⟨(aT (i:=3) jV.nd rfl (Or.inr rfl) (bH GB OB r4 rfl (aA (pv 1) (aA aI (aA aI aD)))))⟩ (bI ⟨(aT (i:=4) jV.nd rfl (Or.inr rfl) (bH GDl ODl r3 rfl (aA (pv 1) (aA (pv 3) aD))))⟩ (bI ⟨(eS PassesOwn.never rfl (hJ (bE iM (aD5 ONb r1 rfl JW.Cp JW.kp JW.bd .nil Pa) (bH GFy OFy r3 rfl (aA (pv 1) (aA (pv 3) aD))))) (aQ (i:=5) jV.nd rfl (Or.inl rfl)) (ff.go (bI ⟨(gU (bH Sd R7 r3 rfl (aA (pv 1) aD)) (gE rfl (aX (aQ (i:=6) jV.nd rfl (Or.inr rfl)) (aX (aQ (i:=7) jV.nd rfl (Or.inl rfl)) cU))))⟩ (eQ ⟨(eS PassesOwn.never rfl (fT rfl B.range (aA aI aD)) (aQ (i:=8) jV.nd rfl (Or.inl rfl)) (ff.go (bI ⟨(bT (bB lV (bH Dw Dp Cf rfl (aA (pv 8) (aA (pv 5) (aA oC (aA (pv 6) (aA (pv 7) aD)))))) gD (bD _))
   (aJ (aY eX))
   bG)⟩ (eQ ⟨(bT (bB lV (bH Dw Dp Cf rfl (aA (pv 8) (aA (pv 5) (aA (pv 4) (aA (eZ (aFl (K:=K) rfl) (pv 6) hV (gK aI)) (aA (l! (pv 7) (sK oF aI)) aD)))))) gD (bD _))
   (aJ (aY eX))
   bG)⟩))))⟩))))⟩ (bI ⟨(eS PassesOwn.never rfl (hJ (bH GNd ONd r3 rfl (aA (pv 1) (aA (pv 3) (aA (pv 4) aD))))) (aQ (i:=5) jV.nd rfl (Or.inl rfl)) (ff.go (bI ⟨(gU (bH Sd R7 r3 rfl (aA (pv 1) aD)) (gE rfl (aX (aQ (i:=6) jV.nd rfl (Or.inr rfl)) (aX (aQ (i:=7) jV.nd rfl (Or.inl rfl)) cU))))⟩ (eQ ⟨(eS PassesOwn.never rfl (fT rfl B.range (aA aI aD)) (aQ (i:=8) jV.nd rfl (Or.inl rfl)) (ff.go (eQ ⟨(bT (bB lV (bH Dw Dp Cf rfl (aA (pv 8) (aA (pv 3) (aA (pv 5) (aA (pv 6) (aA (pv 7) aD)))))) gD (bD _))
   (aJ (aY eX))
   bG)⟩)))⟩))))⟩ (bI (rA PassesOwn.never rfl (dX (aO (dX bQ) (aO (dX (aO (fX (aO bW (aO bW (aO bW bQ aF) aF) aF)) bQ aM)) (aO (dX (aO (fX (aO ⟨sK oF aI⟩ (aO bW (aO bW bQ aF) aF) vX)) bQ aM)) (aO (dX (aO (fX (aO bW (aO bW (aO bW bQ aF) aF) aF)) bQ aM)) (aO (dX (aO (fX (aO bW bQ aF)) bQ aM)) (aO (dX (aO (fX bQ) bQ aM)) bQ fV) fV) fV) fV) fV) fV)) (aQ (i:=6) jV.nd rfl (Or.inr rfl)) (eQ ⟨(bT (bB (JO hr.B_) (cQ (own:=["way"]) (fr:=[3,4,6]) (bc:=["book", "deal", "some"]) (bP (aL De) ["script", "tape", "k", "book", "deal", "odd", "some", "marks", "way"] rfl rfl (by decide +kernel)) rfl (hJ (cP (aA aI (aA aI (aA aI aD)))))
    (λ_ _ _ _=>(aQ (i:=0) (show (["way", "book", "deal", "some"]:List Str).Nodup by decide +kernel) rfl (Or.inl rfl))) (λ_ _ _ _=>eO)
    (λ_ _ _ _=>(bH Dw Dp Cf rfl (aA (pv 0) (aA (pv 1) (aA (pv 2) (aA (pv 3) (aA (cL aD) aD)))))))) (cP (aA gD (aA gD (aA gD aD)))) (bD _))
   (aJ (aY eX))
   bG)⟩) QH) (eQ ⟨(eS PassesOwn.never rfl (hJ (bE iM (jo.go (dX (aO bW (aO bW (aO bW (aO bW (aO bW (aO bW bQ aF) aF) aF) aF) aF) aF))) (bE Px (cP (aA aI aD)) (cB aCR rfl B.int O3 (aA (iU yW (aV (aEf rfl) rfl B.sum IY (aA (cQ (own:=["able"]) (fr:=[]) (bc:=[]) (bP (aL De) ["script", "tape", "k", "book", "deal", "odd", "some", "marks", "way"] rfl rfl (by decide +kernel)) rfl (iK (bK (cD (K:=K) rfl) (pv 3) aI (λ_ _=>rfl)))
    (λ_ _ _ _=>(aQ (i:=0) (show (["able"]:List Str).Nodup by decide +kernel) rfl (Or.inl rfl))) (λ_ _ _ _=>eO)
    (λ_ _ _ _=>(aV (kJ (K:=K) rfl) rfl B.len gY (aA (pv 0) aD)))) aD)) aI (bD _)) aD))))) (aQ (i:=8) jV.nd rfl (Or.inl rfl)) (ff.go (eQ ⟨(bT (bB lV (bH Dw Dp Cf rfl (aA (pv 8) (aA (pv 3) (aA (pv 4) (aA (cP aD) (aA (cL (aA aI aD)) aD)))))) gD (bD _))
   (aJ (aY eX))
   bG)⟩)))⟩)))))))))⟩ (eQ ⟨(aY eX)⟩))) ?_
  refine ⟨_,rfl,dJ (show 3<=1000 by decide),λt ht=>?_⟩
  have zk:gB K (upd H t (.lst [.ref a,.int 0,.int 0])) t a ns:=⟨⟨0,0,by decide,aB⟩,(aE.new ht).cm iz⟩
  have LG:Pt≠t:=λz=>by rw [z,ht] at yq; cases yq
  have Gf:=(aE.new (o:=.lst [.ref a,.int 0,.int 0]) ht) _ _ yq
  generalize upd H t (.lst [.ref a,.int 0,.int 0])=H1 at zk Gf ⊢
  refine ⟨3,rfl,by decide,by decide,kM (lo:=0) (n:=3) (λi σ H2=>(∃ v1 v2 v3 v4 v5 v6 v7,σ = [some (.ref a),some (.ref t),v1,v2,v3,v4,v5,v6,v7])/\gB K H2 t a ns/\H2 Pt=some (.tab pP)) ⟨⟨none,none,none,none,none,none,none,rfl⟩,zk,Gf⟩ ?_ ?_⟩
  ·rintro i σ H2 hi ⟨⟨v1,v2,v3,v4,v5,v6,v7,rfl⟩,T2,p2⟩
   obtain ⟨⟨S',q2,my,U2⟩,Kq⟩:=id T2
   refine aFL (λR hR=>⟨_,rfl,_,_,rfl,rfl,_,rfl,hR _⟩) (λR hR=>⟨_,rfl,t,_,1,.int S',rfl,rfl,ak.of U2,rfl,_,rfl,a,_,rfl,.inl Kq,_,_,rfl,rfl,_,rfl,hR _⟩) (λb=>?_)
   refine cR (λ_=>?_) (λ_=>?_)
   ·exact k _ p2
   refine ⟨_,rfl,t,a,ns,rfl,T2,λn ws bp H3 hb b3 T3 sg=>?_⟩
   have MJ:=rE n ws
   obtain ⟨jq,ia,gu,fv⟩:=bO hb
   refine ⟨_,rfl,_,rfl,t,a,ns,.ref bp,n,ws,rfl,T3,sg,hb,λhs dp H5 hd b5 T5 jk=>?_⟩
   have X9:=b3.trans b5
   have Oh:=T3.den b5 MJ sg
   have p5:=X9 _ _ LG p2
   refine ⟨[t],rfl,WZ T5,λp1 kq H6 s6 n6 e6 d6=>?_⟩
   have T6:=T5.same s6
   refine ⟨_,rfl,_,rfl,t,a,ns,.ref bp,n,ws,rfl,T6,s6.den _ _ Oh,hb,λTF ya XN H7 b7 T7 e7 Ey d7 TZ l7=>?_⟩
   have l1:kq.length=41:=aH d6
   have l2:ya.length=14:=(aH d7).trans l7
   refine ⟨p1,TF,kq,ya,rfl,rfl,b7 p1 _ (T5.ne n6) e6,e7,dJ (by omega),λp3 h3=>?_⟩
   have s8:=aE.new (o:=.lst (kq++ya)) h3
   have UJ:p3≠t:=T7.ne h3
   have e8:upd H7 p3 (.lst (kq++ya)) p3=some (.lst (kq++ya)):=aB
   have d8:=(Vw.same (S:=[t]) s8).ag _ _ (bA ((az.vw (S:=[t]) b7 (Xg _)).ag _ _ d6) d7)
   have T8:=T7.same s8
   have TY:∀ d∈sG++XN,bU d=false:=λd h=>(Qw.mp h).elim (aBR d) (TZ d)
   have Om:az t H5 (upd H7 p3 (.lst (kq++ya))):=(az.of s6).trans (b7.trans (az.of s8))
   generalize upd H7 p3 (.lst (kq++ya))=H8 at e8 d8 T8 Om ⊢
   generalize kq++ya=xs8 at e8 d8
   have gd:∀ {H'},az t H5 H'->gA K H' (.ref bp) (.ref dp) n ws hs:=λb=>⟨T5.den b MJ Oh,hb,T5.den b (rD hs) jk,hd⟩
   refine ⟨p3,rfl,⟨_,ak.of e8⟩,jJ (K:=K) (a:=p3) (xs:=xs8) (λ_ σ H9=>∃ v5 v6 v7 v8,σ = [some (.ref a),some (.ref t),some (.int (0+(i:Int))),some (.ref bp),some (.ref dp),v5,v6,v7,v8]/\az t H8 H9/\gB K H9 t a ns) ⟨_,_,_,_,rfl,az.refl _ _,T8⟩ (λ_ σ H9 _ ⟨_,_,_,_,_,b9,_⟩=>b9.cm UJ (ak.of e8)) ?_ ?_⟩
   ·rintro j x σ H9 hx ⟨v5,v6,v7,v8,rfl,b9,T9⟩
    obtain ⟨d,ux,m_⟩:=bS d8 hx
    have h_:=TY d (Qi ux)
    have dx:∀ {H'},az t H8 H'->Den K H' d x:=λb=>Vw.sub.den _ _ ((az.vw (S:=[t]) b (Xg _)).den _ _ m_)
    refine ⟨_,rfl,t,a,ns,rfl,T9,λq lp mp xl xm jy IB JR hq hl hm=>?_⟩
    refine ⟨q,_,rfl,aj.of hq,rfl,_,_,rfl,_,_,rfl,rfl,?_⟩
    have A7:=b9.trans IB
    refine ⟨10,rfl,by decide,by decide,kM (lo:=0) (n:=10) (λ_ σ qd=>∃ v8,σ = [some (.ref a),some (.ref t),some (.int (0+(i:Int))),some (.ref bp),some (.ref dp),some x,some (.ref lp),some (.ref mp),v8]/\aE jy qd) ⟨_,rfl,aE.refl _⟩ ?_ ?_⟩
    ·rintro w' σ qd hw ⟨v8,rfl,pe⟩
     refine ⟨_,rfl,_,rfl,_,rfl,_,rfl,_,x,.bw,.ref lp,.ref mp,rfl,by omega,by omega,.inr ⟨0, "book",by decide,rfl,.inl ⟨d,dx (A7.trans (az.of pe)),h_,rfl⟩,λB6 uq=>⟨rfl,_,rfl,?_⟩⟩⟩
     rw [nN]
     refine iN ?_
     have Dx:=pe.trans uq
     refine ⟨_,rfl,_,rfl,_,rfl,_,rfl,3,rfl,lp,_,rfl,Dx.cm hl,λq1 vk=>?_⟩
     have AQ:=Dx.trans (aE.new (o:=.lst (kE xl none (some 3))) vk)
     generalize upd B6 q1 (.lst (kE xl none (some 3)))=xa at AQ ⊢
     refine ⟨_,rfl,_,rfl,rfl,mp,_,rfl,AQ.ai hm,λq2 Bx=>?_⟩
     have AN:=AQ.trans (aE.new (o:=.tup xm.reverse) Bx)
     generalize upd xa q2 (.tup xm.reverse)=u9 at AN ⊢
     refine ⟨_,x,.ref dp,.ref q1,.ref q2,rfl,by omega,by omega,.inr ⟨0, "book",by decide,rfl,.inl ⟨d,dx (A7.trans (az.of AN)),h_,rfl⟩,λFQ rk=>⟨rfl,_,rfl,?_⟩⟩⟩
     rw [nN]
     refine iN ?_
     exact ⟨_,rfl,AN.trans rk⟩
    ·rintro σ qd ⟨v8,rfl,pe⟩
     exact ⟨_,_,_,_,rfl,A7.trans (az.of pe),JR.same pe⟩
   ·rintro σ H9 ⟨v5,v6,v7,v8,rfl,b9,T9⟩
    have Ol:=Om.trans b9
    refine ⟨_,rfl,_,rfl,_,rfl,t,a,ns,.ref bp,.ref dp,n,ws,hs,rfl,T9,gd Ol,λp4 Sv ds4 jy IB JR Fh J_ X0 J'=>?_⟩
    have A8:=Ol.trans IB
    refine ⟨p4,rfl,⟨_,ak.of Fh⟩,jJ (K:=K) (a:=p4) (xs:=Sv) (λ_ σ qd=>∃ v5 v6 v7 v8,σ = [some (.ref a),some (.ref t),some (.int (0+(i:Int))),some (.ref bp),some (.ref dp),v5,v6,v7,v8]/\az t jy qd/\gB K qd t a ns) ⟨_,_,_,_,rfl,az.refl _ _,JR⟩ (λ_ σ qd _ ⟨_,_,_,_,_,wm,_⟩=>wm.cm J_ (ak.of Fh)) ?_ ?_⟩
    ·rintro j x σ qd hx ⟨v5,v6,v7,v8,rfl,wm,JQ⟩
     obtain ⟨d,ux,m_⟩:=bS X0 hx
     have h_:=J' d (Qi ux)
     have dx:∀ {H'},az t jy H'->Den K H' d x:=λb=>Vw.sub.den _ _ ((az.vw (S:=[t]) b (Xg _)).den _ _ m_)
     refine ⟨_,rfl,t,a,ns,rfl,JQ,λq lp mp xl xm B6 X' T12 hq hl hm=>?_⟩
     refine ⟨q,_,rfl,aj.of hq,rfl,_,_,rfl,_,_,rfl,rfl,?_⟩
     have zp:=wm.trans X'
     refine ⟨6,rfl,by decide,by decide,kM (lo:=0) (n:=6) (λ_ σ xa=>∃ v8,σ = [some (.ref a),some (.ref t),some (.int (0+(i:Int))),some (.ref bp),some (.ref dp),some x,some (.ref lp),some (.ref mp),v8]/\aE B6 xa) ⟨_,rfl,aE.refl _⟩ ?_ ?_⟩
     ·rintro w' σ xa hw ⟨v8,rfl,ju⟩
      have zo:=zp.trans (az.of ju)
      refine ⟨_,rfl,_,rfl,_,rfl,_,rfl,_,rfl,_,.ref bp,x,.ref lp,.ref mp,rfl,by omega,by omega,.inr ⟨2, "deal",by decide,rfl,.inr (.inl ⟨by omega,n,ws,d,(gd (A8.trans zo)).1,hb,dx zo,h_,rfl⟩),λu9 mj=>⟨rfl,_,rfl,?_⟩⟩⟩
      rw [nN]
      refine iN ?_
      exact ⟨_,rfl,ju.trans mj⟩
     ·rintro σ xa ⟨v8,rfl,ju⟩
      exact ⟨_,_,_,_,rfl,zp.trans (az.of ju),T12.same ju⟩
    ·rintro σ qd ⟨v5,v6,v7,v8,rfl,wm,JQ⟩
     have BO:=gd (A8.trans wm)
     have Et:=(A8.trans wm) _ _ LG p5
     obtain ⟨jt,_,_⟩:=BO.len
     have VD:=aDO (ws:=ws) jt
     refine T! (K:=K) (pV (K:=K) (S:=[]) Fx.nil (aP (iS bJ) (aP (iS (aP (eV (aP cM (aP cM (aP cM bJ)))) bJ)) (aP (iS (aP (eV (aP Pm (aP cM (aP cM bJ)))) bJ)) (aP (iS (aP (eV (aP cM (aP cM (aP cM bJ)))) bJ)) (aP (iS (aP (eV (aP cM bJ)) bJ)) (aP (iS (aP (eV bJ) bJ)) bJ)))))) λp6 Bh B6 uq LV XZ=>?_)
     have ju:=uq.trans (aE.new (o:=.lst Bh) LV)
     have HV:upd B6 p6 (.lst Bh) p6=some (.lst Bh):=aB
     have Od:=(aE.new (o:=.lst Bh) LV).ag _ _ (Vw.sub.ag _ _ XZ)
     generalize upd B6 p6 (.lst Bh)=xa at ju HV Od ⊢
     refine ⟨p6,rfl,⟨_,ak.of HV⟩,jJ (K:=K) (a:=p6) (xs:=Bh) (λ_ σ u9=>∃ v6,σ = [some (.ref a),some (.ref t),some (.int (0+(i:Int))),some (.ref bp),some (.ref dp),v5,v6,v7,v8]/\aE xa u9) ⟨_,rfl,aE.refl _⟩ (λ_ σ u9 _ ⟨_,_,mj⟩=>mj.cm (ak.of HV)) ?_ ?_⟩
     ·rintro j x σ u9 hx ⟨v6,rfl,mj⟩
      obtain ⟨d,ux,m_⟩:=bS Od hx
      obtain ⟨L,hL,rfl⟩:∃ L∈JJ,d=.list (L.map cZ):=by
       have:=Qi ux
       simp only [Qj,Qp,or_false] at this
       rcases this with rfl | rfl | rfl | rfl | rfl | rfl
       ·exact ⟨[],by decide,rfl⟩
       ·exact ⟨[[0,0,0]],by decide,rfl⟩
       ·exact ⟨[[-1,0,1]],by decide,rfl⟩
       ·exact ⟨[[12,0,1]],by decide,rfl⟩
       ·exact ⟨[[0]],by decide,rfl⟩
       ·exact ⟨[[]],by decide,rfl⟩
      obtain ⟨pl,xl,rfl,iq,pq⟩:=eI.mp m_
      obtain ⟨nw,WX,Eg⟩:=VD L hL
      have K8:∀ {H'},aE xa H'->so K H' (.ref bp) (.ref dp) pl xl n ws hs L:=λs=>⟨BO.same (ju.trans s),s.cm iq,s.ag _ _ pq,WX,Eg⟩
      refine ⟨dJ (show 3<=1000 by decide),λl2 oq=>?_⟩
      have rk:=mj.trans (aE.new (o:=.lst [.int 4,.int 5,.int 0]) oq)
      have BU:upd u9 l2 (.lst [.int 4,.int 5,.int 0]) l2=some (.lst [.int 4,.int 5,.int 0]):=aB
      generalize upd u9 l2 (.lst [.int 4,.int 5,.int 0])=FQ at rk BU ⊢
      refine ⟨l2,rfl,⟨_,ak.of BU⟩,tF (K:=K) (a:=l2) (xs:=[.int 4,.int 5,.int 0]) (vs:=[.str "way",.str "way",.str "told"]) (λσ=>∃ v,σ = [v,some (.ref bp),some (.ref dp),some (.ref pl)]) (by decide) rfl (ak.of BU) ⟨none,rfl⟩ ?_ ?_⟩
      ·rintro m xv v σ FP fu hv ⟨v0,rfl⟩ zw Q' jw
       have hm:(∃ di:Int,xv=.int di/\(di=4∨di=5)/\v=.str "way")∨(xv=.int 0/\v=.str "told"):=by
        match m,fu,hv with
        | 0,fu,hv=>exact .inl ⟨4,(Option.some.inj fu).symm,.inl rfl,(Option.some.inj hv).symm⟩
        | 1,fu,hv=>exact .inl ⟨5,(Option.some.inj fu).symm,.inr rfl,(Option.some.inj hv).symm⟩
        | 2,fu,hv=>exact .inr ⟨(Option.some.inj fu).symm,(Option.some.inj hv).symm⟩
       have A3:∀ z H',FP z=none->H'=upd FP z (.tup [])->aE xa H':=λz H' hz e=>by rw [e]; exact rk.trans (zw.trans (aE.new hz))
       rcases hm with ⟨di,rfl,Ky,rfl⟩ | ⟨rfl,rfl⟩
       ·refine ⟨_,rfl,_,rfl,_,rfl,_,rfl,dJ (Jb _),λz hz=>?_⟩
        refine ⟨di,.ref bp,.ref dp,.ref pl,.ref z,rfl,by omega,by omega,.inr ⟨7, "way",by decide,rfl,.inr (.inr ⟨Ky,pl,xl,n,ws,hs,L,rfl,K8 (A3 z _ hz rfl),nw,rfl⟩),λFO n_=>?_⟩⟩
        exact jw _ _ ⟨_,rfl⟩ ((aE.new hz).trans n_)
       ·refine ⟨_,rfl,_,rfl,_,rfl,_,rfl,dJ (Jb _),λz hz=>?_⟩
        have w1:=K8 (A3 z _ hz rfl)
        refine ⟨0,.ref bp,.ref dp,.ref pl,.ref z,rfl,by omega,by omega,.inl ⟨n,ws,hs,⟨w1.1,(ju.trans (A3 z _ hz rfl)) _ _ Et,by decide,by decide,λ_=>⟨pl,xl,L,rfl,w1⟩,λh=>absurd h (by decide)⟩,λFO n_=>?_⟩⟩
        exact jw _ _ ⟨_,rfl⟩ ((aE.new hz).trans n_)
      ·rintro FP zw z hz
       have n_:=aE.new (o:=.lst [.str "way",.str "way",.str "told"]) hz
       refine ⟨Lg _ _ _,λz2 uw=>?_⟩
       have Cd:=aE.new (o:=.lst [.str "way",.str "way",.str "told"]) uw
       have dd:∀ {H'},aZ K H' [.str "way",.str "way",.str "told"] [.str "way",.str "way",.str "told"]:=aS.mpr ⟨_,_,rfl,lC.mpr rfl,aS.mpr ⟨_,_,rfl,lC.mpr rfl,aS.mpr ⟨_,_,rfl,lC.mpr rfl,aW.mpr rfl⟩⟩⟩
       refine ⟨.list [.str "way",.str "way",.str "told"],.list [.str "way",.str "way",.str "told"],eI.mpr ⟨z,_,rfl,ak.of (Cd _ _ aB),dd⟩,eI.mpr ⟨z2,_,rfl,ak.of aB,dd⟩,by decide +kernel,by decide +kernel,by decide +kernel,by decide +kernel,_,rfl,?_⟩
       rw [show (!PyData.eqv (.list [.str "way",.str "way",.str "told"]) (.list [.str "way",.str "way",.str "told"]))=false by decide +kernel]
       refine iN ?_
       exact ⟨_,rfl,rk.trans (zw.trans (n_.trans Cd))⟩
     ·rintro σ u9 ⟨v6,rfl,mj⟩
      have ua:=ju.trans mj
      have Nw:=BO.same ua
      have Lx:=ua _ _ Et
      have T14:=JQ.same ua
      obtain ⟨ba,bb,ys,XJ,ha,ee,dk⟩:=dM Nw.1
      obtain rfl:bp=ba:=by injection XJ
      have i8:=aH dk
      rw [Qc] at i8
      refine ⟨dJ (show 6<=1000 by decide),λo1 G0=>⟨rj _,λo2 mz=>?_⟩⟩
      have rk:=aE.new (o:=.lst [.int 1,.int 2,.int 3,.int 6,.int 8,.int 9]) G0
      have BU:upd u9 o1 (.lst [.int 1,.int 2,.int 3,.int 6,.int 8,.int 9]) o1=some (.lst [.int 1,.int 2,.int 3,.int 6,.int 8,.int 9]):=aB
      generalize upd u9 o1 (.lst [.int 1,.int 2,.int 3,.int 6,.int 8,.int 9])=FQ at rk BU mz ⊢
      have zw:=aE.new (o:=.lst [.int 7]) mz
      have NX:upd FQ o2 (.lst [.int 7]) o2=some (.lst [.int 7]):=aB
      have jz:=rk.trans zw
      have D1:=zw _ _ BU
      generalize upd FQ o2 (.lst [.int 7])=FP at zw NX jz D1 ⊢
      refine ⟨_,rfl,bp,_,1,.ref bb,rfl,rfl,jz.ai ha,rfl,bb,rfl,⟨_,jz.ai ee⟩,tG (K:=K) (a:=bb) (xs:=ys) (vs:=(ws.map λl=>(l.length:Int)).map V.int) (λσ=>∃ v,σ = [v]) (by omega) (by rw [Qc,Qc,i8]) (jz.ai ee) ⟨none,rfl⟩ ?_ ?_⟩
      ·rintro m xv v σ FO fu hv ⟨v0,rfl⟩ n_ Q' jw
       obtain ⟨dv,dm,ie⟩:=bS dk fu
       rw [Qh] at dm hv
       rw [Qh] at hv
       cases q:ws[m]? with
       | none=>rw [q] at dm; cases dm
       | some l =>
        rw [q] at dm hv
        obtain rfl:cZ l=dv:=Option.some.inj dm
        obtain rfl:V.int (l.length:Int)=v:=Option.some.inj hv
        obtain ⟨pw,rfl,oj⟩:=bC.mp ie
        refine ⟨_,rfl,pw,_,rfl,.inr ((jz.trans n_).ai oj),?_⟩
        rw [Qc]
        exact jw _ _ ⟨_,rfl⟩ (aE.refl _)
      ·rintro FO n_ z hz
       have oz:=n_.trans (aE.new (o:=.lst ((ws.map λl=>(l.length:Int)).map V.int)) hz)
       refine ⟨z,_,rfl,ak.of aB,λm hm=>?_,by rw [Qc]; omega,?_⟩
       ·obtain ⟨l,hl,rfl⟩:=Qx.mp hm
        have:=YV hb hl
        omega
       generalize upd FO z (.lst ((ws.map λl=>(l.length:Int)).map V.int))=R_ at oz ⊢
       refine ⟨_,_,rfl,rfl,.inr ⟨_,rfl,?_⟩⟩
       generalize (decide (iW (ws.map λl=>(l.length:Int)) < 20))=bo
       refine ⟨o2,_,_,rfl,rfl,oz _ _ NX,by cases bo <;> decide,by cases bo <;> decide,dJ (by cases bo <;> decide),λo3 LZ=>?_⟩
       refine ⟨o1,o3,_,_,rfl,rfl,(oz.trans (aE.new LZ)) _ _ D1,aB,dJ (by cases bo <;> decide),λo4 LY=>?_⟩
       have MN:∀ x∈([V.int 1,.int 2,.int 3,.int 6,.int 8,.int 9]++(List.replicate (Int.toNat (if bo=true then 1 else 0)) [V.int 7]).flatten),∃ wy:Int,x=.int wy/\1<=wy/\wy<=9/\wy≠4/\wy≠5:=by
        intro x hx
        rcases Qw.mp hx with hx | hx
        ·simp only [Qj,Qp,or_false] at hx
         rcases hx with rfl | rfl | rfl | rfl | rfl | rfl <;> exact ⟨_,rfl,by decide,by decide,by decide,by decide⟩
        ·obtain ⟨r,CF,hx⟩:=List.mem_flatten.mp hx
         rw [Zw CF] at hx
         rw [Qq.mp hx]
         exact ⟨7,rfl,by decide,by decide,by decide,by decide⟩
       generalize ([V.int 1,.int 2,.int 3,.int 6,.int 8,.int 9]++(List.replicate (Int.toNat (if bo=true then 1 else 0)) [V.int 7]).flatten)=B' at MN LY ⊢
       have F_:=jz.trans (oz.trans ((aE.new (o:=.lst (List.replicate (Int.toNat (if bo=true then 1 else 0)) [V.int 7]).flatten) LZ).trans (aE.new (o:=.lst B') LY)))
       have HU:upd (upd R_ o3 (.lst (List.replicate (Int.toNat (if bo=true then 1 else 0)) [V.int 7]).flatten)) o4 (.lst B') o4=some (.lst B'):=aB
       generalize upd (upd R_ o3 (.lst (List.replicate (Int.toNat (if bo=true then 1 else 0)) [V.int 7]).flatten)) o4 (.lst B')=H19 at F_ HU ⊢
       refine ⟨o4,rfl,⟨_,ak.of HU⟩,jJ (K:=K) (a:=o4) (xs:=B') (λ_ σ B5=>∃ v8,σ = [some (.ref a),some (.ref t),some (.int (0+(i:Int))),some (.ref bp),some (.ref dp),v5,v6,v7,v8]/\aE H19 B5) ⟨_,rfl,aE.refl _⟩ (λ_ σ B5 _ ⟨_,_,Bo⟩=>Bo.cm (ak.of HU)) ?_ ?_⟩
       ·rintro j x σ B5 hx ⟨v8,rfl,Bo⟩
        obtain ⟨wy,rfl,w1,w9,w4,w5⟩:=MN x (Qi hx)
        refine ⟨_,rfl,_,rfl,_,rfl,dJ (Jb _),λq1 vk=>⟨rj _,λq2 Bx=>?_⟩⟩
        have F9:=(aE.new (o:=.lst []) vk).trans (aE.new (o:=.tup [.int 0]) Bx)
        have NV:upd (upd B5 q1 (.lst [])) q2 (.tup [.int 0]) q2=some (.tup [.int 0]):=aB
        generalize upd (upd B5 q1 (.lst [])) q2 (.tup [.int 0])=H21 at F9 NV ⊢
        have zb:=F_.trans (Bo.trans F9)
        refine ⟨wy,.ref bp,.ref dp,.ref q1,.ref q2,rfl,by omega,by omega,.inl ⟨n,ws,hs,⟨Nw.same zb,zb _ _ Lx,w4,w5,λh=>by omega,λ_=>⟨q2,[0],rfl,aj.of NV⟩⟩,λH22 SY=>⟨rfl,_,rfl,?_⟩⟩⟩
        rw [nN]
        refine iN ?_
        exact ⟨_,rfl,Bo.trans (F9.trans SY)⟩
       ·rintro σ B5 ⟨v8,rfl,Bo⟩
        have sf:=F_.trans Bo
        exact ⟨⟨_,_,_,_,_,_,_,rfl⟩,T14.same sf,sf _ _ Lx⟩
  ·rintro σ H2 ⟨_,_,p2⟩
   exact k _ p2
end
end Ab
namespace Ab
open PySem L2 PyProof.Rows
theorem YU (X:K.In h) (G:h.Ns mainGlobals mg) {kV:Value} (hb:∀ (kV doc pm:Value) (an:Option Addr) (bj ct:Value) (us:List Value),us.length=ps.length->bindArgs (Tv x x (jW st) (dU st) (aL st) .none kV doc pm an bj ct) ⟨us,[]⟩=pure (ps.zip us)) (a:Rk K mainGlobals x=some (some (.ref f))) (l:K.lookup f=some ⟨oc,od,.func (Tv x x (jW st) (dU st) (aL st) .none kV doc pm an bj ct),ql⟩) (c:Vn K bj x=true) (k:Tt K (.ref f)=true) :
  ∃ f fd,Fn K mg x st ps f fd:=by
 have F:=Pw (st:=st) l c k
 exact ⟨f,_,F,Rx X G a,k,F.binds hb⟩
theorem ZF (X:K.In h) (G:h.Ns mainGlobals mg) {kV:Value} (hb:∀ (kV doc pm:Value) (an:Option Addr) (bj ct:Value) (us:List Value),us.length=ps.length->bindArgs (Tv x x (jW st) (dU st) (aL st) .none kV doc pm an bj ct) ⟨us,[]⟩=pure (ps.zip us)) (a:Rk K mainGlobals x=some (some (.ref f))) (l:K.lookup f=some ⟨oc,od,.func (Tv x x (jW st) (dU st) (aL st) .none kV doc pm an bj ct),ql⟩) (c:Vn K bj x=true) (k:Tt K (.ref f)=true) :
  ∃ f fd,Fn K mg x st ps f fd/\fd.code=bj:=by
 have F:=Pw (st:=st) l c k
 exact ⟨f,_,⟨F,Rx X G a,k,F.binds hb⟩,rfl⟩
theorem YT (X:K.In h) (G:h.Ns mainGlobals mg) {t6 F3:Tok} (z0:Rk K mainGlobals "isinstance" = some none) (z1:Rk K mainGlobals "int" = some none) (z2:Rk K mainGlobals "bool" = some none) (z3:Rk K mainGlobals "tuple" = some none) (z4:Rk K mainGlobals "list" = some none) (z5:Rk K mainGlobals "len" = some none) (z6:Rk K mainGlobals "all" = some none) (z7:Rk K mainGlobals "zip" = some none) (z8:Rk K mainGlobals "range" = some none) (z9:Rk K mainGlobals "sorted" = some none) (B9:Rk K mainGlobals "set" = some none) (Su:Rk K mainGlobals "sum" = some none) (Ss:Rk K mainGlobals "repr" = some none) (Sr:Rk K mainGlobals "enumerate" = some none) (Sq:Rk K mainGlobals "min" = some none) (So:Rk K mainGlobals "any" = some none) (Sn:Rk K mainGlobals "ValueError" = some none) (zA:Rk K mainGlobals "MOST_HANDS" = some (some (.int 6 t6))) (zB:Rk K mainGlobals "MOST_WORKS" = some (some (.int 12 F3))):Bl mg :=
 ⟨Ro X G z0,Ro X G z1,Ro X G z2,Ro X G z3,Ro X G z4,Ro X G z5,Ro X G z6,Ro X G z7,Ro X G z8,Ro X G z9,Ro X G B9,Ro X G Su,Ro X G Ss,Ro X G Sr,Ro X G Sq,Ro X G So,Ro X G Sn,⟨_,Rx X G zA⟩,⟨_,Rx X G zB⟩⟩
theorem YS (X:K.In h) (G:h.Ns mainGlobals mg) {a0 a1 a2 a3 a4 a5 a6 a7 a8 a9 q_:Addr} (zE:Rk K mainGlobals "DealError" = some (some (.ref cE))) (qE:lg K cE il=true) (z0:Rk K mainGlobals "NoBook" = some (some (.ref a0))) (q0:lg K a0 (.ref cE::il)=true) (z1:Rk K mainGlobals "NoCosts" = some (some (.ref a1))) (q1:lg K a1 (.ref cE::il)=true) (z2:Rk K mainGlobals "NoDeal" = some (some (.ref a2))) (q2:lg K a2 (.ref cE::il)=true) (z3:Rk K mainGlobals "NoHand" = some (some (.ref a3))) (q3:lg K a3 (.ref cE::il)=true) (z4:Rk K mainGlobals "NoRooms" = some (some (.ref a4))) (q4:lg K a4 (.ref cE::il)=true) (z5:Rk K mainGlobals "NoRow" = some (some (.ref a5))) (q5:lg K a5 (.ref cE::il)=true) (z6:Rk K mainGlobals "NoText" = some (some (.ref a6))) (q6:lg K a6 (.ref cE::il)=true) (z7:Rk K mainGlobals "NoWay" = some (some (.ref a7))) (q7:lg K a7 (.ref cE::il)=true) (z8:Rk K mainGlobals "NoWeights" = some (some (.ref a8))) (q8:lg K a8 (.ref cE::il)=true) (z9:Rk K mainGlobals "NoWork" = some (some (.ref a9))) (q9:lg K a9 (.ref cE::il)=true) (B9:Rk K mainGlobals "TooMany" = some (some (.ref q_))) (Bp:lg K q_ (.ref cE::il)=true) (nd : [cE,a0,a1,a2,a3,a4,a5,a6,a7,a8,a9,q_].Nodup):∃ cE c,Cl K mg cE c:=by
 have hl:∀ i,i < 11->∃ a,[a0,a1,a2,a3,a4,a5,a6,a7,a8,a9,q_][i]?=some a:=λi hi=>⟨_,Qb (l:=[a0,a1,a2,a3,a4,a5,a6,a7,a8,a9,q_]) (i:=i) hi⟩
 have hc:∀ (i:Nat) (a:Addr),[a0,a1,a2,a3,a4,a5,a6,a7,a8,a9,q_][i]?=some a->(λi:Nat=>([a0,a1,a2,a3,a4,a5,a6,a7,a8,a9,q_][i]?).getD 0) i=a:=λi a e=>by show ([a0,a1,a2,a3,a4,a5,a6,a7,a8,a9,q_][i]?).getD 0=a; rw [e]; rfl
 have UG : [a0,a1,a2,a3,a4,a5,a6,a7,a8,a9,q_].Nodup:=(Jw.mp nd).2
 have UD:cE∉[a0,a1,a2,a3,a4,a5,a6,a7,a8,a9,q_]:=(Jw.mp nd).1
 refine ⟨cE,λi=>([a0,a1,a2,a3,a4,a5,a6,a7,a8,a9,q_][i]?).getD 0,⟨λi n e=>?_,λi hi=>?_,λi j hi hj e=>?_,λi hi e=>?_,Rx X G zE,aEt qE⟩⟩
 ·match i,e with
  | 0,e=>injection e with e; subst e; exact Rx X G z0
  | 1,e=>injection e with e; subst e; exact Rx X G z1
  | 2,e=>injection e with e; subst e; exact Rx X G z2
  | 3,e=>injection e with e; subst e; exact Rx X G z3
  | 4,e=>injection e with e; subst e; exact Rx X G z4
  | 5,e=>injection e with e; subst e; exact Rx X G z5
  | 6,e=>injection e with e; subst e; exact Rx X G z6
  | 7,e=>injection e with e; subst e; exact Rx X G z7
  | 8,e=>injection e with e; subst e; exact Rx X G z8
  | 9,e=>injection e with e; subst e; exact Rx X G z9
  | 10,e=>injection e with e; subst e; exact Rx X G B9
  | n+11,e=>exact absurd (Qd.mp e).1 (by show ¬ n+11 < 11; omega)
 ·match i,hi with
  | 0,_=>exact iD qE q0
  | 1,_=>exact iD qE q1
  | 2,_=>exact iD qE q2
  | 3,_=>exact iD qE q3
  | 4,_=>exact iD qE q4
  | 5,_=>exact iD qE q5
  | 6,_=>exact iD qE q6
  | 7,_=>exact iD qE q7
  | 8,_=>exact iD qE q8
  | 9,_=>exact iD qE q9
  | 10,_=>exact iD qE Bp
  | n+11,hi=>omega
 ·obtain ⟨a,ea⟩:=hl i hi
  obtain ⟨b,eb⟩:=hl j hj
  have e':a=b:=(hc i a ea).symm.trans (e.trans (hc j b eb))
  subst e'
  have vy:i < [a0,a1,a2,a3,a4,a5,a6,a7,a8,a9,q_].length:=hi
  exact (Yr vy UG).mp (ea.trans eb.symm)
 ·obtain ⟨a,ea⟩:=hl i hi
  have e':a=cE:=(hc i a ea).symm.trans e
  subst e'
  exact UD (Qi ea)
theorem S? {l:Iv} {fa:Addr} (VU:mg "law" = some (.ref fa)) (B:Bl mg) (WS:∃ cE c,Cl K mg cE c) (Hy:∃ f fd,Fn K mg "levels_or_way" yy ["book", "deal"] f fd/\fd.code=.ref c) (hZ:∀ base:Heap,base.BuiltinsAt mg Pt->Lm K mg base c Pt) (hW:∃ f fd,Fn K mg "is_whole" oJ ["thing"] f fd) (hH:∃ f fd,Fn K mg "are_hands" tN ["thing"] f fd) (qw:∃ f fd,Fn K mg "is_work" tO ["hands", "thing"] f fd) (Nm:∃ f fd,Fn K mg "is_book" tP ["thing"] f fd) (Nh:∃ f fd,Fn K mg "is_deal" xW ["book", "thing"] f fd) (M1:∃ f fd,Fn K mg "need_book" JG ["book"] f fd) (M0:∃ f fd,Fn K mg "need_deal" JF ["book", "deal"] f fd) (hC:∃ f fd,Fn K mg "counted" mP ["hands", "deal"] f fd) (hL:∃ f fd,Fn K mg "loads" JE ["book", "deal"] f fd) (Nd:∃ f fd,Fn K mg "falling" pI ["book", "deal"] f fd) (Au:∃ f fd,Fn K mg "handing" mQ ["book", "deal"] f fd) (MW:∃ f fd,Fn K mg "reached" pJ ["rows", "first"] f fd) (MR:∃ f fd,Fn K mg "way_to" xX ["found", "last"] f fd) (MV:∃ f fd,Fn K mg "is_step" tQ ["book", "deal", "step"] f fd) (MP:∃ f fd,Fn K mg "is_way" vE ["book", "deal", "some"] f fd) (MY:∃ f fd,Fn K mg "need_way" oK ["book", "deal", "some"] f fd) (Nb:∃ f fd,Fn K mg "gone" wE ["book", "deal", "some"] f fd) (Np:∃ f fd,Fn K mg "betters" pK ["book", "deal", "some"] f fd) (Nr:∃ f fd,Fn K mg "are_levels" nD ["book", "deal", "levels"] f fd) (Nk:∃ f fd,Fn K mg "bettered" gZ ["book", "deal"] f fd) (Nf:∃ f fd,Fn K mg "evenest" gR ["book"] f fd) (Nu:∃ f fd,Fn K mg "is_as_even" rX ["book", "deal", "work", "hand"] f fd) (M4:∃ f fd,Fn K mg "may_go" qP ["book"] f fd) (MQ:∃ f fd,Fn K mg "with_work" xY ["rows", "takers", "levels"] f fd) (Ng:∃ f fd,Fn K mg "even_loads" iE ["book"] f fd) (M3:∃ f fd,Fn K mg "may_have" iF ["book"] f fd) (M9:∃ f fd,Fn K mg "how_many" mR ["book"] f fd) (hS:∃ f fd,Fn K mg "_law_b_stirred" Fw ["cell", "at"] f fd) (hD:∃ f fd,Fn K mg "_law_b_digit" lI ["tape", "many"] f fd) (MT:∃ f fd,Fn K mg "_law_b_work" wF ["tape", "hands", "kind"] f fd) (Nn:∃ f fd,Fn K mg "_law_b_book" Fv ["tape", "hands", "works"] f fd) (Nj:∃ f fd,Fn K mg "_law_b_deal" Dg ["tape", "book"] f fd) (M7:∃ f fd,Fn K mg "_law_b_kinds" tR ["e"] f fd) (MS:∃ f fd,Fn K mg "_law_b_word" Fu ["e"] f fd) (MZ:∃ f fd,Fn K mg "_law_b_no_books" iG [] f fd) (Nt:∃ f fd,Fn K mg "_law_b_ask" Fm ["way", "book", "deal", "some", "marks"] f fd) (Nq:∃ f fd,Fn K mg "_law_b_asked" xZ ["way", "book", "deal", "some", "marks"] f fd) (Ni:∃ f fd,Fn K mg "_law_b_no_deals" kS ["tape", "book", "deal"] f fd) (Nc:∃ f fd,Fn K mg "_law_b_faulty" pL ["tape", "book"] f fd) (Nl:∃ f fd,Fn K mg "_law_b_beside" rY ["tape"] f fd) (M5:∃ f fd,Fn K mg "law" De ["script"] f fd)
  : ∃ fd:FuncData,(∀ (s:Shared) (v:Value),BindsTo s fd ⟨[v],[]⟩ [("script",v)])/\∀ base:Heap,K.In base->base.Ns mainGlobals mg->base.BuiltinsAt mg Pt->af l.prog w K mg base a_ 16 fa fd ["script"] (FD K Pt):=by
 obtain ⟨NK,N5,LO,hc⟩:=Hy
 obtain ⟨fW,dW,W⟩:=hW
 obtain ⟨fH,dH,H⟩:=hH
 obtain ⟨W8,XS,Kw⟩:=qw
 obtain ⟨W_,XW,BP⟩:=Nm
 obtain ⟨W9,XT,DP⟩:=Nh
 obtain ⟨gk,gm,NB⟩:=M1
 obtain ⟨f',f_,ND⟩:=M0
 obtain ⟨fC,dC,C⟩:=hC
 obtain ⟨fL,dL,L⟩:=hL
 obtain ⟨fFA,dFA,FA⟩:=Nd
 obtain ⟨fHD,dHD,HD⟩:=Au
 obtain ⟨fRC,dRC,RC⟩:=MW
 obtain ⟨fWT,dWT,WT⟩:=MR
 obtain ⟨fST,dST,ST⟩:=MV
 obtain ⟨fWY,dWY,WY⟩:=MP
 obtain ⟨W7,XQ,NW⟩:=MY
 obtain ⟨fGO,dGO,GO⟩:=Nb
 obtain ⟨fBE,dBE,BE⟩:=Np
 obtain ⟨fAL,dAL,AL⟩:=Nr
 obtain ⟨W',XU,BT⟩:=Nk
 obtain ⟨NR,Oa,EV⟩:=Nf
 obtain ⟨fAE,dAE,AE⟩:=Nu
 obtain ⟨fMG,dMG,MG⟩:=M4
 obtain ⟨HH,HY,WW⟩:=MQ
 obtain ⟨NS,Ob,EL⟩:=Ng
 obtain ⟨fMH,dMH,MH⟩:=M3
 obtain ⟨fHM,dHM,HM⟩:=M9
 obtain ⟨fS,dS,S⟩:=hS
 obtain ⟨fD,dD,D⟩:=hD
 obtain ⟨W6,XO,WK⟩:=MT
 obtain ⟨fBK,dBK,BK⟩:=Nn
 obtain ⟨fDL,dDL,DL⟩:=Nj
 obtain ⟨fKI,dKI,KI⟩:=M7
 obtain ⟨fWO,dWO,WO⟩:=MS
 obtain ⟨fNO,dNO,NO⟩:=MZ
 obtain ⟨XA,XX,AK⟩:=Nt
 obtain ⟨fAS,dAS,AS⟩:=Nq
 obtain ⟨fDN,dDN,DN⟩:=Ni
 obtain ⟨fFY,dFY,FY⟩:=Nc
 obtain ⟨fBS,dBS,BS⟩:=Nl
 obtain ⟨fLW,XR,LW⟩:=M5
 have e:=VU.symm.trans LW.Cp
 cases e
 have R:Pr K mg fW fH W8 W_ gk W9 f' fL dW dH XS XW gm XT f_ dL:=⟨W,H,Kw,BP,NB,DP,ND,⟨fC,dC,C⟩,L⟩
 refine ⟨XR,λs v=>?_,λbase _ _ HE=>?_⟩
 ·obtain ⟨oc,od,kV,doc,pm,an,bj,ct,ql,rfl,lk,jm⟩:=LW.fn.ex
  exact .of_eq rfl
 ·have Z:=hZ base HE
  have OD:af l.prog w K mg base a_ 2 fD dD ["tape", "many"] (kA K):=aE7 D B S
  have OW':af l.prog w K mg base a_ 3 W6 XO ["tape", "hands", "kind"] (JC K):=Q? WK B D OD
  have OL:af l.prog w K mg base a_ 8 NK N5 ["book", "deal"] (Dj K Pt):=p! LO hc Z B R HD RC WT
  have wu:af l.prog w K mg base a_ 10 W' XU ["book", "deal"] (jQ K Pt):=aAJ BT B LO OL GO (O? GO B NW (aFh NW B R WY ST))
  have wq:af l.prog w K mg base a_ 11 NR Oa ["book"] (kW K Pt):=aBF EV B R BT wu LO OL
  have B4:af l.prog w K mg base a_ 12 NS Ob ["book"] (sF K Pt):=Y? EL B EV wq WW
  obtain ⟨cE,c',Zc⟩:=WS
  have FL:af l.prog w K mg base (bx l.prog w) 6 f' f_ ["book", "deal"] (jS K (c' 0) (c' 2)):=wT B R Zc.rf
  have RZ:af l.prog w K mg base (bx l.prog w) 7 fL dL ["book", "deal"] (jS K (c' 0) (c' 2)):=aDG B R Zc.rf
  have R0:af l.prog w K mg base (bx l.prog w) 8 NK N5 ["book", "deal"] (jS K (c' 0) (c' 2)):=K! LO R RZ
  have FK:af l.prog w K mg base (bx l.prog w) 8 W7 XQ ["book", "deal", "some"] (mY K (c' 0) (c' 2) (c' 7)):=aDI NW B R WY ST FL (Zc.ec 7 (by decide)) (Zc.mc 7 _ rfl)
  have JV:af l.prog w K mg base (bx l.prog w) 11 NR Oa ["book"] (cN K (c' 0)):=V! EV R (wS B R Zc.rf)
  have D8:af l.prog w K mg base (bx l.prog w) 12 NS Ob ["book"] (cN K (c' 0)):=aDK EL B EV JV
  have OAk:af l.prog w K mg base (bx l.prog w) 14 XA XX ["way", "book", "deal", "some", "marks"] (IM K (c' 0) (c' 2) (c' 7) Pt):=ZO AK WY ((QK WY R FL).or (JB WY B R ST).u5) AL ((K? AL R RZ).or (aDA AL B R).u5) LO (R0.or OL.u5) BT ((aDH BT LO R0).or wu.u5) GO (V? GO NW FK) BE (J? BE NW FK) EV (JV.or wq.u5) MG ((aDJ MG B EV JV).or (X! MG B EV wq AE (aDE AE B BT wu FA (aBE FA B R))).u5) MH ((aAQ MH B EL D8).or (aBO MH B EL B4).u5) HM ((aAR HM B EL D8).or (aBM HM B EL B4).u5)
  exact ZG LW B BK (Q! BK B D OD WK OW') DL (P? DL B D OD) NO (aBS NO) FY (aDL FY B D OD) DN (aBT DN B D OD) BS (aDN BS B D OD) AS (aFE AS AK WO KI B Zc OAk)
theorem walk {l:Iv} {d:DefRec} {K:Params->Rc} (hn:l.most=some 63) (CN:d.params.defaults = []) (hq:importsNone q=true) (hY:∀ (w:World) (h:Heap),YP w h->(K w.params).In h) (hT:∀ (w:World) (h:Heap),YP w h->h.get? Pt=some (Tc #[])) (F:(∀ w:World,Iq (K w.params) c Pt=true)->∀ (w:World) (mg:Str->Option Value) (fa:Addr) (h:Heap),(K w.params).In h->h.Ns mainGlobals mg->mg d.name=some (.ref fa) ->
   ∃ fd:FuncData,(∀ (s:Shared) (u:Value),BindsTo s fd ⟨[u],[]⟩ [("script",u)])/\∀ base:Heap,(K w.params).In base->base.Ns mainGlobals mg->base.BuiltinsAt mg Pt->af l.prog w (K w.params) mg base a_ 16 fa fd ["script"] (FD (K w.params) Pt)) (WM:∀ w:World,(K w.params).lookup Pt=none) (hC:∀ w:World,Iq (K w.params) c Pt=true) :
  Ras q loose XP YP l.row.toRowW d [] (λf vs=>Ram f vs) :=
 L2.aEN (n:=63) (k:=16) (x := "script") (CX:=λ_=>a_) (sp:=λw=>FD (K w.params) Pt) (ts:=[(Pt,pP)]) hn (by decide) CN ⟨rfl,by decide,by decide,rfl⟩ hq hY
  (λw h Y p hp=>by rw [Qq.mp hp]; exact ⟨hT w h Y,WM w,c,Rad (hY w h Y) (hC w)⟩) (by simp) (λw mg fa h a b d=>let ⟨fd,h1,h2⟩:=F hC w mg fa h a b d; ⟨fd,h1,λbase k1 k2 k3=>h2 base k1 k2 (k3 _ (Qk ..))⟩)
  (λ_ _ a ns _ hO hS=>⟨a,ns,rfl,hS,hO.2 _ (Qk ..),λH' h=>⟨rfl,λp hp=>by rw [Qq.mp hp]; exact h⟩⟩) λ_ _ _ _ _ z=>z
end Ab
open PySem PySem.W PyProof.Rows
set_option maxRecDepth 100000 in
set_option maxHeartbeats 0 in
theorem PySem.Challenge.cw_ablehands_k13_no_ways_holds : PySem.Challenge.rw_ablehands_k13_no_ways.Holds := by
 w_on; o_law; k_head; (case hw=>w_witness2)
 k_fill
 refine' Ab.walk (l:=PySem.Challenge.rw_ablehands_k13_no_ways) rfl rfl (by decide +kernel) (λw h Y=>PySem.W.km_in_of Y) (λw h Y=>PySem.W.km_tabs_of Y _ (Qk ..)) ?F ?KP ?HC
 case F =>
  intro hC w mg fa h KX G yh
  refine' Ab.S? yh ?B ?Cl ?Hy ?Z ?hW ?hH ?qw ?Nm ?Nh ?M1 ?M0 ?hC ?hL ?Nd ?Au ?MW ?MR ?MV ?MP ?MY ?Nb ?Np ?Nr ?Nk ?Nf ?Nu ?M4 ?MQ ?Ng ?M3 ?M9 ?hS ?hD ?MT ?Nn ?Nj ?M7 ?MS ?MZ ?Nt ?Nq ?Ni ?Nc ?Nl ?M5
  case Z =>
   intro base hb
   exact ⟨hC w,by decide,hb⟩
  case Cl =>
   refine' Ab.YS KX G ?zE ?qE ?z0 ?q0 ?z1 ?q1 ?z2 ?q2 ?z3 ?q3 ?z4 ?q4 ?z5 ?q5 ?z6 ?q6 ?z7 ?q7 ?z8 ?q8 ?z9 ?q9 ?B9 ?Bp ?nd
   (case zE=>k_is); (case qE=>kernel_rfl)
   (case z0=>k_is); (case q0=>kernel_rfl)
   (case z1=>k_is); (case q1=>kernel_rfl)
   (case z2=>k_is); (case q2=>kernel_rfl)
   (case z3=>k_is); (case q3=>kernel_rfl)
   (case z4=>k_is); (case q4=>kernel_rfl)
   (case z5=>k_is); (case q5=>kernel_rfl)
   (case z6=>k_is); (case q6=>kernel_rfl)
   (case z7=>k_is); (case q7=>kernel_rfl)
   (case z8=>k_is); (case q8=>kernel_rfl)
   (case z9=>k_is); (case q9=>kernel_rfl)
   (case B9=>k_is); (case Bp=>kernel_rfl)
   (case nd=>decide)
  case Hy =>
   refine' Ab.ZF KX G (λ_ _ _ _ _ _ us hl=>match us,hl with | [_,_],_=>rfl) ?a ?l ?c ?k
   (case a=>k_is); (case l=>k_is); (case c=>k_is); (case k=>k_is)
  case B =>
   apply Ab.YT KX G <;> k_is
  all_goals (refine' Ab.YU KX G ?b ?a ?l ?c ?k; (case a=>k_is); (case l=>k_is); (case c=>k_is); (case k=>k_is); (case b=>(intro _ _ _ _ _ _ us hl; first | exact (match us,hl with | [],_=>rfl) | exact (match us,hl with | [_],_=>rfl) | exact (match us,hl with | [_,_],_=>rfl) | exact (match us,hl with | [_,_,_],_=>rfl) | exact (match us,hl with | [_,_,_,_],_=>rfl) | exact (match us,hl with | [_,_,_,_,_],_=>rfl))))
 case KP=>intro w; first | k_is | kernel_rfl
 case HC=>intro w; kernel_rfl
