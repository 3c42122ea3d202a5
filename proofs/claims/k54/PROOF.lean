import PyProof.Rows.All
import Wide.All
import OpenK.AllK
import Wide.FinOn
import PyProof.EqAt
import PyProof.EqKinds
import PyProof.TupleCall
import KE.KPairComp
import PyProof.DictItems
import KE.KEqDict
import KE.KDictSum
import KE.KSortKey
import PyProof.ListNew
import PyProof.Rows.TupDisplay
import PyProof.DictCompW
import PyProof.WalksMore
import PyProof.MinMaxWalk
import PyProof.DictDisplay
import PyProof.DictWalks
import Lean
import PySem.Challenge.RW_ablehands_k54_desk_refuses
abbrev LIn:=List Int
local macro_rules|`('a')=>`(by omega)|`('b')=>`(by simp)|`('c')=>`(by decide)|`('d')=>`(by decide +kernel)
open List renaming length_map -> Qa,getElem?_eq_some_iff -> Qb,getElem?_eq_getElem -> Qc,mem_of_getElem? -> Qd,length_append -> Qg,getElem?_map -> Qh,mem_singleton -> Qi,mem_cons_of_mem -> Qj,mem_cons_self -> Qk,mem_cons -> Ql,map_append -> Qm,mem_append -> Qp,getElem?_append_left -> Qq,length_take -> Qs,take_length -> Qu,not_mem_nil -> Qv,getElem?_append_right -> Qx,mem_append_right -> Qz,map_cons -> Jb,mem_map -> Jc,take_of_length_le -> Jf,getElem?_zip_eq_some -> Jh,size_toArray -> Jj,length_cons -> Jl,filter_cons -> Jm,length_eraseIdx -> Jn,all_eq_true -> Jo,length_filter_le -> Jp,nodup_cons -> Jq,mem_iff_getElem? -> Jr,mem_filter -> Js,nodup_iff_pairwise_ne -> Ju,lookup_cons -> Jv,take_succ -> Jw,mem_append_left -> Jy,length_drop -> Xa,filterMap_cons -> Xe,map_map -> Xi,append_assoc -> Xj,length_pos_iff -> Xk,length_replicate -> Xn,any_eq_true -> Xs,append_nil -> Xy,cons_append -> Za,cons_ne_nil -> Zb,length_singleton -> Zd,filter_append -> Ze,mem_of_mem_take -> Zf,pairwise_append -> Zg,length_zip -> Zh,mem_of_mem_eraseIdx -> Zi,getElem?_replicate -> Zj,getElem_mem -> Zl,mem_range -> Zm,find?_cons -> Zo,idxOf_lt_length_of_mem -> Zq,nodup_append -> Zr,getElem?_set -> Zt,getD_eq_getElem?_getD -> Zu,drop_zero -> Zv,drop_eq_getElem_cons -> Zw,replicate_succ -> Zy,of_mem_zip -> Zz,any_cons -> Ya,pairwise_cons -> Yb,take_succ_eq_append_getElem -> Yc,getElem?_set_self -> Yd,drop_of_length_le -> Ye,map_nil -> Yh,getElem?_eq_none -> Yi,take_append_drop -> Yk,getElem?_set_ne -> Ym,length_set -> Yn,foldl_cons -> Yo,nil_append -> Yp,filter_eq_self -> Yq,length_eraseIdx_of_lt -> Ys,contains_cons -> Yt,any_map -> Yu,forIn_nil -> Yw,reverse_cons -> Yz,flatten_cons -> Wb,getElem?_inj -> Wc,foldl_append -> We,take_add_one -> Wf,eq_of_mem_replicate -> Wg,length_eq_zero_iff -> Wi,pairwise_singleton -> Wj,length_eraseIdx_le -> Wk,getElem_inj -> Wm,length_pos_of_mem -> Wn,forIn_cons -> Wp,all_map -> Ws,eraseIdx_sublist -> Wt,getElem?_of_mem -> Wu,mem_of_mem_drop -> Ww,nodup_nil -> Wy,take_zero -> Wz,drop_drop -> Qaa,length -> Qac,toList_toArray -> Qad,getElem?_range -> Qae,map_congr_left -> Qaf,map_eq_nil_iff -> Qag,mem_filterMap -> Qah,filterMap_map -> Qai,all_cons -> Qaj
open Nat renaming le_refl -> Qe,lt_of_lt_of_le -> Qn,le_trans -> Qr,ne_of_lt -> Qy,zero_le -> Ji,lt_irrefl -> Jk,le_of_lt -> Jx,min_le_left -> Xf,lt_trans -> Xh,lt_of_le_of_lt -> Xo,sub_self -> Xv,le_succ_of_le -> Xx,lt_succ_of_lt -> Yf,lt_succ_self -> Yl,min_self -> Yv,add_le_add -> Yx,le_of_eq -> Wo,pow_le_pow_right -> Wv,log2_lt -> Qam
open Option renaming map_eq_some_iff -> Qo,map_some -> Xz,isSome_map -> Yg,isSome_iff_exists -> Yy,isSome_some -> Qak
open Bool renaming and_eq_true -> Qt,false_ne_true -> Qw,true_and -> Jt,eq_iff_iff -> Xb,false_eq_true -> Xq,false_and -> Xu,not_eq_true' -> Zs,and_false -> Zx,false_or -> Wh,and_true -> Wl,or_eq_true -> Wq,not_false -> Qab,true_or -> Qal
open Int renaming le_refl -> Jz,toNat_of_nonneg -> Zk,emod_lt_of_pos -> Zn,emod_nonneg -> Zp,ne_of_lt -> Yj,fdiv_eq_ediv_of_nonneg -> Yr,zero_add -> Wr,mul_le_mul -> Wx
open PySem renaming Value -> aa,Addr -> ae,sizeLine -> af,Heap -> ag,Shared -> ah,mainGlobals -> ai,Str -> aj,Builtin -> ak,starEach -> ao,wpAny -> aq,model -> ar,PyData -> au,Stmt -> ax,Expr -> ay,bootBuiltins -> az,PassesOwn -> bc,FuncData -> bh,compareOp -> bj,NameKind -> bo,Program -> bq,sysModules -> br,World -> bx,Around -> bz,Obj -> cb,backTo -> cj,Paired -> cm,swapsWith -> cp,getItem -> cq,DictEntry -> cu,Walks -> cx,keywordEach -> cy,Env -> cz,bindArgs -> c7,Keyword -> c8,cLine -> c9,Scope -> dc,IsPart -> de,Tok -> df,backToKw -> dg
open PySem renaming wpAny_bind -> Ra,wpAny_pure -> Rc,sizeLine_eq -> Rf,wpAny_loadPart' -> Rn,wpAny_mono -> Ro,wpAny_holding -> Rt,wpAny_loadPart_at -> Ru,wpAny_truthy_bool -> Rw,wpAny_newObj_type -> Ry,wpAny_Call_Name_kw -> Tb,wpAny_setField_rec -> Tc,call_meets -> Tg,wpAny_field -> Th,wpAny_call_entry -> Tn,wpAny_callSpecial?_slot -> To,wpAny_standAt -> Tt,wpAny_seqItems -> Tv,wpAny_passesOwn -> Uc,wpAny_updateSeq -> Ud,mem_of_lookup -> Ug,plainId_quiet -> Up,wpAny_execs_nil -> Uq,wpAny_ite_false -> Ur,wpAny_rule -> Ut,wpAny_letGo -> Uu,wpAny_getItem_str_slice -> Uv,wpAny_pyIter_list -> Uw,codeAny_mono -> Ux,wpAny_tryCatch -> Uz,codeAny_builtin -> Vc,tupleKind_room_in1 -> Vh,wpAny_typeOf -> Vq,typeIs_str -> Vr,wpAny_specialOf -> Vs,post_val_or_str -> Vt,builtinLookup_eq_fast -> Vu,codeAny_call_builtin -> Vx,evalPart_none -> Ie,wpAny_Name -> Ih,wpAny_call -> Ij,typeIs_int -> Il,wpAny_execs_cons -> Iz,noFill_tuple_add -> Ma,wpAny_ite_split -> Mi,typeLookup_type -> Mj,wpAny_newTuple -> Mm,wpAny_binaryOp_repeat_ref -> Mn,wpAny_attempt -> Mq,seq_tuple_add -> Mr,wpAny_getItem_list_slice -> Ms,call -> Mv,concat_meets -> Mw,seqIndex_neg -> Mx,call_meetsIn -> My,codeAny_compStart_dict -> Mz,seqSlot_of -> Raa,wpAny_isTrue_Compare1 -> Rab,wpAny_loadName_local -> Rad,wpAny_of_eq -> Rae,seqIndex_of -> Raf,wpAny_newFunctionEnv -> Rag,wpAny_updateSeq_pair -> Rah,wpAny_loadName_free -> Rai,wpAny_dictSet_pairs -> Rak,slot_listiter_next -> Ral,wpAny_assign_Name -> Ran,wpAny_sequenceKey -> Rap,wpAny_pyIter_slot -> Raq,arm_eval_DictComp -> Rar,wpAny_isInstance -> Ras,lookupAlong_cons -> Rau,wpAny_getItem_of -> Rav
open PySem.W renaming Frag -> Rb,nsIn -> Rg,mg_of -> Rh,keepIn -> Ri,mg_none_of -> Rj,findIn -> Rm,hideAll_none -> Rv,hideAll -> Rx,fnOf -> Ta,emptyDict -> Tf,tabObj -> Ti,instObj -> Tu,codeIn -> Ub,plainGet -> Ue,of_hideAll -> Ui,callWith_K -> Uj,hasDictIn -> Ul,isFn -> Um,kla_fn -> Uo,plainOver -> Vb,makesIn -> Vj,methodCall_KW -> Vk,lookIn -> Vl,CodeHd -> Vm,hideAll_get -> Vn,plainGet_of -> Vo,callWith_K0 -> Vp,codeHdIn -> Vy,takerIn -> Vz,OpenLaw -> Ic,cellsFrom_some -> Mb,codeHd_of_K -> Ml,methodObj -> Mp,handedIn -> Mu,WalkO -> Rac
open PySem.F renaming plainAttrs_list -> Rk,slot_list_append -> Rp,type_list_append -> Rq,plainAttrs_str -> Rz,plainAttrs_dict -> Tj,slot_str_join -> Tr,type_str_join -> Ts,args_tuple_mul_2 -> Tw,slot_dict_values -> Tx,entry_tuple_mul -> Tz,slot_str_split -> Ua,type_dict_values -> Uh,slot_list_index -> Uk,slot_int_rmul -> Us,typeOf_object_class -> Va,args_tuple_add_2 -> Vd,args_str_split_2 -> Ve,entry_tuple_add -> Vf,entry_str_split -> Vg,slot_tuple_add -> Vi,slot_tuple_iterator_next -> Vv,slot_enumerate_iter -> Ig,excBase_ValueError -> Im,args_object_init_2 -> Io,args_list_index_2 -> Ip,slot_tuple_count -> Iq,entry_list_index -> Ir,args_int_rmul_2 -> Iu,slot_list_count -> Iv,slot_dict_items -> Iw,type_list_index -> Iy,entry_int_rmul -> Mc,type_str_split -> Me,slot_zip_iter -> Mf,fills_int_mul -> Mg,slot_dict_pop -> Mh
open PyProof.Rows renaming subscriptTail_builtinR -> Uy,assignInOrder_cons -> Ii,Subscript_ -> Ik,entry_tuple_getitem -> Raj,args_tuple_getitem -> Ram,assignInOrder_nil -> Rao,slice_closes_to -> RaH
open PySem.EqMixed renaming eq_bool_str -> Rax,eq_int_str -> Ray,eq_str_bool -> Raz,eq_str_int -> RaA,ne_bool_str -> RaB,ne_int_str -> RaC,ne_str_bool -> RaD,ne_str_int -> RaE
open PySem.W.Looks renaming here -> RaF
open PySem.NumText renaming digitsVal -> RaG
open PySem.EqNone renaming eq_none_none -> RaI,eq_none_bool -> RaJ,eq_none_int -> RaK,eq_none_str -> RaL,eq_bool_none -> RaM,eq_int_none -> RaN,eq_str_none -> RaO,ne_none_none -> RaP,ne_none_bool -> RaQ,ne_none_int -> RaR,ne_none_str -> RaS,ne_bool_none -> RaT,ne_int_none -> RaU,ne_str_none -> RaV
open PySem.Within renaming cons -> RaW
open PySem
variable {XP:(aj->Option aa)->ag->Prop} {it t c f C dx sl q d a0 C' fW fH fK fB uw fD wa fL Pt cE dd Cd fj a1 a2 a3 a4 a5 a6 a7 a8:ae} {params:Arguments} {A:bz} {sv:Array (Option aa)} {L:Bool} {op:CmpOp} {bd:cz->ae->Sem Unit} {e tg iter value elt p_ fv kx vx:ay} {fd Ex dW dH dB uy dD wb dL:bh} {h h' base:ag} {lo:Int} {a_:List (ae×cb)} {ws:List (LIn)} {ss:List (Nat×Int×Int)} {cl:List (aj×ae)} {kw:List (aj×aa)} {ch fp:List ae} {outer:List cz} {es ifs:List ay} {l ns hs nums left:LIn} {fr:List Nat} {ds:List au} {body:List ax} {N ps loose own ff:List aj} {us its bm:List aa} {M:Model} {t' i j n ep:Nat} {tn:Nat->ag->Prop} {o ob:cb} {an od:Option ae} {hi:Option Int} {z:Option aj} {os:OsState} {pos pos' py p Fh apos p2 gv p1 p3:Pos} {P prog:bq} {B:Prop} {K:Rb} {R:Result->ah->Prop} {sc scope:dc} {pl:Sem Bool} {s s':ah} {name m qual vn xn sep:aj} {kindOf:aj->Option bo} {mA mg:aj->Option aa} {T:String} {κ α β:Type} {u doc pm fe ct oc vl vu:aa} {E Q:aa->ah->Prop} {w:bx} {YP:bx->ag->Prop}
namespace PySem.W.Fast
def tw274462169736145277:=True
def tw12521560013287664829:=True
def tw16189423833077222375:=True
def tw4412663810870183816:=True
def tw9594762556514515427:=True
def tw6061869514802158104:=True
def tw11855519835977443955:=True
def tw3600242167267729053:=True
def tw1361378042964969137:=True
def tw17642369473302106895:=True
def tw9620282798065266448:=True
def tw7019888393395318539:=True
def tw9208737241507487383:=True
def tw17979541962747024967:=True
def tw15309100328557252557:=True
def tw12915690595257304119:=True
def tw4113973419802349803:=True
def tw1118943688834544132:=True
def tw6668772601649972977:=True
def tw10993500878496300318:=True
def tw4012747250458772824:=True
def tw7978817874107931940:=True
def tw5443046674225149526:=True
def tw8097047490609179816:=True
def tw16907958784709442663:=True
def tw5391883022714502138:=True
def tw12443744576884755969:=True
def tw752318414690116475:=True
def tw1325329810323580080:=True
def tw11170971028683564551:=True
def tw11209532577632865307:=True
def tw4146814472056647184:=True
def tw6980789457215473041:=True
def tw2084359942023822411:=True
def tw2230229105663525483:=True
def tw8498178421523813297:=True
def tw12252220122091581145:=True
def tw15657182556014860434:=True
def tw16631134019403180476:=True
def tw3099212755594954107:=True
def tw90190232660381303:=True
def tw5661988631000918130:=True
def tw6239104215560032522:=True
def tw7259777867809402066:=True
def tw7654619331573316894:=True
def tw8421167794027870169:=True
def tw1739443261117909221:=True
def tw12104495558747131902:=True
def tw2137866311892239505:=True
def tw15413024466589203161:=True
def tw7022077735968068481:=True
def tw10607821080366991563:=True
def tw16022572446010791177:=True
def tw7137234329248276610:=True
def tw14351374155881856914:=True
def tw11653371703802045569:=True
def tw2227784250791271011:=True
def tw17025011604518230662:=True
def tw5894533476686975121:=True
def tw16795252561178960406:=True
def tw13789857480553891127:=True
def tw3003916277653397581:=True
def tw13580879927407986273:=True
def tw3568125660100217560:=True
def tw1916587194833995888:=True
def tw6108288141400867038:=True
def tw15014105152025795129:=True
def tw9242774403210304776:=True
def tw15717757864346767775:=True
def tw7822189650561470303:=True
def tw2696520652862065845:=True
def tw17705018829880191772:=True
def tw16158494648756190191:=True
def tw14811871900287949539:=True
def tw6467967238420244815:=True
def tw9995407476061472978:=True
def tw15689120958244969205:=True
def tw800341575744030980:=True
def tw2074588068823641751:=True
def tw15979575305248215292:=True
def tw15401847915159977862:=True
def tw14851891435030694289:=True
def tw438060207055858909:=True
def tw17533137955717506431:=True
def tw6142208971591757445:=True
def tw9141944361176573860:=True
def tw2465148485243074662:=True
def tw14975979097816034492:=True
def tw4824004439399870000:=True
def tw17549422894780255866:=True
def tw5745599748412315070:=True
def tw18319803909106249892:=True
def tw16639751942462155573:=True
def tw13103131358889069343:=True
def tw16837475540798391120:=True
def tw8915062749323094765:=True
def tw14734973565215876153:=True
def tw11973507117715411839:=True
def tw4917329069041400269:=True
def tw16918744447615628705:=True
def tw15944772422746273088:=True
def tw15902390665457601085:=True
def tw8670390343974335180:=True
def tw9003824835947148220:=True
def tw15299307262855386159:=True
def tw3591759844523828659:=True
def tw6328386538189940136:=True
def tw9496528983311876854:=True
def tw7523880619599696591:=True
def tw16236886787842573008:=True
def tw11808767333527274605:=True
def tw6703935469892785815:=True
def tw7800893811860661598:=True
def tw8331591484923466925:=True
def tw2668564366515858938:=True
def tw3133557520925598191:=True
def tw9074494690149450495:=True
def tw3200902772507248142:=True
def tw14217452745659734043:=True
def tw12182871467977590016:=True
def tw9735668753158521812:=True
def tw12304704546671208169:=True
def tw1496233979120069764:=True
def tw12202764276389914398:=True
def tw11158947210042801906:=True
def tw4917024690141089486:=True
def tw11542128434228002102:=True
def tw13825614702878110616:=True
def tw13477566206113063730:=True
def tw14551362390817682966:=True
def tw15507521248318079076:=True
def tw15288866451402345910:=True
def tw16433809676205331299:=True
def tw13250400468283715858:=True
def tw15524523266400655146:=True
def tw11846281339635272363:=True
def tw3231304785039422230:=True
def tw17480731123413806124:=True
def tw5249195017211073249:=True
def tw2982845835060983093:=True
def tw8227855644706467307:=True
def tw11920235020622733006:=True
def tw16844393694081883875:=True
def tw9087913711704836066:=True
def tw294997211547489212:=True
def tw18129961835533678944:=True
def tw11662869001129368797:=True
def tw7967080929819734155:=True
def tw13880495064159430007:=True
def tw13214341435760666294:=True
def tw17835697068581776936:=True
def tw743128203378741129:=True
def tw11951505980560389513:=True
def tw8229186296242716813:=True
def tw3179497804898677600:=True
def tw16010074911245528043:=True
def tw3451005326206786562:=True
def tw7012651848270050370:=True
def tw17417753640871883721:=True
def tw1953485504947492069:=True
def tw5337025131303349743:=True
def tw7378542672561485692:=True
def tw6276752326549354305:=True
def tw4645045620874229687:=True
def tw13170769102920305276:=True
def tw2393768601546550996:=True
def tw3555442504343718992:=True
def tw18417071546146486455:=True
def tw16907424674520606219:=True
def tw7909641216582996834:=True
def tw234639028863518678:=True
def tw9923091073615982179:=True
def tw3803139733794119618:=True
def tw14913721979096631624:=True
def tw6034337288825409894:=True
def tw14909806270622666655:=True
def tw10020068281815005726:=True
def tw8675358136683037416:=True
def tw6590055519543051239:=True
def tw12572048875445027395:=True
def tw9319327508499836628:=True
def tw16383859361503384024:=True
def tw9946035673468255697:=True
def tw13273514025983814611:=True
def tw3052537893529949520:=True
def tw14749910170006259669:=True
def tw2074050587509643706:=True
def tw16587705954844467319:=True
def tw1714866139582486206:=True
def tw10767538999581318510:=True
def tw204598537573181850:=True
def tw7477625703936060973:=True
def tw15636578052965610296:=True
def tw17414458342805488404:=True
def tw1841743281479814224:=True
def tw5340235705623727682:=True
def tw15156178619429658715:=True
def tw6840931887396452323:=True
def tw12823086226513927215:=True
def tw5810817602036726621:=True
def tw4159374412480667160:=True
def tw727849774877024776:=True
def tw12352001440674292521:=True
def tw9828355589018710460:=True
def tw383845960084937683:=True
def tw17524097938322849228:=True
def tw8544027847212041390:=True
def tw15864622472338361690:=True
def tw676353285390064473:=True
def tw4105344337265614792:=True
def tw931432601605184653:=True
def tw13071734615437602118:=True
def tw5748269515808267185:=True
def tw14570009930892372717:=True
def tw5887887328366511664:=True
def tw15765891122286733207:=True
def tw4988616337803047338:=True
def tw12986768237600027712:=True
def tw7619940341307157722:=True
def tw9356873099363068195:=True
def tw17751701955743385851:=True
def tw14067406566467119398:=True
def tw3179900643007101126:=True
def tw13530204294413902690:=True
def tw14302287232083639553:=True
def tw16113639447712418978:=True
def tw5234153578192051089:=True
def tw13575454504631976912:=True
def tw764904403227175694:=True
def tw12754139250502339234:=True
def tw10306446433242314510:=True
def tw5463193461277080176:=True
def tw1109588587634331559:=True
def tw14543150725727170358:=True
def tw15015515611543996583:=True
def tw8430973304072207167:=True
def tw4386595609181621478:=True
def tw3806499778104921208:=True
def tw9829263991644527204:=True
def tw5092757237483024992:=True
def tw14397918206710380116:=True
def tw14865212562247235110:=True
def tw2069639630545351145:=True
def tw4681391391798051080:=True
def tw4112520001486678487:=True
def tw4131652564575694121:=True
def tw3910374005805657142:=True
def tw12600319027912916598:=True
def tw6222452115025628354:=True
def tw4894540078687349767:=True
def tw12104599854780364783:=True
def tw11259386624888511917:=True
def tw10944250210758233081:=True
def tw10069467632376289753:=True
def tw14036799470836436133:=True
def tw8374275218482044331:=True
def tw9863977345582444370:=True
def tw13761912206314683672:=True
def tw1785452060941675321:=True
def tw11577200725570169517:=True
def tw15444041144027428015:=True
def tw7271447950704876189:=True
def tw1532972309742432287:=True
def tw14551961778930992065:=True
def tw1474368692677971936:=True
def tw15960285469580598575:=True
def tw15180996654460866681:=True
def tw17119737399732001190:=True
def tw8949049850389336002:=True
def tw7504983482022121784:=True
def tw14825953765361251159:=True
def tw2777712210428168817:=True
def tw14022454891525197732:=True
def tw15525957490021582689:=True
def tw13790030515859925827:=True
def tw9937308928740635892:=True
def tw4976656758208563942:=True
def tw2622113574727194149:=True
def tw4943489282834292248:=True
def tw13142966953656006827:=True
def tw15091564081875968859:=True
def tw15140420037604695963:=True
def tw8234662555135177540:=True
def tw10572359603350159996:=True
def tw12319084836317386066:=True
def tw2797459775796417119:=True
def tw10304610758469611908:=True
def tw16023042148383860562:=True
def tw11549789057518074620:=True
def tw15063834286699621904:=True
def tw14123657732396043405:=True
def tw6816343683423612132:=True
def tw3703430251313661999:=True
def tw1733527244329488793:=True
def tw15820688812183349738:=True
def tw460893529546225419:=True
def tw10863172982861492906:=True
def tw14037371507723776214:=True
def tw17726300216295935286:=True
def tw5726676491572490822:=True
def tw13022810143915246888:=True
def tw12297297624058564015:=True
def tw14820483536305736634:=True
def tw1197044141736881205:=True
def tw1625465766852169046:=True
def tw456217394509735277:=True
def tw10847309412505814819:=True
def tw1194322674241266128:=True
end PySem.W.Fast
namespace L2
theorem aLN (h:True:=by rfl):True:=h
def f':Lean.Syntax:=aLN._auto_1
theorem aLO (h:True:=by decide):True:=h
def iy:Lean.Syntax:=aLO._auto_1
theorem aLP (h:True:=by intro _; rfl):True:=h
def y_:Lean.Syntax:=aLP._auto_1
theorem aLQ (h:True:=by first | exact .inl rfl | exact .inr rfl | assumption):True:=h
def DG:Lean.Syntax:=aLQ._auto_1
theorem aLR (h:True:=by decide +kernel):True:=h
def DF:Lean.Syntax:=aLR._auto_1
theorem aLS (h:True:=by exact rfl):True:=h
def F0:Lean.Syntax:=aLS._auto_1
theorem aLT (h:True:=by first | exact aFz _ 'c' 'c' | rfl):True:=h
def Ow:Lean.Syntax:=aLT._auto_1
theorem aLU (h:True:=by with_unfolding_all rfl):True:=h
def Ov:Lean.Syntax:=aLU._auto_1
theorem aLV (h:True:=by
  intro vs H Q E h
  repeat (first | (obtain ⟨h,-⟩:=h; subst h; rfl) | obtain ⟨_,h⟩:=h)):True:=h
def Ou:Lean.Syntax:=aLV._auto_1
end L2
set_option Elab.async false
set_option linter.all false
set_option maxRecDepth 100000
namespace L2
open PySem PySem.Spec PyProof.Rows
abbrev Key:=Sum Int aj
noncomputable def xX:Key->aa->Bool
 | .inl k,v=>aa.isInt k v
 | .inr x,v=>aa.isStrOf x v
noncomputable def aLW (w:bx):Key->Int
 | .inl k=>hashInt k
 | .inr x=>hashStr w x
theorem dJ:∀ {k:Key} {v:aa},xX k v=true->(∃ i t,k=Sum.inl i/\v=aa.int i t)∨(∃ x t,k=Sum.inr x/\v=aa.str x t)
 | .inl i,v,h=>by
  obtain ⟨t,e⟩:=aa.isInt_shape (k:=i) (v:=v) h;exact .inl ⟨i,t,rfl,e⟩
 | .inr x,v,h=>by
  obtain ⟨t,e⟩:=aa.isStrOf_shape (x:=x) (v:=v) h;exact .inr ⟨x,t,rfl,e⟩
theorem aEE (i:Int) (t:df):xX (.inl i) (.int i t)=true:=by simp [xX,aa.isInt]
theorem aEF (x:aj) (t:df):xX (.inr x) (.str x t)=true:=by simp [xX,aa.isStrOf]
theorem aJC (a b:Int):decide ((Sum.inl a:Key)=Sum.inl b)=(a==b):=by
 by_cases e:a=b
 ·subst e; simp
 ·simp_all
theorem aJD (a b:aj):decide ((Sum.inr a:Key)=Sum.inr b)=decide (a=b):=by simp
theorem aJE (a:Int) (b:aj):decide ((Sum.inl a:Key)=Sum.inr b)=false:=by rfl
theorem aJF (a:aj) (b:Int):decide ((Sum.inr a:Key)=Sum.inl b)=false:=by rfl
noncomputable def bP (prog:bq) (w:bx):PySem.KeyKind prog w Key where
 is:=xX
 hash:=aLW w
 inj:=λv a b ha hb=>by
  rcases dJ ha with ⟨i,t,rfl,rfl⟩ | ⟨x,t,rfl,rfl⟩
  ·rcases dJ hb with ⟨j,u,rfl,e⟩ | ⟨y,u,rfl,e⟩
   ·simp_all
   ·simp_all
  ·rcases dJ hb with ⟨j,u,rfl,e⟩ | ⟨y,u,rfl,e⟩
   ·simp_all
   ·simp_all
 byValue:=λk v h=>by
  rcases dJ h with ⟨i,t,rfl,rfl⟩ | ⟨x,t,rfl,rfl⟩ <;> rfl
 pyHash:=λhv h=>by
  rcases dJ hv with ⟨i,t,rfl,rfl⟩ | ⟨x,t,rfl,rfl⟩
  ·exact wpAny_pyHash_int h
  ·exact wpAny_pyHash_str h
 eqBool:=λhu hv h=>by
  rcases dJ hu with ⟨i,t,rfl,rfl⟩ | ⟨x,t,rfl,rfl⟩
  ·rcases dJ hv with ⟨j,u,rfl,rfl⟩ | ⟨y,u,rfl,rfl⟩
   ·rw [aJC] at h; exact wpAny_eqBool_int h
   ·rw [aJE] at h; exact SeqAt.EqAt.int_str i t y u _ _ _ _ h
  ·rcases dJ hv with ⟨j,u,rfl,rfl⟩ | ⟨y,u,rfl,rfl⟩
   ·rw [aJF] at h; exact SeqAt.EqAt.str_int x t j u _ _ _ _ h
   ·rw [aJD] at h; exact wpAny_eqBool_str h
 «strs»:=λk x t v h=>by
  rcases dJ h with ⟨i,u,rfl,e⟩ | ⟨y,u,rfl,e⟩
  ·exact nomatch e
  ·injection e with e1 _;subst e1;cases v <;> rfl
theorem aA4 (prog:bq) (w:bx) (i:Int) (t:df):(bP prog w).is (.inl i) (.int i t)=true:=aEE i t
theorem bH (prog:bq) (w:bx) (x:aj) (t:df):(bP prog w).is (.inr x) (.str x t)=true:=aEF x t
inductive V where
 | fk | bl (b:Bool) | int (i:Int) | str (x:aj) | qx (b:Array UInt8) | yu (b:UInt64) | ref (a:ae) | ty (n:String)
 deriving DecidableEq
end L2
open L2
variable {kvs:List (Key×V)} {xs ys vs je zs:List V} {v y:V}
namespace L2
open PySem PySem.Spec PyProof.Rows
def bN:V->aa->Prop
 | .fk,u=>u=aa.none
 | .bl b,u=>u=aa.bool b
 | .int i,u=>∃ t,u=aa.int i t
 | .str x,u=>∃ t,u=aa.str x t
 | .qx b,u=>∃ t,u=aa.bytes b t
 | .yu b,u=>∃ t,u=aa.float b t
 | .ref a,u=>u=aa.ref a
 | .ty n,u=>u=aa.type n
abbrev bG:List V->List aa->Prop:=cm bN
theorem bG.length (r:bG xs us):xs.length=us.length:=cm.length r
theorem bG.get:∀ {xs:List V} {us:List aa} {i:Nat} {x:V},bG xs us->xs[i]?=some x->∃ u,us[i]?=some u/\bN x u
 | _,_,_,_,.nil,e=>by simp at e
 | _,_,0,_,.cons r _,e=>by simp at e; subst e; exact ⟨_,rfl,r⟩
 | _,_,i+1,x,.cons _ t,e=>by
  obtain ⟨u,h1,h2⟩:=bG.get (i:=i) (x:=x) t (by assumption);exact ⟨u,by simpa using h1,h2⟩
theorem bG.set {x:V} (r:bN x u):∀ {xs:List V} {us:List aa} (i:Nat),bG xs us->bG (xs.set i x) (us.set i u)
 | _,_,_,.nil=>.nil
 | _,_,0,.cons _ t=>.cons r t
 | _,_,i+1,.cons q t=>.cons q (bG.set r i t)
theorem bG.append:∀ {xs ys:List V} {us ws:List aa},bG xs us->bG ys ws->bG (xs++ys) (us++ws)
 := by
 intro xs ys us ws h s
 induction h with
 | nil=>exact s
 | cons r t ih=>exact .cons r ih
theorem bG.take:∀ {xs:List V} {us:List aa} (n:Nat),bG xs us->bG (xs.take n) (us.take n)
 | _,_,0,_=>.nil
 | _,_,_+1,.nil=>.nil
 | _,_,n+1,.cons r t=>.cons r (bG.take n t)
theorem bG.drop:∀ {xs:List V} {us:List aa} (n:Nat),bG xs us->bG (xs.drop n) (us.drop n)
 | _,_,0,r=>r
 | _,_,_+1,.nil=>.nil
 | _,_,n+1,.cons _ t=>bG.drop n t
def mS:Option V->Option aa->Prop
 | some v,some u=>bN v u
 | none,none=>True
 | _,_=>False
def KV:List (κ×V)->List (κ×aa)->Prop:=cm λ(p:κ×V) (q:κ×aa)=>p.1=q.1/\bN p.2 q.2
noncomputable def kV:Key->V
 | .inl i=>.int i
 | .inr x=>.str x
inductive HO where
 | lst (xs:List V)
 | tup (xs:List V)
 | dK (kvs:List (Key×V)) | dT (kvs:List (List Key×V))
 | set (S:Int->Bool) (n:Nat)
 | ins (C dx:ae) (fs:List (aj×V))
 | own (x:ae)
 | xd (fs:List (aj×V))
 | met (f x:ae)
 | so (lo hi:Int)
 | f_ (o:cb) (u:HO)
 | Bf (ps:Array aa)
 | tab (q:aj)
 | ext (φ:ag->Prop)
abbrev Hp:=ae->Option HO
end L2
variable {H H' H1 H2 H0:Hp} {Qf:Hp->List V->Prop}
namespace L2
open PySem PySem.Spec PyProof.Rows
noncomputable def upd (H:Hp) (a:ae) (o:HO):Hp:=λb=>if b=a then some o else H b
theorem aB {a:ae} {o:HO}:upd H a o a=some o:=by unfold upd; rw [if_pos rfl]
theorem aG {a b:ae} {o:HO} (h:b≠a):upd H a o b=H b:=by simp_all [upd,if_neg]
theorem kM {a:ae} {o u:HO}:upd (upd H a o) a u=upd H a u:=by
 funext b; unfold upd; split <;> rfl
theorem aKR {a b:ae} {o u:HO} (h:H a=some o) (h':H b=some u) (d:o≠u):a≠b:=by
 intro e; subst e; rw [h] at h'; exact d (Option.some.inj h')
theorem gZ {a b:ae} {o:HO} (h:H a=some o) (h':H b=none):a≠b:=by
 intro e; subst e; rw [h] at h'; cases h'
section
variable (P:bq) (w:bx)
def bT (H:Hp) (h:ag) (a:ae):HO->Prop
 | .lst xs=>xs.length<=af/\∃ (its:List aa) (n:Nat),bG xs its/\h.get? a=some { cls:=.type "list",data:=.seq its.toArray n }
 | .tup xs=>xs.length<=af/\∃ (its:List aa) (n:Nat),bG xs its/\h.get? a=some { cls:=.type "tuple",data:=.seq its.toArray n }
 | .dK kvs=>kvs.length<=af/\(a==br)=false/\∃ vs,KV kvs vs/\h.DictOf (bP P w) a vs
 | .dT kvs => kvs.length <= af /\ (a == br) = false /\ ∃ xs : List (List Key × ae × aa),
     cm (λ(p:List Key×V) (q:List Key×ae×aa)=>p.1=q.1/\H q.2.1=some (.tup (p.1.map kV))/\bN p.2 q.2.2) kvs xs /\
     ∃ o es ep,h.get? a=some o/\o.ExactDict/\o.data=.dict es ep/\es.toList=xs.map (entryOfKey (tupleKind (bP P w)))/\(xs.map (·.1)).Nodup
 | .set S n=>h.SetOf (intKind P w) a S n
 | .ins C dx fs => H dx = some (.own a) /\ fs.length <= 1000 /\ dx ≠ a /\ h.get? a = some (Tu C dx) /\
     ∃ mA,h.Ns1 dx mA/\(∀ f,mS (fs.lookup f) (mA f))/\PySem.Within mA (fs.map (·.1))
 | .own _=>∃ o,h.get? a=some o
 | .xd fs=>∃ mA,h.Ns1 a mA/\∀ f,mS (fs.lookup f) (mA f)
 | .so lo hi=>∃ t u v,h.get? a=some { cls:=.type "range",data:=.fields #[.int lo t,.int hi u,.int 1 v] }
 | .f_ o u=>h.get? a=some o/\bT H h a u
 | .Bf ps=>h.get? a=some { cls:=.none,data:=.fields ps }
 | .tab q=>∃ ps:Array aa,h.get? a=some { cls:=.none,data:=.fields ps }/\TriplesOk ps.toList/\∀ (pos:Pos) (cv:aa),codeAmong pos ps.toList=some cv->∃ (c:ae) (o:cb) (vs:Array aa) (t:df),cv=.ref c/\H c=some (.own a)/\h.get? c=some o/\o.data=.fields vs/\vs[1]?=some (.str q t)
 | .met f x=>h.get? a=some (Mp (.ref f) (.ref x))
 | .ext φ=>φ h/\(∃ o,h.get? a=some o)/\∀ h1 h2:ag,φ h1->(∀ o,h1.get? a=some o->h2.get? a=some o)->φ h2
def iz (H:Hp) (h:ag):Prop:=∀ a o,H a=some o->bT P w H h a o
end
section
variable {a:ae} {o:HO}
theorem bT.k7 (x:bT P w H h a o):∃ ob,h.get? a=some ob:=by
 cases o with
 | lst xs=>obtain ⟨_,_,_,_,e⟩:=x; exact ⟨_,e⟩
 | tup xs=>obtain ⟨_,_,_,_,e⟩:=x; exact ⟨_,e⟩
 | dK kvs=>obtain ⟨_,_,_,_,o,_,_,e,_⟩:=x; exact ⟨_,e⟩
 | dT kvs=>obtain ⟨_,_,_,_,o,_,_,e,_⟩:=x; exact ⟨_,e⟩
 | set S n=>obtain ⟨o,_,_,_,e,_⟩:=x; exact ⟨_,e⟩
 | ins C dx fs=>obtain ⟨_,_,_,e,_⟩:=x; exact ⟨_,e⟩
 | own y=>obtain ⟨_,e⟩:=x; exact ⟨_,e⟩
 | xd fs=>obtain ⟨_,⟨_,_,_,e,_⟩,_⟩:=x; exact ⟨_,e⟩
 | so lo hi=>obtain ⟨_,_,_,e⟩:=x; exact ⟨_,e⟩
 | f_ ob u=>obtain ⟨e,_⟩:=x; exact ⟨_,e⟩
 | Bf ps=>exact ⟨_,(show h.get? a=some _ from x)⟩
 | tab q=>obtain ⟨_,e,_⟩:=x; exact ⟨_,e⟩
 | met f y=>exact ⟨_,(show h.get? a=some _ from x)⟩
 | ext φ=>obtain ⟨_,⟨_,e⟩,_⟩:=x; exact ⟨_,e⟩
theorem bT.lt (x:bT P w H h a o):a < h.objs.size:=let ⟨_,e⟩:=x.k7; ag.lt_size e
theorem cm.Fo {F G:α->β->Prop}:∀ {Ke:List α} {Kc:List β},cm F Ke Kc->(∀ a b,F a b->G a b)->cm G Ke Kc
 := by
 intro Ke Kc h f
 induction h with
 | nil=>exact .nil
 | cons r t ih=>exact .cons (f _ _ r) ih
theorem bT.gu (x:bT P w H h a o) (k:∀ b u,(b=a∨H b=some (.own a))->h.get? b=some u->h'.get? b=some u)
  (ho:∀ b,H b=some (.own a)->H' b=some (.own a)) (ht:∀ b xs,H b=some (.tup xs)->H' b=some (.tup xs)):bT P w H' h' a o:=by
 induction o with
 | lst xs=>obtain ⟨z,its,n,r,e⟩:=x; exact ⟨z,its,n,r,k _ _ (.inl rfl) e⟩
 | tup xs=>obtain ⟨z,its,n,r,e⟩:=x; exact ⟨z,its,n,r,k _ _ (.inl rfl) e⟩
 | dK kvs=>obtain ⟨z,y,vs,r,ob,es,ep,e,c⟩:=x; exact ⟨z,y,vs,r,ob,es,ep,k _ _ (.inl rfl) e,c⟩
 | dT kvs =>
  obtain ⟨z,y,xs,r,ob,es,ep,e,c⟩:=x;exact ⟨z,y,xs,cm.Fo r λp q z=>⟨z.1,ht _ _ z.2.1,z.2.2⟩,ob,es,ep,k _ _ (.inl rfl) e,c⟩
 | set S n=>obtain ⟨ob,es,ep,t,e,c⟩:=x; exact ⟨ob,es,ep,t,k _ _ (.inl rfl) e,c⟩
 | ins C dx fs =>
  obtain ⟨d,z,ne,e,mA,⟨od,es,ep,e2,c⟩,r⟩:=x;exact ⟨ho _ d,z,ne,k _ _ (.inl rfl) e,mA,⟨od,es,ep,k _ _ (.inr d) e2,c⟩,r⟩
 | own y=>obtain ⟨ob,e⟩:=x; exact ⟨ob,k _ _ (.inl rfl) e⟩
 | xd fs=>obtain ⟨mA,⟨od,es,ep,e,c⟩,r⟩:=x; exact ⟨mA,⟨od,es,ep,k _ _ (.inl rfl) e,c⟩,r⟩
 | so lo hi=>obtain ⟨t,u,v,e⟩:=x; exact ⟨t,u,v,k _ _ (.inl rfl) e⟩
 | f_ ob u ih=>obtain ⟨e,q⟩:=x; exact ⟨k _ _ (.inl rfl) e,ih q⟩
 | Bf ps =>
  have e:h.get? a=some { cls:=.none,data:=.fields ps }:=x;exact k a _ (.inl rfl) e
 | tab q =>
  obtain ⟨ps,e,z,r⟩:=x;refine ⟨ps,k _ _ (.inl rfl) e,z,λpos cv q=>?_⟩;obtain ⟨c,o,vs,t,r1,r2,r3,r4⟩:=r pos cv q;exact ⟨c,o,vs,t,r1,ho _ r2,k _ _ (.inr r2) r3,r4⟩
 | met f y =>
  have e:h.get? a=some (Mp (.ref f) (.ref y)):=x;exact k a _ (.inl rfl) e
 | ext φ=>obtain ⟨p,⟨o,e⟩,st⟩:=x; exact ⟨st _ _ p λo q=>k _ _ (.inl rfl) q,⟨o,k _ _ (.inl rfl) e⟩,st⟩
theorem iz.lt (x:iz P w H h) (e:H a=some o):a < h.objs.size:=(x a o e).lt
theorem iz.fresh (x:iz P w H h) (e:h.objs.size<=a):H a=none:=by
 cases q:H a with
 | none=>rfl
 | some u=>exact absurd (Qn (x.lt q) e) (Jk _)
theorem iz.kept (x:iz P w H h) (k:∀ b u,h.get? b=some u->h'.get? b=some u):iz P w H h':=λa o e =>
 (x a o e).gu (λb u _ q=>k b u q) (λ_ q=>q) λ_ _ q=>q
theorem iz.laid (x:iz P w H h) (k:∀ b u,h.get? b=some u->h'.get? b=some u) (hp:h.objs.size<=a) (new:bT P w (upd H a o) h' a o):iz P w (upd H a o) h':=λb u e=>by
 have hn:=x.fresh hp;by_cases hb:b=a
 ·simp_all [aB]
 ·rw [aG hb] at e;exact (x b u e).gu (λc v _ q=>k c v q) (λc q=>by rw [aG (gZ q hn)]; exact q) λc xs q=>by rw [aG (gZ q hn)]; exact q
end
def Rd (H:Hp) (a:ae) (u:HO):Prop:=H a=some u∨∃ o,H a=some (.f_ o u)
theorem Rd.ok {a:ae} {u:HO} (r:Rd H a u) (x:iz P w H h):bT P w H h a u:=by
 rcases r with r | ⟨o,r⟩
 ·exact x a u r
 ·obtain ⟨_,q⟩:=x a _ r;exact q
def BV:Option HO->Prop
 | some (.lst _)=>True
 | some (.dK _)=>True
 | some (.dT _)=>True
 | some (.set _ _)=>True
 | some (.ins _ _ _)=>True
 | some (.ext _)=>True
 | some (.tab _)=>True
 | _=>False
section
variable {x e:ae} {o':HO}
theorem iz.write (ok:iz P w H h) (mu:BV (H x)) (he:e=x∨H e=some (.own x)) (k:∀ b u,b≠e->h.get? b=some u->h'.get? b=some u) (Ej:∃ u,h'.get? e=some u)
  (new:bT P w (upd H x o') h' x o'):iz P w (upd H x o') h':=λb u q=>by
 have Fj:∀ c y,H c=some (.own y)->c≠x:=λc y r z=>by subst z; rw [r] at mu; exact mu
 have NJ:∀ c xs,H c=some (.tup xs)->c≠x:=λc xs r z=>by subst z; rw [r] at mu; exact mu
 by_cases hb:b=x
 ·simp_all [aB]
 ·rw [aG hb] at q;by_cases Df:b=e
  ·have q':H b=some (.own x):=by
    rcases he with z | z
    ·exact absurd (Df.trans z) hb
    ·rw [Df]; exact z
   rw [q] at q'; cases q';obtain ⟨v,hv⟩:=Ej;exact ⟨v,by rw [Df]; exact hv⟩
  ·refine (ok b u q).gu (λc v hc r=>k c v ?_ r) (λc r=>by rw [aG (Fj c b r)]; exact r) λc xs r=>by rw [aG (NJ c xs r)]; exact r
   rcases hc with rfl | hc
   ·exact Df
   ·rintro rfl;rcases he with z | z
    ·exact Fj c b hc z
    ·simp_all
end
structure Un (fs ex:List ae) (H H':Hp) (h h':ag):Prop where
 keep:∀ b o,h.get? b=some o->H b=none->b∉fs->b∉ex->h'.get? b=some o
 slot:∀ b o,h.get? b=some o->H b=none->b∈fs->b∉ex->∃ sl,h'.get? b=some { o with slots:=sl }
 free:∀ b o,h.get? b=some o->H b=none->b∉ex->H' b=none
 there:∀ b o,h.get? b=some o->b∉ex->∃ o',h'.get? b=some o'
 jy:∀ b xs,H b=some (.tup xs)->H' b=some (.tup xs)
 jc:∀ b o u,H b=some (.f_ o u)->H' b=some (.f_ o u)
 jz:∀ b ps,H b=some (.Bf ps)->∃ more,H' b=some (.Bf (ps++more))
section
variable {fs Dk ex ex':List ae} {h1 h2:ag} {a x e:ae} {o:HO}
theorem Un.any (u:Un fs ex H H1 h h1) {b:ae} (q:h.get? b=some ob) (n:H b=none) (hx:b∉ex):∃ sl,h1.get? b=some { ob with slots:=sl }:=by
 by_cases hb:b∈fs
 ·exact u.slot b ob q n hb hx
 ·exact ⟨ob.slots,u.keep b ob q n hb hx⟩
theorem Un.kept (k:∀ b u,h.get? b=some u->h'.get? b=some u):Un fs ex H H h h' :=
 ⟨λb ob q _ _ _=>k b ob q,λb ob q _ _ _=>⟨ob.slots,k b ob q⟩,λ_ _ _ n _=>n,λb ob q _=>⟨ob,k b ob q⟩,λ_ _ q=>q,λ_ _ _ q=>q,λ_ ps q=>⟨#[],by rw [q]; simp⟩⟩
theorem Un.refl:Un fs ex H H h h:=Un.kept λ_ _ q=>q
theorem Un.laid (k:∀ b u,h.get? b=some u->h'.get? b=some u) (hp:h.objs.size<=a) (hn:H a=none):Un fs ex H (upd H a o) h h' where
 keep:=λb u q _ _ _=>k b u q
 slot:=λb u q _ _ _=>⟨u.slots,k b u q⟩
 free:=λb u q n _=>by rw [aG (Qy (Qn (ag.lt_size q) hp))]; exact n
 there:=λb u q _=>⟨u,k b u q⟩
 jy:=λb xs q=>by rw [aG (gZ q hn)]; exact q
 jc:=λb u xs q=>by rw [aG (gZ q hn)]; exact q
 jz:=λb ps q=>⟨#[],by rw [aG (gZ q hn),q]; simp⟩
theorem Un.write (mu:BV (H x)) (he:e=x∨H e=some (.own x)) (k:∀ b u,b≠e->h.get? b=some u->h'.get? b=some u) (Ej:∃ u,h'.get? e=some u):Un fs ex H (upd H x o) h h':=by
 have hx:∀ b,H b=none->b≠x:=λb n z=>by subst z; rw [n] at mu; exact mu
 have hb:∀ b,H b=none->b≠e:=λb n z=>by simp_all
 have hm:∀ b u,H b=some u->¬ BV (some u)->b≠x:=λb u q nm z=>by subst z; rw [q] at mu; exact nm mu
 refine ⟨λb u q n _ _=>k b u (hb b n) q,λb u q n _ _=>⟨u.slots,k b u (hb b n) q⟩,λb u q n _=>by rw [aG (hx b n)]; exact n,λb u q _=>?_,
  λb xs q=>by rw [aG (hm b _ q λz=>z)]; exact q,λb u xs q=>by rw [aG (hm b _ q λz=>z)]; exact q,λb ps q=>⟨#[],by rw [aG (hm b _ q λz=>z),q]; simp⟩⟩
 by_cases Df:b=e
 ·simp_all
 ·exact ⟨u,k b u Df q⟩
end
noncomputable def yk (h:ag) (H:Hp):List ae:=(List.range h.objs.size).filter λa=>(H a).isSome
noncomputable def xI (h:ag) (H:Hp):ag:=Rx h (yk h H)
theorem aEG (h:ag) (H:Hp):(xI h H).objs.size=h.objs.size:=PySem.W.hideAll_size _ _
theorem X7 {b:ae} (e:h.get? b=some o) (n:H b=none):(xI h H).get? b=some o :=
 Vn _ e λhm=>by
  have q:(H b).isSome=true:=(Js.mp hm).2;rw [n] at q; simp at q
theorem aHA {b:ae} (e:(xI h H).get? b=some o):h.get? b=some o/\H b=none:=by
 have e':h.get? b=some o:=Ui (yk h H) e;refine ⟨e',?_⟩;cases q:H b with
 | none=>rfl
 | some x =>
  have hm:b∈yk h H:=Js.mpr ⟨Zm.mpr (ag.lt_size e'),by simp [q]⟩;have z:(xI h H).get? b=none:=Rv (yk h H) hm;rw [z] at e; cases e
noncomputable def aHB (g h:ag) (L:ae):List (ae×cb):=(List.range h.objs.size).filterMap λa=>if a=L∨(g.get? a).isSome=true then none else (h.get? a).map λo=>(a,o)
noncomputable def cC (g h:ag) (L d:ae):List (ae×cb):=(aHB g h L).filter λp=>decide (p.1≠d)
structure Mod (K:Rb) (mg:aj->Option aa) (base:ag):Prop where
 zg:K.In base
 glob:base.Ns ai mg
 blt:∃ mb,base.Ns builtinsNs mb/\∀ x:aj,x ≠ "__name__" -> mb x=az x
 nolimit:base.NoLimit
 mods:∃ mm,base.Ns br mm
structure Cx where
 prog:bq
 w:bx
 K:Rb
 mg:aj->Option aa
 base:ag
 A:bz
 N:List aj
 jg:ah
 u4:Hp
 env:cz
 outer:List cz
 stack:List cz
 ex:List ae
 fn:aj->Bool
 calm:Bool
 pn:List (ae×cb)
 xe:aa->ah->Prop
end L2
variable {X Y:Cx}
namespace L2
open PySem PySem.Spec PyProof.Rows
noncomputable def gr (l:List cz):List ae:=l.filterMap (·.frame)
noncomputable abbrev Cx.fs (X:Cx):List ae:=gr X.outer
def H_ (sc:dc) (x:aj):Prop:=sc.names.lookup x=some .local∨sc.names.lookup x=some .cell∨sc.names.lookup x=some .free
def Loc (sc:dc) (x:aj):Prop:=sc.names.lookup x=some .local∨sc.names.lookup x=some .cell
theorem eh {a:α} {b:Prop}:a=a∨b:=.inl rfl
def aLX (env:cz) (h:ag) (m:aj->Option aa) (x:aj) (u:aa):Prop :=
 (env.kindOf x=some .local/\m x=some u)∨((env.kindOf x=some .cell∨env.kindOf x=some .free)/\∃ c,env.cells.lookup x=some c/\h.IsCell c (some u))
structure Cx.Ok (X:Cx):Prop where
 mod:Mod X.K X.mg X.base
 kind:X.env.scope.kind=.function
 glob:X.env.globals=ai
 blt:X.env.builtins=builtinsNs
 above:X.jg.heap.objs.size<=X.env.locals
 inj:∀ x y c,X.env.cells.lookup x=some c->X.env.cells.lookup y=some c->x=y
 has:∀ x,(X.env.kindOf x=some .cell∨X.env.kindOf x=some .free)->∃ c,X.env.cells.lookup x=some c
 AU:∀ x c,X.fn x=true->X.env.cells.lookup x=some c->X.jg.heap.objs.size<=c
 hd:X.calm=true->X.A.handled=none
 frames:X.A.frames=some X.stack
 DJ:X.stack=X.outer∨(X.stack=X.env::X.outer/\X.env.frame=some X.env.locals)
 EB:∀ b∈X.ex,b≠X.env.locals/\∀ x c,X.env.cells.lookup x=some c->c≠b
 bs:∀ b o,X.base.get? b=some o->X.jg.heap.get? b=some o/\X.u4 b=none
 zv:X.base.objs.size<=X.jg.heap.objs.size
 nz:∀ b o,X.base.get? b=some o->b∉X.ex
 xy:∀ b∈X.ex,b∉X.fs
 j2:X.jg.heap.FunFrames X.base X.outer
 zu:∀ b∈X.fs,X.u4 b=none
structure Inv (X:Cx) (a_:List (ae×cb)) (σ:List (Option V)) (H:Hp) (s:ah):Prop where
 ok:X.Ok
 os:s.os=X.jg.os
 bare:AllBare s.gens
 base:Un X.fs X.ex X.u4 H X.jg.heap s.heap
 loc:∃ m,s.heap.Ns X.env.locals m/\∀ (i:Nat) (x:aj) (v:V),X.N[i]?=some x->σ[i]?=some (some v)->H_ X.env.scope x->∃ u,bN v u/\aLX X.env s.heap m x u
 cell:∀ x c,X.env.cells.lookup x=some c->∃ v,s.heap.IsCell c v
 free:H X.env.locals=none
 gm:∀ x c,X.env.cells.lookup x=some c->H c=none
 pin:∀ p∈X.pn++a_,s.heap.get? p.1=some p.2/\H p.1=none/\p.1≠X.env.locals/\p.1∉X.fs/\∀ v,p.2.data≠.cell v
 ei:iz X.prog X.w H s.heap
 len:σ.length=X.N.length
section
variable {σ:List (Option V)}
theorem Cx.Ok.NN (ok:X.Ok) {b:ae} (e:X.base.get? b=some o):b∉X.fs:=λhb=>by
 have:=(ok.j2.mem hb).1;rw [e] at this; cases this
theorem Inv.bs (I:Inv X a_ σ H s):∀ b o,X.base.get? b=some o->s.heap.get? b=some o/\H b=none:=λb o e =>
 ⟨I.base.keep b o (I.ok.bs b o e).1 (I.ok.bs b o e).2 (I.ok.NN e) (I.ok.nz b o e),I.base.free b o (I.ok.bs b o e).1 (I.ok.bs b o e).2 (I.ok.nz b o e)⟩
theorem Inv.bk (I:Inv X a_ σ H s):∀ b o,X.base.get? b=some o->s.heap.get? b=some o:=λb o e=>(I.bs b o e).1
theorem Inv.mod (I:Inv X a_ σ H s):Mod X.K X.mg X.base:=I.ok.mod
theorem Inv.j4 (I:Inv X a_ σ H s):X.K.In s.heap:=I.ok.mod.zg.keeps I.bk
theorem Inv.nolimit (I:Inv X a_ σ H s):s.heap.NoLimit:=I.ok.mod.nolimit.keeps I.bk
theorem Inv.lt (I:Inv X a_ σ H s):X.env.locals < s.heap.objs.size:=let ⟨_,hn,_⟩:=I.loc; hn.lt
theorem Inv.sz (I:Inv X a_ σ H s):X.jg.heap.objs.size<=s.heap.objs.size:=Qr I.ok.above (Jx I.lt)
theorem Inv.B0 (I:Inv X a_ σ H s) {a:ae} (h:s.heap.objs.size<=a):a∉X.fs:=λhb=>by
 obtain ⟨_,o,ho,_⟩:=I.ok.j2.mem hb;exact absurd (Qn (ag.lt_size ho) (Qr I.sz h)) (Jk _)
theorem Inv.xf (I:Inv X a_ σ H s):∀ x c,X.env.cells.lookup x=some c->c≠X.env.locals:=λx c e z=>by
 obtain ⟨v,o,ho,hd⟩:=I.cell x c e;obtain ⟨m,⟨o',es,ep,m9,BA,_⟩,_⟩:=I.loc;rw [z,m9] at ho; cases ho; rw [BA] at hd; cases hd
theorem Inv.j2 (I:Inv X a_ σ H s):s.heap.FunFrames X.base X.outer:=by
 have all:∀ (l:List cz),(∀ b∈gr l,b∈X.fs)->X.jg.heap.FunFrames X.base l->s.heap.FunFrames X.base l:=by
  intro l
  induction l with
  | nil=>intro _ _; trivial
  | cons env r ih =>
   intro hs hl;obtain ⟨hk,⟨L,o,hf,hn,ho,hd⟩,hr⟩:=hl;have hL:L∈X.fs:=hs L (by unfold gr; rw [Xe,hf]; exact Qk);obtain ⟨sl,e⟩:=I.base.slot L o ho (I.ok.zu L hL) hL λz=>I.ok.xy L z hL;exact ⟨hk,⟨L,_,hf,hn,e,hd⟩,ih (λb hb=>hs b (by unfold gr; rw [Xe,hf]; exact Qj _ hb)) hr⟩
 exact all X.outer (λ_ hb=>hb) I.ok.j2
theorem Inv.stack (I:Inv X a_ σ H s):s.heap.FunFrames X.base X.stack:=by
 rcases I.ok.DJ with e | ⟨e,hf⟩
 ·rw [e]; exact I.j2
 ·rw [e];obtain ⟨m,hn,_⟩:=I.loc;refine .cons (by rw [I.ok.kind]; decide) hf hn ?_ I.j2;exact ag.get?_none_of_le (Qr I.ok.zv I.ok.above)
theorem Inv.j3 (I:Inv X a_ σ H s):∀ b∈gr X.stack,b∈X.env.locals::X.fs:=λb hb=>by
 rcases I.ok.DJ with e | ⟨e,hf⟩
 ·rw [e] at hb; exact Qj _ hb
 ·rw [e] at hb;unfold gr at hb;rw [Xe,hf] at hb;exact hb
theorem Inv.jk (I:Inv X a_ σ H s):∀ b∈gr X.stack,H b=none:=λb hb=>by
 rcases Ql.mp (I.j3 b hb) with e | hb
 ·rw [e]; exact I.free
 ·obtain ⟨_,o,ho,_⟩:=I.ok.j2.mem hb;exact I.base.free b o ho (I.ok.zu b hb) λz=>I.ok.xy b z hb
theorem Inv.step {g':Array GenState} {d':Drawn} (I:Inv X a_ σ H s) (j7:∀ b∈ch,(b∈X.ex∨X.jg.heap.objs.size<=b)/\b≠X.env.locals/\(∀ x c,X.env.cells.lookup x=some c->c≠b)/\∀ p∈X.pn++a_,p.1≠b) (keep:∀ b o,b≠X.env.locals->b∉X.fs->b∉ch->s.heap.get? b=some o->H b=none->h'.get? b=some o) (slot:∀ b o,b≠X.env.locals->b∈X.fs->b∉ch->s.heap.get? b=some o->H b=none->∃ sl,h'.get? b=some { o with slots:=sl }) (free:∀ b o,b∉ch->s.heap.get? b=some o->H b=none->H' b=none) (there:∀ b o,b∉ch->s.heap.get? b=some o->∃ o',h'.get? b=some o') (jy:∀ b xs,H b=some (.tup xs)->H' b=some (.tup xs)) (jc:∀ b o u,H b=some (.f_ o u)->H' b=some (.f_ o u)) (jz:∀ b ps,H b=some (.Bf ps)->∃ more,H' b=some (.Bf (ps++more))) (ns:∀ m,s.heap.Ns X.env.locals m->h'.Ns X.env.locals m) (ei:iz X.prog X.w H' h') (hg:AllBare g') :
  Inv X a_ σ H' { s with heap:=h',gens:=g',drawn:=d',toks:=t' }:=by
 have Pb:∀ b o,X.jg.heap.get? b=some o->b≠X.env.locals:=λb o e=>Qy (Qn (ag.lt_size e) I.ok.above);have Gb:∀ b o,X.jg.heap.get? b=some o->b∉X.ex->b∉ch:=λb o e hx hb=>by
  rcases (j7 b hb).1 with z | z
  ·exact hx z
  ·exact absurd (Qn (ag.lt_size e) z) (Jk _)
 have cellK:∀ x c,X.env.cells.lookup x=some c->∀ v,s.heap.IsCell c v->h'.IsCell c v:=λx c e v ⟨o,ho,hd⟩=>by
  have DQ:c∉ch:=λz=>(j7 c z).2.2.1 x c e rfl;by_cases hc:c∈X.fs
  ·obtain ⟨sl,q⟩:=slot c o (I.xf x c e) hc DQ ho (I.gm x c e);exact ⟨_,q,hd⟩
  ·exact ⟨o,keep c o (I.xf x c e) hc DQ ho (I.gm x c e),hd⟩
 refine ⟨I.ok,I.os,hg,⟨λb o e n hb hx=>?_,λb o e n hb hx=>?_,λb o e n hx=>?_,λb o e hx=>?_,λb xs e=>jy b xs (I.base.jy b xs e),λb o xs e=>jc b o xs (I.base.jc b o xs e),λb ps e=>?_⟩,?_,λx c e=>?_,?_,λx c e=>?_,λp hp=>?_,ei,I.len⟩
 ·exact keep b o (Pb b o e) hb (Gb b o e hx) (I.base.keep b o e n hb hx) (I.base.free b o e n hx)
 ·obtain ⟨sl,e1⟩:=I.base.slot b o e n hb hx;obtain ⟨Bj,e2⟩:=slot b _ (Pb b o e) hb (Gb b o e hx) e1 (I.base.free b o e n hx);exact ⟨Bj,e2⟩
 ·obtain ⟨o',e1⟩:=I.base.there b o e hx;exact free b o' (Gb b o e hx) e1 (I.base.free b o e n hx)
 ·obtain ⟨o',e1⟩:=I.base.there b o e hx;exact there b o' (Gb b o e hx) e1
 ·obtain ⟨m1,e1⟩:=I.base.jz b ps e;obtain ⟨m2,e2⟩:=jz b _ e1;exact ⟨m1++m2,by rw [e2,Array.append_assoc]⟩
 ·obtain ⟨m,hn,hl⟩:=I.loc;refine ⟨m,ns m hn,λi x v e1 e2 e3=>?_⟩;obtain ⟨u,r,l⟩:=hl i x v e1 e2 e3;refine ⟨u,r,?_⟩;rcases l with l | ⟨k,c,e,z⟩
  ·exact .inl l
  ·exact .inr ⟨k,c,e,cellK x c e _ z⟩
 ·obtain ⟨v,z⟩:=I.cell x c e;exact ⟨v,cellK x c e v z⟩
 ·obtain ⟨m,⟨o,_,_,ho,_⟩,_⟩:=I.loc;exact free _ o (λz=>(j7 _ z).2.1 rfl) ho I.free
 ·obtain ⟨v,o,ho,hd⟩:=I.cell x c e;exact free c o (λz=>(j7 c z).2.2.1 x c e rfl) ho (I.gm x c e)
 ·obtain ⟨e,n,ne,nf,d⟩:=I.pin p hp;have DQ:p.1∉ch:=λz=>(j7 p.1 z).2.2.2 p hp rfl;exact ⟨keep p.1 p.2 ne nf DQ e n,free p.1 p.2 DQ e n,ne,nf,d⟩
theorem Inv.un (I:Inv X a_ σ H s) (u:Un X.fs [] H H' s.heap h') (ei:iz X.prog X.w H' h'):Inv X a_ σ H' { s with heap:=h',toks:=t' }:=by
 obtain ⟨m,⟨o,es,ep,ho,r⟩,_⟩:=id I.loc;obtain ⟨sl,hL⟩:=u.any ho I.free 'b';exact I.step (g':=s.gens) (d':=s.drawn) (ch:=[]) (λ_ z=>nomatch z) (λb o _ hb _ e n=>u.keep b o e n hb 'b') (λb o _ hb _ e n=>u.slot b o e n hb 'b') (λb o _ e n=>u.free b o e n 'b') (λb o _ e=>u.there b o e 'b') u.jy u.jc u.jz (λm' hm=>by
  obtain ⟨o',ED,EE,m9,r'⟩:=hm;rw [ho] at m9; cases m9;exact ⟨_,ED,EE,hL,r'⟩) ei I.bare
theorem Inv.call {g':Array GenState} {d':Drawn} (I:Inv X a_ σ H s) (u:Un (gr X.stack) ch H H' s.heap h') (ei:iz X.prog X.w H' h') (hg:AllBare g') (j7:∀ b∈ch,(b∈X.ex∨X.jg.heap.objs.size<=b)/\b≠X.env.locals/\(∀ x c,X.env.cells.lookup x=some c->c≠b)/\∀ p∈X.pn++a_,p.1≠b) :
  Inv X a_ σ H' { s with heap:=h',gens:=g',drawn:=d',toks:=t' }:=by
 obtain ⟨m,⟨o,es,ep,ho,r⟩,_⟩:=id I.loc;obtain ⟨sl,hL⟩:=u.any ho I.free λz=>(j7 _ z).2.1 rfl;exact I.step (ch:=ch) j7 (λb o hL hb hc e n=>u.keep b o e n (λz=>(Ql.mp (I.j3 b z)).elim hL hb) hc) (λb o _ _ hc e n=>u.any e n hc) (λb o hc e n=>u.free b o e n hc) (λb o hc e=>u.there b o e hc) u.jy u.jc u.jz (λm' hm=>by
  obtain ⟨o',ED,EE,m9,r'⟩:=hm;rw [ho] at m9; cases m9;exact ⟨_,ED,EE,hL,r'⟩) ei hg
theorem Inv.turned (I:Inv X a_ σ H s) (k:∀ b o,b≠it->s.heap.get? b=some o->h'.get? b=some o) (hn:H it=none) (hL:it≠X.env.locals) (h1:it∈X.ex∨X.jg.heap.objs.size<=it) (h2:∀ x c,X.env.cells.lookup x=some c->c≠it) (h3:∀ p∈X.pn++a_,p.1≠it):Inv X a_ σ H { s with heap:=h',toks:=t' }:=by
 have O_:∀ b u,H b=some u->b≠it:=λb u e z=>by rw [z,hn] at e; cases e
 refine I.step (g':=s.gens) (d':=s.drawn) (ch:=[it]) (λb hb=>?_) (λb o _ _ hc e _=>k b o (λz=>hc (by simp [z])) e) (λb o _ _ hc e _=>⟨o.slots,k b o (λz=>hc (by simp [z])) e⟩) (λ_ _ _ _ n=>n)
  (λb o hc e=>⟨o,k b o (λz=>hc (by simp [z])) e⟩) (λ_ _ e=>e) (λ_ _ _ e=>e) (λb ps e=>⟨#[],by rw [e]; simp⟩) (λm hm=>?_) (λb u e=>?_) I.bare
 ·have e:b=it:=by simpa using hb
  subst e;exact ⟨h1,hL,h2,h3⟩
 ·obtain ⟨o,es,ep,ho,r⟩:=hm;exact ⟨o,es,ep,k _ o (Ne.symm hL) ho,r⟩
 ·refine (I.ei b u e).gu (λc v hc q=>k c v ?_ q) (λ_ q=>q) λ_ _ q=>q;rcases hc with z | z
  ·rw [z]; exact O_ b u e
  ·exact O_ c _ z
theorem Inv.tok (I:Inv X a_ σ H s) (t:Nat):Inv X a_ σ H { s with toks:=t }:=I.un (h':=s.heap) (t':=t) Un.refl I.ei
theorem Inv.kept (I:Inv X a_ σ H s) (k:∀ b u,s.heap.get? b=some u->h'.get? b=some u):Inv X a_ σ H { s with heap:=h',toks:=t' }:=I.un (Un.kept k) (I.ei.kept k)
theorem Inv.laid {a:ae} {o:HO} (I:Inv X a_ σ H s) (k:∀ b u,s.heap.get? b=some u->h'.get? b=some u) (hp:s.heap.objs.size<=a) (new:bT X.prog X.w (upd H a o) h' a o) :
  Inv X a_ σ (upd H a o) { s with heap:=h',toks:=t' }:=I.un (Un.laid k hp (I.ei.fresh hp)) (I.ei.laid k hp new)
theorem Inv.write {x e:ae} {o:HO} (I:Inv X a_ σ H s) (mu:BV (H x)) (he:e=x∨H e=some (.own x)) (k:∀ b u,b≠e->s.heap.get? b=some u->h'.get? b=some u) (Ej:∃ u,h'.get? e=some u) (new:bT X.prog X.w (upd H x o) h' x o):Inv X a_ σ (upd H x o) { s with heap:=h',toks:=t' }:=I.un (Un.write mu he k Ej) (I.ei.write mu he k Ej new)
theorem Inv.jm {A':List (ae×cb)} (I:Inv X a_ σ H s) (h:∀ p∈A',s.heap.get? p.1=some p.2/\H p.1=none/\p.1≠X.env.locals/\p.1∉X.fs/\∀ v,p.2.data≠.cell v):Inv X A' σ H s :=
 ⟨I.ok,I.os,I.bare,I.base,I.loc,I.cell,I.free,I.gm,λp hp=>(Qp.mp hp).elim (λz=>I.pin p (Jy _ z)) (h p),I.ei,I.len⟩
theorem uH (hN:N.Nodup) {x:aj} (a:N[i]?=some x) (b:N[j]?=some x):i=j:=by
 obtain ⟨h1,e1⟩:=Qb.mp a;obtain ⟨h2,e2⟩:=Qb.mp b;exact (Wm hN).mp (e1.trans e2.symm)
theorem qZ {x:aj} {Q:Unit->ah->Prop} (I:Inv X a_ σ H s) (hN:X.N.Nodup) (hi:X.N[i]?=some x) (hx:Loc X.env.scope x) (r:bN v u) (h:∀ s',Inv X a_ (σ.set i (some v)) H s'->(∃ a,ag.SameBut a s.heap s'.heap/\(a=X.env.locals∨X.env.cells.lookup x=some a))->Q () s') (hf:autoParam (X.fn x=true∨X.env.scope.names.lookup x=some .local) L2.DG):aq M A (storeName X.env x u) Q E s:=by
 obtain ⟨m,hn,hl⟩:=id I.loc;have Co:(X.env.scope.kind==.class || (X.env.scope.kind==.module && X.env.locals !=X.env.globals))=false:=by rw [I.ok.kind]; rfl
 have B':i < σ.length:=by rw [I.len]; exact (Qb.mp hi).1
 have xf:=I.xf;have tracked:∀ {a:ae} {h':ag},(∃ o,s.heap.get? a=some o/\H a=none)->ag.SameBut a s.heap h'->iz X.prog X.w H h':=λ{a h'} ha hs b ob e=>by
  obtain ⟨_,_,yd⟩:=ha;refine (I.ei b ob e).gu (λc w' hc q=>(hs.2 c ?_).trans q) (λ_ q=>q) λ_ _ q=>q;rintro rfl;rcases hc with rfl | hc
  ·simp_all
  ·simp_all
 rcases hx with hk | hk
 ·refine wpAny_storeName_local hk hn (λh' Ku hs=>?_) Co;obtain ⟨oL,_,_,w9,_⟩:=id hn;refine h _ ⟨I.ok,I.os,I.bare,⟨λb o e n hb hx=>?_,λb o e n hb hx=>?_,I.base.free,λb o e hx=>?_,I.base.jy,I.base.jc,I.base.jz⟩,⟨_,Ku,λj y v' e1 e2 e3=>?_⟩,λy c e=>?_,I.free,I.gm,λp hp=>?_,tracked ⟨oL,w9,I.free⟩ hs,by simpa using I.len⟩ ⟨_,hs,.inl rfl⟩
  ·exact (hs.2 b (Qy (Qn (ag.lt_size e) I.ok.above))).trans (I.base.keep b o e n hb hx)
  ·obtain ⟨sl,e1⟩:=I.base.slot b o e n hb hx;exact ⟨sl,(hs.2 b (Qy (Qn (ag.lt_size e) I.ok.above))).trans e1⟩
  ·obtain ⟨o',e1⟩:=I.base.there b o e hx;exact ⟨o',(hs.2 b (Qy (Qn (ag.lt_size e) I.ok.above))).trans e1⟩
  ·by_cases hj:j=i
   ·subst hj;rw [hi] at e1; cases e1;rw [Yd B'] at e2;cases e2;exact ⟨u,r,.inl ⟨hk,by simp⟩⟩
   ·rw [Ym (Ne.symm hj)] at e2;obtain ⟨u',r',q⟩:=hl j y v' e1 e2 e3;refine ⟨u',r',?_⟩;rcases q with ⟨k,e⟩ | ⟨k,c,e,z⟩
    ·refine .inl ⟨k,?_⟩;have:y≠x:=λe=>hj (uH hN e1 (e ▸ hi));simp [this,e]
    ·exact .inr ⟨k,c,e,z.sameBut hs (xf y c e)⟩
  ·obtain ⟨w',z⟩:=I.cell y c e;exact ⟨w',z.sameBut hs (xf y c e)⟩
  ·obtain ⟨e,n,ne,nf,d⟩:=I.pin p hp;exact ⟨(hs.2 p.1 ne).trans e,n,ne,nf,d⟩
 ·have KH:X.fn x=true:=by simp_all
  obtain ⟨c,hc⟩:=I.ok.has x (.inl hk);obtain ⟨w',z⟩:=I.cell x c hc;refine wpAny_storeName_cell I.ok.kind hk hc z (λh' j8 hs=>?_);obtain ⟨oc,tf,N0⟩:=id z;refine h { s with heap:=h' } ⟨I.ok,I.os,I.bare,⟨λb o e n hb hx=>?_,λb o e n hb hx=>?_,I.base.free,λb o e hx=>?_,I.base.jy,I.base.jc,I.base.jz⟩,⟨m,hn.sameBut hs (Ne.symm (xf x c hc)),λj y v' e1 e2 e3=>?_⟩,λy c' e=>?_,I.free,I.gm,λp hp=>?_,tracked ⟨oc,tf,I.gm x c hc⟩ hs,by simpa using I.len⟩ ⟨c,hs,.inr hc⟩
  ·exact (hs.2 b (Qy (Qn (ag.lt_size e) (I.ok.AU x c KH hc)))).trans (I.base.keep b o e n hb hx)
  ·obtain ⟨sl,e1⟩:=I.base.slot b o e n hb hx;exact ⟨sl,(hs.2 b (Qy (Qn (ag.lt_size e) (I.ok.AU x c KH hc)))).trans e1⟩
  ·obtain ⟨o',e1⟩:=I.base.there b o e hx;exact ⟨o',(hs.2 b (Qy (Qn (ag.lt_size e) (I.ok.AU x c KH hc)))).trans e1⟩
  ·by_cases hj:j=i
   ·subst hj;rw [hi] at e1; cases e1;rw [Yd B'] at e2;cases e2;exact ⟨u,r,.inr ⟨.inl hk,c,hc,j8⟩⟩
   ·rw [Ym (Ne.symm hj)] at e2;obtain ⟨u',r',q⟩:=hl j y v' e1 e2 e3;refine ⟨u',r',?_⟩;rcases q with q | ⟨k,c',e,z'⟩
    ·exact .inl q
    ·refine .inr ⟨k,c',e,z'.sameBut hs ?_⟩;rintro rfl;exact hj (uH hN e1 (I.ok.inj _ _ _ e hc ▸ hi))
  ·by_cases BC:c'=c
   ·subst BC; exact ⟨_,j8⟩
   ·obtain ⟨w2,z2⟩:=I.cell y c' e;exact ⟨w2,z2.sameBut hs BC⟩
  ·obtain ⟨e,n,ne,nf,d⟩:=I.pin p hp;refine ⟨(hs.2 p.1 ?_).trans e,n,ne,nf,d⟩;intro q;rw [q,tf] at e;have q':oc=p.2:=Option.some.inj e;exact d w' (by rw [<- q']; exact N0)
theorem pO {x:aj} {Q:Unit->ah->Prop} (I:Inv X a_ σ H s) (hN:X.N.Nodup) (hi:X.N[i]?=some x) (hx:Loc X.env.scope x) (r:bN v u) (h:∀ s',Inv X a_ (σ.set i (some v)) H s'->Q () s') (hf:autoParam (X.fn x=true∨X.env.scope.names.lookup x=some .local) L2.DG):aq M A (storeName X.env x u) Q E s :=
 qZ I hN hi hx r (λs' I' _=>h s' I') hf
theorem Inv.pw (I:Inv X a_ σ H s) (ho:s'.os=s.os) (u:Un (gr X.stack) ch H H' s.heap s'.heap) (ei:iz X.prog X.w H' s'.heap) (hg:AllBare s'.gens) (j7:∀ b∈ch,(b∈X.ex∨X.jg.heap.objs.size<=b)/\b≠X.env.locals/\(∀ x c,X.env.cells.lookup x=some c->c≠b)/\∀ p∈X.pn++a_,p.1≠b):Inv X a_ σ H' s':=by
 obtain ⟨h',g',d',t',o'⟩:=s';have e:o'=s.os:=ho;subst e;exact I.call (g':=g') (t':=t') (d':=d') u ei hg j7
end
abbrev XK:=aa->Option ae->Hp->Prop
abbrev St:=List (Option V)
abbrev VK:=V->Hp->Prop
abbrev TE:=St->Hp->VK->Prop
end L2
variable {ta tb te tc to tl tk tv ts td ty:TE}
namespace L2
open PySem PySem.Spec PyProof.Rows
abbrev TT:=St->Hp->(Bool->Hp->Prop)->Prop
end L2
variable {tt:TT}
namespace L2
open PySem PySem.Spec PyProof.Rows
abbrev TA:=St->Hp->(List V->Hp->Prop)->Prop
end L2
variable {tr:TA}
namespace L2
open PySem PySem.Spec PyProof.Rows
structure Ends where
 nx:St->Hp->Prop
 rt:VK
 bk:St->Hp->Prop:=λ_ _=>False
 ct:St->Hp->Prop:=λ_ _=>False
abbrev TS:=Ends->St->Hp->Prop
def EP (X:Cx) (a_:List (ae×cb)) (σ:St) (Q:VK) (u:aa) (s':ah):Prop:=∃ v H',Inv X a_ σ H' s'/\bN v u/\Q v H'
def TP (X:Cx) (a_:List (ae×cb)) (σ:St) (Q:Bool->Hp->Prop) (b:Bool) (s':ah):Prop:=∃ H',Inv X a_ σ H' s'/\Q b H'
def AP (X:Cx) (a_:List (ae×cb)) (σ:St) (Q:List V->Hp->Prop) (us:List aa) (s':ah):Prop:=∃ vs H',Inv X a_ σ H' s'/\bG vs us/\Q vs H'
def SP (X:Cx) (a_:List (ae×cb)) (D:Ends) (f:Flow) (s':ah):Prop :=
 match f with
 | .next=>∃ d9 H',Inv X a_ d9 H' s'/\D.nx d9 H'
 | .brk=>∃ d9 H',Inv X a_ d9 H' s'/\D.bk d9 H'
 | .cont=>∃ d9 H',Inv X a_ d9 H' s'/\D.ct d9 H'
 | .ret u=>∃ v d9 H',Inv X a_ d9 H' s'/\bN v u/\D.rt v H'
def PE (X:Cx) (e:ay) (t:TE):Prop :=
 ∀ (a_:List (ae×cb)) (s:ah) (σ:St) (H:Hp) (Q:VK),Inv X a_ σ H s->t σ H Q->aq (ar X.prog X.w) X.A (eval e X.env) (EP X a_ σ Q) X.xe s
def PT (X:Cx) (e:ay) (t:TT):Prop :=
 ∀ (a_:List (ae×cb)) (s:ah) (σ:St) (H:Hp) (Q:Bool->Hp->Prop),Inv X a_ σ H s->t σ H Q->aq (ar X.prog X.w) X.A (isTrue e X.env (eval e X.env)) (TP X a_ σ Q) X.xe s
def PW (X:Cx) (e:ay) (t:TT):Prop :=
 ∀ (whole:Sem aa) (a_:List (ae×cb)) (s:ah) (σ:St) (H:Hp) (Q:Bool->Hp->Prop),Inv X a_ σ H s->t σ H Q->aq (ar X.prog X.w) X.A (isTrue e X.env whole) (TP X a_ σ Q) X.xe s
theorem PW.pt {t:TT} (h:PW X e t):PT X e t:=h _
def PA (X:Cx) (es:List ay) (t:TA):Prop :=
 ∀ (pos:Pos) (a_:List (ae×cb)) (s:ah) (σ:St) (H:Hp) (Q:List V->Hp->Prop),Inv X a_ σ H s->t σ H Q->aq (ar X.prog X.w) X.A (spliced (cj pos (ao es X.env))) (AP X a_ σ Q) X.xe s
def PS (X:Cx) (st:ax) (t:TS):Prop :=
 ∀ (a_:List (ae×cb)) (s:ah) (σ:St) (H:Hp) (D:Ends),Inv X a_ σ H s->t D σ H->aq (ar X.prog X.w) X.A (exec st X.env) (SP X a_ D) X.xe s
def nc (X:Cx) (st:List ax) (t:TS):Prop :=
 ∀ (a_:List (ae×cb)) (s:ah) (σ:St) (H:Hp) (D:Ends),Inv X a_ σ H s->t D σ H->aq (ar X.prog X.w) X.A (execs st X.env) (SP X a_ D) X.xe s
theorem fc {t:Sem α} {Q Q':α->ah->Prop} (h:aq M A t Q E s) (hQ:∀ a s,Q a s->Q' a s):aq M A t Q' E s:=Ro h hQ λ_ _ x=>x
section
def kW (i:Nat):TE:=λσ H Q=>∃ v,σ[i]?=some (some v)/\Q v H
abbrev tC (v:V):TE:=λ_ H Q=>Q v H
theorem UL {x:aj} (hN:X.N[i]?=some x) (hv:H_ X.env.scope x) (hd:autoParam ((x==("__debug__" : aj))=false) L2.iy) (ku:autoParam ((x==("__classdict__" : aj))=false) L2.iy):PE X (.Name x pos) (kW i):=by
 intro a_ s σ H Q I h;obtain ⟨v,e,h⟩:=h;obtain ⟨m,hn,hl⟩:=I.loc;obtain ⟨u,r,l⟩:=hl i x v hN e hv;have fin:EP X a_ σ Q u s:=⟨v,H,I,r,h⟩
 rcases l with ⟨hk,hm⟩ | ⟨hk,c,hc,ig⟩
 ·exact Ih (Rad I.ok.kind hk hn hm fin) hd
 ·rcases hk with hk | hk
  ·exact Ih (wpAny_loadName_cell I.ok.kind hk hc ig fin) hd
  ·exact Ih (Rai I.ok.kind hk hc ig fin ku) hd
theorem aH {i j pos}:PE X (.Constant (.int i) j pos) (tC (.int i)):=λ_ _ _ H _ I h=>wpAny_Constant_int ⟨.int i,H,I.tok _,⟨_,rfl⟩,h⟩
theorem jY {b j pos}:PE X (.Constant (.bool b) j pos) (tC (.bl b)):=λ_ _ _ H _ I h=>Constant_bool ⟨.bl b,H,I,rfl,h⟩
theorem rA {j pos}:PE X (.Constant .none j pos) (tC .fk):=λ_ _ _ H _ I h=>Constant_none ⟨.fk,H,I,rfl,h⟩
theorem aJ {x j pos}:PE X (.Constant (.str x) j pos) (tC (.str x)):=λ_ _ _ H _ I h=>Calls.Constant_str ⟨.str x,H,I.tok _,⟨_,rfl⟩,h⟩
def Gl (X:Cx) (x:aj):Prop:=X.env.kindOf x=some .globalImplicit
theorem jN {σ:St} {x:aj} (I:Inv X a_ σ H s) (hg:Gl X x) (hm:X.mg x=some u) (h:Q u s) (hd:autoParam ((x==("__debug__" : aj))=false) L2.iy):aq (ar X.prog X.w) X.A (eval (.Name x pos) X.env) Q E s :=
 Calls.Name_function_global I.ok.kind hg (Calls.loadGlobal_global (by rw [I.ok.glob]; exact I.mod.glob.keeps I.bk) hm h) hd
theorem mT {σ:St} {x:aj} (I:Inv X a_ σ H s) (hg:Gl X x) (hm:X.mg x=none) (hv:az x=some u) (h:Q u s) (hn:autoParam (x ≠ "__name__") L2.iy) (hd:autoParam ((x==("__debug__" : aj))=false) L2.iy):aq (ar X.prog X.w) X.A (eval (.Name x pos) X.env) Q E s:=by
 obtain ⟨mb,h1,h2⟩:=I.mod.blt;exact Calls.Name_function_global I.ok.kind hg (Calls.loadGlobal_builtin (by rw [I.ok.glob]; exact I.mod.glob.keeps I.bk) hm (by rw [I.ok.blt]; exact h1.keeps I.bk) ((h2 x hn).trans hv) h) hd
theorem iW {x:aj} (hg:Gl X x) (hm:X.mg x=some u) (r:bN v u) (hd:autoParam ((x==("__debug__" : aj))=false) L2.iy):PE X (.Name x pos) (tC v) :=
 λ_ _ _ H _ I h=>jN I hg hm ⟨v,H,I,r,h⟩ hd
theorem iX {x:aj} (hg:Gl X x) (hm:X.mg x=none) (hv:az x=some u) (r:bN v u) (hn:autoParam (x ≠ "__name__") L2.iy) (hd:autoParam ((x==("__debug__" : aj))=false) L2.iy):PE X (.Name x pos) (tC v) :=
 λ_ _ _ H _ I h=>mT I hg hm hv ⟨v,H,I,r,h⟩ hn hd
variable {a b:ay}
def PC (X:Cx) (op:CmpOp) (a b:ay) (t:TE):Prop :=
 ∀ (a_:List (ae×cb)) (s:ah) (σ:St) (H:Hp) (Q:VK),Inv X a_ σ H s->t σ H Q ->
  aq (ar X.prog X.w) X.A (eval a X.env) (λv gi=>aq (ar X.prog X.w) X.A (eval b X.env) (λu kc=>aq (ar X.prog X.w) X.A (bj op v u) (EP X a_ σ Q) X.xe kc) X.xe gi) X.xe s
theorem aFz (b:ay) (h:op≠.In) (h2:op≠.NotIn):behindInMarks op b=false:=by
 have e1:(op==CmpOp.In)=false:=by simp_all
 have e2:(op==CmpOp.NotIn)=false:=by simp_all
 cases b <;> simp [behindInMarks,e1,e2]
def aKS (ta:TE):TE:=λσ H Q=>ta σ H λx H1=>Q (.bl (!decide (x=.fk))) H1
theorem bN.yi {x:V} {v:aa} (r:bN x v):(v==aa.none)=decide (x=.fk):=by
 cases x with
 | fk=>cases r; rfl
 | bl _=>cases r; rfl
 | int _=>obtain ⟨t,rfl⟩:=r; rfl
 | str _=>obtain ⟨t,rfl⟩:=r; rfl
 | qx _=>obtain ⟨t,rfl⟩:=r; rfl
 | yu _=>obtain ⟨t,rfl⟩:=r; rfl
 | ref _=>cases r; rfl
 | ty _=>cases r; rfl
theorem aHC {j pos'} (ha:PE X a ta):PC X .IsNot a (.Constant .none j pos') (aKS ta):=by
 intro a_ s σ H Q I h;refine fc (ha a_ s σ H _ I h) λv s1 e_=>?_;obtain ⟨x,H1,I1,r1,q1⟩:=e_;exact Constant_none (isnot_none_gen ⟨.bl _,H1,I1,by rw [r1.yi]; rfl,q1⟩)
def tB (t:TE):TT:=λσ H Q=>t σ H λx H1=>∃ c,x=.bl c/\Q c H1
theorem aJG {t:TE} (h:PC X op a b t) (h1:autoParam (behindInMarks op b=false) L2.Ow):PE X (.Compare a [op] [b] pos) t:=λa_ s σ H Q I hw=>wpAny_Compare1 (h a_ s σ H Q I hw) h1
theorem rB {t:TE} (h:PC X op a b t) (h1:autoParam (behindInMarks op b=false) L2.Ow):PT X (.Compare a [op] [b] pos) (tB t):=by
 intro a_ s σ H Q I hw;refine Rab (fc (h a_ s σ H _ I hw) λv s1 h1=>fc h1 λu s2 h2=>fc h2 λc s3 e_=>?_) h1;obtain ⟨x,H1,I1,r1,q1⟩:=e_;obtain ⟨d,rfl,q⟩:=q1;cases r1;exact Rw ⟨H1,I1,q⟩
theorem cD {t:TE} (h:PE X e t) (he:autoParam (∀ whole,isTrue e X.env whole=(do let v<-whole; standAt e.pos; holding [v] (truthy v))) L2.y_):PT X e (tB t):=by
 intro a_ s σ H Q I hw;refine isTrue_plain (fc (h a_ s σ H _ I hw) λv s1 e_=>?_) (he _);obtain ⟨x,H1,I1,r1,q1⟩:=e_;obtain ⟨d,rfl,q⟩:=q1;cases r1;exact Rw ⟨H1,I1,q⟩
variable {tA F6:TT} {cC:List ay}
def SN (t u:TT):TT:=λσ H Q=>t σ H λc H1=>if c=true then u σ H1 Q else Q false H1
def OF (t u:TT):TT:=λσ H Q=>t σ H λc H1=>if c=true then Q true H1 else u σ H1 Q
def LG (t:TT):TT:=λσ H Q=>t σ H λc H1=>Q (!c) H1
theorem lQ (ha:PT X a tA):PW X (.BoolOp .And [a] pos) tA:=by
 intro wh a_ s σ H Q I h;refine isTrue_and (fc (ha a_ s σ H Q I h) λc s1 e=>?_);cases c with
 | true=>exact isTrue_and_nil e
 | false=>exact e
theorem eA (ha:PT X a tA):PW X (.BoolOp .Or [a] pos) tA:=by
 intro wh a_ s σ H Q I h;refine isTrue_or (fc (ha a_ s σ H Q I h) λc s1 e=>?_);cases c with
 | false=>exact isTrue_or_nil e
 | true=>exact e
theorem mU (ha:PT X a tA) (hb:PW X (.BoolOp .And (b::cC) pos) F6):PW X (.BoolOp .And (a::b::cC) pos) (SN tA F6):=by
 intro wh a_ s σ H Q I h;refine isTrue_and (fc (ha a_ s σ H _ I h) λc s1 e_=>?_);obtain ⟨H1,I1,q1⟩:=e_;cases c with
 | true=>exact hb wh a_ s1 σ H1 Q I1 q1
 | false=>exact ⟨H1,I1,q1⟩
theorem fP (ha:PT X a tA) (hb:PW X (.BoolOp .Or (b::cC) pos) F6):PW X (.BoolOp .Or (a::b::cC) pos) (OF tA F6):=by
 intro wh a_ s σ H Q I h;refine isTrue_or (fc (ha a_ s σ H _ I h) λc s1 e_=>?_);obtain ⟨H1,I1,q1⟩:=e_;cases c with
 | true=>exact ⟨H1,I1,q1⟩
 | false=>exact hb wh a_ s1 σ H1 Q I1 q1
theorem cV (ha:PT X a tA):PT X (.UnaryOp .Not a pos) (LG tA):=by
 intro a_ s σ H Q I h;exact isTrue_not (ha a_ s σ H (λc H1=>Q (!c) H1) I h)
def aKU (ta tb:TE):TE:=λσ H Q=>ta σ H λx H1=>∃ c,x=.bl c/\if c=true then tb σ H1 Q else Q (.bl false) H1
def aLY (ta tb:TE):TE:=λσ H Q=>ta σ H λx H1=>∃ c,x=.bl c/\if c=true then Q (.bl true) H1 else tb σ H1 Q
def aKV (ta:TE):TE:=λσ H Q=>ta σ H λx H1=>∃ c,x=.bl c/\Q (.bl (!c)) H1
theorem kX {op} {t:TE} (h:PE X a t):PE X (.BoolOp op [a] pos) t:=by assumption
theorem lR (ha:PE X a ta) (hb:PE X (.BoolOp .And (b::cC) pos) tb):PE X (.BoolOp .And (a::b::cC) pos) (aKU ta tb):=by
 intro a_ s σ H Q I h;refine BoolOp_and (fc (ha a_ s σ H _ I h) λv s1 e_=>?_);obtain ⟨x,H1,I1,r1,q1⟩:=e_;obtain ⟨c,rfl,q1⟩:=q1;cases r1;refine Rw ?_;cases c with
 | true=>exact hb a_ s1 σ H1 Q I1 q1
 | false=>exact ⟨.bl false,H1,I1,rfl,q1⟩
theorem aKW (ha:PE X a ta) (hb:PE X (.BoolOp .Or (b::cC) pos) tb):PE X (.BoolOp .Or (a::b::cC) pos) (aLY ta tb):=by
 intro a_ s σ H Q I h;refine BoolOp_or (fc (ha a_ s σ H _ I h) λv s1 e_=>?_);obtain ⟨x,H1,I1,r1,q1⟩:=e_;obtain ⟨c,rfl,q1⟩:=q1;cases r1;refine Rw ?_;cases c with
 | false=>exact hb a_ s1 σ H1 Q I1 q1
 | true=>exact ⟨.bl true,H1,I1,rfl,q1⟩
theorem aJI (ha:PE X a ta):PE X (.UnaryOp .Not a pos) (aKV ta):=by
 intro a_ s σ H Q I h;refine UnaryOp_ (fc (ha a_ s σ H _ I h) λv s1 e_=>?_);obtain ⟨x,H1,I1,r1,q1⟩:=e_;obtain ⟨c,rfl,q1⟩:=q1;cases r1;exact not_of (Rw ⟨.bl (!c),H1,I1,rfl,q1⟩)
def ZG (t:TT) (ta tb:TE):TE:=λσ H Q=>t σ H λc H1=>if c=true then ta σ H1 Q else tb σ H1 Q
theorem X6 {c:ay} (hc:PT X c tA) (ha:PE X a ta) (hb:PE X b tb):PE X (.IfExp c a b pos) (ZG tA ta tb):=by
 intro a_ s σ H Q I h;refine wpAny_IfExp (fc (hc a_ s σ H _ I h) λd s1 e_=>?_);obtain ⟨H1,I1,q1⟩:=e_;cases d with
 | true=>exact ha a_ s1 σ H1 Q I1 q1
 | false=>exact hb a_ s1 σ H1 Q I1 q1
end
def dm (K:Rb) (H:Hp) (a:ae) (xs:List V):Prop :=
 Rd H a (.lst xs) ∨
  ∃ (o:cb) (its:Array aa) (n:Nat),K.lookup a=some o/\o.cls=.type "list" /\ o.dict=none/\o.data=.seq its n/\its.size<=af/\bG xs its.toList
def dt (K:Rb) (H:Hp) (a:ae) (xs:List V):Prop :=
 Rd H a (.tup xs) ∨
  ∃ (o:cb) (its:Array aa) (n:Nat),K.lookup a=some o/\o.cls=.type "tuple" /\ o.dict=none/\o.data=.seq its n/\its.size<=af/\bG xs its.toList
noncomputable def aLZ:aa->Option V
 | .none=>some .fk
 | .bool b=>some (.bl b)
 | .int i _=>some (.int i)
 | .str x _=>some (.str x)
 | .bytes b _=>some (.qx b)
 | .float b _=>some (.yu b)
 | .ref a=>some (.ref a)
 | .type n=>some (.ty n)
 | _=>none
theorem bN.abs {x:V} (r:bN x u):aLZ u=some x:=by
 cases x with
 | fk=>cases r; rfl
 | bl _=>cases r; rfl
 | int _=>obtain ⟨t,rfl⟩:=r; rfl
 | str _=>obtain ⟨t,rfl⟩:=r; rfl
 | qx _=>obtain ⟨t,rfl⟩:=r; rfl
 | yu _=>obtain ⟨t,rfl⟩:=r; rfl
 | ref _=>cases r; rfl
 | ty _=>cases r; rfl
theorem bN.inj {x:V} (r:bN x u) (q:bN y u):x=y:=Option.some.inj (r.abs.symm.trans q.abs)
theorem bG.inj:∀ {xs ys:List V} {us:List aa},bG xs us->bG ys us->xs=ys
 := by
 intro xs ys us h
 induction h generalizing ys with
 | nil=>intro q; cases q; rfl
 | cons r t ih=>intro q; cases q with | cons r' t'=>rw [r.inj r',ih t']
section
variable {σ:St} {a:ae}
theorem dm.of (h:H a=some (.lst xs)):dm K H a xs:=.inl (.inl h)
theorem dt.of (h:H a=some (.tup xs)):dt K H a xs:=.inl (.inl h)
theorem Inv.list (I:Inv X a_ σ H s) (h:dm X.K H a xs):∃ its:List aa,bG xs its/\PlainL s.heap a its.toArray/\xs.length<=af:=by
 rcases h with h | ⟨o,its,n,hk,hc,hd,hs,hz,r⟩
 ·obtain ⟨z,its,n,r,e⟩:=h.ok I.ei;exact ⟨its,r,⟨_,n,e,rfl,rfl,rfl⟩,z⟩
 ·refine ⟨its.toList,r,⟨o,n,I.j4 a o hk,hc,hd,by simpa using hs⟩,?_⟩;have e:=r.length;simp only [Array.length_toList] at e;omega
theorem Inv.tuple (I:Inv X a_ σ H s) (h:dt X.K H a xs):∃ its:List aa,bG xs its/\IsTup s.heap a its.toArray/\xs.length<=af:=by
 rcases h with h | ⟨o,its,n,hk,hc,_,hs,hz,r⟩
 ·obtain ⟨z,its,n,r,p⟩:=h.ok I.ei;exact ⟨its,r,⟨_,p,rfl,n,rfl⟩,z⟩
 ·refine ⟨its.toList,r,⟨o,I.j4 a o hk,hc,n,by simpa using hs⟩,?_⟩;have e:=r.length;simp only [Array.length_toList] at e;omega
theorem Inv.yj (I:Inv X a_ σ H s) (h:dm X.K H a xs) (h':dm X.K H a ys):xs=ys:=by
 obtain ⟨its,r,⟨o,n,e,_,_,d⟩,_⟩:=I.list h;obtain ⟨its',r',⟨o',n',e',_,_,d'⟩,_⟩:=I.list h';rw [e] at e'; cases e';rw [d] at d';injection d' with d1 _;have:its=its':=by simpa using congrArg Array.toList d1
 subst this;exact r.inj r'
theorem Inv.vf (I:Inv X a_ σ H s) (h:dt X.K H a xs) (h':dt X.K H a ys):xs=ys:=by
 obtain ⟨its,r,⟨o,e,_,n,d⟩,_⟩:=I.tuple h;obtain ⟨its',r',⟨o',e',_,n',d'⟩,_⟩:=I.tuple h';rw [e] at e'; cases e';rw [d] at d';injection d' with d1 _;have:its=its':=by simpa using congrArg Array.toList d1
 subst this;exact r.inj r'
end
noncomputable abbrev Cx.km (X:Cx) (E:aa->ah->Prop):Cx:={ X with xe:=E }
noncomputable abbrev Cx.gf (X:Cx):Cx:=X.km λ_ _=>False
theorem Cx.Ok.km (ok:X.Ok) (E:aa->ah->Prop):(X.km E).Ok :=
 ⟨ok.mod,ok.kind,ok.glob,ok.blt,ok.above,ok.inj,ok.has,ok.AU,ok.hd,ok.frames,ok.DJ,ok.EB,ok.bs,ok.zv,ok.nz,ok.xy,ok.j2,ok.zu⟩
theorem Cx.Ok.gx (ok:(X.km E).Ok):X.Ok :=
 ⟨ok.mod,ok.kind,ok.glob,ok.blt,ok.above,ok.inj,ok.has,ok.AU,ok.hd,ok.frames,ok.DJ,ok.EB,ok.bs,ok.zv,ok.nz,ok.xy,ok.j2,ok.zu⟩
section
variable {σ:St}
theorem Inv.km (I:Inv X a_ σ H s) (E:aa->ah->Prop):Inv (X.km E) a_ σ H s:=⟨I.ok.km E,I.os,I.bare,I.base,I.loc,I.cell,I.free,I.gm,I.pin,I.ei,I.len⟩
theorem Inv.gx (I:Inv (X.km E) a_ σ H s):Inv X a_ σ H s:=⟨I.ok.gx,I.os,I.bare,I.base,I.loc,I.cell,I.free,I.gm,I.pin,I.ei,I.len⟩
theorem SP.gx {D:Ends} {f:Flow} (h:SP (X.km E) a_ D f s'):SP X a_ D f s':=by
 cases f with
 | next=>obtain ⟨d9,H',I,q⟩:=h; exact ⟨d9,H',I.gx,q⟩
 | brk=>obtain ⟨d9,H',I,q⟩:=h; exact ⟨d9,H',I.gx,q⟩
 | cont=>obtain ⟨d9,H',I,q⟩:=h; exact ⟨d9,H',I.gx,q⟩
 | ret u=>obtain ⟨v,d9,H',I,r,q⟩:=h; exact ⟨v,d9,H',I.gx,r,q⟩
theorem nc.gf {st:List ax} {t:TS} (h:nc X.gf st t):nc X st t:=λa_ s σ H D I hw =>
 Ro (h a_ s σ H D (I.km _) hw) (λ_ _ q=>q.gx) λ_ _ z=>False.elim z
end
section
variable {st:ax} {cC:List ax} {t u:TS}
def oU:TS:=λD σ H=>D.nx σ H
def uI (t u:TS):TS:=λD σ H=>t { D with nx:=u D } σ H
theorem aW:nc X [] oU:=λ_ _ σ H _ I h=>Uq ⟨σ,H,I,h⟩
theorem aE (h1:PS X st t) (h2:nc X cC u):nc X (st::cC) (uI t u):=by
 intro a_ s σ H D I h;refine Iz (fc (h1 a_ s σ H { D with nx:=u D } I h) λf s1 q=>?_);cases f with
 | next =>
  obtain ⟨d9,H',I',q⟩:=q;exact h2 a_ s1 d9 H' D I' q
 | ret v=>exact q
 | brk=>exact q
 | cont=>exact q
theorem aI (h1:PS X st t):nc X [st] t:=by
 intro a_ s σ H D I h;refine Iz (fc (h1 a_ s σ H D I h) λf s1 q=>?_);cases f with
 | next=>exact Uq q
 | ret v=>exact q
 | brk=>exact q
 | cont=>exact q
theorem Inv.quiet {σ:St} (I:Inv X a_ σ H s):interactive X.env=false:=by simp [interactive,I.ok.kind]
def LY (te:TE):TS:=λD σ H=>te σ H λ_ H1=>D.nx σ H1
theorem bY (he:PE X e te) (hs:autoParam (cp e none pos.line X.env=pure false) L2.f'):PS X (.Expr e pos) (LY te):=by
 intro a_ s σ H D I h;refine wpAny_Expr_any (fc (he a_ s σ H _ I h) λv s1 e_=>?_) I.quiet hs;obtain ⟨x,H1,I1,r1,q1⟩:=e_;exact ⟨σ,H1,I1,q1⟩
def SM (te:TE):TS:=λD σ H=>te σ H D.rt
theorem aP (he:PE X e te):PS X (.Return (some e) pos) (SM te):=by
 intro a_ s σ H D I h;refine wpAny_Return_some (fc (he a_ s σ H _ I h) λv s1 e_=>?_);obtain ⟨x,H1,I1,r1,q1⟩:=e_;exact ⟨x,σ,H1,I1,r1,q1⟩
def BQ (c:TT) (t u:TS):TS:=λD σ H=>c σ H λb H1=>if b=true then t D σ H1 else u D σ H1
theorem bQ {c:ay} {a b:List ax} {tc:TT} (hc:PT X c tc) (ha:nc X a t) (hb:nc X b u):PS X (.If c a b pos) (BQ tc t u):=by
 intro a_ s σ H D I h;refine wpAny_If (fc (hc a_ s σ H _ I h) λd s1 e_=>?_);obtain ⟨H1,I1,q1⟩:=e_;cases d with
 | true=>exact ha a_ s1 σ H1 D I1 q1
 | false=>exact hb a_ s1 σ H1 D I1 q1
def aJJ:TS:=λ_ _ _=>False
theorem cW {CH:List ax}:nc X CH aJJ:=λ_ _ _ _ _ _ h=>h.elim
end
abbrev TG:=V->St->Hp->(St->Hp->Prop)->Prop
end L2
variable {g g2:TG}
namespace L2
open PySem PySem.Spec PyProof.Rows
abbrev y9:=List V->St->Hp->(St->Hp->Prop)->Prop
def PG (X:Cx) (target:ay) (t:TG):Prop :=
 ∀ (a_:List (ae×cb)) (s:ah) (σ:St) (H:Hp) (v:V) (u:aa) (Q:St->Hp->Prop),Inv X a_ σ H s->bN v u->t v σ H Q ->
  aq (ar X.prog X.w) X.A (assign target X.env u) (λ_ s'=>∃ d9 H',Inv X a_ d9 H' s'/\Q d9 H') X.xe s
def Dw (X:Cx) (ts:List ay) (t:y9):Prop :=
 ∀ (a_:List (ae×cb)) (s:ah) (σ:St) (H:Hp) (vs:List V) (us:List aa) (Q:St->Hp->Prop),Inv X a_ σ H s->bG vs us->t vs σ H Q ->
  aq (ar X.prog X.w) X.A (assignInOrder ((assignEach ts X.env).map (·.2)) us) (λ_ s'=>∃ d9 H',Inv X a_ d9 H' s'/\Q d9 H') X.xe s
abbrev LF:=V->V->V->Hp->(Hp->Prop)->Prop
def SK (X:Cx) (t:LF):Prop :=
 ∀ (a_:List (ae×cb)) (s:ah) (σ:St) (H:Hp) (o i v:V) (ov iv u:aa) (Q:Hp->Prop),Inv X a_ σ H s->bN o ov->bN i iv->bN v u->t o i v H Q ->
  aq (ar X.prog X.w) X.A (setItem ov iv u) (λ_ s'=>∃ H',Inv X a_ σ H' s'/\Q H') X.xe s
def gI (i:Nat):TG:=λv σ H Q=>Q (σ.set i (some v)) H
theorem aM {x:aj} (hN:X.N.Nodup) (hi:X.N[i]?=some x) (hx:Loc X.env.scope x) (hf:autoParam (X.fn x=true∨X.env.scope.names.lookup x=some .local) L2.DG):PG X (.Name x pos) (gI i):=by
 intro a_ s σ H v u Q I r h;exact Ran (pO I hN hi hx r (λs' I'=>⟨_,H,I',h⟩) hf)
def aL0:y9:=λvs σ H Q=>vs = []/\Q σ H
def aKZ (t:TG) (u:y9):y9:=λvs σ H Q=>∃ v r,vs=v::r/\t v σ H λd9 H'=>u r d9 H' Q
theorem eT:Dw X [] aL0:=by
 intro a_ s σ H vs us Q I r h;obtain ⟨e,h⟩:=h;subst e;cases r;exact Rao ⟨σ,H,I,h⟩
theorem bD {t:TG} {u:y9} (h1:PG X e t) (h2:Dw X es u) (hs:autoParam ((assignEach (e::es) X.env).map (·.2)=assign e X.env::(assignEach es X.env).map (·.2)) L2.f'):Dw X (e::es) (aKZ t u):=by
 intro a_ s σ H vs us Q I r h;obtain ⟨v,vr,e1,h⟩:=h;subst e1;cases r with
 | cons r rr =>
  rw [hs];refine Ii (fc (h1 a_ s σ H _ _ _ I r h) λ_ s1 e_=>?_);obtain ⟨CB,H1,I1,q1⟩:=e_;exact h2 a_ s1 CB H1 _ _ Q I1 rr q1
def SV (K:Rb) (n:Nat) (t:y9):TG:=λv σ H Q=>∃ a xs,v=.ref a/\dt K H a xs/\xs.length=n/\t xs σ H Q
theorem lS {k:Nat} {t:y9} (hc:X.calm=true) (h:Dw X es t) (hn:autoParam ((assignEach es X.env).length=n) L2.f') (jx:autoParam ((assignEach es X.env).findIdx? (·.1)=none) L2.f'):PG X (.Tuple es k pos) (SV X.K n t):=by
 intro a_ s σ H v u Q I r hw;obtain ⟨a,xs,e1,hq,hl,hw⟩:=hw;subst e1;cases r;obtain ⟨its,rv,ht,hz⟩:=I.tuple hq;refine assign_Tuple_tuple (I.ok.hd hc) ht (by simp [hn,<- hl,rv.length]) jx λh' hx=>?_;have I1:Inv X a_ σ H { s with heap:=h' }:=I.kept (t':=s.toks) λb o e=>hx b o (Qy (ag.lt_size e)) e;exact h a_ _ σ H xs _ Q I1 'a' hw
def aL1 (to ti:TE) (t:LF):TG:=λv σ H Q=>to σ H λo H1=>ti σ H1 λi H2=>t o i v H2 λH3=>Q σ H3
theorem MD {o i:ay} {ti:TE} {t:LF} (ho:PE X o to) (hi:PE X i ti) (hs:SK X t) (ha:autoParam (∀ v,assign (.Subscript o i pos) X.env v=(do
   let ov<-holding [v] (eval o X.env)
   let iv<-holding [v,ov] (eval i X.env)
   standAt pos
   holding [v,ov,iv] (setItem ov iv v)
   release [v,ov,iv] [])) L2.y_):PG X (.Subscript o i pos) (aL1 to ti t):=by
 intro a_ s σ H v u Q I r h;rw [ha];refine Ra (Rt (fc (ho a_ s σ H _ I h) λov s1 e_=>?_));obtain ⟨x,H1,I1,r1,q1⟩:=e_;refine Ra (Rt (fc (hi a_ s1 σ H1 _ I1 q1) λiv s2 e_=>?_));obtain ⟨y,H2,I2,r2,q2⟩:=e_;refine Ra (Tt (Ra (Rt (fc (hs a_ s2 σ H2 x y v ov iv u _ I2 r1 r2 r q2) λ_ s3 e_=>?_))));obtain ⟨H3,I3,q3⟩:=e_;exact wpAny_release ⟨σ,H3,I3,q3⟩
def A0 (te:TE) (g:TG):TS:=λD σ H=>te σ H λx H1=>g x σ H1 D.nx
theorem pB (he:PE X e te) (hg:PG X tg g) (hs:autoParam (swapsWithSole [tg] e pos.line X.env=pure false) L2.f') (hw:autoParam (swappedStores [tg] e X.env=pure none) L2.f') (h1:autoParam ((assignEach [tg] X.env).map (·.2) = [assign tg X.env]) L2.f'):PS X (.Assign [tg] e pos) (A0 te g):=by
 intro a_ s σ H D I h;refine wpAny_Assign_stores (fc (he a_ s σ H _ I h) λv s1 e_=>?_) hs hw;obtain ⟨x,H1,I1,r1,q1⟩:=e_;rw [h1];exact fc (hg a_ s1 σ H1 x v _ I1 r1 q1) λ_ s2 q=>q
theorem aU {x:aj} (hN:X.N.Nodup) (hi:X.N[i]?=some x) (hx:Loc X.env.scope x) (he:PE X e te) (hs:autoParam (cp e (some (.Name x pos')) pos.line X.env=pure false) L2.f') (hf:autoParam (X.fn x=true∨X.env.scope.names.lookup x=some .local) L2.DG) :
  PS X (.Assign [.Name x pos'] e pos) (A0 te (gI i)):=by
 intro a_ s σ H D I h;refine wpAny_Assign_Name (fc (he a_ s σ H _ I h) λv s1 e_=>?_) hs;obtain ⟨y,H1,I1,r1,q1⟩:=e_;exact pO I1 hN hi hx r1 (λs2 I2=>⟨_,H1,I2,q1⟩) hf
def aL2 (i j:Nat) (ta:TA):TS:=λD σ H=>ta σ H λvs H1=>∃ v w,vs = [v,w]/\D.nx ((σ.set i (some v)).set j (some w)) H1
theorem aJL {x y:aj} {a b:ay} {ta:TA} {px pt:Pos} {kt k2 JJ} (hc:X.calm=true) (hN:X.N.Nodup) (hi:X.N[i]?=some x) (hj:X.N[j]?=some y) (yq:i≠j) (hx:X.env.scope.names.lookup x=some .local) (hy:X.env.scope.names.lookup y=some .local) (ha:PA X [a,b] ta) (hw:swappedStores [.Tuple [.Name x px,.Name y py] kt pt] (.Tuple [a,b] k2 JJ) X.env=pure (some [x,y])) (hs:autoParam (swapsWithSole [.Tuple [.Name x px,.Name y py] kt pt] (.Tuple [a,b] k2 JJ) pos.line X.env=pure false) L2.f') :
  PS X (.Assign [.Tuple [.Name x px,.Name y py] kt pt] (.Tuple [a,b] k2 JJ) pos) (aL2 i j ta):=by
 intro a_ s σ H D I h;rw [exec_Assign_arm];refine Ra (Tt ?_);rw [hs];refine Ra (Rc ?_);rw [if_neg 'c'];refine Ra (Tuple_ (fc (ha _ a_ s σ H _ I h) λus s1 e_=>?_));obtain ⟨vs,H1,I1,r1,q1⟩:=e_;obtain ⟨v,w,e1,q1⟩:=q1;subst e1;obtain ⟨u1,u2,rfl,rv,js⟩:∃ u1 u2,us = [u1,u2]/\bN v u1/\bN w u2:=by
  cases r1 with
  | cons p q =>
   cases q with
   | cons p' q' =>
    cases q';exact ⟨_,_,rfl,p,p'⟩
 refine Ry ?_ (by show 2<=af; decide);have I2:Inv X a_ σ H1 { s1 with heap:=s1.heap.push { cls:=.type "tuple",data:=.seq [u1,u2].toArray } }:=I1.kept (t':=s1.toks) λb o e=>ag.get?_push_of_some _ e;rw [hw];refine Ra (Rc ?_);refine Ra (Ut (Ra (unpackItems_tuple (items:=#[u1,u2]) (I.ok.hd hc) (IsTup.new s1.heap _) λh' kr=>?_)));have I3:=I2.kept (h':=h') (t':=s1.toks) λb o e=>kr b o (Qy (ag.lt_size e)) e;refine Ra (Ii (wpAny_bindName (pO I3 hN hj (.inl hy) js (λs2 I4=>?_) (.inr hy))));refine Ii (wpAny_bindName (pO I4 hN hi (.inl hx) rv (λs3 I5=>Rao (Rc ?_)) (.inr hx)));rw [List.set_comm _ _ (Ne.symm yq)] at I5;exact ⟨_,H1,I5,q1⟩
def aJM (c:TT) (tb:TS):TS:=λD σ H=>∃ W:Nat->St->Hp->Prop,(∃ m,W m σ H)/\∀ m σ H,W m σ H ->
 c σ H λb H1=>if b=true then ∃ N:St->Hp->Prop,(∀ d9 H',N d9 H'->∃ m',m' < m/\W m' d9 H')/\tb { D with nx:=N,ct:=N,bk:=D.nx } σ H1 else D.nx σ H1
theorem pP {c:ay} {tc:TT} {tb:TS} (hp:bc (ar X.prog X.w) X.A X.env X.xe) (hc:PT X c tc) (hb:nc X body tb):PS X (.While c body [] pos) (aJM tc tb):=by
 intro a_ s σ H D I h;obtain ⟨W,⟨m0,w0⟩,turn⟩:=h;refine wpAny_While (codeAny_whileLoop (λn s'=>∃ d9 H',Inv X a_ d9 H' s'/\W n d9 H') ?_ m0 ⟨σ,H,I,w0⟩);rintro n s1 ⟨CB,H1,I1,w1⟩;refine Uc hp (fc (hc a_ s1 CB H1 _ I1 (turn n CB H1 w1)) λb s2 e_=>?_);obtain ⟨H2,I2,q2⟩:=e_;cases b with
 | true =>
  obtain ⟨N,hN,q2⟩:=q2;rw [if_pos rfl];refine Uc hp (fc (hb a_ s2 CB H2 _ I2 q2) λf s3 q3=>?_);cases f with
  | next =>
   obtain ⟨uc,H3,I3,n3⟩:=q3;obtain ⟨m',hm,w3⟩:=hN uc H3 n3;exact ⟨m',hm,uc,H3,I3,w3⟩
  | cont =>
   obtain ⟨uc,H3,I3,n3⟩:=q3;obtain ⟨m',hm,w3⟩:=hN uc H3 n3;exact ⟨m',hm,uc,H3,I3,w3⟩
  | brk=>exact q3
  | ret v=>exact q3
 | false =>
  rw [if_neg Qw];exact Uq ⟨CB,H2,I2,q2⟩
structure It where
 go:Nat->Hp->Prop
 m7:Nat->Hp->V->Hp->Prop
 stop:Nat->Hp->Prop
end L2
variable {J:It}
namespace L2
open PySem PySem.Spec PyProof.Rows
def mV (X:Cx) (a_:List (ae×cb)) (H:Hp) (b:ae):Prop :=
 H b=none/\b≠X.env.locals/\b∉X.fs/\(b∈X.ex∨X.jg.heap.objs.size<=b)/\(∀ x c,X.env.cells.lookup x=some c->c≠b)/\∀ p∈X.pn++a_,p.1≠b
theorem Inv.n_ {σ:St} {b:ae} (I:Inv X a_ σ H s) (hb:s.heap.objs.size<=b) (hn:H' b=none):mV X a_ H' b:=by
 refine ⟨hn,Nat.ne_of_gt (Qn I.lt hb),I.B0 hb,.inr (Qr I.sz hb),λx c e z=>?_,λp hp z=>?_⟩
 ·obtain ⟨v,q⟩:=I.cell x c e;exact absurd (Qn q.lt (by simp_all)) (Jk _)
 ·exact absurd (Qn (ag.lt_size (I.pin p hp).1) (by simp_all)) (Jk _)
structure Turn (P:bq) (w:bx) (K:Rb) (tg:ay) (J:It) (fp:List ae) (it:ae) (tn:Nat->ag->Prop):Prop where
 mem:it∈fp
 obj:∀ i h,tn i h->∀ b∈fp,∃ o,h.get? b=some o/\∀ v,o.data≠.cell v
 keep:∀ i h h',tn i h->(∀ b∈fp,∀ o,h.get? b=some o->h'.get? b=some o)->tn i h'
 item:∀ (X:Cx),X.prog=P->X.w=w->X.K=K->X.calm=true->∀ (i:Nat) (a_:List (ae×cb)) (s:ah) (σ:St) (H:Hp) (E:aa->ah->Prop),Inv X a_ σ H s->(∀ b∈fp,mV X a_ H b)->tn i s.heap->J.go i H ->
  aq (ar P w) X.A (pyNext (.ref it)) (λr s1=>∃ u,r=some u /\
   aq (ar P w) X.A (letOwnedTupleGo tg (.ref it) u) (λ_ s2=>∃ x H',Inv X a_ σ H' s2/\bN x u/\J.m7 i H x H'/\tn (i+1) s2.heap/\∀ b∈fp,H' b=none) E s1) E s
 done:∀ (X:Cx),X.prog=P->X.w=w->X.K=K->X.calm=true->∀ (i:Nat) (a_:List (ae×cb)) (s:ah) (σ:St) (H:Hp) (E:aa->ah->Prop),Inv X a_ σ H s->(∀ b∈fp,mV X a_ H b)->tn i s.heap->J.stop i H ->
  aq (ar P w) X.A (pyNext (.ref it)) (λr s1=>r=none/\Inv X a_ σ H s1) E s
 self:∀ (A:bz) (i:Nat) (s:ah) (Q:aa->ah->Prop) (E:aa->ah->Prop),tn i s.heap->Q (.ref it) s->aq (ar P w) A (pyIter (.ref it)) Q E s
abbrev TI:=St->Hp->(It->Hp->Prop)->Prop
def YA (X:Cx) (a_:List (ae×cb)) (σ:St) (tg:ay) (R:It->Hp->Prop) (Gf:aa) (s2:ah):Prop :=
 ∃ (it:ae) (fp:List ae) (tn:Nat->ag->Prop) (J:It) (H':Hp),Gf=.ref it/\Inv X a_ σ H' s2/\Turn X.prog X.w X.K tg J fp it tn/\tn 0 s2.heap/\(∀ b∈fp,mV X a_ H' b)/\R J H'
def PI (X:Cx) (tg iter:ay) (wi:TI):Prop :=
 ∀ (a_:List (ae×cb)) (s:ah) (σ:St) (H:Hp) (R:It->Hp->Prop),Inv X a_ σ H s->wi σ H R ->
  aq (ar X.prog X.w) X.A (eval iter X.env) (λv s1=>aq (ar X.prog X.w) X.A (pyIter v) (YA X a_ σ tg R) X.xe s1) X.xe s
theorem Hw {n:String} {vs:Array aa} {Q:Unit->ah->Prop} (ho:s.heap.get? it=some o) (hc:o.cls=.type n) (hd:o.data=.fields vs) (hn : ["enumerate", "zip", "dict_itemiterator", "dict_reverseitemiterator", "odict_iterator", "itertools.zip_longest", "itertools.pairwise"].contains n=false) (hQ:Q () s):aq M A (letOwnedTupleGo tg (.ref it) u) Q E s:=by
 unfold letOwnedTupleGo;cases tg <;> first
  | exact Rc hQ
  | (cases u <;> first
    | exact Rc hQ
    | (refine Ra (wpAny_load ho ?_)
       rw [hc,hd];show aq M A (if (["enumerate", "zip", "dict_itemiterator", "dict_reverseitemiterator", "odict_iterator", "itertools.zip_longest", "itertools.pairwise"].contains n && vs[0]?==some (rawInt _))=true then _ else _) Q E s;rw [if_neg (by intro h; rw [hn,Xu] at h; cases h)];exact Rc hQ))
inductive Sk where
 | l | t
end L2
variable {k1 k2:Sk}
namespace L2
open PySem PySem.Spec PyProof.Rows
noncomputable def Sk.nm:Sk->String | .l => "list" | .t => "tuple"
noncomputable def Sk.im:Sk->String | .l => "list_iterator" | .t => "tuple_iterator"
def jv (k:Sk) (K:Rb) (H:Hp) (a:ae) (xs:List V):Prop:=match k with | .l=>dm K H a xs | .t=>dt K H a xs
def u7 (k:Sk) (h:ag) (a:ae) (its:Array aa):Prop:=∃ o,h.get? a=some o/\o.cls=.type k.nm/\∃ n,o.data=.seq its n
def IL (k:Sk) (h:ag) (i a:ae) (n:Nat):Prop:=∃ o,h.get? i=some o/\o.cls=.type k.im/\o.data=.fields #[.ref a,.int n 0]
noncomputable abbrev Bp (k:Sk) (a:ae):cb:={ cls:=.type k.im,data:=.fields #[.ref a,.int 0 0] }
theorem u7.at {k:Sk} {a:ae} {its:Array aa} (x:u7 k h a its) (kp:∀ o,h.get? a=some o->h'.get? a=some o):u7 k h' a its:=let ⟨o,e,r⟩:=x; ⟨o,kp o e,r⟩
theorem Hv {k:Sk} {a:ae} {its:Array aa} (h:u7 k s.heap a its) (hQ:Q (.ref s.heap.objs.size) { s with heap:=s.heap.push (Bp k a) }):aq (ar prog w) A (pyIter (.ref a)) Q E s:=by
 cases k
 ·exact Uw h hQ
 ·exact wpAny_pyIter_tuple h hQ
section
variable {σ:St} {s2:ah} {F:List ae}
theorem Inv.u9 (I:Inv X a_ σ H s) {k:Sk} {a:ae} (h:jv k X.K H a xs):∃ its:List aa,bG xs its/\u7 k s.heap a its.toArray:=by
 cases k
 ·obtain ⟨its,r,p,_⟩:=I.list h; exact ⟨its,r,p.isList⟩
 ·obtain ⟨its,r,p,_⟩:=I.tuple h; exact ⟨its,r,p⟩
theorem Inv.mf (I:Inv X a_ σ H s) {k:Sk} {a:ae} (h:jv k X.K H a xs) (h':jv k X.K H a ys):xs=ys:=by
 cases k
 ·exact I.yj h h'
 ·exact I.vf h h'
structure Pg (X:Cx) (a_:List (ae×cb)) (σ:St) (fp:List ae) (H:Hp) (s:ah) (H':Hp) (s':ah):Prop where
 inv:Inv X a_ σ H' s'
 fo:∀ b∈fp,mV X a_ H' b/\b < s'.heap.objs.size
 hs:∀ b,b < s.heap.objs.size->H' b=H b
 sz:s.heap.objs.size<=s'.heap.objs.size
 kp:∀ b o,b∉fp->s.heap.get? b=some o->s'.heap.get? b=some o
theorem Pg.refl (I:Inv X a_ σ H s) (f:∀ b∈fp,mV X a_ H b/\b < s.heap.objs.size):Pg X a_ σ fp H s H s:=⟨I,f,λ_ _=>rfl,Qe _,λ_ _ _ e=>e⟩
theorem Pg.same (p:Pg X a_ σ fp H s H' s') (I:Inv X a_ σ H s):∀ a o,H a=some o->H' a=some o:=λa o e=>by rw [p.hs a (I.ei a o e).lt]; exact e
theorem Pg.trans (p:Pg X a_ σ F H s H' s') (q:Pg X a_ σ fp H' s' H2 s2) (h:∀ b∈fp,b∈F):Pg X a_ σ F H s H2 s2 :=
 ⟨q.inv,λb hb=>⟨⟨by rw [q.hs b (p.fo b hb).2]; exact (p.fo b hb).1.1,(p.fo b hb).1.2⟩,Qn (p.fo b hb).2 q.sz⟩,λb hb=>(q.hs b (Qn hb p.sz)).trans (p.hs b hb),Qr p.sz q.sz,λb o n e=>q.kp b o (λz=>n (h b z)) (p.kp b o n e)⟩
theorem Pg.ext {b:ae} (p:Pg X a_ σ F H s H' s') (hb:b∈F) (k:ag.ExtBut b s'.heap h') (z:s'.heap.objs.size<=h'.objs.size):Pg X a_ σ F H s H' { s' with heap:=h',toks:=t' }:=by
 obtain ⟨f0,f1,f2,f3,f4,f5⟩:=(p.fo b hb).1;exact ⟨p.inv.turned (λc o hc e=>k c o hc e) f0 f1 f3 f4 f5,λc hc=>⟨(p.fo c hc).1,Qn (p.fo c hc).2 z⟩,p.hs,Qr p.sz z,λc o n e=>k c o (λz=>n (z ▸ hb)) (p.kp c o n e)⟩
theorem Pg.cell {b:ae} (p:Pg X a_ σ F H s H' s') (hb:b∈F) (k:ag.SameBut b s'.heap h'):Pg X a_ σ F H s H' { s' with heap:=h',toks:=t' }:=p.ext hb k.extBut (Wo k.1.symm)
theorem Pg.pair {x:V} {v:aa} (p:Pg X a_ σ F H s H' s') (r:bN x u) (r':bN y v) :
  Pg X a_ σ F H s (upd H' s'.heap.objs.size (.tup [x,y])) { s' with heap:=s'.heap.push { cls:=.type "tuple",data:=.seq #[u,v] } }:=by
 have ne:∀ b,b < s'.heap.objs.size->upd H' s'.heap.objs.size (.tup [x,y]) b=H' b:=λb hb=>aG (Qy hb);exact ⟨p.inv.laid (t':=s'.toks) (λ_ _ q=>ag.get?_push_of_some _ q) (Qe _) ⟨by show 2<=af; rw [Rf]; decide,[u,v],0,.cons r (.cons r' .nil),ag.get?_push_size _ rfl⟩,
  λb hb=>⟨⟨by rw [ne b (p.fo b hb).2]; exact (p.fo b hb).1.1,(p.fo b hb).1.2⟩,by show b < (ag.push _ _).objs.size; rw [ag.size_push]; exact Yf (p.fo b hb).2⟩,
  λb hb=>(ne b (Qn hb p.sz)).trans (p.hs b hb),by show _<=(ag.push _ _).objs.size; rw [ag.size_push]; exact Xx p.sz,λb o n e=>ag.get?_push_of_some _ (p.kp b o n e)⟩
end
def It.at (J:It) (b:Bool) (i:Nat) (H:Hp):Prop:=match b with | true=>J.go i H | false=>J.stop i H
structure qj (P:bq) (w:bx) (K:Rb) (J:It) (fp:List ae) (it:ae) (tn:Nat->ag->Prop):Prop where
 mem:it∈fp
 obj:∀ i h,tn i h->∀ b∈fp,∃ o,h.get? b=some o/\∀ v,o.data≠.cell v
 keep:∀ i h h',tn i h->(∀ b∈fp,∀ o,h.get? b=some o->h'.get? b=some o)->tn i h'
 next:∀ (X:Cx),X.prog=P->X.w=w->X.K=K->∀ (A:bz),A.handled=none->∀ (i:Nat) (a_:List (ae×cb)) (s:ah) (σ:St) (H:Hp) (b:Bool) (Q:Option aa->ah->Prop) (E:aa->ah->Prop),Inv X a_ σ H s->(∀ b∈fp,mV X a_ H b)->tn i s.heap->J.at b i H ->
  (∀ u x H' s',b=true->Pg X a_ σ fp H s H' s'->bN x u->J.m7 i H x H'->tn (i+1) s'.heap->Q (some u) s')->(∀ e s',b=false->Pg X a_ σ fp H s H s'->(∃ o,s'.heap.get? e=some o/\o.cls=.type "StopIteration")->E (.ref e) s')->aq (ar P w) A (callSpecial? (.ref it) (aj.ofString "__next__")) Q E s
 self:∀ {prog:bq} {w:bx} (A:bz) (i:Nat) (s:ah) (Q:aa->ah->Prop) (E:aa->ah->Prop),tn i s.heap->Q (.ref it) s->aq (ar prog w) A (pyIter (.ref it)) Q E s
 lets:∀ (X:Cx),X.prog=P->X.w=w->X.K=K->∀ (tg:ay) (u:aa) (i:Nat) (a_:List (ae×cb)) (s s':ah) (σ:St) (H H':Hp) (Q:Unit->ah->Prop) (E:aa->ah->Prop),Pg X a_ σ fp H s H' s'->tn i s'.heap ->
  (∀ s2,Pg X a_ σ fp H s H' s2->tn i s2.heap->Q () s2)->aq (ar P w) X.A (letOwnedTupleGo tg (.ref it) u) Q E s'
section
variable {J':It}
theorem qj.lt (N:qj P w K J fp it tn) (t:tn i h):∀ b∈fp,b < h.objs.size:=λb hb=>let ⟨_,e,_⟩:=N.obj i h t b hb; ag.lt_size e
theorem qj.st (_:qj P w K J fp it tn) (t:tn 0 h):tn 0 h:=t
theorem qj.turn (N:qj P w K J fp it tn) (hg:∀ i H,J'.go i H->J.go i H) (hy:∀ i H x H',J.m7 i H x H'->J'.m7 i H x H') (hs:∀ i H,J'.stop i H->J.stop i H):Turn P w K tg J' fp it tn where
 mem:=N.mem
 obj:=N.obj
 keep:=N.keep
 item:=λX hP hw hK hc i a_ s σ H E I hf st g=>by
  subst hP hw hK;unfold pyNext;exact Ra (Mq (N.next X rfl rfl rfl _ (I.ok.hd hc) i a_ s σ H true _ _ I hf st (hg i H g) (λu x H' s' _ p r y t=>Rc ⟨u,rfl,N.lets X rfl rfl rfl tg u _ a_ s s' σ H H' _ _ p t λs2 q t2=>⟨x,H',q.inv,r,hy _ _ _ _ y,t2,λb hb=>(q.fo b hb).1.1⟩⟩) λ_ _ e=>nomatch e))
 done:=λX hP hw hK hc i a_ s σ H E I hf st g=>by
  subst hP hw hK;unfold pyNext;exact Ra (Mq (N.next X rfl rfl rfl _ (I.ok.hd hc) i a_ s σ H false _ _ I hf st (hs i H g) (λ_ _ _ _ e=>nomatch e) λe s' _ p he=>Ra (Ras (T := "StopIteration") (b:=true) he isSubtype_stop (Rc ⟨rfl,p.inv⟩))))
 self:=N.self (w:=w)
end
noncomputable def y' (K:Rb) (k:Sk) (a:ae):It :=
 ⟨λi H=>∃ xs x,jv k K H a xs/\xs[i]?=some x,λi H x H'=>H'=H/\∀ xs,jv k K H a xs->xs[i]?=some x,λi H=>∃ xs,jv k K H a xs/\xs.length<=i⟩
theorem Inv.Cv {σ:St} (I:Inv X a_ σ H s) {k:Sk} {a b:ae} (h:jv k X.K H a xs) (f:mV X a_ H b):a≠b:=by
 have rd:∀ {u:HO},Rd H a u->a≠b:=λ{u} r z=>by
  rcases r with r | ⟨o,r⟩ <;> (rw [z,f.1] at r; cases r)
 have kk:∀ {o:cb},X.K.lookup a=some o->a≠b:=λ{o} e z=>by
  have e1:=I.ok.mod.zg a o e;rcases f.2.2.2.1 with q | q
  ·exact I.ok.nz a o e1 (z ▸ q)
  ·exact Jk _ (Qn (ag.lt_size (I.ok.bs a o e1).1) (z ▸ q))
 cases k
 ·rcases h with h | ⟨o,_,_,e,_⟩
  ·exact rd h
  ·exact kk e
 ·rcases h with h | ⟨o,_,_,e,_⟩
  ·exact rd h
  ·exact kk e
theorem VG {k:Sk} {a:ae} {its:Array aa} {Q:Option aa->ah->Prop} (st:IL k s.heap it a i) (p:u7 k s.heap a its) (hi:∀ x h',its[i]?=some x->IL k h' it a (i+1)->ag.SameBut it s.heap h'->Q (some x) { s with heap:=h' }) (hE:its[i]?=none->A.handled=none/\∀ h' e,ag.ExtBut it s.heap h'->(∃ o,h'.get? e=some o/\o.cls=.type "StopIteration")->s.heap.objs.size<=h'.objs.size->E (.ref e) { s with heap:=h' }) :
  aq (ar prog w) A (callSpecial? (.ref it) (aj.ofString "__next__")) Q E s:=by
 obtain ⟨o,ho,hc,hd⟩:=st;obtain ⟨ol,i!,_,nl,uu⟩:=p;cases k
 all_goals first
  | refine To ⟨o,ho,hc⟩ Ral (Tn Ral ⟨o,ho,hc⟩ entry_listiter_next ?_ (args_listiter_next _))
  | refine To ⟨o,ho,hc⟩ Vv (Tn Vv ⟨o,ho,hc⟩ PySem.F.entry_tuple_iterator_next ?_ (PySem.F.args_tuple_iterator_next_1 _))
 all_goals
  refine Ra (m:=field (.ref it) 0) (Th ho hd (x:=.ref a) rfl ?_);rw [if_neg (show ¬ ((aa.ref a==aa.none)=true) from Qw)];refine Ra (m:=field (.ref it) 1) (Th ho hd (x:=.int i 0) rfl (Ra (m:=seqItems? (.ref a)) (Tv i! uu ?_)));simp only [Int.toNat_natCast];cases hx:its[i]? with
  | some x =>
   refine Ra (wpAny_setField ho hd 'b' (Rc ⟨x,rfl,hi x _ hx ⟨_,ag.get?_update_self _ ho (cb.isFreed_of_fields (cb.data_mapFields hd _)),(cb.cls_mapFields ..).trans hc,?_⟩ (ag.SameBut.update ..)⟩));rw [cb.data_mapFields hd];simp [rawInt]
  | none =>
   obtain ⟨hh,hE⟩:=hE hx;refine Ra (Ut (Ra (wpAny_setField ho hd 'b' (Ra (m:=newExc (.type "StopIteration") []) ?_))));simp only [newExc,newTuple];refine Ra (Ry ?_ (by size_fits));refine Ra (m:=firstArgMember _ _) (Rae (a:=aa.none) (by rfl) (Ry ?_ (by size_fits)));simp only [raiseNew];refine Ra (wpAny_handled ?_);rw [show A.in1.handled=none from hh];exact Ra (Rc (wpAny_throw (hE _ _ (((ag.SameBut.update ..).extBut.push _).push _) ⟨_,ag.get?_push_size _ rfl,rfl⟩ (by simp; omega))))
theorem zS (k:Sk) (a it:ae):qj P w K (y' K k a) [it] it (λi h=>IL k h it a i) where
 mem:=by simp
 obj:=λi h st b hb=>by
  obtain ⟨o,e,c,d⟩:=st;rw [Qi.mp hb];exact ⟨o,e,λv z=>by rw [d] at z; cases z⟩
 keep:=λi h h' ⟨o,e,r⟩ k=>⟨o,k it 'b' o e,r⟩
 next:=by
  intro X hP hw hK A hA i a_ s σ H b Q E I hf st g hQ hE;subst hP hw hK;obtain ⟨xs,hq⟩:∃ xs,jv k X.K H a xs:=by cases b <;> grind [It.at,y']
  obtain ⟨its,rv,p⟩:=I.u9 hq;have hl:=rv.length;have r:=Pg.refl I λb hb=>⟨hf b hb,by obtain ⟨o,e,_⟩:=st; rw [Qi.mp hb]; exact ag.lt_size e⟩
  cases b with
  | true =>
   obtain ⟨ys,x,hy,hx⟩:=g;cases I.mf hy hq;obtain ⟨u,hu,ru⟩:=rv.get hx;exact VG st p (λv h' e t b=>by
    rw [show v=u from Option.some.inj (e.symm.trans (by simpa using hu))];exact hQ u x H _ rfl (r.cell (t':=s.toks) 'b' b) ru ⟨rfl,λys hy=>by rw [I.mf hy hq]; exact hx⟩ t) λe=>by simp_all
  | false =>
   obtain ⟨ys,hy,hx⟩:=g;cases I.mf hy hq;exact VG st p (λv h' e _ _=>by simp_all) λe=>⟨hA,λh' e k he z=>hE e _ rfl (r.ext (t':=s.toks) 'b' k z) he⟩
 self:=λ_ _ _ _ _ st h=>by
  cases k
  ·exact wpAny_pyIter_listiter st h
  ·exact wpAny_pyIter_tupleiter st h
 lets:=λX _ _ _ tg u i a_ s s' σ H H' Q E p st hQ=>by
  obtain ⟨o,e,c,d⟩:=st;exact Hw e c d (by cases k <;> decide) (hQ _ p ⟨o,e,c,d⟩)
noncomputable abbrev A2 (K:Rb) (a:ae):It:=y' K .l a
noncomputable abbrev IK (K:Rb) (a:ae):It:=y' K .t a
noncomputable def Fb (lo:Int) (n:Nat):It:=⟨λi _=>i < n,λi H x H'=>H'=H/\x=.int (lo+i),λi _=>n<=i⟩
theorem aCz (it:ae) (lo:Int) (n:Nat):Turn P w K tg (Fb lo n) [it] it (λi h=>IsRangeIter h it (lo+(i:Nat)*1) ((n:Int) - (i:Nat)) 1) where
 mem:=by simp
 obj:=λi h st b hb=>by simp_all
 keep:=λi h h' st k=>k it 'b' _ st
 item:=by
  intro X hP hw hK hc i a_ s σ H E I hf st hg;subst hP hw hK;obtain ⟨f0,f1,f2,f3,f4,f5⟩:=hf it 'b';refine (cx.range (prog:=X.prog) (w:=X.w) (I.ok.hd hc) it lo 1 n).item i s _ _ hg st λv h' tk hv vj kk=>?_;obtain ⟨t,rfl⟩:=hv;have I1:Inv X a_ σ H { s with heap:=h',toks:=tk }:=I.turned (λb o hb e=>kk b o (by simpa using hb) e) f0 f1 f3 f4 f5;refine ⟨_,rfl,Hw (s:={ s with heap:=h',toks:=tk }) (n := "range_iterator") vj rfl rfl 'c' ⟨.int (lo+i),H,I1,⟨t,?_⟩,⟨rfl,rfl⟩,vj,λb hb=>(hf b hb).1⟩⟩;rw [Int.mul_one]
 done:=by
  intro X hP hw hK hc i a_ s σ H E I hf st hg;subst hP hw hK;obtain ⟨f0,f1,f2,f3,f4,f5⟩:=hf it 'b';exact wpAny_pyNext_range_end (I.ok.hd hc) st (by have:n<=i:=hg; omega) λh' eb=>⟨rfl,I.turned (t':=s.toks) (λb o hb e=>eb b o hb e) f0 f1 f3 f4 f5⟩
 self:=λ_ _ _ _ _ st h=>wpAny_pyIter_rangeiter st h
def LD (K:Rb) (k:Sk) (tl:TE):TI:=λσ H R=>tl σ H λx H1=>∃ a,x=.ref a/\(∃ xs,jv k K H1 a xs)/\R (y' K k a) H1
theorem UT {k:Sk} {l:ay} (hl:PE X l tl):PI X tg l (LD X.K k tl):=by
 intro a_ s σ H R I h;refine fc (hl a_ s σ H _ I h) λv s1 q9=>?_;obtain ⟨x,H1,I1,r1,a,e,⟨xs,hq⟩,q⟩:=q9;subst e;cases r1;obtain ⟨its,rv,p⟩:=I1.u9 hq;refine Hv p ⟨s1.heap.objs.size,[s1.heap.objs.size],_,_,H1,rfl,I1.kept (t':=s1.toks) λb o e=>ag.get?_push_of_some _ e,(zS k a _).turn (λ_ _ h=>h) (λ_ _ _ _ h=>h) (λ_ _ h=>h),⟨_,ag.get?_push_size _ rfl,rfl,rfl⟩,λb hb=>?_,q⟩;rw [Qi.mp hb];exact I1.n_ (Qe _) (I1.ei.fresh (Qe _))
abbrev LX (K:Rb) (tl:TE):TI:=LD K .l tl
abbrev Hm (K:Rb) (tl:TE):TI:=LD K .t tl
theorem cZ {l:ay} (hl:PE X l tl):PI X tg l (LX X.K tl):=UT hl
theorem hG {l:ay} (hl:PE X l tl):PI X tg l (Hm X.K tl):=UT hl
theorem aFD {σ:St} {R:It->Hp->Prop} {hi:Int} {t u v:df} {tk:Nat} (I:Inv X a_ σ H s) (h1:-(2^62)<=lo) (h2:lo < 2^62) (h3:-(2^62)<=hi) (h4:hi < 2^62) (q:R (Fb lo (hi - lo).toNat) H):aq (ar X.prog X.w) X.A (pyIter (.ref s.heap.objs.size)) (YA X a_ σ tg R) E { s with heap:=s.heap.push { cls:=.type "range",data:=.fields #[.int lo t,.int hi u,.int 1 v] },toks:=tk }:=by
 refine wpAny_pyIter_range (IsRange.new ..) (small_one h1 h2 h3 h4) ?_;have I1:Inv X a_ σ H { s with heap:=s.heap.push { cls:=.type "range",data:=.fields #[.int lo t,.int hi u,.int 1 v] },toks:=tk }:=I.kept λb o e=>ag.get?_push_of_some _ e;refine ⟨(s.heap.push { cls:=.type "range",data:=.fields #[.int lo t,.int hi u,.int 1 v] }).objs.size,[(s.heap.push { cls:=.type "range",data:=.fields #[.int lo t,.int hi u,.int 1 v] }).objs.size],_,_,H,rfl,
  I1.kept (t':=tk) λb o e=>ag.get?_push_of_some _ e,aCz _ lo (hi - lo).toNat,?_,λb hb=>?_,q⟩
 ·have e1:lo+((0:Nat):Int)*1=lo:=by simp
  have e2:(((hi - lo).toNat:Nat):Int) - ((0:Nat):Int)=ak.Range.rangeSize lo hi 1:=by grind [rangeSize_one]
  rw [e1,e2];exact ag.get?_push_size _ rfl
 ·have e:b=(s.heap.push { cls:=.type "range",data:=.fields #[.int lo t,.int hi u,.int 1 v] }).objs.size:=by simpa using hb
  subst e;exact I1.n_ (Qe _) (I1.ei.fresh (Qe _))
def aK1 (ta:TA):TI:=λσ H R=>ta σ H λvs H1=>∃ j:Int,vs = [.int j]/\-(2^62)<=j/\j < 2^62/\R (Fb 0 j.toNat) H1
theorem hV {a:ay} {ta:TA} (hg:Gl X "range") (hm:X.mg "range" = none) (ha:PA X [a] ta) (hs:autoParam (ao [a] X.env = [(false,eval a X.env)]) L2.f'):PI X tg (.Call (.Name "range" p) [a] [] pos) (aK1 ta):=by
 intro a_ s σ H R I h;refine Call_ (mT I hg hm boot_range (PyProof.Rows.callWith_type1 (fc (ha pos a_ s σ H _ I h) λus s1 e_=>?_) hs rfl));obtain ⟨vs,H1,I1,r1,q1⟩:=e_;obtain ⟨j,e,q1,q2,q⟩:=q1;subst e;cases r1 with
 | cons r rr =>
  cases rr;obtain ⟨t,rfl⟩:=r;exact call_range_1 (aFD I1 'a' 'a' q1 q2 (by simp_all))
abbrev Ds (J:It) (g:TG) (tb:TS) (D:Ends) (σ:St) (H:Hp):Prop:=∃ W:Nat->Nat->St->Hp->Prop,(∃ m,W 0 m σ H)/\∀ i m σ H,W i m σ H ->
 (J.stop i H/\D.nx σ H)∨(J.go i H/\∃ N:St->Hp->Prop,(∀ d9 H',N d9 H'->∃ m',m' < m/\W (i+1) m' d9 H')/\∀ x H',J.m7 i H x H'->g x σ H' λfi H2=>tb { D with nx:=N,ct:=N,bk:=D.nx } fi H2)
def G_ (wi:TI) (g:TG) (tb:TS):TS:=λD σ H=>wi σ H λJ H1=>Ds J g tb D σ H1
noncomputable def rC (fp:List ae) (h:ag):List (ae×cb):=fp.filterMap λb=>(h.get? b).map λo=>(b,o)
theorem pC {b:ae} (hb:b∈fp) (e:h.get? b=some o):(b,o)∈rC fp h:=Qah.mpr ⟨b,hb,by rw [e]; rfl⟩
theorem xY {p:ae×cb} (hp:p∈rC fp h):p.1∈fp/\h.get? p.1=some p.2:=by
 obtain ⟨b,hb,e⟩:=Qah.mp hp;cases q:h.get? b with
 | none=>rw [q] at e; cases e
 | some o =>
  rw [q] at e;have e':(b,o)=p:=Option.some.inj e;subst e';exact ⟨hb,q⟩
theorem Inv.pinned {σ:St} (I:Inv X a_ σ H s) (hf:∀ b∈fp,mV X a_ H b) (ho:∀ b∈fp,∃ o,s.heap.get? b=some o/\∀ v,o.data≠.cell v):Inv X (a_++rC fp s.heap) σ H s :=
 I.jm λp hp=>(Qp.mp hp).elim (λz=>I.pin p (Qz _ z)) λz=>by
  obtain ⟨hb,e⟩:=xY z;obtain ⟨f0,f1,f2,_⟩:=hf p.1 hb;obtain ⟨o,e',d⟩:=ho p.1 hb;rw [e] at e'; cases e';exact ⟨e,f0,f1,f2,d⟩
theorem Inv.jq {pl:List (ae×cb)} {σ:St} (I:Inv X (a_++pl) σ H s):Inv X a_ σ H s:=I.jm λp hp=>I.pin p (Qz _ (Jy _ hp))
theorem jH {wi:TI} {tb:TS} (hp:bc (ar X.prog X.w) X.A X.env X.xe) (hc:X.calm=true) (hi:PI X tg iter wi) (hg:PG X tg g) (hb:nc X body tb) (hs:autoParam (∀ x,foldedSetIterable iter X.env x=pure x) L2.y_):PS X (.For tg iter body [] pos) (G_ wi g tb):=by
 intro a_ s σ H D I h;refine wpAny_For (fc (hi a_ s σ H _ I h) λv s1 h1=>fc h1 λGf s2 h2=>?_) hs;obtain ⟨it,fp,tn,J,H2,e,I2,T,Al,f2,W,⟨m0,w0⟩,turn⟩:=h2;subst e
 -- what stays true of the iterator's objects through the loop
 have q_:∀ {H':Hp},(∀ b∈fp,H' b=none)->∀ b∈fp,mV X a_ H' b:=λhn b hb=>⟨hn b hb,(f2 b hb).2⟩
 refine codeAny_forLoop_any (λn s'=>∃ i d9 H',Inv X a_ d9 H' s'/\tn i s'.heap/\(∀ b∈fp,H' b=none)/\W i n d9 H') ?_ m0 ⟨0,σ,H2,I2,Al,λb hb=>(f2 b hb).1,w0⟩;rintro n s3 ⟨i,uc,H3,I3,F7,Sf,w3⟩;rcases turn i n uc H3 w3 with ⟨stop,qn⟩ | ⟨go,N,hN,step⟩
 ·refine Uc hp (fc (T.done X rfl rfl rfl hc i a_ s3 uc H3 X.xe I3 (q_ Sf) F7 stop) λr s4 e_=>?_);obtain ⟨hr,I4⟩:=e_;subst hr;exact Uq ⟨uc,H3,I4,qn⟩
 ·refine Uc hp (fc (T.item X rfl rfl rfl hc i a_ s3 uc H3 X.xe I3 (q_ Sf) F7 go) λr s4 e_=>?_);obtain ⟨u,hr,h4⟩:=e_;subst hr;refine Uc hp (fc h4 λ_ s5 e_=>?_);obtain ⟨x,H5,I5,r5,y5,CI,GX⟩:=e_;have I5':=I5.pinned (q_ GX) (T.obj _ _ CI);refine Uc hp (fc (hg _ s5 uc H5 x u _ I5' r5 (step x H5 y5)) λ_ s6 e_=>?_);obtain ⟨Oq,H6,I6,q6⟩:=e_;refine Uc hp (fc (hb _ s6 Oq H6 _ I6 q6) λf s7 q7=>?_);have again:∀ {wg:St} {H7:Hp},Inv X (a_++rC fp s5.heap) wg H7 s7->N wg H7->∃ m,m < n/\∃ i d9 H',Inv X a_ d9 H' s7/\tn i s7.heap/\(∀ b∈fp,H' b=none)/\W i m d9 H':=λ{wg H7} I7 n7=>by
   obtain ⟨m',hm,w7⟩:=hN wg H7 n7;refine ⟨m',hm,i+1,wg,H7,I7.jq,T.keep _ _ _ CI λb hb o e=>(I7.pin (b,o) (Qz _ (Qz _ (pC hb e)))).1,λb hb=>?_,w7⟩;obtain ⟨o,e,d⟩:=T.obj _ _ CI b hb;exact (I7.pin (b,o) (Qz _ (Qz _ (pC hb e)))).2.1
  cases f with
  | next=>obtain ⟨wg,H7,I7,n7⟩:=q7; exact again I7 n7
  | cont=>obtain ⟨wg,H7,I7,n7⟩:=q7; exact again I7 n7
  | brk=>obtain ⟨wg,H7,I7,q7⟩:=q7; exact ⟨wg,H7,I7.jq,q7⟩
  | ret v=>obtain ⟨x7,wg,H7,I7,r7,q7⟩:=q7; exact ⟨x7,wg,H7,I7.jq,r7,q7⟩
theorem zT {tb:TS} {D:Ends} {σ:St} (Pv:Nat->St->Hp->Prop) (h0:Pv 0 σ H) (hd:∀ σ H,Pv n σ H->J.stop n H/\D.nx σ H) (hs:∀ i σ H,i < n->Pv i σ H->J.go i H/\∀ x H',J.m7 i H x H'->g x σ H' λfi H2=>tb { D with nx:=Pv (i+1),ct:=Pv (i+1),bk:=D.nx } fi H2):Ds J g tb D σ H:=by
 refine ⟨λi m σ H=>m=n - i/\i<=n/\Pv i σ H,⟨n,rfl,Ji _,h0⟩,?_⟩;rintro i m σ H ⟨rfl,hi,p⟩;rcases Nat.lt_or_eq_of_le hi with h | rfl
 ·obtain ⟨a,b⟩:=hs i σ H h p;exact .inr ⟨a,Pv (i+1),λd9 H' p'=>⟨_,by omega,rfl,h,p'⟩,b⟩
 ·exact .inl (hd σ H p)
theorem gR (k:Sk) {a:ae} {tb:TS} {D:Ends} {σ:St} (Pv:Nat->St->Hp->Prop) (h0:Pv 0 σ H) (hl:∀ i σ H,i<=xs.length->Pv i σ H->jv k K H a xs) (hs:∀ i x σ H,xs[i]?=some x->Pv i σ H->g x σ H λfi H2=>tb { D with nx:=Pv (i+1),ct:=Pv (i+1),bk:=D.nx } fi H2) (hd:∀ σ H,Pv xs.length σ H->D.nx σ H):Ds (y' K k a) g tb D σ H :=
 zT Pv h0 (λσ H p=>⟨⟨xs,hl _ σ H (Qe _) p,Qe _⟩,hd σ H p⟩) λi σ H h p=>⟨⟨xs,_,hl i σ H (Jx h) p,Qc h⟩,λx H' ⟨e,y⟩=>by
  subst e;exact hs i x σ _ (y xs (hl i σ H' (Jx h) p)) p⟩
theorem rD {tb:TS} {D:Ends} {σ:St} (Pv:Nat->St->Hp->Prop) (h0:Pv 0 σ H) (hs:∀ i σ H,i < n->Pv i σ H->g (.int (lo+i)) σ H λfi H2=>tb { D with nx:=Pv (i+1),ct:=Pv (i+1),bk:=D.nx } fi H2) (hd:∀ σ H,Pv n σ H->D.nx σ H):Ds (Fb lo n) g tb D σ H :=
 zT Pv h0 (λσ H p=>⟨Qe _,hd σ H p⟩) λi σ H h p=>⟨h,λx H' ⟨e,y⟩=>by
  subst e y;exact hs i σ _ h p⟩
abbrev R2:=V->V->Hp->VK->Prop
end L2
variable {r:R2}
namespace L2
open PySem PySem.Spec PyProof.Rows
def gy (X:Cx) (f:aa->aa->Sem aa) (r:R2):Prop :=
 ∀ (a_:List (ae×cb)) (s:ah) (σ:St) (H:Hp) (x y:V) (v u:aa) (Q:VK),Inv X a_ σ H s->bN x v->bN y u->r x y H Q ->
  aq (ar X.prog X.w) X.A (f v u) (EP X a_ σ Q) X.xe s
def Nm (X:Cx) (f:aa->Sem aa) (r:V->Hp->VK->Prop):Prop :=
 ∀ (a_:List (ae×cb)) (s:ah) (σ:St) (H:Hp) (x:V) (v:aa) (Q:VK),Inv X a_ σ H s->bN x v->r x H Q ->
  aq (ar X.prog X.w) X.A (f v) (EP X a_ σ Q) X.xe s
def eQ (X:Cx) (f:aa) (r:List V->Hp->VK->Prop):Prop :=
 ∀ (a_:List (ae×cb)) (s:ah) (σ:St) (H:Hp) (xs:List V) (us:List aa) (Q:VK),Inv X a_ σ H s->bG xs us->r xs H Q ->
  aq (ar X.prog X.w) X.A (call f us) (EP X a_ σ Q) X.xe s
def aL3 (X:Cx) (r:V->Hp->(Bool->Hp->Prop)->Prop):Prop :=
 ∀ (a_:List (ae×cb)) (s:ah) (σ:St) (H:Hp) (x:V) (v:aa) (Q:Bool->Hp->Prop),Inv X a_ σ H s->bN x v->r x H Q ->
  aq (ar X.prog X.w) X.A (truthy v) (TP X a_ σ Q) X.xe s
def ud (r:R2) (ta tb:TE):TE:=λσ H Q=>ta σ H λx H1=>tb σ H1 λy H2=>r x y H2 Q
def OE (r:V->Hp->VK->Prop) (ta:TE):TE:=λσ H Q=>ta σ H λx H1=>r x H1 Q
def rI (C:Int->Int->Prop) (g:Int->Int->V):R2:=λx y H Q=>∃ i j,x=.int i/\y=.int j/\C i j/\Q (g i j) H
def Aq (g:Int->Int->V):R2:=λx y H Q=>∃ i j,x=.int i/\y=.int j/\Q (g i j) H
def rU (g:Int->V):V->Hp->VK->Prop:=λx H Q=>∃ i,x=.int i/\Q (g i) H
section
variable {a b c:ay}
theorem LC (ha:PE X a ta) (hb:PE X b tb) {σ:St} {R:V->V->Hp->Prop} (I:Inv X a_ σ H s) (h:ta σ H λx H1=>tb σ H1 λy H2=>R x y H2) {f:aa->aa->Sem aa} (hf:∀ v u s2 x y H2,Inv X a_ σ H2 s2->bN x v->bN y u->R x y H2->aq (ar X.prog X.w) X.A (f v u) Q X.xe s2) :
  aq (ar X.prog X.w) X.A (eval a X.env) (λv gi=>aq (ar X.prog X.w) X.A (eval b X.env) (λu kc=>aq (ar X.prog X.w) X.A (f v u) Q X.xe kc) X.xe gi) X.xe s:=by
 refine fc (ha a_ s σ H _ I h) λv s1 e_=>?_;obtain ⟨x,H1,I1,r1,q1⟩:=e_;refine fc (hb a_ s1 σ H1 _ I1 q1) λu s2 e_=>?_;obtain ⟨y,H2,I2,r2,q2⟩:=e_;exact hf v u s2 x y H2 I2 r1 r2 q2
theorem aS {op:Operator} (ho:gy X (binaryOp op) r) (ha:PE X a ta) (hb:PE X b tb):PE X (.BinOp a op b pos) (ud r ta tb):=by
 intro a_ s σ H Q I h;exact wpAny_BinOp (LC ha hb I h λv u s2 x y H2 I2 rx ry q=>ho a_ s2 σ H2 x y v u Q I2 rx ry q)
theorem LV {op:UnaryOp} {r:V->Hp->VK->Prop} (ho:Nm X (unaryOp op) r) (ha:PE X a ta):PE X (.UnaryOp op a pos) (OE r ta):=by
 intro a_ s σ H Q I h;refine UnaryOp_ (fc (ha a_ s σ H _ I h) λv s1 e_=>?_);obtain ⟨x,H1,I1,r1,q1⟩:=e_;exact ho a_ s1 σ H1 x v Q I1 r1 q1
theorem CP {f:aa->aa->Sem aa} {C:Int->Int->Prop} {g:Int->Int->Int}
  (rule:∀ (i j:Int) (t u:df) (s:ah) (Q:aa->ah->Prop) (E:aa->ah->Prop),C i j->Q (.int (g i j) s.toks) { s with toks:=s.toks+1 }->aq (ar X.prog X.w) X.A (f (.int i t) (.int j u)) Q E s) :
  gy X f (rI C λi j=>.int (g i j)):=by
 intro a_ s σ H x y v u Q I rx ry h;obtain ⟨i,j,rfl,rfl,hc,q⟩:=h;obtain ⟨t,rfl⟩:=rx;obtain ⟨t',rfl⟩:=ry;exact rule i j t t' s _ _ hc ⟨.int (g i j),H,I.tok _,⟨_,rfl⟩,q⟩
theorem SU {f:aa->aa->Sem aa} {g:Int->Int->Int}
  (rule:∀ (i j:Int) (t u:df) (s:ah) (Q:aa->ah->Prop) (E:aa->ah->Prop),Q (.int (g i j) s.toks) { s with toks:=s.toks+1 }->aq (ar X.prog X.w) X.A (f (.int i t) (.int j u)) Q E s) :
  gy X f (Aq λi j=>.int (g i j)):=by
 intro a_ s σ H x y v u Q I rx ry h;obtain ⟨i,j,rfl,rfl,q⟩:=h;obtain ⟨t,rfl⟩:=rx;obtain ⟨t',rfl⟩:=ry;exact rule i j t t' s _ _ ⟨.int (g i j),H,I.tok _,⟨_,rfl⟩,q⟩
theorem G' {f:aa->aa->Sem aa} {g:Int->Int->Bool}
  (rule:∀ (i j:Int) (t u:df) (s:ah) (Q:aa->ah->Prop) (E:aa->ah->Prop),Q (.bool (g i j)) s->aq (ar X.prog X.w) X.A (f (.int i t) (.int j u)) Q E s) :
  gy X f (Aq λi j=>.bl (g i j)):=by
 intro a_ s σ H x y v u Q I rx ry h;obtain ⟨i,j,rfl,rfl,q⟩:=h;obtain ⟨t,rfl⟩:=rx;obtain ⟨t',rfl⟩:=ry;exact rule i j t t' s _ _ ⟨.bl (g i j),H,I,rfl,q⟩
def aL4 (i j:Int):Prop:=0 < j/\j < 1073741824
def aL5 (i j:Int):Prop:=0<=j/\j<=1000000/\i.natAbs < 2^64
def LB (i j:Int):Prop:=(-(2^64) < i/\i < 2^64)∨(-(2^64) < j/\j < 2^64)
theorem LB.ok {i j:Int} (h:LB i j):IntMulOk i j:=by
 rcases h with ⟨h1,h2⟩ | ⟨h1,h2⟩
 ·exact .of_left (intBits_le_64 h1 h2)
 ·exact .of_right (intBits_le_64 h1 h2)
theorem eD:gy X (binaryOp .Add) (Aq λi j=>.int (i+j)):=SU λ_ _ _ _ _ _ _ q=>add_int q
theorem jZ:gy X (binaryOp .Sub) (Aq λi j=>.int (i - j)):=SU λ_ _ _ _ _ _ _ q=>sub_int q
theorem iA:gy X (binaryOp .Mult) (rI LB λi j=>.int (i*j)):=CP λ_ _ _ _ _ _ _ hc q=>mul_int q hc.ok
theorem aHG:gy X (binaryOp .FloorDiv) (rI aL4 λi j=>.int (i / j)):=CP λi j _ _ _ _ _ hc q=>by
 have h1:(0:Int) < j:=hc.1;have h2:j < 1073741824:=hc.2;exact floordiv_int 'a' (by rw [Yr i 'a']; exact q) (.inl (PyProof.noPylong_small 'a'))
theorem mW:gy X (binaryOp .Mod) (rI (λ_ j=>0 < j) λi j=>.int (i % j)):=CP λi j _ _ _ _ _ hc q=>by
 have h1:(0:Int) < j:=hc;exact mod_int' 'a' (by rw [Int.fmod_eq_emod_of_nonneg i 'a']; exact q)
theorem aJQ:gy X (binaryOp .Pow) (rI aL5 λi j=>.int (i^j.toNat)):=CP λ_ _ _ _ _ _ _ hc q=>pow_int_small hc.1 hc.2.1 hc.2.2 q
theorem Y8 {f:aa->Sem aa} {g:Int->Int}
  (rule:∀ (i:Int) (t:df) (s:ah) (Q:aa->ah->Prop) (E:aa->ah->Prop),Q (.int (g i) s.toks) { s with toks:=s.toks+1 }->aq (ar X.prog X.w) X.A (f (.int i t)) Q E s) :
  Nm X f (rU λi=>.int (g i)):=by
 intro a_ s σ H x v Q I rx h;obtain ⟨i,rfl,q⟩:=h;obtain ⟨t,rfl⟩:=rx;exact rule i t s _ _ ⟨.int (g i),H,I.tok _,⟨_,rfl⟩,q⟩
theorem MO:Nm X (unaryOp .USub) (rU λi=>.int (-i)):=Y8 λ_ _ _ _ _ q=>neg_int q
noncomputable def SR:V->V->Bool
 | .fk,.fk=>true | .fk,.int _=>true | .int _,.fk=>true | .fk,.bl _=>true | .bl _,.fk=>true | .fk,.str _=>true | .str _,.fk=>true
 | .int _,.int _=>true | .bl _,.bl _=>true | .str _,.str _=>true | .qx _,.qx _=>true
 | .int _,.str _=>true | .str _,.int _=>true | .bl _,.str _=>true | .str _,.bl _=>true
 | _,_=>false
def ZM:R2:=λx y H Q=>SR x y=true/\Q (.bl (decide (x=y))) H
def JH:R2:=λx y H Q=>SR x y=true/\Q (.bl (!decide (x=y))) H
theorem V1 {i j:Int}:decide (V.int i=V.int j)=(i==j):=by
 rw [Xb];simp
theorem US {i j:Bool}:decide (V.bl i=V.bl j)=(i==j):=by
 rw [Xb];simp
theorem V0 {i j:aj}:decide (V.str i=V.str j)=(i==j):=by
 rw [Xb];simp
theorem VZ {i j:Array UInt8}:decide (V.qx i=V.qx j)=(i.toList==j.toList):=by
 rw [Xb];cases i;cases j;simp
theorem cG {σ:St} {Q:VK} {k k':Bool} (I:Inv X a_ σ H s) (q:Q (.bl k) H) (e:k=k'):EP X a_ σ Q (.bool k') s:=by
 subst e;exact ⟨.bl k,H,I,rfl,q⟩
theorem cY:gy X (bj .Eq) ZM:=by
 intro a_ s σ H x y v u Q I rx ry h;obtain ⟨hs,q⟩:=h;cases x with
 | fk =>
  cases rx;cases y with
  | fk=>cases ry; exact RaI (cG I q 'b')
  | bl j=>cases ry; exact RaJ (cG I q 'b')
  | int j=>obtain ⟨t',rfl⟩:=ry; exact RaK (cG I q 'b')
  | str j=>obtain ⟨t',rfl⟩:=ry; exact RaL (cG I q 'b')
  | _=>exact absurd (show false=true from hs) Qw
 | bl i =>
  cases rx;cases y with
  | fk=>cases ry; exact RaM (cG I q 'b')
  | bl j=>cases ry; exact eq_bool (cG I q US)
  | str j=>obtain ⟨t',rfl⟩:=ry; exact Rax (cG I q 'b')
  | _=>exact absurd (show false=true from hs) Qw
 | int i =>
  obtain ⟨t,rfl⟩:=rx;cases y with
  | fk=>cases ry; exact RaN (cG I q 'b')
  | int j=>obtain ⟨t',rfl⟩:=ry; exact eq_int (cG I q V1)
  | str j=>obtain ⟨t',rfl⟩:=ry; exact Ray (cG I q 'b')
  | _=>exact absurd (show false=true from hs) Qw
 | str i =>
  obtain ⟨t,rfl⟩:=rx;cases y with
  | fk=>cases ry; exact RaO (cG I q 'b')
  | bl j=>cases ry; exact Raz (cG I q 'b')
  | int j=>obtain ⟨t',rfl⟩:=ry; exact RaA (cG I q 'b')
  | str j=>obtain ⟨t',rfl⟩:=ry; exact eq_str (cG I q V0)
  | _=>exact absurd (show false=true from hs) Qw
 | qx i =>
  obtain ⟨t,rfl⟩:=rx;cases y with
  | qx j=>obtain ⟨t',rfl⟩:=ry; exact PySem.W.eq_bytes (cG I q VZ)
  | _=>exact absurd (show false=true from hs) Qw
 | _=>cases y <;> exact absurd (show false=true from hs) Qw
theorem iB:gy X (bj .NotEq) JH:=by
 intro a_ s σ H x y v u Q I rx ry h;obtain ⟨hs,q⟩:=h;cases x with
 | fk =>
  cases rx;cases y with
  | fk=>cases ry; exact RaP (cG I q 'b')
  | bl j=>cases ry; exact RaQ (cG I q 'b')
  | int j=>obtain ⟨t',rfl⟩:=ry; exact RaR (cG I q 'b')
  | str j=>obtain ⟨t',rfl⟩:=ry; exact RaS (cG I q 'b')
  | _=>exact absurd (show false=true from hs) Qw
 | bl i =>
  cases rx;cases y with
  | fk=>cases ry; exact RaT (cG I q 'b')
  | bl j=>cases ry; exact ne_bool (cG I q (congrArg not US))
  | str j=>obtain ⟨t',rfl⟩:=ry; exact RaB (cG I q 'b')
  | _=>exact absurd (show false=true from hs) Qw
 | int i =>
  obtain ⟨t,rfl⟩:=rx;cases y with
  | fk=>cases ry; exact RaU (cG I q 'b')
  | int j=>obtain ⟨t',rfl⟩:=ry; exact ne_int (cG I q (congrArg not V1))
  | str j=>obtain ⟨t',rfl⟩:=ry; exact RaC (cG I q 'b')
  | _=>exact absurd (show false=true from hs) Qw
 | str i =>
  obtain ⟨t,rfl⟩:=rx;cases y with
  | fk=>cases ry; exact RaV (cG I q 'b')
  | bl j=>cases ry; exact RaD (cG I q 'b')
  | int j=>obtain ⟨t',rfl⟩:=ry; exact RaE (cG I q 'b')
  | str j=>obtain ⟨t',rfl⟩:=ry; exact ne_str (cG I q (congrArg not V0))
  | _=>exact absurd (show false=true from hs) Qw
 | qx i =>
  obtain ⟨t,rfl⟩:=rx;cases y with
  | qx j=>obtain ⟨t',rfl⟩:=ry; exact PySem.W.ne_bytes (cG I q (congrArg not VZ))
  | _=>exact absurd (show false=true from hs) Qw
 | _=>cases y <;> exact absurd (show false=true from hs) Qw
theorem xZ:gy X (bj .Lt) (Aq λi j=>.bl (decide (i < j))):=G' λ_ _ _ _ _ _ _ q=>lt_int q
theorem uJ:gy X (bj .LtE) (Aq λi j=>.bl (decide (i<=j))):=G' λ_ _ _ _ _ _ _ q=>le_int q
theorem oV:gy X (bj .Gt) (Aq λi j=>.bl (decide (j < i))):=G' λ_ _ _ _ _ _ _ q=>gt_int q
theorem LU:gy X (bj .GtE) (Aq λi j=>.bl (decide (j<=i))):=G' λ_ _ _ _ _ _ _ q=>ge_int q
theorem yA:gy X (bj .In) (λx y H Q=>∃ i j,x=.str i/\y=.str j/\Q (.bl (!(ak.Str.occurrences j i 0 j.length 1).isEmpty)) H):=by
 intro a_ s σ H x y v u Q I rx ry h;obtain ⟨i,j,rfl,rfl,q⟩:=h;obtain ⟨t,rfl⟩:=rx;obtain ⟨t',rfl⟩:=ry;exact in_str (cG I q rfl)
theorem UR:gy X (bj .Is) (λx y H Q=>y=.fk/\Q (.bl (decide (x=.fk))) H):=by
 intro a_ s σ H x y v u Q I rx ry h;obtain ⟨rfl,q⟩:=h;cases ry;refine is_none_gen (cG I q ?_);cases x <;> first
  | (cases rx; rfl)
  | (obtain ⟨t,rfl⟩:=rx; rfl)
theorem aJR (b:ay) (h:autoParam (op≠.In) L2.iy) (h2:autoParam (op≠.NotIn) L2.iy):behindInMarks op b=false:=by
 have e1:(op==CmpOp.In)=false:=by simp_all
 have e2:(op==CmpOp.NotIn)=false:=by simp_all
 cases b <;> simp [behindInMarks,e1,e2]
theorem ft {b:ay} (h:op≠.In:=by decide) (h2:op≠.NotIn:=by decide):behindInMarks op b=false:=aJR b h h2
theorem cL (ho:gy X (bj op) r) (ha:PE X a ta) (hb:PE X b tb) (hm:behindInMarks op b=false):PE X (.Compare a [op] [b] pos) (ud r ta tb):=by
 intro a_ s σ H Q I h;exact wpAny_Compare1 (LC ha hb I h λv u s2 x y H2 I2 rx ry q=>ho a_ s2 σ H2 x y v u Q I2 rx ry q) hm
def HG (t:TE):TT:=λσ H Q=>t σ H λx H'=>∃ k,x=.bl k/\Q k H'
theorem aO (ho:gy X (bj op) r) (ha:PE X a ta) (hb:PE X b tb) (hm:behindInMarks op b=false):PT X (.Compare a [op] [b] pos) (HG (ud r ta tb)):=by
 intro a_ s σ H Q I h;refine Rab (fc (ha a_ s σ H _ I h) λv s1 ⟨x,H1,I1,r1,q1⟩=>fc (hb a_ s1 σ H1 _ I1 q1) λu s2 ⟨y,H2,I2,r2,q2⟩ =>
  fc (ho a_ s2 σ H2 x y v u _ I2 r1 r2 q2) λc s3 ⟨z,H3,I3,r3,k,e,q3⟩=>?_) hm
 subst e;cases r3;exact Rw ⟨H3,I3,q3⟩
def UQ (r r':R2) (ta tb tc:TE):TE:=λσ H Q=>ta σ H λx H1=>tb σ H1 λy H2=>r x y H2 λz H3=>∃ k,z=.bl k /\
 (if k=true then tc σ H3 λw' H4=>r' y w' H4 Q else Q (.bl false) H3)
theorem X5 {Bk:CmpOp} {r':R2} (ho:gy X (bj op) r) (m9:gy X (bj Bk) r') (ha:PE X a ta) (hb:PE X b tb) (hc:PE X c tc) (hm:autoParam (lastMarks [op,Bk] [b,c]=false) L2.Ov):PE X (.Compare a [op,Bk] [b,c] pos) (UQ r r' ta tb tc):=by
 intro a_ s σ H Q I h;refine Compare_chain (fc (ha a_ s σ H _ I h) λv s1 ⟨x,H1,I1,r1,q1⟩=>chain_link (fc (hb a_ s1 σ H1 _ I1 q1) λu s2 ⟨y,H2,I2,r2,q2⟩ =>
  fc (ho a_ s2 σ H2 x y v u _ I2 r1 r2 q2) λd s3 ⟨z,H3,I3,r3,k,e,q3⟩=>?_)) hm
 subst e;cases r3;refine Rw ?_;cases k with
 | false=>exact ite_ff ⟨.bl false,H3,I3,rfl,q3⟩
 | true=>exact ite_tt (chain_last (fc (hc a_ s3 σ H3 _ I3 q3) λw' s4 ⟨z',H4,I4,r4,q4⟩=>m9 a_ s4 σ H4 y z' u w' Q I4 r2 r4 q4))
theorem aFJ {Bk:CmpOp} {r':R2} (ho:gy X (bj op) r) (m9:gy X (bj Bk) r') (ha:PE X a ta) (hb:PE X b tb) (hc:PE X c tc) (hm:autoParam (lastMarks [op,Bk] [b,c]=false) L2.Ov):PT X (.Compare a [op,Bk] [b,c] pos) (HG (UQ r r' ta tb tc)):=by
 intro a_ s σ H Q I h;refine isTrue_chain (fc (ha a_ s σ H _ I h) λv s1 ⟨x,H1,I1,r1,q1⟩=>test_link (fc (hb a_ s1 σ H1 _ I1 q1) λu s2 ⟨y,H2,I2,r2,q2⟩ =>
  fc (ho a_ s2 σ H2 x y v u _ I2 r1 r2 q2) λd s3 ⟨z,H3,I3,r3,k,e,q3⟩=>?_)) hm
 subst e;cases r3;refine Rw ?_;cases k with
 | false =>
  obtain ⟨k',e',q'⟩:=q3;cases e';exact ite_ff ⟨H3,I3,q'⟩
 | true =>
  refine ite_tt (test_last (fc (hc a_ s3 σ H3 _ I3 q3) λw' s4 ⟨z',H4,I4,r4,q4⟩=>fc (m9 a_ s4 σ H4 y z' u w' _ I4 r2 r4 q4) λd' s5 e_=>?_));obtain ⟨z2,H5,I5,r5,k2,e2,q5⟩:=e_;subst e2;cases r5;exact Rw ⟨H5,I5,q5⟩
def SQ (K:Rb) (x:V) (H:Hp) (k:Bool):Prop :=
 match x with
 | .fk=>k=false
 | .bl b=>k=b
 | .int i=>k=(i !=0)
 | .str y=>y.length<=af/\k=((y.length:Int) !=0)
 | .qx y=>y.size<=af/\k=((y.size:Int) !=0)
 | .ref p=>(∃ xs,dm K H p xs/\k=!xs.isEmpty)∨(∃ xs,dt K H p xs/\k=!xs.isEmpty)∨∃ kvs,H p=some (.dK kvs)/\k=!kvs.isEmpty
 | _=>False
theorem aCB {kvs:List (κ×V)} {vs:List (κ×aa)} (r:KV kvs vs):(!vs.isEmpty)=!kvs.isEmpty:=by
 cases r <;> rfl
theorem uK (r:bG xs its):(!its.toArray.isEmpty)=!xs.isEmpty:=by
 cases r <;> simp
theorem pE:(af:Nat) < 2^63:=by decide
theorem aJS:aL3 X (λx H Q=>∃ k,SQ X.K x H k/\Q k H):=by
 intro a_ s σ H x v Q I rx h;obtain ⟨k,e,q⟩:=h;have hl:=pE;have hs:af=16777216:=Rf;cases x with
 | fk =>
  cases rx;have e':k=false:=e;subst e';exact truthy_none ⟨H,I,q⟩
 | bl b =>
  cases rx;have e':k=b:=e;subst e';exact Rw ⟨H,I,q⟩
 | int i =>
  obtain ⟨t,rfl⟩:=rx;have e':k=(i !=0):=e;subst e';exact PySem.P.truthy_int ⟨H,I,q⟩
 | str y =>
  obtain ⟨t,rfl⟩:=rx;obtain ⟨hy,e'⟩:y.length<=af/\k=((y.length:Int) !=0):=e;subst e';exact PySem.P.truthy_str 'a' ⟨H,I.tok _,q⟩
 | qx y =>
  obtain ⟨t,rfl⟩:=rx;obtain ⟨hy,e'⟩:y.size<=af/\k=((y.size:Int) !=0):=e;subst e';exact PySem.W.truthy_bytes 'a' ⟨H,I.tok _,q⟩
 | ref p =>
  cases rx;have e':(∃ xs,dm X.K H p xs/\k=!xs.isEmpty)∨(∃ xs,dt X.K H p xs/\k=!xs.isEmpty)∨∃ kvs,H p=some (.dK kvs)/\k=!kvs.isEmpty:=e;rcases e' with ⟨xs,hx,e'⟩ | ⟨xs,hx,e'⟩ | ⟨kvs,hx,e'⟩
  ·subst e';obtain ⟨its,r,pl,hz⟩:=I.list hx;have hlen:=r.length;exact wpAny_truthy_list pl.isList (by grind) ⟨H,I.tok _,by rw [uK r]; exact q⟩
  ·subst e';obtain ⟨its,r,pl,hz⟩:=I.tuple hx;have hlen:=r.length;exact truthy_tuple pl (by simp only [Jj]; omega) ⟨H,I.tok _,by rw [uK r]; exact q⟩
  ·subst e';obtain ⟨hz,hS,vs,r,m⟩:kvs.length<=af/\(p==br)=false/\∃ vs,KV kvs vs/\s.heap.DictOf (bP X.prog X.w) p vs:=I.ei p _ hx;have hlen:kvs.length=vs.length:=cm.length r;exact wpAny_truthy_dict hS m 'a' ⟨H,I.tok _,by rw [aCB r]; exact q⟩
 | _=>exact (show False from e).elim
theorem uL (ha:PE X a ta) (he:∀ whole,isTrue a X.env whole=(do let v<-whole; standAt a.pos; holding [v] (truthy v))) :
  PT X a (λσ H Q=>ta σ H λx H'=>∃ k,SQ X.K x H' k/\Q k H'):=by
 intro a_ s σ H Q I h;refine isTrue_plain (fc (ha a_ s σ H _ I h) λv s1 e_=>?_) (he _);obtain ⟨x,H1,I1,r1,q1⟩:=e_;exact aJS a_ s1 σ H1 x v Q I1 r1 q1
theorem dE:gy X (binaryOp .Add) (λx y H Q=>∃ i j,x=.str i/\y=.str j/\i.length+j.length<=af/\Q (.str (i++j)) H):=by
 intro a_ s σ H x y v u Q I rx ry h;obtain ⟨i,j,rfl,rfl,hz,q⟩:=h;obtain ⟨t,rfl⟩:=rx;obtain ⟨t',rfl⟩:=ry;exact add_str (λt' tk=>⟨.str (i++j),H,I.tok _,⟨_,rfl⟩,q⟩) hz
theorem eU {x:V} (r:bG [x] us):∃ u,us = [u]/\bN x u:=by
 cases r with
 | cons r1 r2=>cases r2; exact ⟨_,rfl,r1⟩
theorem uM {x:V} (r:bG [x,y] us):∃ u w',us = [u,w']/\bN x u/\bN y w':=by
 cases r with
 | cons r1 r2 =>
  cases r2 with
  | cons r3 r4=>cases r4; exact ⟨_,_,rfl,r1,r3⟩
theorem rE:eQ X (.type "int") (λxs H Q=>(∃ i,xs = [.int i]/\Q (.int i) H)∨∃ k,xs = [.bl k]/\Q (.int (if k then 1 else 0)) H):=by
 intro a_ s σ H xs us Q I r h;rcases h with ⟨i,rfl,q⟩ | ⟨k,rfl,q⟩
 ·obtain ⟨u,rfl,t,rfl⟩:=eU r;exact call_int_int ⟨.int i,H,I,⟨_,rfl⟩,q⟩
 ·obtain ⟨u,rfl,r1⟩:=eU r;cases r1;exact call_int_bool ⟨.int (if k then 1 else 0),H,I.tok _,⟨_,rfl⟩,q⟩
theorem bR:eQ X (.type "str") (λxs H Q=>∃ i,xs = [.int i]/\i.natAbs.log2 < 1920/\Q (.str (toString i)) H):=by
 intro a_ s σ H xs us Q I r h;obtain ⟨i,rfl,hz,q⟩:=h;obtain ⟨u,rfl,t,rfl⟩:=eU r;exact PySem.P.str_of_int hz ⟨.str _,H,I.tok _,⟨_,rfl⟩,q⟩
end
structure rh (h:ag) (x dx C:ae) (mA:aj->Option aa):Prop where
 obj:h.get? x=some (Tu C dx)
 ns:h.Ns1 dx mA
 ne:dx≠x
theorem aEI (n:h.Ns1 dx mA):∃ od,h.get? dx=some od/\∀ name,Vl name od=some (mA name):=by
 obtain ⟨o,es,ep,ho,hd,hk,_,hm⟩:=n;refine ⟨o,ho,λname=>?_⟩;have e:=hm name;unfold nsFind findBy at e;rw [<- Array.find?_toList] at e;unfold Vl;rw [hd];dsimp only;split
 ·rename_i y q;rw [q] at e;exact congrArg some e
 ·rename_i q;rw [q] at e;have a:es.toList.any (·.refKey)=false:=by
   rw [List.any_eq_false];intro y hy;obtain ⟨z,t,ir⟩:=hk y (Array.mem_toList_iff.mp hy);simp [cu.refKey,ir]
  have a':¬ es.toList.any (·.refKey)=true:=by rw [a]; exact Qw
  rw [if_neg a'];exact congrArg some e
theorem rh.look {x:ae} (I:rh h x dx C mA):∃ od,PySem.W.InstAt h x (Tu C dx) C (some od)/\∀ name,Vl name od=some (mA name) :=
 let ⟨od,ho,hl⟩:=aEI I.ns
 ⟨od,⟨I.obj,rfl,rfl,ho⟩,hl⟩
section
variable {x:ae} {v:aa}
theorem aHH {expr:Bool} (X:K.In s.heap) (I:rh s.heap x dx C mA) (hg:Ue K C name=true) (hh:Ul K C=true) (ha:Rm K (.ref C) name=some none) (hv:mA name=some v) (zj:Mu v=true) (h:Q v { s with toks:=s.toks+1 }) :
  aq (ar prog w) A (getAttr (.ref x) name expr) Q E s:=by
 obtain ⟨od,J,hl⟩:=I.look;exact PySem.W.get_value X J (Vo hg).1 (PySem.W.findObj_own hh ha rfl (by simp_all)) zj h
theorem aFK {Q:aa×List aa->ah->Prop} (X:K.In s.heap) (I:rh s.heap x dx C mA) (hg:Ue K C name=true) (hf:Rm K (.ref C) name=some (some (.ref f))) (ht:Um K (.ref f)=true) (hv:mA name=none) (h:Q (.ref f,[.ref x]) s) :
  aq (ar prog w) A (getMethod (.ref x) name pl) Q E s:=by
 obtain ⟨od,J,hl⟩:=I.look;exact PySem.W.method_fn X J (Vo hg).1 (Vo hg).2 hf (beq_iff_eq.mp ht) (by show (Vl name od).map (·.isSome)=some false; rw [hl,hv]; rfl) h
theorem aHI {ns:List aj} {Q:Unit->ah->Prop} (X:K.In s.heap) (I:rh s.heap x dx C mA)
  (hs:Rm K (.ref C) "__setattr__" = some (some (.builtin "object.__setattr__"))) (hp:Vb K C=true) (ht:Vz K C name=some none) (hh:Ul K C=true)
  (hw:PySem.Within mA ns) (hsz:ns.length<=af)
  (h:∀ h',rh h' x dx C (λy=>if y=name then some v else mA y)->ag.SameBut dx s.heap h'->Q () { s with heap:=h',toks:=s.toks+2 }) :
  aq (ar prog w) A (setAttr (.ref x) name v) Q E s:=by
 obtain ⟨od,J,hl⟩:=I.look;refine PySem.W.set_plain X J hs (PySem.W.osa_open (s:={ s with toks:=s.toks+1 }) (r:=none) X J hp ht λb=>?_);obtain ⟨cd,hc,BA⟩:=PySem.W.any_some hh;have hx:s.heap.get? x=some ⟨.ref C,some dx,.plain,#[]⟩:=I.obj;refine Ra (Rc (Ra (Ra (wpAny_loadPart hx (Ra (RaF (s:={ s with toks:=s.toks+1 }) (PySem.W.looks_clsIn X hc) ?_))))));rw [BA];refine Rc (a:=some dx) (Ra (Rc (Ra (wpAny_nsSet1 (s:={ s with toks:=s.toks+1 }) I.ns λh' Gr ug=>?_))));obtain ⟨oD,esD,epD,Kt,KO,y!⟩:=Gr.count (RaW name v hw);exact Ra (wpAny_lookBehind Kt (by rw [KO]; exact pastItsLine_dict (Qr y! (by simp_all))) (Rc (h _ ⟨(ug.2 _ (Ne.symm I.ne)).trans I.obj,Gr,I.ne⟩ ug)))
theorem aFL {vs:List aa} (X:K.In s.heap) (hm:Vj K C=true) (hi:Rm K (.ref C) "__init__" = some (some (.ref f))) (hf:PySem.W.typeIn K (.ref f)=some (.type "function")) (h:codeAny (ar prog w) (A.under (.builtin "type.__call__" ⟨.ref C::vs,kw⟩)) (.call (.ref f) ⟨.ref (s.heap.objs.size+1)::vs,kw⟩) (PySem.W.InitBack (s.heap.objs.size+1) R)
   { s with heap:=(s.heap.push Tf).push (Tu C s.heap.objs.size) }) :
  codeAny (ar prog w) A (.call (.ref C) ⟨vs,kw⟩) R s:=by
 obtain ⟨hh,g,d,t,os⟩:=s;exact PySem.W.make_core (PySem.W.makes_of X hm) (PySem.W.looks_findIn X hi) (λself=>PySem.W.bind_fn X self hf) (.inl rfl) h
end
noncomputable def mX (f:aj) (v:V):List (aj×V)->List (aj×V)
 | []=>[(f,v)]
 | (g,x)::r=>if g=f then (g,v)::r else (g,x)::mX f v r
theorem sO (f g:aj) (v:V):∀ fs:List (aj×V),(mX f v fs).lookup g=if g=f then some v else fs.lookup g
 | []=>by
  show List.lookup g [(f,v)]=_;by_cases h:g=f
  ·simp_all
  ·have hb:(g==f)=false:=beq_eq_false_iff_ne.mpr h;simp only [List.lookup,hb,if_neg h]
 | (k,x)::r=>by
  rw [show mX f v ((k,x)::r)=(if k=f then (k,v)::r else (k,x)::mX f v r) from rfl];by_cases hk:k=f
  ·rw [if_pos hk];by_cases h:g=k
   ·simp_all
   ·have hb:(g==k)=false:=beq_eq_false_iff_ne.mpr h;simp only [List.lookup,hb,if_neg (λe:g=f=>h (e.trans hk.symm))]
  ·rw [if_neg hk];by_cases h:g=k
   ·simp_all
   ·have hb:(g==k)=false:=beq_eq_false_iff_ne.mpr h;simp only [List.lookup,hb];exact (sO f g v r)
theorem rF (f:aj) (v:V):∀ fs:List (aj×V),f∈(mX f v fs).map (·.1)/\∀ g,g∈fs.map (·.1)->g∈(mX f v fs).map (·.1)
 | []=>⟨by simp [mX],λg h=>by simp at h⟩
 | (k,x)::r=>by
  obtain ⟨i1,i2⟩:=rF f v r;rw [show mX f v ((k,x)::r)=(if k=f then (k,v)::r else (k,x)::mX f v r) from rfl];by_cases hk:k=f
  ·grind
  ·rw [if_neg hk];refine ⟨?_,λg h=>?_⟩
   ·rw [Jb];exact Qj _ i1
   ·rw [Jb] at h ⊢;rcases Ql.mp h with e | e
    ·exact Ql.mpr (.inl e)
    ·exact Qj _ (i2 g e)
theorem sP (f:aj) (v:V):∀ fs:List (aj×V),(mX f v fs).length<=fs.length+1
 | []=>by simp [mX]
 | (k,x)::r=>by
  have ih:=sP f v r;rw [show mX f v ((k,x)::r)=(if k=f then (k,v)::r else (k,x)::mX f v r) from rfl];by_cases hk:k=f
  ·simp_all
  ·simp_all
theorem mS.some_of {o:Option aa} (r:mS (some v) o):∃ u,o=some u/\bN v u:=by
 cases o with
 | none=>exact (show False from r).elim
 | some u=>exact ⟨u,rfl,r⟩
theorem mS.none_of {o:Option aa} (r:mS none o):o=none:=by
 cases o with
 | none=>rfl
 | some u=>exact (show False from r).elim
theorem aEJ (r:bN v u):Mu u=true:=by
 cases v with
 | fk=>cases (show u=aa.none from r); rfl
 | bl b=>cases (show u=aa.bool b from r); rfl
 | int i=>obtain ⟨t,e⟩:=(show ∃ t,u=aa.int i t from r); cases e; rfl
 | str x=>obtain ⟨t,e⟩:=(show ∃ t,u=aa.str x t from r); cases e; rfl
 | qx b=>obtain ⟨t,e⟩:=(show ∃ t,u=aa.bytes b t from r); cases e; rfl
 | yu b=>obtain ⟨t,e⟩:=(show ∃ t,u=aa.float b t from r); cases e; rfl
 | ref a=>cases (show u=aa.ref a from r); rfl
 | ty n=>cases (show u=aa.type n from r); rfl
section
variable {a:ae} {fs Dk:List (aj×V)}
theorem zU (ei:iz P w H h) (e:H a=some (.ins C dx fs)):∃ mA,rh h a dx C mA/\(∀ f,mS (fs.lookup f) (mA f))/\PySem.Within mA (fs.map (·.1))/\fs.length<=1000/\H dx=some (.own a):=by
 obtain ⟨d,z,ne,ob,mA,n,r,q⟩:=(show bT P w H h a (.ins C dx fs) from ei a _ e)
 exact ⟨mA,⟨ob,n,ne⟩,r,q,z,d⟩
end
structure u6 (K:Rb) (C:ae):Prop where
 pg:Ue K C aj.empty=true
 hd:Ul K C=true
 po:Vb K C=true
 sa:Rm K (.ref C) "__setattr__" = some (some (.builtin "object.__setattr__"))
theorem u6.get (c:u6 K C) (f:aj):Ue K C f=true:=c.pg
def iC (K:Rb) (C:ae) (f:aj):Prop:=Rm K (.ref C) f=some none
theorem iC.FQ {f:aj} (n:iC K C f):Vz K C f=some none:=by
 unfold Vz;rw [show Rm K (.ref C) f=some none from n];rfl
structure Meth (K:Rb) (C:ae) (m:aj) (f:ae):Prop where
 at_:Rm K (.ref C) m=some (some (.ref f))
 fn:Um K (.ref f)=true
 kp:Ri K (.ref f)=true
section
variable {σ:St} {a:ae} {fs:List (aj×V)} {f:aj}
theorem uN {b:Bool} (I:Inv X a_ σ H s) (e:H a=some (.ins C dx fs)) (c:u6 X.K C) (n:iC X.K C f) (l:fs.lookup f=some v) (h:∀ u s',Inv X a_ σ H s'->bN v u->Q u s'):aq (ar X.prog X.w) A (getAttr (.ref a) f b) Q E s:=by
 obtain ⟨mA,O,r,_,_,_⟩:=zU I.ei e;obtain ⟨u,hu,ru⟩:=mS.some_of (v:=v) (o:=mA f) (by rw [<- l]; exact r f);exact aHH I.j4 O (c.get f) c.hd n hu (aEJ ru) (h u _ (I.tok _) ru)
theorem pF {g:ae} {Q:aa×List aa->ah->Prop} (I:Inv X a_ σ H s) (e:H a=some (.ins C dx fs)) (c:u6 X.K C) (k:Meth X.K C m g) (l:fs.lookup m=none) (h:Q (.ref g,[.ref a]) s):aq (ar X.prog X.w) A (getMethod (.ref a) m pl) Q E s:=by
 obtain ⟨mA,O,r,_,_,_⟩:=zU I.ei e;have hn:mA m=none:=mS.none_of (by rw [<- l]; exact r m);exact aFK I.j4 O (c.get m) k.at_ k.fn hn h
theorem uO {Q:Unit->ah->Prop} (I:Inv X a_ σ H s) (e:H a=some (.ins C dx fs)) (c:u6 X.K C) (n:iC X.K C f) (hl:fs.length < 1000) (ry:bN y u) (h:∀ s',Inv X a_ σ (upd H a (.ins C dx (mX f y fs))) s'->Q () s'):aq (ar X.prog X.w) A (setAttr (.ref a) f u) Q E s:=by
 obtain ⟨mA,O,r,wi,_,ho⟩:=zU I.ei e;have hz:(fs.map (·.1)).length<=af:=by rw [Qa,Rf]; omega
 refine aHI I.j4 O c.sa c.po n.FQ c.hd wi hz λh' O' sb=>h _ ?_;have hd:∃ o,h'.get? dx=some o:=let ⟨o,_,_,e',_⟩:=O'.ns; ⟨o,e'⟩
 refine I.write (x:=a) (e:=dx) (by rw [e]; exact True.intro) (.inr ho) (λb q hb z=>(sb.2 b hb).trans z) hd ⟨by rw [aG O.ne]; exact ho,?_,O.ne,O'.obj,_,O'.ns,λg=>?_,λg hg=>?_⟩
 ·grind [sP]
 ·show mS ((mX f y fs).lookup g) (if g=f then some u else mA g);rw [sO];by_cases q:g=f
  ·rw [if_pos q,if_pos q]; exact ry
  ·simp_all
 ·by_cases q:g=f
  ·rw [q]; exact (rF f y fs).1
  ·refine (rF f y fs).2 g (wi g λz=>hg ?_);show (if g=f then some u else mA g)=none;rw [if_neg q]; exact z
theorem Inv.made (I:Inv X a_ σ H s):Inv X a_ σ (upd (upd H s.heap.objs.size (.own (s.heap.objs.size+1))) (s.heap.objs.size+1) (.ins C s.heap.objs.size []))
  { s with heap:=(s.heap.push Tf).push (Tu C s.heap.objs.size) }:=by
 have e1:(s.heap.push Tf).get? s.heap.objs.size=some Tf:=ag.get?_push_size s.heap rfl;have e2:((s.heap.push Tf).push (Tu C s.heap.objs.size)).get? (s.heap.objs.size+1)=some (Tu C s.heap.objs.size):=by
  have:=ag.get?_push_size (s.heap.push Tf) (o:=Tu C s.heap.objs.size) rfl;rwa [ag.size_push] at this
 have e3:(s.heap.push Tf).Ns s.heap.objs.size (λ_=>none):=⟨Tf,#[],_,e1,rfl,(λe he=>absurd he 'b'),λ_=>rfl⟩
 have I1:=I.laid (a:=s.heap.objs.size) (o:=.own (s.heap.objs.size+1)) (h':=s.heap.push Tf) (t':=s.toks) (λb u q=>ag.get?_push_of_some _ q) (Qe _) ⟨_,e1⟩;refine I1.laid (a:=s.heap.objs.size+1) (o:=.ins C s.heap.objs.size []) (t':=s.toks) (λb u q=>ag.get?_push_of_some _ q) (Wo (ag.size_push _ _)) ?_;have ne:s.heap.objs.size≠s.heap.objs.size+1:=Qy (Yl _);refine ⟨by rw [aG ne,aB],Ji _,ne,e2,λ_=>none,(ag.Ns1.of_empty e3).at λo q=>ag.get?_push_of_some _ q,λ_=>True.intro,λy hy=>absurd rfl hy⟩
theorem aHJ {env:cz} {f:aj} (hb:attributeBase e f env (eval e env)=eval e env) (h:aq (ar prog w) A (eval e env) (λo gi=>aq (ar prog w) A (getAttr o f true) Q E gi) E s):aq (ar prog w) A (eval (.Attribute e f pos) env) Q E s :=
 Attribute_any_ h (by rw [arm_eval_Attribute,hb])
end
def aL6 (K:Rb) (ta:TE) (f:aj):TE:=λσ H Q=>ta σ H λx H1=>∃ a C dx fs v,x=.ref a/\H1 a=some (.ins C dx fs)/\u6 K C/\iC K C f/\fs.lookup f=some v/\Q v H1
def aL7 (K:Rb) (ta tv:TE) (f:aj):TS:=λD σ H=>tv σ H λy H1=>ta σ H1 λx H2=>∃ a C dx fs,x=.ref a/\H2 a=some (.ins C dx fs)/\u6 K C/\iC K C f/\fs.length < 1000 /\
 D.nx σ (upd H2 a (.ins C dx (mX f y fs)))
def LA (X:Cx) (op:Operator) (rd:V->V->Hp->VK->Prop):Prop :=
 ∀ (a_:List (ae×cb)) (s:ah) (σ:St) (H:Hp) (x y:V) (u v:aa) (Q:VK),Inv X a_ σ H s->bN x u->bN y v->rd x y H Q->aq (ar X.prog X.w) X.A (inplaceOp op u v) (EP X a_ σ Q) X.xe s
def aHK (K:Rb) (ta tv:TE) (rd:V->V->Hp->VK->Prop) (f:aj):TS:=λD σ H=>ta σ H λx H1=>∃ a C dx fs v,x=.ref a/\H1 a=some (.ins C dx fs)/\u6 K C/\iC K C f/\fs.lookup f=some v /\
 tv σ H1 λy H2=>rd v y H2 λz H3=>∃ Li Dk,H3 a=some (.ins C Li Dk)/\Dk.length < 1000/\D.nx σ (upd H3 a (.ins C Li (mX f z Dk)))
section
variable {o:ay} {f:aj}
theorem cN (he:PE X e ta) (hb:attributeBase e f X.env (eval e X.env)=eval e X.env):PE X (.Attribute e f pos) (aL6 X.K ta f):=by
 intro a_ s σ H Q I h;refine aHJ hb (fc (he a_ s σ H _ I h) λu s1 e_=>?_);obtain ⟨x,H1,I1,rx,a,C,dx,fs,v,ex,ea,c,n,l,q⟩:=e_;subst ex;obtain rfl:u=aa.ref a:=rx;exact uN I1 ea c n l λu' s2 I2 ru=>⟨v,H1,I2,ru,q⟩
theorem lT (ha:PE X o ta) (hv:PE X value tv) (hs:cp value (some (.Attribute o f pos')) pos.line X.env=pure false):PS X (.Assign [.Attribute o f pos'] value pos) (aL7 X.K ta tv f):=by
 intro a_ s σ H D I h;refine plainObj_wpAny_Assign_Attribute (fc (hv a_ s σ H _ I h) λu s1 ⟨y,H1,I1,ry,q⟩=>fc (ha a_ s1 σ H1 _ I1 q) λov s2 e_=>?_) hs;obtain ⟨x,H2,I2,rx,a,C,dx,fs,ex,ea,c,n,l,q2⟩:=e_;subst ex;obtain rfl:ov=aa.ref a:=rx;exact uO I2 ea c n l ry λs3 I3=>⟨σ,_,I3,q2⟩
theorem nZ {op:Operator} {rd:V->V->Hp->VK->Prop} (ha:PE X o ta) (hv:PE X value tv) (D_:LA X op rd):PS X (.AugAssign (.Attribute o f Fh) op value pos) (aHK X.K ta tv rd f):=by
 intro a_ s σ H D I h;refine wpAny_AugAssign_AttributeAny (fc (ha a_ s σ H _ I h) λov s1 e_=>?_);obtain ⟨x,H1,I1,rx,a,C,dx,fs,v,ex,ea,c,n,l,q⟩:=e_;subst ex;obtain rfl:ov=aa.ref a:=rx;refine uN I1 ea c n l λu s2 I2 ru=>fc (hv a_ s2 σ H1 _ I2 q) λw3 s3 ⟨y,H2,I3,ry,q3⟩=>fc (D_ a_ s3 σ H2 v y u w3 _ I3 ru ry q3) λw4 s4 e_=>?_;obtain ⟨z,H3,I4,rz,Li,Dk,ea',l',q4⟩:=e_;exact uO I4 ea' c n l' rz λs5 I5=>⟨σ,_,I5,q4⟩
def aL8:V->V->Hp->VK->Prop:=λx y H Q=>∃ i j,x=.int i/\y=.int j/\Q (.int (i+j)) H
def aL9:V->V->Hp->VK->Prop:=λx y H Q=>∃ i j,x=.int i/\y=.int j/\Q (.int (i - j)) H
theorem MN:LA X .Add aL8:=by
 rintro a_ s σ H x y u v Q I rx ry ⟨i,j,rfl,rfl,q⟩;obtain ⟨t,rfl⟩:=(show ∃ t,u=aa.int i t from rx)
 obtain ⟨t',rfl⟩:=(show ∃ t',v=aa.int j t' from ry)
 exact PyProof.Rows.iadd_int ⟨.int (i+j),H,I.tok _,⟨_,rfl⟩,q⟩
theorem aJU:LA X .Sub aL9:=by
 rintro a_ s σ H x y u v Q I rx ry ⟨i,j,rfl,rfl,q⟩;obtain ⟨t,rfl⟩:=(show ∃ t,u=aa.int i t from rx)
 obtain ⟨t',rfl⟩:=(show ∃ t',v=aa.int j t' from ry)
 exact PyProof.Rows.isub_int ⟨.int (i - j),H,I.tok _,⟨_,rfl⟩,q⟩
end
section
variable {σ:St} {c:aa} {b:Bool}
end
structure dj (k:Nat) (A:bz):Prop where
 hd:A.handled=none
 dp:A.depth+3*k+5 < recursionLimit
 un:A.units+16*k+200 < c9
 gd:A.guards=some []
theorem dj.mono {k:Nat} (r:dj k A) (h:j<=k):dj j A:=⟨r.hd,by have:=r.dp; omega,by have:=r.un; omega,r.gd⟩
theorem dj.deeper {k:Nat} (r:dj (k+1) A) (env:cz):dj k (A.deeper env) :=
 ⟨r.hd,by have:=r.dp; show A.depth+1+3*k+5 < _; omega,by have:=r.un; show A.units+3+16*k+200 < _; omega,r.gd⟩
theorem dj.in1 {k:Nat} (r:dj (k+1) A):dj k A.in1 :=
 ⟨r.hd,by have:=r.dp; show A.depth+3*k+5 < _; omega,by have:=r.un; show A.units+1+16*k+200 < _; omega,r.gd⟩
theorem aCD:(A.under (.builtin "type.__call__" ⟨.ref C::us,kw⟩)).depth=A.depth+1:=by rfl
theorem aCE:(A.under (.builtin "type.__call__" ⟨.ref C::us,kw⟩)).units=A.units+1:=by rfl
theorem aA9:(A.under (.builtin "type.__call__" ⟨.ref C::us,kw⟩)).guards=A.guards:=by rfl
theorem dj.make {k:Nat} (r:dj (k+1) A) (C:ae) (us:List aa) (kw:List (aj×aa)):dj k (A.under (.builtin "type.__call__" ⟨.ref C::us,kw⟩)) :=
 ⟨r.hd,by have:=r.dp; rw [aCD]; omega,by have:=r.un; rw [aCE]; omega,by rw [aA9]; exact r.gd⟩
theorem dj.depth {k:Nat} (r:dj k A):A.depth < recursionLimit:=by have:=r.dp; omega
theorem dj.units {k:Nat} (r:dj k A):A.units+64 < c9:=by have:=r.un; omega
abbrev lU:TA:=λ_ H Q=>Q [] H
abbrev gJ (ta:TE) (tr:TA):TA:=λσ H Q=>ta σ H λx H1=>tr σ H1 λxs H2=>Q (x::xs) H2
section
variable {t:TA}
theorem aC:PA X [] lU:=λ_ _ _ _ H Q I h=>Calls.spliced_nil ⟨[],H,I,.nil,h⟩
theorem aA (ha:PE X e te) (hr:PA X es t) (hs:autoParam (ao (e::es) X.env=(false,eval e X.env)::ao es X.env) L2.f'):PA X (e::es) (gJ te t):=by
 intro pos a_ s σ H Q I h;rw [hs];refine Calls.spliced_cons (fc (ha a_ s σ H _ I h) λu s1 e_=>?_);obtain ⟨x,H1,I1,r1,q1⟩:=e_;refine fc (hr pos a_ s1 σ H1 _ I1 q1) λus s2 e_=>?_;obtain ⟨xs,H2,I2,r2,q2⟩:=e_;exact ⟨x::xs,H2,I2,.cons r1 r2,q2⟩
def G9 (t:TA):TE:=λσ H Q=>t σ H λxs H1=>xs.length<=af/\∀ p,H1 p=none->Q (.ref p) (upd H1 p (.tup xs))
def G8 (t:TA):TE:=λσ H Q=>t σ H λxs H1=>xs.length<=af/\∀ p,H1 p=none->Q (.ref p) (upd H1 p (.lst xs))
theorem cH {x1} (h:PA X es t):PE X (.Tuple es x1 pos) (G9 t):=by
 intro a_ s σ H Q I hq;refine wpAny_Tuple_spliced (fc (h pos a_ s σ H _ I hq) λus s1 ⟨xs,H1,I1,r,z,q⟩=>⟨by rw [<- r.length]; exact z,?_⟩);have hf:H1 s1.heap.objs.size=none:=I1.ei.fresh (Qe _);refine ⟨.ref s1.heap.objs.size,upd H1 s1.heap.objs.size (.tup xs),I1.laid (t':=s1.toks) (λb u e=>ag.get?_push_of_some _ e) (Qe _) ?_,rfl,q _ hf⟩;exact ⟨z,us,0,r,ag.get?_push_size _ rfl⟩
theorem eG (h:PA X es t):PE X (.List es pos) (G8 t):=by
 intro a_ s σ H Q I hq;refine wpAny_List_spliced (fc (h pos a_ s σ H _ I hq) λus s1 ⟨xs,H1,I1,r,z,q⟩=>⟨by rw [<- r.length]; exact z,?_⟩);have hf:H1 s1.heap.objs.size=none:=I1.ei.fresh (Qe _);refine ⟨.ref s1.heap.objs.size,upd H1 s1.heap.objs.size (.lst xs),I1.laid (t':=s1.toks) (λb u e=>ag.get?_push_of_some _ e) (Qe _) ?_,rfl,q _ hf⟩;exact ⟨z,us,0,r,ag.get?_push_size _ rfl⟩
end
abbrev Sp:=List V->Hp->VK->XK->Prop
end L2
variable {sp:Sp}
namespace L2
open PySem PySem.Spec PyProof.Rows
abbrev xj:=List cz->Hp->ah->XK->aa->ah->Prop
end L2
variable {CX:xj}
namespace L2
open PySem PySem.Spec PyProof.Rows
structure rj (P:bq) (w:bx) (K:Rb) (mg:aj->Option aa) (base:ag) (A:bz) (outer:List cz) (s:ah) (H:Hp):Prop where
 frames:A.frames=some outer
 mod:Mod K mg base
 bs:∀ b o,base.get? b=some o->s.heap.get? b=some o/\H b=none
 zv:base.objs.size<=s.heap.objs.size
 j2:s.heap.FunFrames base outer
 zu:∀ b∈gr outer,H b=none
 ei:iz P w H s.heap
 bare:AllBare s.gens
def CE (outer:List cz) (P:bq) (w:bx) (H:Hp) (s:ah) (Q:VK) (u:aa) (s':ah):Prop :=
 ∃ v H',s'.os=s.os/\AllBare s'.gens/\Un (gr outer) [] H H' s.heap s'.heap/\iz P w H' s'.heap/\bN v u/\Q v H'
def CR (CX:xj) (outer:List cz) (P:bq) (w:bx) (H:Hp) (s:ah) (Q:VK) (E:XK) (r:Result) (s':ah):Prop :=
 match r with
 | .ok (.ret u)=>CE outer P w H s Q u s'
 | .ok _=>False
 | .error e=>CX outer H s E e s'
structure c_ (P:bq) (w:bx) (K:Rb) (mg:aj->Option aa) (base:ag) (CX:xj) (k:Nat) (f:ae) (fd:bh) (ps:List aj) (sp:Sp):Prop where
 len:∀ vs H Q E,sp vs H Q E->vs.length=ps.length
 run:∀ (A:bz) (outer:List cz) (s:ah) (H:Hp) (args:Args) (us:List aa) (vs:List V) (Q:VK) (E:XK),dj k A->rj P w K mg base A outer s H->BindsTo s fd args (ps.zip us)->bG vs us->sp vs H Q E ->
  codeAny (ar P w) A (.call (.ref f) args) (CR CX outer P w H s Q E) s
theorem c_.mono {k:Nat} (F:c_ P w K mg base CX j f fd ps sp) (h:j<=k) :
  c_ P w K mg base CX k f fd ps sp:=⟨F.len,λA outer s H args us vs Q E hr=>F.run A outer s H args us vs Q E (hr.mono h)⟩
theorem c_.imp {k:Nat} {Am:Sp} (F:c_ P w K mg base CX k f fd ps sp) (h:∀ vs H Q E,Am vs H Q E->sp vs H Q E):c_ P w K mg base CX k f fd ps Am :=
 ⟨λvs H Q E q=>F.len vs H Q E (h _ _ _ _ q),λA outer s H args us vs Q E hr he hb hv hs=>F.run A outer s H args us vs Q E hr he hb hv (h _ _ _ _ hs)⟩
theorem rj.make (e:rj P w K mg base A outer s H) (C:ae) (us:List aa) (kw:List (aj×aa)) :
  rj P w K mg base (A.under (.builtin "type.__call__" ⟨.ref C::us,kw⟩)) outer s H:=⟨by first | exact e.frames | (simpa [bz.under,Code.envs,Code.isFrame,pushEnvs] using e.frames),e.mod,e.bs,e.zv,e.j2,e.zu,e.ei,e.bare⟩
section
variable {σ:St}
theorem Inv.Cr (I:Inv X a_ σ H s):rj X.prog X.w X.K X.mg X.base X.A X.stack s H :=
 ⟨I.ok.frames,I.ok.mod,I.bs,Qr I.ok.zv I.sz,I.stack,I.jk,I.ei,I.bare⟩
theorem Inv.after {Q:VK} (I:Inv X a_ σ H s) (h:CE X.stack X.prog X.w H s Q u s'):EP X a_ σ Q u s':=by
 obtain ⟨v,H',os,bare,un,ei,r,q⟩:=h;obtain ⟨hh,g,d,t,CO⟩:=s';obtain rfl:CO=s.os:=os;exact ⟨v,H',I.call (h':=hh) (g':=g) (d':=d) (t':=t) (ch:=[]) un ei bare (λb z=>absurd z 'b'),r,q⟩
end
def yB (sp:Sp) (je:List V) (E:XK) (t:TA):TE:=λσ H Q=>t σ H λvs H1=>sp (vs++je) H1 Q E
def LS (C:ae) (m:aj) (sp:Sp) (je:List V) (E:XK) (ta:TE) (t:TA):TE:=λσ H Q=>ta σ H λx H1=>∃ a dx fs,x=.ref a/\H1 a=some (.ins C dx fs)/\fs.lookup m=none /\
 t σ H1 λvs H2=>sp (x::(vs++je)) H2 Q E
def TQ (C:ae) (sp:Sp) (je:List V) (E:XK) (t:TA):TE:=λσ H Q=>t σ H λvs H1=>∀ x dx,H1 x=none->H1 dx=none->dx≠x ->
 sp (.ref x::(vs++je)) (upd (upd H1 dx (.own x)) x (.ins C dx [])) (λv H2=>v=.fk/\Q (.ref x) H2) E
def dU (K:Rb) (fd:bh) (ps:List aj) (ds:List aa):Prop :=
 ∀ (s:ah) (us:List aa),K.In s.heap->(us++ds).length=ps.length->BindsTo s fd ⟨us,[]⟩ (ps.zip (us++ds))
theorem dU.all (h:∀ us:List aa,us.length=ps.length->c7 fd ⟨us,[]⟩=pure (ps.zip us)):dU K fd ps []:=λs us _ hl=>by
 rw [Xy] at hl ⊢;exact .of_eq (h us hl)
def jI (CX:xj) (X:Cx) (E:XK):Prop:=∀ (a_:List (ae×cb)) (σ:St) (H:Hp) (s:ah) (e:aa) (s':ah),Inv X a_ σ H s->CX X.stack H s E e s'->X.xe e s'
section
variable {k:Nat} {ds:List aa} {E:XK} {x:aj} {o:ay} {t:TA}
theorem uP {σ:St} {Q:VK} (F:c_ X.prog X.w X.K X.mg X.base CX k f fd ps sp) (hr:dj k X.A) (hb:dU X.K fd ps ds) (hd:bG je ds) (hx:jI CX X E) (I:Inv X a_ σ H s) (r:bG vs us) (h:sp (vs++je) H Q E):aq (ar X.prog X.w) X.A (call (.ref f) us) (EP X a_ σ Q) X.xe s:=by
 have r2:bG (vs++je) (us++ds):=r.append hd;have hl:(us++ds).length=ps.length:=by rw [<- r2.length]; exact F.len _ _ _ _ h
 refine Ij (Ux (F.run X.A X.stack s H ⟨us,[]⟩ (us++ds) (vs++je) Q E hr I.Cr (hb s us I.j4 hl) r2 h) λr s' hq=>?_);cases r with
 | error e=>exact hx a_ σ H s e s' I hq
 | ok fl =>
  cases fl with
  | ret u=>exact I.after hq
  | next=>exact False.elim hq
  | brk=>exact False.elim hq
  | cont=>exact False.elim hq
theorem aHN (F:c_ X.prog X.w X.K X.mg X.base CX k f fd ps sp) (hr:dj k X.A) (hg:Gl X x) (hm:X.mg x=some (.ref f)) (hk:Ri X.K (.ref f)=true) (hb:dU X.K fd ps ds) (hd:bG je ds) (hx:jI CX X E)
  (ha:PA X (e::es) t) (lh:autoParam ((x==("__debug__" : aj))=false) L2.iy) (he:autoParam (ao (e::es) X.env=(false,eval e X.env)::ao es X.env) L2.f') (ke:autoParam ((cj pos (ao es X.env)).any (·.1)=false) L2.f') :
  PE X (.Call (.Name x p) (e::es) [] pos) (yB sp je E t):=by
 intro a_ s σ H Q I h;refine Tb (jN I hg hm ?_ lh);refine Uj (h₀:=X.base) I.ok.mod.zg hk (fc (ha pos a_ s σ H _ I h) λus s1 ⟨vs,H1,I1,r,q⟩=>⟨I1.j4,?_⟩) he ke;exact uP F hr hb hd hx I1 r q
theorem XG (F:c_ X.prog X.w X.K X.mg X.base CX k f fd ps sp) (hr:dj k X.A) (hg:Gl X x) (hm:X.mg x=some (.ref f)) (hk:Ri X.K (.ref f)=true) (hb:dU X.K fd ps ds) (hd:bG je ds) (hx:jI CX X E)
  (lh:autoParam ((x==("__debug__" : aj))=false) L2.iy):PE X (.Call (.Name x p) [] [] pos) (yB sp je E lU):=by
 intro a_ s σ H Q I h;refine Tb (jN I hg hm ?_ lh);exact Vp I.j4 hk (uP (us:=[]) F hr hb hd hx I .nil h)
theorem dX (he:PE X o ta) (c:u6 X.K C) (hm:Meth X.K C m f) (F:c_ X.prog X.w X.K X.mg X.base CX k f fd ps sp) (hr:dj k X.A) (hb:dU X.K fd ps ds) (hd:bG je ds) (hx:jI CX X E) (ha:PA X (e::es) t) (jx:autoParam (ao (e::es) X.env=(false,eval e X.env)::ao es X.env) L2.f') (ke:autoParam ((cj pos (ao es X.env)).any (·.1)=false) L2.f') (ht:autoParam (eval (.Call (.Attribute o m apos) (e::es) [] pos) X.env=(do
   let ov<-eval o X.env
   standAt apos.atName
   let (f,first)<-holding [ov] (getMethod ov m pl)
   callWith pos f first (cj pos (ao (e::es) X.env)) (dg pos (cy [] X.env)))) L2.f') :
  PE X (.Call (.Attribute o m apos) (e::es) [] pos) (LS C m sp je E ta t):=by
 intro a_ s σ H Q I h;refine Vk (pl:=pl) (fc (he a_ s σ H _ I h) λu s1 e_=>?_) ht;obtain ⟨x,H1,I1,rx,a,dx,fs,ex,ea,l,q⟩:=e_;subst ex;obtain rfl:u=aa.ref a:=rx;refine pF I1 ea c hm l (Uj (first:=[.ref a]) (h₀:=X.base) I.ok.mod.zg hm.kp (fc (ha pos a_ s1 σ H1 _ I1 q) λus s2 ⟨vs,H2,I2,r,q2⟩=>⟨I2.j4,?_⟩) jx ke);exact uP (us:=.ref a::us) (vs:=.ref a::vs) F hr hb hd hx I2 (.cons rfl r) q2
theorem dY (he:PE X o ta) (c:u6 X.K C) (hm:Meth X.K C m f) (F:c_ X.prog X.w X.K X.mg X.base CX k f fd ps sp) (hr:dj k X.A) (hb:dU X.K fd ps ds) (hd:bG je ds) (hx:jI CX X E) (ht:autoParam (eval (.Call (.Attribute o m apos) [] [] pos) X.env=(do
   let ov<-eval o X.env
   standAt apos.atName
   let (f,first)<-holding [ov] (getMethod ov m pl)
   callWith pos f first (cj pos (ao [] X.env)) (dg pos (cy [] X.env)))) L2.f') :
  PE X (.Call (.Attribute o m apos) [] [] pos) (LS C m sp je E ta lU):=by
 intro a_ s σ H Q I h;refine Vk (pl:=pl) (fc (he a_ s σ H _ I h) λu s1 e_=>?_) ht;obtain ⟨x,H1,I1,rx,a,dx,fs,ex,ea,l,q⟩:=e_;subst ex;obtain rfl:u=aa.ref a:=rx;exact pF I1 ea c hm l (Vp (first:=[.ref a]) I1.j4 hm.kp (uP (us:=[.ref a]) (vs:=[.ref a]) F hr hb hd hx I1 (.cons rfl .nil) q))
structure Mk (K:Rb) (C f:ae):Prop where
 makes:Vj K C=true
 init:Rm K (.ref C) "__init__" = some (some (.ref f))
 fn:Um K (.ref f)=true
 kp:Ri K (.ref C)=true
theorem XF {σ:St} {Q:VK} (M:Mk X.K C f) (F:c_ X.prog X.w X.K X.mg X.base CX k f fd ps sp) (hr:dj (k+1) X.A) (hb:dU X.K fd ps ds) (hd:bG je ds) (hx:jI CX X E) (I:Inv X a_ σ H s) (r:bG vs us) (h:∀ x dx,H x=none->H dx=none->dx≠x->sp (.ref x::(vs++je)) (upd (upd H dx (.own x)) x (.ins C dx [])) (λv H2=>v=.fk/\Q (.ref x) H2) E) :
  aq (ar X.prog X.w) X.A (call (.ref C) us) (EP X a_ σ Q) X.xe s:=by
 have hq:=h (s.heap.objs.size+1) s.heap.objs.size (I.ei.fresh (Nat.le_succ _)) (I.ei.fresh (Qe _)) (Qy (Yl _));have I2:=Inv.made (C:=C) I;have r2:bG (V.ref (s.heap.objs.size+1)::(vs++je)) (aa.ref (s.heap.objs.size+1)::(us++ds)):=.cons rfl (r.append hd);have hl:(aa.ref (s.heap.objs.size+1)::us++ds).length=ps.length:=by
  have e:=r2.length;rw [F.len _ _ _ _ hq] at e;exact e.symm
 refine Ij (aFL (f:=f) I.j4 M.makes M.init (beq_iff_eq.mp M.fn) (Ux (F.run _ X.stack _ _ ⟨aa.ref (s.heap.objs.size+1)::us,[]⟩ (aa.ref (s.heap.objs.size+1)::(us++ds)) _ _ E (hr.make C us [])
  (I2.Cr.make C us []) (hb _ (aa.ref (s.heap.objs.size+1)::us) I2.j4 hl) r2 hq) λr s' Bt=>?_))
 cases r with
 | error e=>exact hx a_ σ _ _ e s' I2 Bt
 | ok fl =>
  cases fl with
  | ret u =>
   obtain ⟨v,H',I3,rv,ev,q3⟩:=I2.after Bt;subst ev;exact ⟨rv,⟨V.ref (s.heap.objs.size+1),H',I3,rfl,q3⟩⟩
  | next=>exact False.elim Bt
  | brk=>exact False.elim Bt
  | cont=>exact False.elim Bt
theorem aHO (M:Mk X.K C f) (F:c_ X.prog X.w X.K X.mg X.base CX k f fd ps sp) (hr:dj (k+1) X.A) (hg:Gl X x) (hm:X.mg x=some (.ref C)) (hb:dU X.K fd ps ds) (hd:bG je ds) (hx:jI CX X E)
  (ha:PA X (e::es) t) (lh:autoParam ((x==("__debug__" : aj))=false) L2.iy) (he:autoParam (ao (e::es) X.env=(false,eval e X.env)::ao es X.env) L2.f') (ke:autoParam ((cj pos (ao es X.env)).any (·.1)=false) L2.f') :
  PE X (.Call (.Name x p) (e::es) [] pos) (TQ C sp je E t):=by
 intro a_ s σ H Q I h;refine Tb (jN I hg hm ?_ lh);refine Uj (h₀:=X.base) I.ok.mod.zg M.kp (fc (ha pos a_ s σ H _ I h) λus s1 ⟨vs,H1,I1,r,q⟩=>⟨I1.j4,?_⟩) he ke;exact XF M F hr hb hd hx I1 r q
theorem aFN (M:Mk X.K C f) (F:c_ X.prog X.w X.K X.mg X.base CX k f fd ps sp) (hr:dj (k+1) X.A) (hg:Gl X x) (hm:X.mg x=some (.ref C)) (hb:dU X.K fd ps ds) (hd:bG je ds) (hx:jI CX X E)
  (lh:autoParam ((x==("__debug__" : aj))=false) L2.iy):PE X (.Call (.Name x p) [] [] pos) (TQ C sp je E lU):=by
 intro a_ s σ H Q I h;refine Tb (jN I hg hm ?_ lh);exact Vp I.j4 M.kp (XF (us:=[]) M F hr hb hd hx I .nil h)
end
section
variable {k:Nat} {ks:List aj} {E:XK} {x:aj} {Fq:Pos} {o:ay} {Z_:List c8} {t tk:TA} {nm:Option aj}
variable {g:List aa->List aa->List aa} {gV:List V->List V->List V}
end
structure b_ (N P:List aj) (sc:dc):Prop where
 kind:sc.kind=.function
 co:sc.isCoroutine=false
 gen:sc.isGenerator=false
 nd:N.Nodup
 pre:N.take P.length=P
 par:∀ x∈P,sc.names.lookup x=some .local∨sc.names.lookup x=some .cell
 Cw:∀ y∈sc.names,y.2≠.free
theorem b_.of {P:List aj} (a:autoParam (sc.kind=.function) L2.F0) (b:autoParam (sc.isCoroutine=false) L2.F0) (c:autoParam (sc.isGenerator=false) L2.F0) (d:autoParam (N.Nodup) L2.DF) (e:autoParam (N.take P.length=P) L2.F0) (f:autoParam (∀ x∈P,sc.names.lookup x=some .local∨sc.names.lookup x=some .cell) L2.DF) (g:autoParam (∀ y∈sc.names,y.2≠.free) L2.DF):b_ N P sc:=⟨a,b,c,d,e,f,g⟩
theorem yC {x:aj}:∀ {binds:List (aj×aa)} {m:aj->Option aa},(∀ v,(x,v)∉binds)->bindL kindOf binds m x=m x
 | [],_,_=>rfl
 | (n,v)::r,m,h=>by
  unfold bindL;rw [yC λw hw=>h w (Qj _ hw)];split
  ·have:x≠n:=by rintro rfl; exact h v Qk
   simp [this]
  ·rfl
theorem yD {x:aj}:∀ {binds:List (aj×aa)} {m:aj->Option aa},(∀ v,(x,v)∉binds)->bindC kindOf binds m x=m x
 | [],_,_=>rfl
 | (n,v)::r,m,h=>by
  unfold bindC;rw [yD λw hw=>h w (Qj _ hw)];split
  ·rfl
  ·have:x≠n:=by rintro rfl; exact h v Qk
   simp [this]
theorem yE {x:aj} {v:aa}:∀ {P:List aj} {vs:List aa} {i:Nat} {m:aj->Option aa},P.Nodup->P[i]?=some x->vs[i]?=some v->kindOf x=some .local ->
  bindL kindOf (P.zip vs) m x=some v
 | [],_,_,_,_,h,_,_=>by simp at h
 | _::_,[],_,_,_,_,h,_=>by simp at h
 | p::P,w::vs,0,m,nd,h1,h2,hk=>by
  simp at h1 h2; subst h1; subst h2;show bindL kindOf ((p,w)::P.zip vs) m p=_;unfold bindL;rw [yC λv hv=>(Jq.mp nd).1 (Zz hv).1,if_pos hk];simp
 | p::P,w::vs,i+1,m,nd,h1,h2,hk=>by
  unfold bindL;exact yE (i:=i) (Jq.mp nd).2 (by assumption) (by assumption) hk
theorem yF {x:aj} {v:aa}:∀ {P:List aj} {vs:List aa} {i:Nat} {m:aj->Option aa},P.Nodup->P[i]?=some x->vs[i]?=some v->kindOf x≠some .local ->
  bindC kindOf (P.zip vs) m x=some v
 | [],_,_,_,_,h,_,_=>by simp at h
 | _::_,[],_,_,_,_,h,_=>by simp at h
 | p::P,w::vs,0,m,nd,h1,h2,hk=>by
  simp at h1 h2; subst h1; subst h2;show bindC kindOf ((p,w)::P.zip vs) m p=_;unfold bindC;rw [yD λv hv=>(Jq.mp nd).1 (Zz hv).1,if_neg hk];simp
 | p::P,w::vs,i+1,m,nd,h1,h2,hk=>by
  unfold bindC;exact yF (i:=i) (Jq.mp nd).2 (by assumption) (by assumption) hk
noncomputable def start (N:List aj) (vs:List V):St:=vs.map some++List.replicate (N.length - vs.length) none
noncomputable def cB (CX:xj) (P:bq) (w:bx) (K:Rb) (mg:aj->Option aa) (base:ag) (N:List aj) (qual:aj) (scope:dc) (f:ae) (cd:aa) (A:bz) (outer:List cz) (s:ah) (H:Hp) (E:XK):Cx where
 prog:=P
 w:=w
 K:=K
 mg:=mg
 base:=base
 A:=A.deeper (envOfC qual scope s.heap.objs.size f cd)
 N:=N
 jg:=s
 u4:=H
 env:=envOfC qual scope s.heap.objs.size f cd
 outer:=outer
 stack:=envOfC qual scope s.heap.objs.size f cd::outer
 ex:=[]
 calm:=true
 fn:=λ_=>true
 pn:=[]
 xe:=λe s'=>aq (ar P w) (A.deeper (envOfC qual scope s.heap.objs.size f cd)) (leaving (envOfC qual scope s.heap.objs.size f cd) e) (λ_ og=>CX outer H s E e og) (λe' og=>CX outer H s E e' og) s'
theorem XE {x:aj} (h:sc.names.lookup x=some .cell):∃ c,(cellsFrom n sc.names []).lookup x=some c:=by
 exact Yy.mp (Mb sc.names n [] (.inl h))
theorem aEK {cd:aa} {s1:ah} {E:XK} (S:b_ N ps scope) (hd:A.handled=none) (e0:rj P w K mg base A outer s H) (hl:vs.length=ps.length) (r:bG vs us) (x:InCallC s s.heap.objs.size (bindL (envOfC qual scope s.heap.objs.size f cd).kindOf (ps.zip us) λ_=>none) (cellsFrom (s.heap.objs.size+1) scope.names []) (bindC (envOfC qual scope s.heap.objs.size f cd).kindOf (ps.zip us) λ_=>none) s1) :
  Inv (cB CX P w K mg base N qual scope f cd A outer s H E) [] (start N vs) H s1:=by
 have ke:ps.length<=N.length:=by have:=congrArg Qac S.pre; rw [Qs] at this; omega
 obtain ⟨h1,tk,rfl,hk⟩:=x.done;have JT:∀ b:ae,b∉(cB CX P w K mg base N qual scope f cd A outer s H E).ex:=λb z=>absurd (show b∈([]:List ae) from z) 'b';refine ⟨⟨e0.mod,S.kind,rfl,rfl,Qe _,λy z c h1 h2=>?_,λy hy=>?_,λy c _ h=>?_,λ_=>hd,bz.frames_deeper e0.frames,.inr ⟨rfl,rfl⟩,λb z=>absurd z (JT b),e0.bs,e0.zv,λb _ _=>JT b,λb z=>absurd z (JT b),e0.j2,e0.zu⟩,
  rfl,e0.bare,Un.kept hk,⟨_,x.toInCall.ns,λi y v h1 h2 h3=>?_⟩,λy c h=>⟨_,x.cell y c h⟩,e0.ei.fresh (Qe _),λy c h=>?_,λp hp=>absurd (show p∈([]:List (ae×cb)) from hp) 'b',e0.ei.kept hk,?_⟩
 ·exact name_of_addr x.apart (Ug h1) (Ug h2)
 ·have hy:scope.names.lookup y=some .cell∨scope.names.lookup y=some .free:=hy;rcases hy with hy | hy
  ·exact XE hy
  ·exact absurd rfl (S.Cw _ (Ug hy))
 ·exact Jx (x.above y c (Ug h))
 ·have hi:i < vs.length:=by
   unfold start at h2;by_cases hi:i < vs.length
   ·exact hi
   ·rw [Qx (by simpa using hi)] at h2;rw [Zj] at h2;split at h2 <;> cases h2
  have ha:vs[i]?=some v:=by simp_all [start,Qq,Qh]
  obtain ⟨u,hu,rv⟩:=r.get ha;have hp:ps[i]?=some y:=by
   rw [<- S.pre,List.getElem?_take_of_lt 'a']; exact h1
  have Pc:ps.Nodup:=by rw [<- S.pre]; exact S.nd.sublist (List.take_sublist _ _)
  refine ⟨u,rv,?_⟩;rcases S.par y (Qd hp) with k | k
  ·exact .inl ⟨k,yE Pc hp hu k⟩
  ·obtain ⟨c,e⟩:=XE (n:=s.heap.objs.size+1) k;refine .inr ⟨.inl k,c,e,?_⟩;have q:=x.cell y c e;rw [yF Pc hp hu (by show scope.names.lookup y≠_; rw [k]; decide)] at q;exact q
 ·exact e0.ei.fresh (Jx (x.above y c (Ug h)))
 ·unfold start;show _=N.length;rw [Qg,Qa,Xn];omega
theorem LR {k:Nat} {dV kV:aa} (lk:K.lookup f=some ⟨oc,od,.func (Ta name qual params body scope dV kV doc pm an fe ct),sv⟩) (ku:Ub K fe qual=true) (S:b_ N ps scope) (len:∀ vs H Q E,sp vs H Q E->vs.length=ps.length) (iu:∀ (A:bz) (outer:List cz) (s:ah) (H:Hp) (vs:List V) (Q:VK) (E:XK),dj k (A.deeper (envOfC qual scope s.heap.objs.size f fe))->sp vs H Q E ->
   ∃ t,nc (cB CX P w K mg base N qual scope f fe A outer s H E) body t/\t { nx:=λ_ H'=>Q .fk H',rt:=Q } (start N vs) H) :
  c_ P w K mg base CX (k+1) f (Ta name qual params body scope dV kV doc pm an fe ct) ps sp:=by
 refine ⟨len,λA outer s H args us vs Q E hr e0 hb r i9=>?_⟩;have KX:K.In s.heap:=e0.mod.zg.keeps λb o e=>(e0.bs b o e).1;have lim:s.heap.NoLimit:=e0.mod.nolimit.keeps λb o e=>(e0.bs b o e).1;have FT:∀ y∈ps.zip us,scope.names.lookup y.1=some .local∨(scope.names.lookup y.1=some .cell/\((cellsFrom (s.heap.objs.size+1) scope.names []).lookup y.1).isSome=true):=λ⟨n,v⟩ hy=>by
  rcases S.par n (Zz hy).1 with q | q
  ·exact .inl q
  ·exact .inr ⟨q,Mb _ _ _ (.inl q)⟩
 refine codeAny_call_function hr.depth (KX _ _ lk) rfl S.co S.gen rfl (PySem.W.codeRec_of KX ku) (hb _ _ _ _ (wpAny_newFunctionEnv_cells S.kind FT λenv he s1 x=>?_));subst he;refine ⟨lim.keeps x.toInCall.keep,codeAny_func ?_⟩;obtain ⟨t,ht,hq⟩:=iu A outer s H vs Q E (hr.deeper _) i9;have I:Inv (cB CX P w K mg base N qual scope f fe A outer s H E) [] (start N vs) H s1:=aEK S hr.hd e0 (len _ _ _ _ i9) r x;refine Ro (ht [] s1 (start N vs) H _ I hq) (λfl s' hs=>?_) λe s' hs=>hs;have fin:∀ {d9:St} {H':Hp} {v:V} {u:aa},Inv (cB CX P w K mg base N qual scope f fe A outer s H E) [] d9 H' s'->bN v u->Q v H'->CE outer P w H s Q u s' :=
  λ{d9 H' v u} J rv q=>⟨v,H',J.os,J.bare,J.base,J.ei,rv,q⟩
 cases fl with
 | ret u =>
  obtain ⟨v,d9,H',J,rv,q⟩:=hs;exact fin J rv q
 | next =>
  obtain ⟨d9,H',J,q⟩:=hs;exact fin (v:=V.fk) (u:=aa.none) J rfl q
 | brk =>
  obtain ⟨_,_,_,q⟩:=hs;exact False.elim q
 | cont =>
  obtain ⟨_,_,_,q⟩:=hs;exact False.elim q
section
variable {x:aj} {t:TA} {id:String} {r:List V->Hp->VK->Prop}
def CG (r:List V->Hp->VK->Prop) (t:TA):TE:=λσ H Q=>t σ H λvs H1=>r vs H1 Q
theorem aK (hc:eQ X (.builtin id) r) (hg:Gl X x) (hm:X.mg x=none) (hv:az x=some (.builtin id)) (ha:PA X (e::es) t) (hn:autoParam (x ≠ "__name__") L2.iy) (lh:autoParam ((x==("__debug__" : aj))=false) L2.iy)
  (he:autoParam (ao (e::es) X.env=(false,eval e X.env)::ao es X.env) L2.f') (ke:autoParam ((cj pos (ao es X.env)).any (·.1)=false) L2.f'):PE X (.Call (.Name x p) (e::es) [] pos) (CG r t):=by
 intro a_ s σ H Q I h;refine Tb (mT I hg hm hv ?_ hn lh);refine PyProof.Rows.callWith_builtin1 (fc (ha pos a_ s σ H _ I h) λus s1 e_=>?_) he ke;obtain ⟨vs,H1,I1,r1,q1⟩:=e_;exact hc a_ s1 σ H1 vs us Q I1 r1 q1
theorem aZ (hc:eQ X (.type T) r) (hg:Gl X x) (hm:X.mg x=none) (hv:az x=some (.type T)) (ha:PA X (e::es) t) (hn:autoParam (x ≠ "__name__") L2.iy) (lh:autoParam ((x==("__debug__" : aj))=false) L2.iy)
  (he:autoParam (ao (e::es) X.env=(false,eval e X.env)::ao es X.env) L2.f') (ke:autoParam ((cj pos (ao es X.env)).any (·.1)=false) L2.f'):PE X (.Call (.Name x p) (e::es) [] pos) (CG r t):=by
 intro a_ s σ H Q I h;refine Tb (mT I hg hm hv ?_ hn lh);refine PyProof.Rows.callWith_type1 (fc (ha pos a_ s σ H _ I h) λus s1 e_=>?_) he ke;obtain ⟨vs,H1,I1,r1,q1⟩:=e_;exact hc a_ s1 σ H1 vs us Q I1 r1 q1
end
end L2
namespace HT
open PySem PyProof.Rows
section
open PySem.SeqAt
open PySem.AutoSeq1 (wpAny_loadPart')
open PySem.MeetsSeq PySem.MeetsSeq2 PySem.MeetsSeq3
end
theorem Aj {b:ae} {vs ws:List aa} (ht:IsTup s.heap t vs.toArray) (hb:IsTup s.heap b ws.toArray) (hv:vs≠[]) (h1:ws = []->Q (.ref t) s) (h2:ws≠[]->Q (.ref s.heap.objs.size) { s with heap:=s.heap.push { cls:=.type "tuple",data:=.seq (vs++ws).toArray } }) (hsz:vs.length+ws.length<=af):aq (ar prog w) A (binaryOp .Add (.ref t) (.ref b)) Q E s:=by
 obtain ⟨⟨cls,dd,data,sl⟩,ho,hc,n,hd⟩:=id ht;obtain ⟨⟨Oj,Dm,data2,CL⟩,zk,AK,n2,hd2⟩:=id hb;simp only at hc hd AK hd2;subst hc hd AK hd2;have e:vs.toArray++ws.toArray=(vs++ws).toArray:=by simp
 by_cases hw:ws = []
 ·exact Mw ⟨_,ho,rfl⟩ ⟨_,zk,rfl⟩ Ma Mr Vi Vf (Vd _ _)
   (tuple_addW1 t b vs.toArray ws.toArray n n2 dd Dm sl CL (by simpa using hv) (by simp_all)) ⟨ho,zk,h1 hw⟩
 ·refine Mw ⟨_,ho,rfl⟩ ⟨_,zk,rfl⟩ Ma Mr Vi Vf (Vd _ _)
   (tuple_addW2 t b vs.toArray ws.toArray n n2 dd Dm sl CL (by simpa using hv) (by simp_all) 'a') ⟨ho,zk,?_⟩
  rw [e];exact h2 hw
noncomputable def gj (n d:Nat):Option Int->Nat
 | none=>d
 | some v=>if v < 0 then (v+(n:Int)).toNat else min v.toNat n
theorem mi (n d:Nat):gj n d none=d:=rfl
theorem ub (n d k:Nat):gj n d (some (k:Int))=min k n:=by rfl
theorem aJV (n d:Nat) (hd:d<=n) (o:Option Int):gj n d o<=n:=by
 cases o with
 | none=>exact hd
 | some v =>
  show (if v < 0 then (v+(n:Int)).toNat else min v.toNat n)<=n;by_cases hv:v < 0
  ·grind
  ·rw [if_neg hv]; exact Nat.min_le_right _ _
theorem jo (v:Int) (n d:Nat):(if v < 0 then max (v+(n:Int)) 0 else min v (n:Int))=((gj n d (some v):Nat):Int):=by
 show (if v < 0 then max (v+(n:Int)) 0 else min v (n:Int))=(((if v < 0 then (v+(n:Int)).toNat else min v.toNat n):Nat):Int);by_cases hv:v < 0
 ·simp_all
 ·grind
theorem aCF (lo hi:Option Int) (n:Nat):ak.Slice.sliceAdjust lo hi 1 (n:Int)=(((gj n 0 lo:Nat):Int),((gj n n hi:Nat):Int)):=by
 have h1:¬ ((1:Int) < 0):=by omega
 unfold ak.Slice.sliceAdjust;simp only [h1,if_false];refine Prod.ext ?_ ?_
 ·cases lo with
  | none=>rfl
  | some v=>exact jo v n 0
 ·cases hi with
  | none=>rfl
  | some v=>exact jo v n n
theorem aCG (i j:Nat):ak.Slice.slicePlaces (i:Int) (j:Int) 1=j - i:=by
 unfold ak.Slice.slicePlaces;have h1:(1:Int) > 0:=by omega
 simp only [h1,if_true,Int.ediv_one];split <;> omega
theorem uQ {v:aa} {o:Option Int} {Q:Option Int->ah->Prop} (p:de v o) (h:Q o s):aq (ar prog w) A (ak.Slice.slicePartIndex v) Q E s:=by
 cases p with
 | none=>exact slicePart_none h
 | int i t=>exact slicePart_int h
theorem g_ {lo:Option Int} {Q:Int×Int×Nat->ah->Prop} (hs:s.heap.IsSliceOf sl vl vu .none) (pl:de vl lo) (pu:de vu hi) (h:Q (((gj n 0 lo:Nat):Int),1,gj n n hi - gj n 0 lo) s):aq (ar prog w) A (ak.Slice.sliceApplied (.ref sl) (pure (n:Int))) Q E s:=by
 obtain ⟨os,Bw,BB,ur⟩:=id hs;unfold ak.Slice.sliceApplied ak.Slice.sliceFields;refine Ra (Ra (Th Bw ur (x:=vl) rfl (Ra (Th Bw ur (x:=vu) rfl (Ra (Th Bw ur (x:=.none) rfl (Rc (Ra (slicePart_none ?_)))))))));rw [if_neg 'c'];refine Ra (uQ pl (Ra (uQ pu (Ra (Rc ?_)))));show aq _ _ (match ak.Slice.sliceAdjust lo hi 1 (n:Int) with | (lo,hi)=>pure (lo,(1:Int),ak.Slice.slicePlaces lo hi 1)) _ _ s;rw [aCF lo hi n];show aq _ _ (pure (((gj n 0 lo:Nat):Int),(1:Int),ak.Slice.slicePlaces ((gj n 0 lo:Nat):Int) ((gj n n hi:Nat):Int) 1)) _ _ s;rw [aCG];exact Rc h
theorem pz (xs:Array aa) (i k:Nat):((List.range k).filterMap λ(m:Nat)=>xs[((i:Int)+(m:Int)*1).toNat]?).toArray=((xs.toList.drop i).take k).toArray:=by
 have e:(λ(m:Nat)=>xs[((i:Int)+(m:Int)*1).toNat]?)=λm=>xs[i+m]?:=by grind
 rw [e];have:=pick_run xs i k;rw [Qai] at this;have e2:((λx=>xs[x]?) ∘ λx=>i+x)=λm=>xs[i+m]?:=rfl;rw [e2] at this;rw [this]
theorem jr {items:Array aa} {lo:Option Int} (ht:IsTup s.heap t items) (hs:s.heap.IsSliceOf sl vl vu .none) (pl:de vl lo) (pu:de vu hi) (hw:¬ (gj items.size 0 lo=0/\gj items.size items.size hi=items.size)) (h:Q (.ref s.heap.objs.size) { s with heap:=s.heap.push { cls:=.type "tuple",data:=.seq ((items.toList.drop (gj items.size 0 lo)).take (gj items.size items.size hi - gj items.size 0 lo)).toArray } }) (hsz:items.size<=af):aq (ar prog w) A (cq (.ref t) (.ref sl)) Q E s:=by
 have t_:sizeOk (.seq ((items.toList.drop (gj items.size 0 lo)).take (gj items.size items.size hi - gj items.size 0 lo)).toArray):=by
  show ((items.toList.drop (gj items.size 0 lo)).take (gj items.size items.size hi - gj items.size 0 lo)).toArray.size<=af;rw [Jj,Qs,Xa,Array.length_toList];omega
 have hj:gj items.size items.size hi<=items.size:=aJV _ _ (Qe _) hi;obtain ⟨os,Bw,BB,ur⟩:=id hs;have KW:s.TypeIs (.ref sl) "slice" := ⟨os,Bw,BB⟩
 unfold cq
 try with_reducible refine Rt ?_
 first | refine Ra (Rc ?_) | skip
 refine Ra (Rap ht.typeIs 'c' ?_);refine Ra (To (name:=aj.ofString "__getitem__") ht.typeIs PyProof.Rows.slot_tuple_getitem
  (Tn PyProof.Rows.slot_tuple_getitem ht.typeIs Raj ?_ (Ram _ _)))
 show aq _ _ (ak.Tuple.tupleItemsOf (.ref t) >>= _) _ _ s;refine Ra (tupleItemsOf_ ht (Ra (Vq KW ?_)));rw [if_pos 'c'];refine Ra (g_ hs pl pu ?_);have jh:¬ ((((gj items.size 0 lo:Nat):Int)==0 && (1:Int)==1 && (gj items.size items.size hi - gj items.size 0 lo)==items.size)=true):=by simp_all
 show aq _ _ (if (((gj items.size 0 lo:Nat):Int)==0 && (1:Int)==1 && (gj items.size items.size hi - gj items.size 0 lo)==items.size)=true then _ else _) _ _ s;rw [if_neg jh,pz]
 first
  | exact Ra (m:=ak.Tuple.tupleExact _) (Ry (Rc ⟨_,rfl,Rc h⟩) t_)
  | exact Ra (m:=ak.Tuple.tupleExact _) (Ry (Ra (Rc (Rc ⟨_,rfl,Rc h⟩))) t_)
  | exact Ra (Ra (m:=ak.Tuple.tupleExact _) (Ry (Rc (Rc ⟨_,rfl,Rc h⟩)) t_))
  | exact Ra (Ra (m:=ak.Tuple.tupleExact _) (Ry (Rc ⟨_,rfl,Rc h⟩) t_))
end HT
namespace L2
open PySem PySem.Spec PyProof.Rows
abbrev TO:=St->Hp->(Option Int->Hp->Prop)->Prop
def PO (X:Cx) (e:Option ay) (t:TO):Prop :=
 ∀ (a_:List (ae×cb)) (s:ah) (σ:St) (H:Hp) (Q:Option Int->Hp->Prop),Inv X a_ σ H s->t σ H Q ->
  aq (ar X.prog X.w) X.A (evalPart e X.env) (λu s'=>∃ o H',Inv X a_ σ H' s'/\de u o/\Q o H') X.xe s
def tL:TO:=λ_ H Q=>Q none H
def HF (t:TE):TO:=λσ H Q=>t σ H λx H1=>∃ i,x=.int i/\Q (some i) H1
theorem pG:∀ {us:List aa},bG (ns.map V.int) us->IntsAre us ns:=by
 induction ns with
 | nil=>intro us r; rw [Yh] at r; cases r; exact .nil
 | cons n ns ih =>
  intro us r;rw [Jb] at r;cases r with
  | cons r1 r2 =>
   obtain ⟨t,e⟩:=r1;subst e;exact .cons n t (ih r2)
section
variable {lo hi:Option ay} {tl th:TO}
theorem gS:PO X none tL:=by
 intro a_ s σ H Q I h;rw [Ie];exact Rc ⟨none,H,I,.none,h⟩
theorem gT (h:PE X e te):PO X (some e) (HF te):=by
 intro a_ s σ H Q I hw;rw [evalPart_some];refine fc (h a_ s σ H _ I hw) λu s1 e_=>?_;obtain ⟨x,H1,I1,r1,q1⟩:=e_;obtain ⟨i,rfl,q⟩:=q1;obtain ⟨t,rfl⟩:=r1;exact ⟨some i,H1,I1,.int i t,q⟩
def Dv (X:Cx) (r:V->Option Int->Option Int->Hp->VK->Prop):Prop :=
 ∀ (a_:List (ae×cb)) (s:ah) (σ:St) (H:Hp) (x:V) (v vl vu:aa) (lo hi:Option Int) (sl:ae) (Q:VK),Inv X a_ σ H s->bN x v->s.heap.IsSliceOf sl vl vu .none->de vl lo->de vu hi->r x lo hi H Q ->
  ∃ T id,typeLookup (.type T) "__getitem__" = pure (some (.builtin id))/\s.TypeIs v T/\aq (ar X.prog X.w) X.A (cq v (.ref sl)) (EP X a_ σ Q) X.xe s
def F4 (r:V->Option Int->Option Int->Hp->VK->Prop) (te:TE) (tl th:TO):TE:=λσ H Q=>te σ H λx H1=>tl σ H1 λl H2=>th σ H2 λu H3=>r x l u H3 Q
theorem eV {r:V->Option Int->Option Int->Hp->VK->Prop} (hr:Dv X r) (he:PE X e te) (hl:PO X lo tl) (hu:PO X hi th):PE X (.Subscript e (.Slice lo hi none p2) pos) (F4 r te tl th):=by
 intro a_ s σ H Q I h;refine Ik (fc (he a_ s σ H _ I h) λv s1 e_=>?_);obtain ⟨x,H1,I1,r1,q1⟩:=e_;refine wpAny_Slice (fc (hl a_ s1 σ H1 _ I1 q1) λvl s2 ⟨l,H2,I2,pl,q2⟩=>fc (hu a_ s2 σ H2 _ I2 q2) λvu s3 e_=>?_);obtain ⟨u,H3,I3,pu,q3⟩:=e_;rw [Ie];refine Rc ?_;have I4:Inv X a_ σ H3 { s3 with heap:=s3.heap.push { cls:=.type "slice",data:=.fields #[vl,vu,.none] } }:=I3.kept (t':=s3.toks) λb ob q=>ag.get?_push_of_some _ q;obtain ⟨T,id,hT,ht,hg⟩:=hr a_ { s3 with heap:=s3.heap.push { cls:=.type "slice",data:=.fields #[vl,vu,.none] } } σ H3 x v vl vu l u s3.heap.objs.size Q I4 r1 (ag.IsSliceOf.new ..) pl pu q3;exact tail_any (ops:=[.ref s3.heap.objs.size,v]) ht hT hg (by rfl)
noncomputable def mY (xs:List V) (lo hi:Option Int):List V:=(xs.drop (HT.gj xs.length 0 lo)).take (HT.gj xs.length xs.length hi - HT.gj xs.length 0 lo)
theorem sQ (xs:List V) (lo hi:Option Int):(mY xs lo hi).length<=xs.length:=by
 unfold mY;rw [Qs,Xa];exact Qr (Nat.min_le_right _ _) (Nat.sub_le _ _)
def aMa (K:Rb):V->Option Int->Option Int->Hp->VK->Prop:=λx lo hi H Q=>∃ a xs,x=.ref a/\dt K H a xs /\
 ¬ (HT.gj xs.length 0 lo=0/\HT.gj xs.length xs.length hi=xs.length)/\∀ p,H p=none->Q (.ref p) (upd H p (.tup (mY xs lo hi)))
theorem aJW:Dv X (aMa X.K):=by
 intro a_ s σ H x v vl vu lo hi sl Q I rx hs pl pu h;obtain ⟨a,xs,rfl,hx,hw,q⟩:=h;cases rx;obtain ⟨its,r,ht,hz⟩:=I.tuple hx;have hlen:its.toArray.size=xs.length:=by rw [Jj]; exact r.length.symm
 refine ⟨"tuple",_,PyProof.Rows.slot_tuple_getitem.lookup,ht.typeIs,HT.jr ht hs pl pu (by rw [hlen]; exact hw) ?_ (by rw [hlen]; exact hz)⟩;rw [hlen];refine ⟨.ref s.heap.objs.size,_,I.laid (t':=s.toks) (o:=.tup (mY xs lo hi)) (λb ob q=>ag.get?_push_of_some _ q) (Qe _) ?_,rfl,q _ (I.ei.fresh (Qe _))⟩;exact ⟨Qr (sQ xs lo hi) hz,_,0,(r.drop (HT.gj xs.length 0 lo)).take (HT.gj xs.length xs.length hi - HT.gj xs.length 0 lo),ag.get?_push_size _ rfl⟩
def aK5 (K:Rb):R2:=λx y H Q=>∃ a b xs ys,x=.ref a/\y=.ref b/\dt K H a xs/\dt K H b ys/\xs≠[]/\xs.length+ys.length<=af /\
 (ys = []->Q (.ref a) H)/\(ys≠[]->∀ p,H p=none->Q (.ref p) (upd H p (.tup (xs++ys))))
theorem bG.oa (r:bG xs us):us = []↔xs = []:=by
 cases r with
 | nil=>simp
 | cons _ _=>simp
theorem aHP:gy X (binaryOp .Add) (aK5 X.K):=by
 intro a_ s σ H x y v u Q I rx ry h;obtain ⟨a,b,xs,ys,rfl,rfl,ha,hb,hx,hz,q1,q2⟩:=h;cases rx;cases ry;obtain ⟨its,r1,p1,_⟩:=I.tuple ha;obtain ⟨Ac,r2,p2,_⟩:=I.tuple hb;refine HT.Aj p1 p2 (λz=>hx (r1.oa.mp z)) (λz=>⟨.ref a,H,I,rfl,q1 (r2.oa.mp z)⟩) (λz=>?_) (by rw [<- r1.length,<- r2.length]; exact hz);refine ⟨.ref s.heap.objs.size,_,I.laid (t':=s.toks) (o:=.tup (xs++ys)) (λb ob q=>ag.get?_push_of_some _ q) (Qe _) ?_,rfl,q2 (λw=>z (r2.oa.mpr w)) _ (I.ei.fresh (Qe _))⟩;exact ⟨by rw [Qg]; exact hz,_,0,r1.append r2,ag.get?_push_size _ rfl⟩
end
noncomputable def yn (n:Nat) (i:Int):Option Nat:=if 0<=i then (if i < n then some i.toNat else none) else if -(n:Int)<=i then some (i+n).toNat else none
noncomputable def lj (xs:List α) (i:Int):Option α:=(yn xs.length i).bind λj=>xs[j]?
theorem VY {i:Int} (h:yn n i=some j):seqIndex? i n=some j/\j < n/\-(n:Int)<=i/\i < n:=by
 unfold yn at h;by_cases h0:0<=i
 ·rw [if_pos h0] at h;by_cases h1:i < n
  ·rw [if_pos h1] at h;have e:i.toNat=j:=Option.some.inj h;exact ⟨by rw [Raf h0 h1,e],by omega,by omega,h1⟩
  ·simp_all
 ·rw [if_neg h0] at h;by_cases h1:-(n:Int)<=i
  ·rw [if_pos h1] at h;have e:(i+n).toNat=j:=Option.some.inj h;exact ⟨by rw [Mx 'a' h1,e],by omega,h1,by omega⟩
  ·simp_all
theorem zV {xs:List α} {i:Int} {v:α} (h:lj xs i=some v):∃ j,seqIndex? i xs.length=some j/\xs[j]?=some v/\j < xs.length/\-(xs.length:Int)<=i/\i < xs.length:=by
 unfold lj at h;cases e:yn xs.length i with
 | none=>rw [e] at h; cases h
 | some j =>
  rw [e] at h;obtain ⟨h1,h2,h3,h4⟩:=VY e;exact ⟨j,h1,h,h2,h3,h4⟩
theorem fG {xs:List α} {v:α} (h:xs[j]?=some v):lj xs (j:Int)=some v:=by
 have hj:j < xs.length:=(Qb.mp h).1;have e:yn xs.length (j:Int)=some j:=by simp_all [yn,if_pos]
 unfold lj; rw [e]; exact h
def zW (b:ay):Prop:=∀ o i,subscripted b false o i=operate [o,i] (cq o i)
theorem gb {a b c}:zW (.Constant a b c):=λ_ _=>rfl
theorem su {a b}:zW (.Name a b):=λ_ _=>rfl
def IG (X:Cx) (r:R2):Prop :=
 ∀ (value slice:ay) (a_:List (ae×cb)) (s:ah) (σ:St) (H:Hp) (x y:V) (v u:aa) (Q:VK),Inv X a_ σ H s->bN x v->bN y u->r x y H Q ->
  subscripted slice false v u=operate [v,u] (cq v u)->aq (ar X.prog X.w) X.A (subscriptTail value slice v u) (EP X a_ σ Q) X.xe s
def wd (X:Cx) (id:String) (r:V->List V->Hp->VK->Prop):Prop :=
 ∀ (a_:List (ae×cb)) (s:ah) (σ:St) (H:Hp) (x:V) (xs:List V) (v:aa) (us:List aa) (Q:VK),Inv X a_ σ H s->bN x v->bG xs us->r x xs H Q ->
  aq (ar X.prog X.w) X.A (call (.builtin id) (v::us)) (EP X a_ σ Q) X.xe s
section
variable {a b:ay}
theorem bM (hr:IG X r) (ha:PE X a ta) (hb:PE X b tb) (hs:zW b):PE X (.Subscript a b pos) (ud r ta tb):=by
 intro a_ s σ H Q I h;exact Ik (LC ha hb I h λv u s2 x y H2 I2 rx ry q=>hr a b a_ s2 σ H2 x y v u Q I2 rx ry q (hs _ _))
def aMb (K:Rb):R2:=λx y H Q=>∃ p xs i v,x=.ref p/\y=.int i/\dm K H p xs/\lj xs i=some v/\Q v H
def aMc (K:Rb):R2:=λx y H Q=>∃ p xs i v,x=.ref p/\y=.int i/\dt K H p xs/\lj xs i=some v/\Q v H
def aMd:R2:=λx y H Q=>∃ z i c,x=.str z/\y=.int i/\z.length<=af/\lj z.cps.toList i=some c/\Q (.str ⟨#[c]⟩) H
theorem bU:IG X (aMb X.K):=by
 intro value slice a_ s σ H x y v u Q I rx ry h hs;obtain ⟨p,xs,i,z,rfl,rfl,hq,he,q⟩:=h;cases rx;obtain ⟨t,rfl⟩:=ry;obtain ⟨its,r,pl,hz⟩:=I.list hq;obtain ⟨j,h1,h2,h3,h4,h5⟩:=zV he;obtain ⟨w,ew,js⟩:=r.get h2;have hl:=r.length;have hn:=pE;have fin:EP X a_ σ Q w s:=⟨z,H,I,js,q⟩
 by_cases h0:0<=i
 ·have hj:i.toNat=j:=by
   rw [Raf h0 h5] at h1;exact Option.some.inj h1
  exact item_listR pl.isList h0 'a' (by rw [hj]; simpa using ew) fin hs
 ·have hj:(i+(its.toArray.size:Int)).toNat=j:=by grind [Mx,Jj,Option.some.inj]
  exact Uy (x:=w) pl.isList.typeIs slot_list_getitem.lookup
   (wpAny_getItem_list_neg (Q:=λr s'=>r=w/\EP X a_ σ Q r s') pl.isList 'a' (by simp_all) 'a' (by rw [hj]; simpa using ew) ⟨rfl,fin⟩) hs
theorem dN:IG X (aMc X.K):=by
 intro value slice a_ s σ H x y v u Q I rx ry h hs;obtain ⟨p,xs,i,z,rfl,rfl,hq,he,q⟩:=h;cases rx;obtain ⟨t,rfl⟩:=ry;obtain ⟨its,r,pl,hz⟩:=I.tuple hq;obtain ⟨j,h1,h2,h3,h4,h5⟩:=zV he;obtain ⟨w,ew,js⟩:=r.get h2;have hl:=r.length;have hn:=pE;have fin:EP X a_ σ Q w s:=⟨z,H,I,js,q⟩
 exact Uy (x:=w) pl.typeIs slot_tuple_getitem.lookup
  (getItem_tuple (j:=j) (Q:=λr s'=>r=w/\EP X a_ σ Q r s') pl 'a' 'a' (by simp_all) (by simpa using ew) ⟨rfl,fin⟩) hs
theorem MM:IG X aMd:=by
 intro value slice a_ s σ H x y v u Q I rx ry h hs;obtain ⟨z,i,c,rfl,rfl,hz,he,q⟩:=h;obtain ⟨t,rfl⟩:=rx;obtain ⟨t',rfl⟩:=ry;obtain ⟨j,h1,h2,h3,h4,h5⟩:=zV he;have hl:z.cps.toList.length=z.length:=by rfl
 rw [hl] at h1 h4 h5;have hn:=pE;exact tail_any (Vr s z t) slot_str_getitem.lookup (getItem_str (c:=c) (by grind) (by rw [h1]; simpa using h2) ⟨.str ⟨#[c]⟩,H,I.tok _,⟨_,rfl⟩,q⟩) hs
theorem aCI (its:List aa) (n j:Nat) (u:aa):cb.mapSeq (·.setIfInBounds j u) { cls:=.type "list",data:=.seq its.toArray n }={ cls:=.type "list",data:=.seq (its.set j u).toArray n }:=by
 simp [cb.mapSeq]
theorem Inv.lst {σ:St} {p:ae} (I:Inv X a_ σ H s) (h:H p=some (.lst xs)) :
  ∃ (its:List aa) (n:Nat),bG xs its/\s.heap.get? p=some { cls:=.type "list",data:=.seq its.toArray n }/\xs.length<=af:=by
 obtain ⟨z,its,n,r,e⟩:=I.ei p _ h;exact ⟨its,n,r,e,z⟩
theorem Inv.Cy {σ:St} {p:ae} {its':List aa} {n':Nat} {f:cb->cb} (I:Inv X a_ σ H s) (h:H p=some (.lst xs)) (ho:s.heap.get? p=some { cls:=.type "list",data:=.seq its.toArray n }) (hf:f { cls:=.type "list",data:=.seq its.toArray n }={ cls:=.type "list",data:=.seq its'.toArray n' }) (r:bG ys its') (hz:ys.length<=af) (t:Nat) :
  Inv X a_ σ (upd H p (.lst ys)) { s with heap:=s.heap.update p f,toks:=t }:=by
 have e:(s.heap.update p f).get? p=some { cls:=.type "list",data:=.seq its'.toArray n' }:=by
  rw [ag.get?_update_self f ho (by rw [hf] <;> rfl),hf]
 refine I.write (x:=p) (e:=p) (by rw [h]; trivial) (.inl rfl) (λb u hb q=>(ag.get?_update_other _ _ (Ne.symm hb)).trans q) ⟨_,e⟩ ?_;exact ⟨hz,its',n',r,e⟩
def aK6:V->V->V->Hp->(Hp->Prop)->Prop:=λo i v H Q=>∃ p xs k j,o=.ref p/\i=.int k/\H p=some (.lst xs)/\yn xs.length k=some j/\Q (upd H p (.lst (xs.set j v)))
theorem uR:SK X aK6:=by
 intro a_ s σ H o i v ov iv u Q I ro ri rv h;obtain ⟨p,xs,k,j,rfl,rfl,hp,hj,q⟩:=h;cases ro;obtain ⟨t,rfl⟩:=ri;obtain ⟨its,n,r,ho,hz⟩:=I.lst hp;obtain ⟨h1,h2,h3,h4⟩:=VY hj;have hl:=r.length;have hn:=pE;have I':Inv X a_ σ (upd H p (.lst (xs.set j v))) { s with heap:=s.heap.update p (cb.mapSeq (·.setIfInBounds j u)) } :=
  I.Cy hp ho (aCI its n j u) (r.set rv j) (by rw [Yn]; exact hz) s.toks
 by_cases h0:0<=k
 ·grind [Raf,Option.some.inj,PySem.W.ki_setAt,Jj]
 ·grind [Mx,Jj,Option.some.inj,PySem.W.ki_setBack]
theorem OP {i:Int}:max 0 (min (if i < 0 then i+(n:Int) else i) n)=if i < 0 then max (i+(n:Int)) 0 else min i n:=by
 by_cases h:i < 0
 ·rw [if_pos h,if_pos h,Int.min_eq_left 'a',Int.max_comm]
 ·rw [if_neg h,if_neg h]; exact Int.max_eq_right (Int.le_min.mpr ⟨Int.not_lt.mp h,Int.natCast_nonneg n⟩)
theorem zX (lo hi:Option Int) (n:Nat):(sliceBounds lo hi none n).1=((HT.gj n 0 lo:Nat):Int)/\(sliceBounds lo hi none n).2.1=((HT.gj n n hi:Nat):Int)/\(sliceBounds lo hi none n).2.2=1:=by
 refine ⟨?_,?_,rfl⟩
 ·cases lo with
  | none=>simp [sliceBounds,HT.gj]
  | some i=>exact OP.trans (HT.jo i n 0)
 ·cases hi with
  | none=>simp [sliceBounds,HT.gj]
  | some i=>exact OP.trans (HT.jo i n n)
theorem xJ (its:List aa) (lo hi:Option Int):slicePick its.toArray lo hi none=((its.drop (HT.gj its.length 0 lo)).take (HT.gj its.length its.length hi - HT.gj its.length 0 lo)).toArray:=by
 obtain ⟨h1,h2,h3⟩:=zX lo hi its.toArray.size;unfold slicePick;rw [h1,h2,h3];simp only [sliceRange_one,pick_run,Jj] <;> rfl
def aMe (K:Rb):V->Option Int->Option Int->Hp->VK->Prop:=λx lo hi H Q=>∃ a xs,x=.ref a/\dm K H a xs/\∀ p,H p=none->Q (.ref p) (upd H p (.lst (mY xs lo hi)))
theorem tN:Dv X (aMe X.K):=by
 intro a_ s σ H x v vl vu lo hi sl Q I rx hs pl pu h;obtain ⟨a,xs,rfl,hx,q⟩:=h;cases rx;obtain ⟨its,r,ht,hz⟩:=I.list hx;have hlen:=r.length;refine ⟨"list",_,slot_list_getitem.lookup,ht.isList.typeIs,Ms ht.isList hs pl pu .none 'b' ?_ (by simp_all)⟩;rw [xJ,<- hlen];refine ⟨.ref s.heap.objs.size,_,I.laid (t':=s.toks) (o:=.lst (mY xs lo hi)) (λb ob q=>ag.get?_push_of_some _ q) (Qe _) ?_,rfl,q _ (I.ei.fresh (Qe _))⟩;exact ⟨Qr (sQ xs lo hi) hz,_,0,(r.drop (HT.gj xs.length 0 lo)).take (HT.gj xs.length xs.length hi - HT.gj xs.length 0 lo),ag.get?_push_size _ rfl⟩
noncomputable def pQ:V->Bool
 | .fk=>true
 | .bl _=>true
 | .int _=>true
 | .str _=>true
 | _=>false
noncomputable def xc:V->V->Bool
 | .fk,.fk=>true
 | .bl a,.bl b=>a==b
 | .bl a,.int b=>(if a then 1 else 0)==b
 | .int a,.bl b=>a==(if b then 1 else 0)
 | .int a,.int b=>a==b
 | .str a,.str b=>a==b
 | _,_=>false
theorem aJX {x:V} {v:aa} (ry:bN y u) (rx:bN x v) (fy:pQ y=true) (fx:pQ x=true):SeqAt.EqAt A s u v (xc y x):=by
 cases y with
 | fk =>
  cases ry;cases x with
  | fk=>cases rx; exact SeqAt.EqAt.same _
  | bl b=>cases rx; exact SeqAt.EqAt.none_bool b
  | int b=>obtain ⟨t,rfl⟩:=rx; exact SeqAt.EqAt.none_int b t
  | str b=>obtain ⟨t,rfl⟩:=rx; exact SeqAt.EqAt.none_str b t
  | _=>exact absurd (show false=true from fx) Qw
 | bl a =>
  cases ry;cases x with
  | fk=>cases rx; exact SeqAt.EqAt.bool_none a
  | bl b=>cases rx; exact SeqAt.EqAt.bool_bool a b
  | int b=>obtain ⟨t,rfl⟩:=rx; exact SeqAt.EqAt.bool_int a b t
  | str b=>obtain ⟨t,rfl⟩:=rx; exact SeqAt.EqAt.bool_str a b t
  | _=>exact absurd (show false=true from fx) Qw
 | int a =>
  obtain ⟨t',rfl⟩:=ry;cases x with
  | fk=>cases rx; exact SeqAt.EqAt.int_none a t'
  | bl b=>cases rx; exact SeqAt.EqAt.int_bool a t' b
  | int b=>obtain ⟨t,rfl⟩:=rx; exact SeqAt.EqAt.int_int a t' b t
  | str b=>obtain ⟨t,rfl⟩:=rx; exact SeqAt.EqAt.int_str a t' b t
  | _=>exact absurd (show false=true from fx) Qw
 | str a =>
  obtain ⟨t',rfl⟩:=ry;cases x with
  | fk=>cases rx; exact SeqAt.EqAt.str_none a t'
  | bl b=>cases rx; exact SeqAt.EqAt.str_bool a t' b
  | int b=>obtain ⟨t,rfl⟩:=rx; exact SeqAt.EqAt.str_int a t' b t
  | str b=>obtain ⟨t,rfl⟩:=rx; exact SeqAt.EqAt.str_str a t' b t
  | _=>exact absurd (show false=true from fx) Qw
 | _=>exact absurd (show false=true from fy) Qw
noncomputable def qw (x:V) (u:aa):Bool:=match u with
 | .none=>xc .fk x
 | .bool b=>xc (.bl b) x
 | .int i _=>xc (.int i) x
 | .str z _=>xc (.str z) x
 | _=>false
theorem UP {x:V} (r:bN y u) (f:pQ y=true):qw x u=xc y x:=by
 cases y with
 | fk=>cases r; rfl
 | bl b=>cases r; rfl
 | int i=>obtain ⟨t,rfl⟩:=r; rfl
 | str z=>obtain ⟨t,rfl⟩:=r; rfl
 | _=>exact absurd (show false=true from f) Qw
theorem tO {x:V}:∀ {xs:List V} {us:List aa},bG xs us->xs.all pQ=true->us.any (qw x)=xs.any λy=>xc y x
 := by
 intro xs us h
 induction h with
 | nil=>intro _; rfl
 | cons r t ih =>
  intro f;rw [Qaj,Qt] at f;rw [Ya,Ya,UP r f.1,ih f.2]
theorem mZ {x:V} {v:aa} (rx:bN x v) (fx:pQ x=true):∀ {xs:List V} {us:List aa},bG xs us->xs.all pQ=true->∀ u∈us,SeqAt.EqAt A s u v (qw x u)
 | _,_,.nil,_=>λu hu=>by cases hu
 | y::xs,u::us,.cons r t,f=>λu' hu=>by
  rw [Qaj,Qt] at f;rcases Ql.mp hu with rfl | hu
  ·rw [UP r f.1]; exact aJX r rx f.1 fx
  ·exact mZ rx fx t f.2 u' hu
noncomputable def uf (x:V) (xs:List V):Bool:=xs.any λy=>xc y x
def DL (K:Rb) (neg:Bool):R2:=λx y H Q=>∃ p xs,y=.ref p/\(dm K H p xs∨dt K H p xs)/\pQ x=true/\xs.all pQ=true/\Q (.bl (if neg then !uf x xs else uf x xs)) H
theorem rG:gy X (bj .In) (DL X.K false):=by
 intro a_ s σ H x y v u Q I rx ry h;obtain ⟨p,xs,rfl,hq,fx,fs,q⟩:=h;cases ry;rcases hq with hq | hq
 ·obtain ⟨its,r,pl,hz⟩:=I.list hq;refine SeqAt.in_listAt (qw x) pl.isList (λw hw=>mZ rx fx r fs w (by simp_all)) ⟨.bl _,H,I,rfl,?_⟩;rw [show its.toArray.any (qw x)=its.any (qw x) by simp,tO r fs];exact q
 ·obtain ⟨its,r,pl,hz⟩:=I.tuple hq;refine SeqAt.in_tupleAt (qw x) pl (λw hw=>mZ rx fx r fs w (by simp_all)) ⟨.bl _,H,I,rfl,?_⟩;rw [show its.toArray.any (qw x)=its.any (qw x) by simp,tO r fs];exact q
theorem zY:gy X (bj .NotIn) (DL X.K true):=by
 intro a_ s σ H x y v u Q I rx ry h;obtain ⟨p,xs,rfl,hq,fx,fs,q⟩:=h;cases ry;rcases hq with hq | hq
 ·obtain ⟨its,r,pl,hz⟩:=I.list hq;refine SeqAt.notIn_listAt (qw x) pl.isList (λw hw=>mZ rx fx r fs w (by simp_all)) ⟨.bl _,H,I,rfl,?_⟩;rw [show its.toArray.any (qw x)=its.any (qw x) by simp,tO r fs];exact q
 ·obtain ⟨its,r,pl,hz⟩:=I.tuple hq;refine SeqAt.notIn_tupleAt (qw x) pl (λw hw=>mZ rx fx r fs w (by simp_all)) ⟨.bl _,H,I,rfl,?_⟩;rw [show its.toArray.any (qw x)=its.any (qw x) by simp,tO r fs];exact q
theorem aR:eQ X (.builtin "len") (λxs H Q=>∃ p ys,xs = [.ref p]/\(dm X.K H p ys∨dt X.K H p ys)/\Q (.int ys.length) H):=by
 intro a_ s σ H xs us Q I r h;obtain ⟨p,ys,rfl,hq,q⟩:=h;obtain ⟨u,rfl,rx⟩:=eU r;cases rx;have hn:=pE;rcases hq with hq | hq
 ·obtain ⟨its,r',pl,hz⟩:=I.list hq;have hlen:=r'.length;exact Calls.call_len_list pl.isList (by grind) ⟨.int ys.length,H,I.tok _,⟨s.toks+1,by rw [Jj,hlen]⟩,q⟩
 ·obtain ⟨its,r',pl,hz⟩:=I.tuple hq;have hlen:=r'.length;exact len_tuple pl (by simp only [Jj] <;> omega) ⟨.int ys.length,H,I.tok _,⟨s.toks+1,by rw [Jj,hlen]⟩,q⟩
theorem iD:eQ X (.builtin "len") (λxs H Q=>∃ z,xs = [.str z]/\z.length<=af/\Q (.int z.length) H):=by
 intro a_ s σ H xs us Q I r h;obtain ⟨z,rfl,hz,q⟩:=h;obtain ⟨u,rfl,t,rfl⟩:=eU r;have hn:=pE;exact len_str 'a' ⟨.int z.length,H,I.tok _,⟨_,rfl⟩,q⟩
theorem gK:eQ X (.type "tuple") (λxs H Q=>∃ p ys,xs = [.ref p]/\((dm X.K H p ys/\∀ l,H l=none->Q (.ref l) (upd H l (.tup ys)))∨(dt X.K H p ys/\Q (.ref p) H))):=by
 intro a_ s σ H xs us Q I r h;obtain ⟨p,ys,rfl,h⟩:=h;obtain ⟨u,rfl,rx⟩:=eU r;cases rx;rcases h with ⟨hq,q⟩ | ⟨hq,q⟩
 ·obtain ⟨its,r',pl,hz⟩:=I.list hq;have hlen:=r'.length;refine call_tuple_list pl.isList (λh' kp=>?_) (by simp_all);have I1:Inv X a_ σ H { s with heap:=h' }:=I.kept (t':=s.toks) kp;have I2:Inv X a_ σ (upd H h'.objs.size (.tup ys)) { s with heap:=h'.push { cls:=.type "tuple",data:=.seq its.toArray } } :=
   I1.laid (t':=s.toks) (λb o e=>ag.get?_push_of_some _ e) (Qe _) (show bT X.prog X.w _ _ _ (.tup ys) from ⟨hz,its,0,r',ag.get?_push_size _ rfl⟩)
  exact ⟨.ref h'.objs.size,_,I2,rfl,q _ (I1.ei.fresh (Qe _))⟩
 ·obtain ⟨its,r',pl,hz⟩:=I.tuple hq;exact call_tuple_same pl ⟨.ref p,H,I,rfl,q⟩
def I_ (K:Rb) (T:String) (x:V) (H:Hp):Prop:=match x with
 | .str _=>T = "str"
 | .int _=>T = "int"
 | .ref p => (T = "list" /\ ∃ xs, dm K H p xs) ∨ (T = "tuple" /\ ∃ xs, dt K H p xs) ∨
     (T = "dict" /\ ((∃ kvs,H p=some (.dK kvs))∨∃ kvs,H p=some (.dT kvs)))∨(T = "set" /\ ∃ S n,H p=some (.set S n))
 | _=>False
theorem UO {σ:St} {x:V} {v:aa} (I:Inv X a_ σ H s) (r:bN x v) (ty:I_ X.K T x H) :
  s.TypeIs v T/\∀ a,v=.ref a->∃ ob,s.heap.get? a=some ob/\ob.dict=none:=by
 cases x with
 | str z =>
  obtain ⟨t,rfl⟩:=r;cases (show T = "str" from ty);exact ⟨Vr s z t,λ_ e=>nomatch e⟩
 | int i =>
  obtain ⟨t,rfl⟩:=r;cases (show T = "int" from ty);exact ⟨Il s i t,λ_ e=>nomatch e⟩
 | ref p =>
  cases r;rcases ty with ⟨rfl,xs,hq⟩ | ⟨rfl,xs,hq⟩ | ⟨rfl,hk⟩ | ⟨rfl,S,n,hk⟩
  ·obtain ⟨its,_,pl,_⟩:=I.list hq;refine ⟨pl.isList.typeIs,λa e=>?_⟩;cases e;obtain ⟨o,n,e,c,hd,_⟩:=pl;exact ⟨o,e,hd⟩
  ·obtain ⟨o,e,hc,hd⟩:∃ o,s.heap.get? p=some o/\o.cls=.type "tuple" /\ o.dict=none:=by
    rcases hq with hq | ⟨o,_,_,hk,hc,hd,_⟩
    ·obtain ⟨_,its,n,_,e⟩:=hq.ok I.ei;exact ⟨_,e,rfl,rfl⟩
    ·exact ⟨o,I.j4 p o hk,hc,hd⟩
   refine ⟨⟨o,e,hc⟩,λa e2=>?_⟩;cases e2;exact ⟨o,e,hd⟩
  ·have z:∃ o,s.heap.get? p=some o/\o.ExactDict:=by
    rcases hk with ⟨kvs,hk⟩ | ⟨kvs,hk⟩
    ·obtain ⟨_,_,_,_,o,_,_,e,ex,_⟩:=I.ei p _ hk;exact ⟨o,e,ex⟩
    ·obtain ⟨_,_,_,_,o,_,_,e,ex,_⟩:=I.ei p _ hk;exact ⟨o,e,ex⟩
   obtain ⟨o,e,ex⟩:=z;refine ⟨⟨o,e,ex.1⟩,λa e2=>?_⟩;cases e2;exact ⟨o,e,ex.2.1⟩
  ·obtain ⟨o,_,_,_,e,ex,_⟩:=I.ei p _ hk;refine ⟨⟨o,e,ex.1⟩,λa e2=>?_⟩;cases e2;exact ⟨o,e,ex.2.1⟩
 | _=>exact False.elim ty
def aMf (K:Rb) (T:String) (r:V->List V->Hp->VK->Prop) (to:TE):TE:=λσ H Q=>to σ H λx H1=>I_ K T x H1/\r x [] H1 Q
def F5 (K:Rb) (T:String) (r:V->List V->Hp->VK->Prop) (to:TE) (t:TA):TE:=λσ H Q=>to σ H λx H1=>I_ K T x H1/\t σ H1 λxs H2=>r x xs H2 Q
variable {o:ay} {t:TA} {id:String} {r:V->List V->Hp->VK->Prop}
theorem uS (pa:PlainAttrs T) (slot:Slot T name id) (CU:typeOf (.builtin id)=pure (.type "method_descriptor")) (hm:wd X id r) (ho:PE X o to)
  (pj:autoParam (attributeBase o name X.env (eval o X.env)=eval o X.env) L2.f') (o_:autoParam ((apos.endLine==gv.line)=true) L2.f'):PE X (.Call (.Attribute o name apos) [] [] gv) (aMf X.K T r to):=by
 intro a_ s σ H Q I h;refine wpAny_Call_method0_late pj o_ (fc (ho a_ s σ H _ I h) λv s1 e_=>?_);obtain ⟨x,H1,I1,r1,ty,q1⟩:=e_;obtain ⟨h1,h2⟩:=UO I1 r1 ty;exact ⟨T,id,pa,slot,CU,h1,h2,Calls.callWith_builtin rfl (PySem.evalArgs_none (hm a_ s1 σ H1 x [] v [] Q I1 r1 .nil q1))⟩
theorem kN (pa:PlainAttrs T) (slot:Slot T name id) (CU:typeOf (.builtin id)=pure (.type "method_descriptor")) (hm:wd X id r) (ho:PE X o to) (ha:PA X (e::es) t)
  (pj:autoParam (attributeBase o name X.env (eval o X.env)=eval o X.env) L2.f')
  (Cf:autoParam (((cj gv (ao (e::es) X.env)).all (λx=>!x.1) && (dg gv (cy [] X.env)).all (λx=>x.1.isSome)
   && decide ((e::es).length+([]:List c8).length+(if ([]:List c8).isEmpty then 0 else 1) < 30))=true) L2.f')
  (o_:autoParam ((apos.endLine==gv.line)=true) L2.f') (hs:autoParam (ao (e::es) X.env=(false,eval e X.env)::ao es X.env) L2.f') (yg:autoParam ((cj gv (ao es X.env)).any (·.1)=false) L2.f') :
  PE X (.Call (.Attribute o name apos) (e::es) [] gv) (F5 X.K T r to t):=by
 intro a_ s σ H Q I h;refine wpAny_Call_method_late pj Cf o_ rfl (fc (ho a_ s σ H _ I h) λv s1 e_=>?_);obtain ⟨x,H1,I1,r1,ty,q1⟩:=e_;obtain ⟨h1,h2⟩:=UO I1 r1 ty;refine ⟨T,id,pa,slot,CU,h1,h2,?_⟩;have hA:=ha gv a_ s1 σ H1 _ I1 q1;rw [hs] at hA ⊢;refine Calls.callWith_builtin (by assumption) (Calls.evalArgs_plain (fc hA λus s2 e_=>?_));obtain ⟨vs,H2,I2,r2,q2⟩:=e_;exact hm a_ s2 σ H2 x vs v us Q I2 r1 r2 q2
end
def YH (X:Cx) (id:String) (r:V->List V->Hp->VK->Prop):Prop :=
 ∀ (a_:List (ae×cb)) (s:ah) (σ:St) (H:Hp) (x:V) (xs:List V) (v:aa) (us:List aa) (Q:VK),Inv X a_ σ H s->bN x v->bG xs us->r x xs H Q ->
  aq (ar X.prog X.w) X.A (call (.builtin id) (v::us)) (EP X a_ σ Q) X.xe s
theorem bG.one {x:V} (r:bG [x] us):∃ u,us = [u]/\bN x u:=eU r
theorem bG.eraseIdx:∀ {xs:List V} {us:List aa} (i:Nat),bG xs us->bG (xs.eraseIdx i) (us.eraseIdx i)
 | _,_,_,.nil=>.nil
 | _,_,0,.cons _ t=>t
 | _,_,i+1,.cons r t=>.cons r (bG.eraseIdx i t)
theorem bG.reverse (h:bG xs us):bG xs.reverse us.reverse:=by
 induction h with
 | nil=>exact .nil
 | cons r t ih=>rw [Yz,Yz]; exact bG.append ih (.cons r .nil)
theorem bG.rep (h:bG xs us):∀ k:Nat,bG (List.replicate k xs).flatten (List.replicate k us).flatten
 | 0=>.nil
 | k+1=>by
  rw [Zy,Zy,Wb,Wb];exact bG.append h (bG.rep h k)
theorem yG:∀ (l:List α) (i:Nat),(l.eraseIdx i).length<=l.length
 | [],_=>Qe _
 | _::_,0=>Nat.le_succ _
 | _::r,i+1=>Nat.succ_le_succ (yG r i)
theorem rH (its:List aa):∀ (k:Nat) (acc:List aa),
  List.foldl (λx1 x2=>x1++x2) acc.toArray (List.replicate k its.toArray)=(acc++(List.replicate k its).flatten).toArray
 | 0,acc=>by simp
 | k+1,acc=>by
  have e:acc.toArray++its.toArray=(acc++its).toArray:=by simp
  have e2:(acc++its)++(List.replicate k its).flatten=acc++(List.replicate (k+1) its).flatten:=by grind
  rw [<- e2,<- rH its k (acc++its),<- e,Zy,Yo]
section
variable {σ:St} {l b:ae}
theorem Inv.vc {its':List aa} {f:Array aa->Array aa} (I:Inv X a_ σ H s) (hH:H l=some (.lst xs)) (e:s.heap.get? l=some { cls:=.type "list",data:=.seq its.toArray n }) (hf:f its.toArray=its'.toArray) (hv:bG ys its') (hz:ys.length<=af) :
  Inv X a_ σ (upd H l (.lst ys)) { s with heap:=s.heap.update l (cb.mapSeq f),toks:=t' }:=by
 have q:=PySem.IsL.update e f;rw [hf] at q;refine I.write (x:=l) (e:=l) (by rw [hH]; exact trivial) (.inl rfl) (λb' u hb hu=>(ag.get?_update_other s.heap (cb.mapSeq f) (Ne.symm hb)).trans hu) ⟨_,q⟩ ?_;exact ⟨hz,its',_,hv,q⟩
theorem Inv.Fp (I:Inv X a_ σ H s) (hv:bG ys its) (hz:ys.length<=af) :
  Inv X a_ σ (upd H s.heap.objs.size (.lst ys)) { s with heap:=s.heap.push { cls:=.type "list",data:=.seq its.toArray },toks:=t' } :=
 I.laid (λ_ _ q=>ag.get?_push_of_some _ q) (Qe _) ⟨hz,its,0,hv,ag.get?_push_size _ rfl⟩
theorem Inv.fresh (I:Inv X a_ σ H s):H s.heap.objs.size=none:=I.ei.fresh (Qe _)
theorem Inv.xp (I:Inv X a_ σ H s) (hH:H l=some (.lst xs)):xs.length<=af/\∃ (its:List aa) (n:Nat),bG xs its/\xs.length=its.length/\s.heap.get? l=some { cls:=.type "list",data:=.seq its.toArray n }:=by
 obtain ⟨z,its,n,r,e⟩:=I.ei l _ hH;exact ⟨z,its,n,r,r.length,e⟩
end
def zZ:V->List V->Hp->VK->Prop:=λx vs H Q=>∃ l xs y,x=.ref l/\vs = [y]/\H l=some (.lst xs)/\xs.length < af/\Q .fk (upd H l (.lst (xs++[y])))
theorem eI:YH X "list.append" zZ:=by
 intro a_ s σ H x vs v us Q I rx rv h;obtain ⟨l,xs,y,rfl,rfl,hH,hz,q⟩:=h;cases rx;obtain ⟨u,rfl,ru⟩:=rv.one;obtain ⟨z,its,n,r,hl,e⟩:=I.xp hH;refine Tg F.slot_list_append ⟨_,e,rfl⟩ F.entry_list_append (F.args_list_append_2 _ _) (PySem.list_append l its.toArray n u (by simp_all)) ⟨e,.fk,_,I.vc (its':=its++[u]) hH e 'b' (r.append (.cons ru .nil)) ?_,rfl,q⟩;rw [Qg,Zd];omega
def aJY:V->List V->Hp->VK->Prop:=λx vs H Q=>∃ l xs i k y,x=.ref l/\vs = [.int i]/\H l=some (.lst xs)/\-(2^63)<=i/\i < 2^63/\seqIndex? i xs.length=some k/\xs[k]?=some y/\Q y (upd H l (.lst (xs.eraseIdx k)))
theorem aFR:YH X "list.pop" aJY:=by
 intro a_ s σ H x vs v us Q I rx rv h;obtain ⟨l,xs,i,k,y,rfl,rfl,hH,h1,h2,hk,hy,q⟩:=h;cases rx;obtain ⟨u,rfl,ru⟩:=rv.one;obtain ⟨t,rfl⟩:=ru;obtain ⟨z,its,n,r,hl,e⟩:=I.xp hH;obtain ⟨w,hw,js⟩:=r.get hy;refine Tg F.slot_list_pop ⟨_,e,rfl⟩ F.entry_list_pop (F.args_list_pop_2 _ _)
  (MeetsSeq.list_pop_at l its.toArray n i t k w (fitsIndex_both h1 h2) (by simp_all) (by simp_all) (by simp_all)) ⟨e,?_⟩
 refine ⟨y,_,I.vc (its':=its.eraseIdx k) hH e ?_ (r.eraseIdx k) ?_,js,q⟩
 ·simp
 ·have:=yG xs k;omega
def Lz:R2:=λx y H Q=>∃ l b xs zs,x=.ref l/\y=.ref b/\H l=some (.lst xs)/\H b=some (.lst zs)/\xs.length+zs.length<=af/\∀ p,H p=none->Q (.ref p) (upd H p (.lst (xs++zs)))
theorem fE:gy X (binaryOp .Add) Lz:=by
 intro a_ s σ H x y v u Q I rx ry h;obtain ⟨l,b,xs,zs,rfl,rfl,hH,hB,hz,q⟩:=h;cases rx;cases ry;obtain ⟨z,its,n,r,hl,e⟩:=I.xp hH;obtain ⟨z2,Ac,n2,r2,ow,e2⟩:=I.xp hB;refine PySem.P.add_list e e2 ?_ (by simp_all);have ea:its.toArray++Ac.toArray=(its++Ac).toArray:=by simp
 rw [ea];exact ⟨.ref _,_,I.Fp (t':=s.toks) (r.append r2) (by rw [Qg]; omega),rfl,q _ I.fresh⟩
theorem VX (xs:List α) (k:Nat):(List.replicate k xs).flatten.length=k*xs.length:=by simp
end L2
namespace YM
open PySem PySem.W PySem.Calls PyProof.Rows
theorem tH {P:Params}:∀ (ns:LIn) (vs:List aa),WellAll P h vs (ns.map WData.int)->IntsAre vs ns:=by
 intro ns
 induction ns with
 | nil =>
  intro vs w;rw [Yh] at w;cases w;exact .nil
 | cons n ns ih =>
  intro vs w;rw [Jb] at w;cases w with
  | cons a b =>
   cases a;exact .cons _ _ (ih _ b)
theorem aEL {l:OpenLaw} (hn:l.most=some n) {P:Params} {args:List WData} {vals:List aa} (Ae:l.row.toRowW.claim.pre args=true) (Ki:WellAll P h vals args) :
  ∃ a vs ns,vals = [aa.ref a]/\args = [WData.list (ns.map WData.int)]/\h.get? a=some { cls:=.type "list",data:=.seq vs.toArray }/\IntsAre vs ns/\ns.length<=n:=by
 have Ω:WShape.hasAll [] args [.list .int]=true:=(pre_splitW Ae).1;have hc:l.pre.holds [] { args:=args }=true:=(pre_splitW Ae).2;obtain ⟨d,r,rfl,h1,h2⟩:=hasAllW_cons Ω;obtain rfl:=hasAllW_nil h2;obtain ⟨xs,rfl,h3⟩:=hasW_list h1;obtain ⟨ns,rfl⟩:=items_int h3;have hlen:ns.length<=n:=by
  unfold OpenLaw.pre at hc;have h4:(WTm.not (.lt (.lit (.int (n:Int))) (.len (.arg 0)))).holds [] { args:=[.list (ns.map .int)] }=true:=by
   have h4:=(holds_andW hc).1;rw [hn] at h4;exact h4
  have h5:=condW_of h4 (w_not (w_lt w_lit (w_len_list (w_arg rfl))));rw [Qa] at h5;refine Nat.le_of_not_lt λq=>?_;have q':(n:Int) < ((ns.length:Nat):Int):=by omega
  first
   | (rw [decide_eq_true q'] at h5; exact absurd h5 'c')
   | (simp at h5; omega)
 cases Ki with
 | cons w1 w2 =>
  cases w2;cases w1 with
  | list ho Cp=>exact ⟨_,_,ns,rfl,rfl,ho,tH ns _ Cp,hlen⟩
theorem aEM (l:OpenLaw) (args:List WData):l.row.toRowW.claim.post args (.bool true) args=true :=
 postW_of (r:=l.row.toRowW) (X:=(true==true))
  (show WShape.has [] (.bool true) .bool=true by first | rfl | decide | simp [WShape.has,WShape.arms,WShape.armsAll])
  (show (WTm.eq .res (.lit (.bool true))).value [] { args:=args,res:=some (.bool true),after:=args }=some (.bool (true==true)) from w_eq_bool (w_res rfl) w_lit) rfl
theorem p8 {l:OpenLaw} {q:bq} {d:DefRec} (hn:l.most=some n) (El:d.params.defaults = []) (call:∀ (w:bx) (jg gi:ah) (mg mb:aj->Option aa) (fa:ae) (o:cb) (pm cd doc:aa) (a:ae) (vs:List aa) (ns:LIn),
   Ground q loose [] XP w jg mg mb gi.heap->YP w gi.heap ->
   gi.heap.get? fa=some o->o.data=.func (docDef d.name d.params d.body d.scope pm cd doc)->gi.heap.CodeRec cd d.name->mg d.name=some (.ref fa) ->
   gi.heap.get? a=some { cls:=.type "list",data:=.seq vs.toArray }->IntsAre vs ns->ns.length<=n->gi.gens = #[] ->
   codeAny (ar l.prog w) callerA (.call (.ref fa) ⟨[.ref a],[]⟩) (λr s'=>r=.ok (.ret (.bool true))/\OldK gi.heap s'.heap/\s'.os=gi.os/\AllBare s'.gens) gi) :
  WalkO q loose XP YP l.row.toRowW d [] (λf vs=>Mv f vs):=by
 intro w jg gi mg mb G Y fa o pm cd doc dV kV ho hd ku hD AA hg args vals as Ae aaj CW Ki PK;obtain rfl:dV=.none:=Dflts.none hD El;obtain rfl:kV=.none:=Dflts.noKw hD;obtain ⟨a,vs,ns,rfl,rfl,B9,hints,hlen⟩:=aEL hn Ae Ki;refine enter_call (Ux (call w jg gi mg mb fa o pm cd doc a vs ns G Y ho (fd_plain hd) ku AA B9 hints hlen hg) λr s' hq=>?_);obtain ⟨rfl,h2,h3,h4⟩:=hq;exact ⟨.inl ⟨.bool true,.bool true,[],rfl,λ_=>rfl,.bool true,aEM l _,λ_=>⟨List.Pairwise.nil,λ_ hm=>(nomatch hm)⟩⟩,h2,h3,h4⟩
section
variable {K:Frag}
end
end YM
namespace L2
open PySem PySem.Spec PyProof.Rows
theorem yH:∀ {vs:List aa} {ns:LIn},IntsAre vs ns->bG (ns.map V.int) vs
 := by
 intro vs ns h
 induction h with
 | nil=>exact .nil
 | cons n t h ih=>exact .cons ⟨t,rfl⟩ ih
noncomputable def gU (s:ax):Arguments:=match s with
 | .FunctionDef _ a _ _ _ _ _ _ _ _=>a
 | _=>{ posonlyargs:=[],args:=[],vararg:=none,kwonlyargs:=[],kw_defaults:=[],kwarg:=none,defaults:=[] }
noncomputable def dQ (s:ax):List ax:=match s with
 | .FunctionDef _ _ b _ _ _ _ _ _ _=>b
 | _=>[]
noncomputable def aF (s:ax):dc:=match s with
 | .FunctionDef _ _ _ _ _ _ sc _ _ _=>sc
 | _=>{ kind:=.function,names:=[],isGenerator:=false,isCoroutine:=false }
abbrev d_:xj:=λ_ _ _ _ _ _=>False
abbrev E0:XK:=λ_ _ _=>False
theorem hX:jI d_ X E0:=λ_ _ _ _ _ _ _ h=>h.elim
structure qk (K:Rb) (x qual:aj) (st:ax) (f:ae) (fd:bh):Prop where
 ex:∃ (oc:aa) (od:Option ae) (kV doc pm:aa) (an:Option ae) (fe ct:aa) (sv:Array (Option aa)),
  fd=Ta x qual (gU st) (dQ st) (aF st) .none kV doc pm an fe ct/\K.lookup f=some ⟨oc,od,.func fd,sv⟩/\Ub K fe qual=true
 kp:Ri K (.ref f)=true
theorem qk.ok {x:aj} {st:ax} {k:Nat} (F:qk K x qual st f fd) (S:b_ N ps (aF st)) (len:∀ vs H Q E,sp vs H Q E->vs.length=ps.length) (iu:∀ (fe:aa) (A:bz) (outer:List cz) (s:ah) (H:Hp) (vs:List V) (Q:VK) (E:XK),dj k (A.deeper (envOfC qual (aF st) s.heap.objs.size f fe))->sp vs H Q E ->
   ∃ t,nc (cB d_ P w K mg base N qual (aF st) f fe A outer s H E).gf (dQ st) t/\t { nx:=λ_ H'=>Q .fk H',rt:=Q } (start N vs) H):c_ P w K mg base d_ (k+1) f fd ps sp:=by
 obtain ⟨oc,od,kV,doc,pm,an,fe,ct,sv,rfl,lk,ku⟩:=F.ex;refine LR lk ku S len λA outer s H vs Q E hr i9=>?_;obtain ⟨t,h,q⟩:=iu fe A outer s H vs Q E hr i9;exact ⟨t,h.gf,q⟩
theorem qk.oK {x:aj} {st:ax} {k:Nat} (F:qk K x qual st f fd) (S:b_ N ps (aF st)) (iu:∀ (fe:aa) (A:bz) (outer:List cz) (s:ah) (H:Hp) (vs:List V) (Q:VK) (E:XK),dj k (A.deeper (envOfC qual (aF st) s.heap.objs.size f fe))->sp vs H Q E ->
   ∃ t,nc (cB d_ P w K mg base N qual (aF st) f fe A outer s H E).gf (dQ st) t/\t { nx:=λ_ H'=>Q .fk H',rt:=Q } (start N vs) H) (len:autoParam (∀ vs H Q E,sp vs H Q E->vs.length=ps.length) L2.Ou):c_ P w K mg base d_ (k+1) f fd ps sp:=F.ok S len iu
theorem qk.binds {x:aj} {st:ax} (F:qk K x qual st f fd) (h:∀ (kV doc pm:aa) (an:Option ae) (fe ct:aa) (us:List aa),us.length=ps.length->c7 (Ta x qual (gU st) (dQ st) (aF st) .none kV doc pm an fe ct) ⟨us,[]⟩=pure (ps.zip us)):dU K fd ps []:=by
 obtain ⟨oc,od,kV,doc,pm,an,fe,ct,sv,rfl,lk,ku⟩:=F.ex;exact .all (h kV doc pm an fe ct)
theorem HQ {x:aj} {st:ax} {kV:aa} (l:K.lookup f=some ⟨oc,od,.func (Ta x qual (gU st) (dQ st) (aF st) .none kV doc pm an fe ct),sv⟩) (c:Ub K fe qual=true) (k:Ri K (.ref f)=true):qk K x qual st f (Ta x qual (gU st) (dQ st) (aF st) .none kV doc pm an fe ct):=⟨⟨oc,od,kV,doc,pm,an,fe,ct,sv,rfl,l,c⟩,k⟩
theorem dS {k:Nat} (hr:dj k A):A.units+1 < c9:=Xo (Nat.add_le_add_left 'b' _) hr.units
theorem pv (i:Nat) {x:aj} (hN:autoParam (X.N[i]?=some x) L2.f') (hv:H_ X.env.scope x:=by first | exact Or.inl rfl | exact Or.inr eh | exact Or.inr (Or.inr rfl)) (hd:autoParam ((x==("__debug__" : aj))=false) L2.iy) (ku:autoParam ((x==("__classdict__" : aj))=false) L2.iy):PE X (.Name x pos) (kW i):=UL hN hv hd ku
theorem iQ {A:Prop} (h:B):if false=true then A else B:=by assumption
theorem iE {A:Prop} (h:A):if true=true then A else B:=by assumption
theorem eP {c A:Prop} [Decidable c] (h1:c->A) (h2:¬ c->B):if c then A else B:=by simp_all
def aD (H H':Hp):Prop:=∀ b o,H b=some o->H' b=some o
theorem aD.refl (H:Hp):aD H H:=λ_ _ h=>h
theorem aD.trans (a:aD H H1) (b:aD H1 H2):aD H H2:=λc o h=>b c o (a c o h)
theorem aD.free (e:aD H H') {l:ae} (h:H' l=Option.none):H l=Option.none:=by
 cases q:H l with
 | none=>rfl
 | some o =>
  rw [e l o q] at h;cases h
noncomputable def fM (env:cz):List (aj×bo)->List (aj×ae)->List (aj×ae)
 | [],acc=>acc
 | (n,k)::r,acc=>if k==.free then (match env.cells.lookup n with | some c=>fM env r ((n,c)::acc) | none=>fM env r acc) else fM env r acc
theorem XD {env:cz}:∀ (names:List (aj×bo)) (acc:List (aj×ae)),(∀ y∈names,y.2=.free->∃ c,env.cells.lookup y.1=some c) ->
  (forIn names acc λ(x:aj×bo) (r:List (aj×ae))=>(match x with
   | (name,kind)=>if (kind==bo.free)=true then (do let a<-cellOf env name; pure (ForInStep.yield ((name,a)::r))) else pure (ForInStep.yield r):Sem (ForInStep (List (aj×ae)))))=(pure (fM env names acc):Sem _)
 | [],acc,_=>rfl
 | (n,k)::r,acc,h=>by
  have ih:=λacc=>XD r acc λy hy=>h y (Qj _ hy);rw [Wp];by_cases hk:(k==bo.free)=true
  ·obtain ⟨c,hc⟩:=h (n,k) Qk (by simpa using hk);have e1:fM env ((n,k)::r) acc=fM env r ((n,c)::acc):=by
    show (if k==.free then _ else _)=_;rw [if_pos hk]; simp only at hc; rw [hc]
   simp only at hc;rw [e1,<- ih];simp only [hk,if_true,cellOf,hc];rfl
  ·have e1:fM env ((n,k)::r) acc=fM env r acc:=by
    show (if k==.free then _ else _)=_;rw [if_neg hk]
   rw [e1,<- ih];simp only [hk,if_false];rfl
theorem UN {env:cz} (h:∀ y∈scope.names,y.2=.free->∃ c,env.cells.lookup y.1=some c):closureFor scope env=pure (fM env scope.names []):=by
 unfold closureFor;exact (congrArg (λz=>z >>= λr=>pure r) (XD scope.names [] h)).trans rfl
theorem nB {env:cz}:∀ (names:List (aj×bo)) (acc:List (aj×ae)) (n:aj) (c:ae),(n,c)∈fM env names acc->(n,c)∈acc∨env.cells.lookup n=some c
 | [],_,_,_,h=>.inl h
 | (m,k)::r,acc,n,c,h=>by
  by_cases hk:(k==bo.free)=true
  ·rw [show fM env ((m,k)::r) acc=(match env.cells.lookup m with | some c=>fM env r ((m,c)::acc) | none=>fM env r acc) from if_pos hk] at h;cases e:env.cells.lookup m with
   | none=>rw [e] at h; exact nB r acc n c h
   | some d =>
    rw [e] at h;rcases nB r _ n c h with q | q
    ·rcases Ql.mp q with q | q
     ·simp_all
     ·exact .inl q
    ·exact .inr q
  ·rw [show fM env ((m,k)::r) acc=fM env r acc from if_neg hk] at h;exact nB r acc n c h
theorem nC {env:cz}:∀ (names:List (aj×bo)) (acc:List (aj×ae)) (n:aj),((∃ c,(n,c)∈acc)∨((n,bo.free)∈names/\∃ c,env.cells.lookup n=some c))->∃ c,(n,c)∈fM env names acc
 | [],_,_,h=>by
  rcases h with h | ⟨h,_⟩
  ·exact h
  ·cases h
 | (m,k)::r,acc,n,h=>by
  by_cases hk:(k==bo.free)=true
  ·rw [show fM env ((m,k)::r) acc=(match env.cells.lookup m with | some c=>fM env r ((m,c)::acc) | none=>fM env r acc) from if_pos hk];cases e:env.cells.lookup m with
   | none =>
    refine nC r acc n ?_;rcases h with h | ⟨h,c,hc⟩
    ·exact .inl h
    ·rcases Ql.mp h with h | h
     ·grind
     ·exact .inr ⟨h,c,hc⟩
   | some d =>
    refine nC r _ n ?_;rcases h with ⟨c,h⟩ | ⟨h,c,hc⟩
    ·exact .inl ⟨c,Qj _ h⟩
    ·rcases Ql.mp h with h | h
     ·cases h; exact .inl ⟨d,Qk⟩
     ·exact .inr ⟨h,c,hc⟩
  ·rw [show fM env ((m,k)::r) acc=fM env r acc from if_neg hk];refine nC r acc n ?_;rcases h with h | ⟨h,c,hc⟩
   ·exact .inl h
   ·rcases Ql.mp h with h | h
    ·grind
    ·exact .inr ⟨h,c,hc⟩
theorem kO:∀ {l:List (aj×β)} {a:aj} {b:β},l.lookup a=some b->(a,b)∈l:=PySem.mem_of_lookup_some
theorem nD:∀ {l:List (aj×β)} {a:aj} {b:β},(a,b)∈l->∃ c,l.lookup a=some c
 | (k,v)::l,a,b,h=>by
  rw [Jv];by_cases e:(a==k)=true
  ·rw [e]; exact ⟨v,rfl⟩
  ·have e':(a==k)=false:=by simpa using e
   rw [e'];rcases Ql.mp h with h | h
   ·simp_all
   ·exact nD h
theorem kA {env:cz} (x:aj):∀ (names:List (aj×bo)),
  (names.map λ(n,k)=>if (k==bo.free && env.scope.kind==.function && env.kindOf n==some .cell) then (n,bo.cell) else (n,k)).lookup x =
   (names.lookup x).map λk=>if (k==bo.free && env.scope.kind==.function && env.kindOf x==some .cell) then bo.cell else k
 | []=>rfl
 | (n,k)::r=>by
  have ih:=kA (env:=env) x r;rw [Jb];by_cases e:(x==n)=true
  ·have en:x=n:=by simpa using e
   subst en;dsimp only;by_cases c:(k==bo.free && env.scope.kind==.function && env.kindOf x==some .cell)=true
   ·rw [if_pos c,Jv,Jv,e];simp only [Xz,c,if_true]
   ·rw [if_neg c,Jv,Jv,e];simp only [Xz,c];rfl
  ·have e':(x==n)=false:=by simpa using e
   dsimp only;by_cases c:(k==bo.free && env.scope.kind==.function && env.kindOf n==some .cell)=true
   ·rw [if_pos c,Jv,Jv,e']; exact ih
   ·rw [if_neg c,Jv,Jv,e']; exact ih
noncomputable def zc (z:Option aj) (C:ae):List (aj×ae):=match z with
 | none=>[]
 | some x=>[(x,C+1)]
section
variable {x:aj}
theorem lV (h:(zc z C++cl).lookup x=some c):(z=some x/\c=C+1)∨(z≠some x/\cl.lookup x=some c):=by
 cases z with
 | none=>exact .inr ⟨λq=>(by cases q),h⟩
 | some z0 =>
  have h:((z0,C+1)::cl).lookup x=some c:=h;rw [Jv] at h;cases e:x==z0 with
  | true=>rw [e] at h; exact .inl ⟨by rw [show x=z0 by simpa using e],(Option.some.inj h).symm⟩
  | false=>rw [e] at h; exact .inr ⟨λq=>(by simp_all),h⟩
theorem TN (h:z≠some x):(zc z C++cl).lookup x=cl.lookup x:=by
 cases z with
 | none=>rfl
 | some z0 =>
  show ((z0,C+1)::cl).lookup x=_;rw [Jv,show (x==z0)=false by simpa using λq=>h (by rw [q])]
theorem aK7:(zc (some x) C++cl).lookup x=some (C+1):=by
 show ((x,C+1)::cl).lookup x=_;rw [Jv,show (x==x)=true by simp]
end
noncomputable def bW (X:Cx) (scope:dc) (z:Option aj) (N:List aj) (C:ae) (s0:ah) (H0:Hp) (fp:List ae):Cx where
 prog:=X.prog
 w:=X.w
 K:=X.K
 mg:=X.mg
 base:=X.base
 A:=X.A
 N:=N
 jg:=s0
 u4:=H0
 env:={ compEnvC scope (fM X.env scope.names []) C X.env with cells:=zc z C++fM X.env scope.names [] }
 outer:=X.stack
 stack:=X.stack
 ex:=fp
 fn:=λy=>z==some y
 calm:=X.calm
 pn:=[]
 xe:=λ_ _=>False
noncomputable def oA (sc scope:dc) (z:Option aj) (own:List aj) (ff:List aj):Bool :=
 scope.kind==.function && scope.names.all (λy=>y.2 !=.cell || z==some y.1) && scope.names.all (λy=>y.2 !=.local || scope.names.lookup y.1==some .local) &&
 scope.names.all (λy=>y.2 !=.free || sc.names.lookup y.1==some .cell || sc.names.lookup y.1==some .free) && decide (own++ff).Nodup &&
 ff.all (λx=>scope.names.lookup x==some .free) && scope.names.all (λy=>y.2 !=.free || z !=some y.1)
noncomputable def h_ (own:Nat) (fr:List Nat) (σ:St):St:=List.replicate own none++fr.map λj=>(σ[j]?).join
structure fz (X:Cx) (scope:dc) (z:Option aj) (own:List aj) (fr:List Nat) (ff:List aj):Prop where
 ck:oA X.env.scope scope z own ff=true
 ix:∀ (k:Nat) (x:aj),ff[k]?=some x->∃ j:Nat,fr[k]?=some j/\X.N[j]?=some x
 len:fr.length=ff.length
 cf:∀ z0,z=some z0->(∀ (n:Nat) (cl:List (aj×ae)),cellsFrom n scope.names cl=(z0,n)::cl)/\∀ h:ag,pushCells h scope.names=h.push { cls:=.type "cell",data:=.cell none }
theorem fz.parts (S:fz X scope z own fr ff):scope.kind=.function/\(∀ y∈scope.names,y.2=.cell->z=some y.1)/\(∀ y∈scope.names,y.2=.local->scope.names.lookup y.1=some .local) /\
  (∀ y∈scope.names,y.2=.free->X.env.scope.names.lookup y.1=some .cell∨X.env.scope.names.lookup y.1=some .free)/\(own++ff).Nodup/\(∀ x∈ff,scope.names.lookup x=some .free)/\∀ y∈scope.names,y.2=.free->z≠some y.1:=by
 have h:=S.ck;unfold oA at h;simp only [Qt,Jo,decide_eq_true_eq,Wq,bne_iff_ne,ne_eq,beq_iff_eq] at h;obtain ⟨⟨⟨⟨⟨⟨h1,h2⟩,h3⟩,h4⟩,h5⟩,h7⟩,h9⟩:=h;exact ⟨h1,λy hy e=>(h2 y hy).resolve_left λq=>q e,λy hy e=>(h3 y hy).resolve_left λq=>q e,λy hy e=>by
  rcases h4 y hy with (q | q) | q
  ·simp_all
  ·exact .inl q
  ·exact .inr q,h5,h7,λy hy e=>(h9 y hy).resolve_left λq=>q e⟩
theorem fz.env (S:fz X scope z own fr ff) {Q:cz->ah->Prop} (h:∀ mv tk,mv.Ns s.heap.objs.size (λ_=>none)->(∀ b o,s.heap.get? b=some o->mv.get? b=some o)->(z≠none->mv.IsCell (s.heap.objs.size+1) none)->Q (newEnv scope s.heap.objs.size X.env.globals (zc z s.heap.objs.size++fM X.env scope.names []) X.env.qual none .none (some X.env) builtinsNs) { s with heap:=mv,toks:=tk }) :
  aq M A (newFunctionEnv scope X.env.globals (fM X.env scope.names []) [] X.env.qual none .none (some X.env)) Q E s:=by
 obtain ⟨p1,p2,_⟩:=S.parts;cases z with
 | none=>exact Rag (λy hy e=>by cases p2 y hy e) (by intro y hy; simp at hy) (λmv k_ Gi=>h mv _ k_ (λb o e=>Gi.extBut b o (Qy (ag.lt_size e)) (ag.get?_push_of_some _ e)) λq=>absurd rfl q) p1
 | some z0 =>
  obtain ⟨cf,pc⟩:=S.cf z0 rfl;simp only [newFunctionEnv,Qak,if_true];refine Ra (wpAny_alloc (Ra (wpAny_layCells _ (λname kind cells=>by cases o?:kind==bo.cell <;> simp [o?]) _ _ _ _ ?_)));rw [cf,pc,show ({ s with heap:=s.heap.push { cls:=.type "dict",data:=.dict #[] } }:ah).heap.objs.size=s.heap.objs.size+1 from ag.size_push ..];rw [Yw];refine Ra (Rc (Rc (h _ s.toks ((ag.Ns.new s.heap (.type "dict")).push _) (λb o e=>ag.get?_push_of_some _ (ag.get?_push_of_some _ e)) λ_=>⟨{ cls:=.type "cell",data:=.cell none },by
   have e:=ag.get?_push_size (s.heap.push { cls:=.type "dict",data:=.dict #[] }) (o:={ cls:=.type "cell",data:=.cell none }) rfl;rw [ag.size_push] at e;exact e,rfl⟩)))
theorem fz.Ol (S:fz X scope z own fr ff) (σ:St):(h_ own.length fr σ).length=(own++ff).length:=by
 unfold h_;rw [Qg,Qg,Xn,Qa,S.len]
theorem aFT {σ:St} {h1:ag} {tk:Nat} {D:ae} {oD:cb} {m:aj->Option aa} (I:Inv X a_ σ H s) (S:fz X scope z own fr ff) (ox:∀ b∈fp,mV X a_ H b) (gh:∀ b∈fp,b < s.heap.objs.size) (hC:s.heap.objs.size<=C) (hn:h1.Ns C m) (hk:∀ b o,s.heap.get? b=some o->h1.get? b=some o) (hD:s.heap.objs.size<=D) (zt:D≠C) (Kt:h1.get? D=some oD) (KO:∀ v,oD.data≠.cell v) (tm:z≠none->h1.IsCell (C+1) none) :
  Inv (bW X scope z (own++ff) C s H fp) [(D,oD)] (h_ own.length fr σ) H { s with heap:=h1,toks:=tk }:=by
 obtain ⟨p1,p2,p3,p4,p5,p7,p9⟩:=S.parts;have below:∀ b,b < s.heap.objs.size->b≠C:=λb hb z=>Jk _ (Qn (z ▸ hb) hC);have ka:∀ x c,(fM X.env scope.names []).lookup x=some c->X.env.cells.lookup x=some c:=λx c e=>by
  rcases nB _ _ _ _ (kO e) with q | q
  ·cases q
  ·exact q
 have Sw:∀ x c,X.env.cells.lookup x=some c->c < s.heap.objs.size:=λx c e=>by
  obtain ⟨v,q⟩:=I.cell x c e;exact q.lt
 have NK:∀ b∈fp,b∉gr X.stack:=λb hb z=>by
  obtain ⟨_,f1,f2,_⟩:=ox b hb;rcases Ql.mp (I.j3 b z) with e | e
  ·exact f1 e
  ·exact f2 e
 have Dfs:D∉gr X.stack:=λz=>by
  rcases Ql.mp (I.j3 D z) with e | e
  ·exact Jk _ (Qn (e ▸ I.lt:D < _) hD)
  ·exact I.B0 hD e
 refine ⟨⟨I.ok.mod,p1,I.ok.glob,I.ok.blt,hC,λx y c e1 e2=>?inj,λx hx=>?has,λx c e e2=>?AU,I.ok.hd,I.ok.frames,.inl rfl,λb hb=>?EB,I.bs,Qr I.ok.zv I.sz,λb o e hb=>?nz,NK,I.stack,I.jk⟩,
  rfl,I.bare,Un.kept hk,⟨m,hn,λi x v e1 e2 e3=>?loc⟩,λx c e=>?cell,I.ei.fresh hC,λx c e=>?gm,λp hp=>?pin,I.ei.kept hk,S.Ol σ⟩
 case inj =>
  have EF:(zc z C++fM X.env scope.names []).lookup x=some c:=e1;have qi:(zc z C++fM X.env scope.names []).lookup y=some c:=e2;rcases lV EF with ⟨r1,rfl⟩ | ⟨n1,q1⟩ <;> rcases lV qi with ⟨r2,e⟩ | ⟨n2,q2⟩
  ·exact Option.some.inj (r1.symm.trans r2)
  ·exact absurd (Sw _ _ (ka _ _ q2)) (Nat.not_lt.mpr (Xx hC))
  ·subst e;exact absurd (Sw _ _ (ka _ _ q1)) (Nat.not_lt.mpr (Xx hC))
  ·exact I.ok.inj x y c (ka x c q1) (ka y c q2)
 case has =>
  have kr:(relabel scope X.env).names.lookup x=some .cell∨(relabel scope X.env).names.lookup x=some .free:=hx;show ∃ c,(zc z C++fM X.env scope.names []).lookup x=some c;by_cases hz:z=some x
  ·rw [hz,aK7];exact ⟨_,rfl⟩
  ·rw [TN hz];have hl:(relabel scope X.env).names.lookup x=_:=kA (env:=X.env) x scope.names;rw [hl] at kr;cases e:scope.names.lookup x with
   | none =>
    rw [e] at kr;rcases kr with z | z <;> cases z
   | some k =>
    have jb:=kO e;have o!:k=.free:=by
     rw [e] at kr;simp only [Xz,Option.some.injEq] at kr;by_cases c:(k==bo.free && X.env.scope.kind==.function && X.env.kindOf x==some .cell)=true
     ·simp_all
     ·rw [if_neg c] at kr;rcases kr with z | z
      ·exact absurd (p2 _ jb z) hz
      ·exact z
    subst o!;obtain ⟨c,hc⟩:=I.ok.has x (p4 _ jb rfl);obtain ⟨c',j8⟩:=nC (env:=X.env) scope.names [] x (.inr ⟨jb,c,hc⟩);exact nD j8
 case AU =>
  have e':(z==some x)=true:=e;have qi:(zc z C++fM X.env scope.names []).lookup x=some c:=e2;rcases lV qi with ⟨_,rfl⟩ | ⟨n1,_⟩
  ·exact Xx hC
  ·simp_all
 case EB =>
  refine ⟨below b (gh b hb),λx c e=>?_⟩;have e':(zc z C++fM X.env scope.names []).lookup x=some c:=e;rcases lV e' with ⟨_,rfl⟩ | ⟨_,q⟩
  ·exact λz=>Jk _ (Qn (gh b hb) (by rw [<- z]; exact Xx hC))
  ·exact (ox b hb).2.2.2.2.1 x c (ka x c q)
 case nz =>
  rcases (ox b hb).2.2.2.1 with z | z
  ·exact I.ok.nz b o e z
  ·exact absurd (Qn (ag.lt_size (I.ok.bs b o e).1) z) (Jk _)
 case loc =>
  have EF:(own++ff)[i]?=some x:=e1;have qi:(h_ own.length fr σ)[i]?=some (some v):=e2;unfold h_ at qi;by_cases hi:i < own.length
  ·rw [Qq (by simp_all),Zj] at qi;rw [if_pos hi] at qi;cases qi
  ·rw [Qx (by simp_all)] at qi;rw [Qx 'a'] at EF;rw [Xn,Qh] at qi;obtain ⟨j,zl,Ee⟩:=S.ix _ _ EF;rw [zl] at qi;simp only [Xz,Option.some.injEq] at qi;have jw:σ[j]?=some (some v):=by
    cases q:σ[j]? with
    | none=>rw [q] at qi; cases qi
    | some w=>rw [q] at qi; exact congrArg some qi
   have yd:=p7 x (Qd EF);have jb:=kO yd;have ψ:z≠some x:=p9 _ jb rfl;have kx:=p4 _ jb rfl;have Y6:H_ X.env.scope x:=by
    rcases kx with z | z
    ·exact .inr (.inl z)
    ·exact .inr (.inr z)
   obtain ⟨m0,k!,n!⟩:=I.loc;obtain ⟨u,ru,lk⟩:=n! j x v Ee jw Y6;refine ⟨u,ru,.inr ⟨?_,?_⟩⟩
   ·show (relabel scope X.env).names.lookup x=some .cell∨(relabel scope X.env).names.lookup x=some .free;have hl:(relabel scope X.env).names.lookup x=_:=kA (env:=X.env) x scope.names;rw [hl,yd];simp only [Xz,Option.some.injEq];by_cases c:(bo.free==bo.free && X.env.scope.kind==.function && X.env.kindOf x==some .cell)=true
    ·rw [if_pos c]; exact .inl rfl
    ·rw [if_neg c]; exact .inr rfl
   ·rcases lk with ⟨kl,_⟩ | ⟨_,c,hc,ig⟩
    ·have ο:X.env.scope.names.lookup x=some .local:=kl;rcases kx with z | z <;> (have z':X.env.scope.names.lookup x=_:=z; rw [ο] at z'; cases z')
    ·obtain ⟨c',j8⟩:=nC (env:=X.env) scope.names [] x (.inr ⟨jb,c,hc⟩);obtain ⟨c2,AK⟩:=nD j8;have ec:c2=c:=by
      have:=ka x c2 AK;rw [hc] at this;exact (Option.some.inj this).symm
     subst ec;obtain ⟨oc,ho,hd⟩:=ig;exact ⟨c2,(TN ψ).trans AK,oc,hk _ _ ho,hd⟩
 case cell =>
  have e':(zc z C++fM X.env scope.names []).lookup x=some c:=e;rcases lV e' with ⟨_,rfl⟩ | ⟨_,q⟩
  ·exact ⟨none,tm λq=>by simp_all⟩
  ·obtain ⟨v,o,ho,hd⟩:=I.cell x c (ka x c q);exact ⟨v,o,hk _ _ ho,hd⟩
 case gm =>
  have e':(zc z C++fM X.env scope.names []).lookup x=some c:=e;rcases lV e' with ⟨_,rfl⟩ | ⟨_,q⟩
  ·exact I.ei.fresh (Xx hC)
  ·exact I.gm x c (ka x c q)
 case pin =>
  have Gq:p∈([]:List (ae×cb))++[(D,oD)]:=hp;simp only [Yp,Qi] at Gq;subst Gq;exact ⟨Kt,I.ei.fresh hD,zt,Dfs,KO⟩
structure gq (P:bq) (w:bx) (A:bz) (e:ay) (d:Nat) (tg iter:ay) (ifs:List ay) (bd:cz->ae->Sem Unit):Prop where
 CF:∀ (it:aa) (D:ae) (env:cz),A.under (.compLoop e d it (.ref D) env)=A/\(ar P w).den (.compLoop e d it (.ref D) env)=(compTurn e d it (.ref D) env).onRaise (λx=>do noteFrame x env; theTreesLotGoes x)
 turn:∀ (it:aa) (D:ae) (env:cz),compTurn e d it (.ref D) env=(do
   standAt iter.pos
   match<-pyNext it with
   | none=>pure (.done .next)
   | some v =>
    letOwnedTupleGo tg it v
    assign tg env v
    let mut ok:=true
    for c in ifs do
     if ok then ok<-isTrue c env (eval c env)
    if ok then bd env D
    again (.compLoop e d it (.ref D) env))
 start:∀ {R:Result->ah->Prop} {s:ah} {it acc:aa} {env:cz},codeAny (ar P w) A (.compLoop e d it acc env) R s->aq (ar P w) A (pyIter it) (λDU s'=>codeAny (ar P w) A (.compLoop e d DU acc env) R s') (notedBy (ar P w) A env λx s'=>R (.error x) s') s->codeAny (ar P w) A (.compStart e d it acc env) R s
structure iw {α:Type} (P:bq) (w:bx) (A:bz) (na:Sem aa) (a0:α) (Ok:ae->α->ag->Prop):Prop where
 new:∃ o0:cb,(∀ v,o0.data≠.cell v)/\o0.isFreed=false/\(∀ (h:ag) D,h.get? D=some o0->Ok D a0 h)/\∀ {Q:aa->ah->Prop} {E:aa->ah->Prop} {s:ah},Q (.ref s.heap.objs.size) { s with heap:=s.heap.push o0 }->aq (ar P w) A na Q E s
 keep:∀ {D:ae} {a:α} {h h':ag},Ok D a h->(∀ o,h.get? D=some o->h'.get? D=some o)->Ok D a h'
 obj:∀ {D:ae} {a:α} {h:ag},Ok D a h->∃ o,h.get? D=some o/\∀ v,o.data≠.cell v
theorem aBe {d:Nat} {D:ae} {target:ay} {it:aa} {env:cz} (LO:gq prog w A e d target iter ifs bd) (I:Nat->ah->Prop) (turn:∀ n s,I n s->aq (ar prog w) A (pyNext it) (λr gi=>match r with
   | none=>R (.ok .next) gi
   | some v=>aq (ar prog w) A (letOwnedTupleGo target it v) (λ_ OY=>aq (ar prog w) A (assign target env v) (λ_ kc =>
     aq (ar prog w) A (forIn ifs true λc r=>if r=true then do let ok<-isTrue c env (eval c env); pure (ForInStep.yield ok) else pure (ForInStep.yield r)) (λok An =>
      if ok=true then aq (ar prog w) A (bd env D) (λ_ OS=>∃ m,m < n/\I m OS) (λ_ _=>False) An
      else ∃ m,m < n/\I m An) (λ_ _=>False) kc) (λ_ _=>False) OY) (λ_ _=>False) gi) (λ_ _=>False) s) (n:Nat) (h:I n s) :
  codeAny (ar prog w) A (.compLoop e d it (.ref D) env) R s:=by
 refine codeAny_loop rfl I (λn s hI=>?_) n h;rw [(LO.CF it D env).1,(LO.CF it D env).2];refine wpAny_noted ?_;rw [LO.turn];refine Ra (Tt (Ra (Ro (turn n s hI) (λr gi mv=>?_) λ_ _ h'=>h'.elim)));cases r with
 | none=>exact Rc mv
 | some v =>
  refine Ra (Ro mv (λ_ OY Oi=>?_) λ_ _ h'=>h'.elim);refine Ra (Ro Oi (λ_ kc BH=>Ra (Ro BH (λok An GV=>?_) λ_ _ h'=>h'.elim)) λ_ _ h'=>h'.elim);cases ok with
  | false=>exact Rc ⟨rfl,GV⟩
  | true=>exact Ra (Ro GV (λ_ OS K?=>Rc ⟨rfl,K?⟩) λ_ _ h'=>h'.elim)
def PF (X:Cx) (ifs:List ay) (t:TT):Prop :=
 ∀ (a_:List (ae×cb)) (s:ah) (σ:St) (H:Hp) (Q:Bool->Hp->Prop),Inv X a_ σ H s->t σ H Q ->
  aq (ar X.prog X.w) X.A (forIn ifs true λc r=>if r=true then do let ok<-isTrue c X.env (eval c X.env); pure (ForInStep.yield ok) else pure (ForInStep.yield r)) (TP X a_ σ Q) X.xe s
def rJ:TT:=λ_ H Q=>Q true H
theorem cQ:PF X [] rJ:=λ_ _ _ H _ I h=>wpAny_tests_nil ⟨H,I,h⟩
theorem nE {c:ay} {t:TT} (h:PT X c t):PF X [c] t:=λa_ s σ H Q I hq=>wpAny_tests_one (h a_ s σ H Q I hq)
def ki (J:It) (a0:α) (FZ:St) (H1:Hp) (q:α->St->Hp->Prop) (g:TG) (tt:TT) (tb:α->St->Hp->(α->St->Hp->Prop)->Prop):Prop:=∃ W:Nat->Nat->α->St->Hp->Prop,(∃ m,W 0 m a0 FZ H1)/\∀ i m a d9 H,W i m a d9 H->(J.stop i H/\q a d9 H) ∨
 (J.go i H/\∃ N:α->St->Hp->Prop,(∀ a' fi H2,N a' fi H2->∃ m',m' < m/\W (i+1) m' a' fi H2)/\∀ x H',J.m7 i H x H'->g x d9 H' λfi H2=>tt fi H2 λb H3=>if b=true then tb a fi H3 N else N a fi H3)
def sj (te:TE) (ys:List V) (σ:St) (H:Hp) (R:List V->St->Hp->Prop):Prop:=te σ H λy H4=>ys.length < af/\R (ys++[y]) σ H4
def ET (own:Nat) (fr:List Nat) (wi:TI) (g:TG) (tt:TT) (te:TE):TE:=λσ H Q=>wi σ H λJ H1=>ki J [] (h_ own fr σ) H1 (λys _ H=>∀ p,H p=none->Q (.ref p) (upd H p (.lst ys))) g tt (sj te)
structure IS (Y:Cx) (D:ae) (ps:List (ae×cb)):Prop where
 L:D≠Y.env.locals
 ex:D∈Y.ex∨Y.jg.heap.objs.size<=D
 c:∀ x c,Y.env.cells.lookup x=some c->c≠D
 pn:∀ p∈Y.pn,p.1≠D
 fs:D∉Y.fs
 ps:∀ p∈ps,p.1≠D
section
variable {d:Nat} {gs:List Comprehension} {wi:TI} {na:Sem aa} {a0:α} {Ok:ae->α->ag->Prop} {tb:α->St->Hp->(α->St->Hp->Prop)->Prop} {ps:List (ae×cb)} {σ:St} {D:ae}
theorem Inv.ye {u:HO} (I:Inv X a_ σ H s) (hn:H D=none) (hL:D≠X.env.locals)
  (h1:X.jg.heap.objs.size<=D) (h2:∀ x c,X.env.cells.lookup x=some c->c≠D) (h3:∀ p∈X.pn++a_,p.1≠D) (hu:bT X.prog X.w (upd H D u) s.heap D u):Inv X a_ σ (upd H D u) s:=by
 have ne:∀ b u,H b=some u->b≠D:=λb u e z=>by rw [z,hn] at e; cases e
 refine I.step (g':=s.gens) (d':=s.drawn) (t':=s.toks) (h':=s.heap) (ch:=[D]) (λb hb=>?_) (λb o _ _ _ e _=>e) (λb o _ _ _ e _=>⟨o.slots,e⟩) (λb o hc _ n=>?_) (λb o _ e=>⟨o,e⟩)
  (λb xs e=>by rw [aG (ne b _ e)]; exact e) (λb o u e=>by rw [aG (ne b _ e)]; exact e) (λb ps e=>⟨#[],by rw [aG (ne b _ e),e]; simp⟩) (λ_ h=>h) (λb u e=>?_) I.bare
 ·have e:b=D:=by simpa using hb
  subst e;exact ⟨.inr h1,hL,h2,h3⟩
 ·simp_all [aG]
 ·by_cases hb:b=D
  ·simp_all [aB]
  ·rw [aG hb] at e;exact (I.ei b u e).gu (λc v _ q=>q) (λc q=>by rw [aG (ne c _ q)]; exact q) λc xs q=>by rw [aG (ne c _ q)]; exact q
theorem IS.put {t:Nat} {a:α} (dn:IS Y D ps) (AO:iw Y.prog Y.w Y.A na a0 Ok) (I:Inv Y ((D,o)::ps) σ H s) (sb:ag.SameBut D s.heap h') (ok:Ok D a h'):∃ o',Inv Y ((D,o')::ps) σ H { s with heap:=h',toks:=t }:=by
 have hD:=(I.pin (D,o) (Qz _ (Qk ..))).2.1;have I':Inv Y [] σ H s:=I.jm λp hp=>by cases hp
 have I11:=I'.turned (t':=t) (it:=D) (λb o hb e=>(sb.2 b hb).trans e) hD dn.L dn.ex dn.c (λp hp=>by rw [Xy] at hp; exact dn.pn p hp);obtain ⟨o',e',c'⟩:=AO.obj ok;refine ⟨o',I11.jm λp hp=>?_⟩;rcases Ql.mp hp with h | h
 ·subst h;exact ⟨e',hD,dn.L,dn.fs,c'⟩
 ·obtain ⟨a1,a2,a3,a4,a5⟩:=I.pin p (Qz _ (Qj _ h));exact ⟨(sb.2 p.1 (dn.ps p h)).trans a1,a2,a3,a4,a5⟩
def lW (Y:Cx) (bd:cz->ae->Sem Unit) (Ok:ae->α->ag->Prop) (tb:α->St->Hp->(α->St->Hp->Prop)->Prop):Prop:=∀ ps s σ H D o a R,IS Y D ps->Inv Y ((D,o)::ps) σ H s->Ok D a s.heap->tb a σ H R->aq (ar Y.prog Y.w) Y.A (bd Y.env D) (λ_ s'=>∃ d9 H' a' o',Inv Y ((D,o')::ps) d9 H' s'/\Ok D a' s'.heap/\R a' d9 H') Y.xe s
theorem iw.gu {a:α} {d9:St} (AO:iw Y.prog Y.w Y.A na a0 Ok) (I:Inv Y ((D,o)::ps) σ H s) (I':Inv Y ((D,o)::ps) d9 H' s') (pl:Ok D a s.heap):Ok D a s'.heap :=
 AO.keep pl λ_ e=>(I'.pin (D,o) (Qz _ (Qk ..))).1.trans ((I.pin (D,o) (Qz _ (Qk ..))).1.symm.trans e)
theorem yI {a:α} {F:α->St->Hp->Prop} (LO:gq Y.prog Y.w Y.A e d tg iter ifs bd) (AO:iw Y.prog Y.w Y.A na a0 Ok) (hx:∀ v s',¬ Y.xe v s') (hc:Y.calm=true) (T:Turn Y.prog Y.w Y.K tg J fp it tn) (hg:PG Y tg g) (ht:PF Y ifs tt) (hb:lW Y bd Ok tb) (dn:IS Y D ps) (I0:Inv Y ((D,o)::ps) σ H s) (ZR:Ok D a s.heap) (OG:tn 0 s.heap) (f0:∀ b∈fp,mV Y ((D,o)::ps) H b) (w:ki J a σ H F g tt tb) (hR:∀ (s':ah) (d9:St) (H':Hp) (a':α) (o':cb),Inv Y ((D,o')::ps) d9 H' s'->Ok D a' s'.heap->F a' d9 H'->R (.ok .next) s') :
  codeAny (ar Y.prog Y.w) Y.A (.compStart e d (.ref it) (.ref D) Y.env) R s:=by
 obtain ⟨W,⟨m0,w0⟩,turn⟩:=w;have q_:∀ {H':Hp} {o':cb},(∀ b∈fp,H' b=none)->∀ b∈fp,mV Y ((D,o')::ps) H' b:=λ{H' o'} hn b hb=>by
  obtain ⟨_,q1,q2,q3,q4,q5⟩:=f0 b hb;refine ⟨hn b hb,q1,q2,q3,q4,λp hp=>?_⟩;rcases Qp.mp hp with h | h
  ·exact q5 p (Jy _ h)
  ·rcases Ql.mp h with h | h
   ·rw [h]; exact q5 (D,o) (Qz _ (Qk ..))
   ·exact q5 p (Qz _ (Qj _ h))
 have loop:codeAny (ar Y.prog Y.w) Y.A (.compLoop e d (.ref it) (.ref D) Y.env) R s:=by
  refine aBe LO (λn s'=>∃ i d9 H' a o,Inv Y ((D,o)::ps) d9 H' s'/\Ok D a s'.heap/\tn i s'.heap/\(∀ b∈fp,H' b=none)/\W i n a d9 H') ?_ m0 ⟨0,σ,H,a,o,I0,ZR,OG,λb hb=>(f0 b hb).1,w0⟩;rintro n s5 ⟨i,DC,H5,ys,o,I5,O4,CI,GX,w5⟩;rcases turn i n ys DC H5 w5 with ⟨stop,qn⟩ | ⟨go,N,hN,step⟩
  ·refine Ro (T.done Y rfl rfl rfl hc i _ s5 DC H5 (λ_ _=>False) I5 (q_ GX) CI stop) (λr s6 e_=>?_) λ_ _ z=>z;obtain ⟨hr,I6⟩:=e_;subst hr;exact hR s6 DC H5 ys o I6 (AO.gu I5 I6 O4) qn
  ·refine Ro (T.item Y rfl rfl rfl hc i _ s5 DC H5 (λ_ _=>False) I5 (q_ GX) CI go) (λr s6 e_=>?_) λ_ _ z=>z;obtain ⟨u,hr,h6⟩:=e_;subst hr;refine Ro h6 (λ_ s7 e_=>?_) λ_ _ z=>z;obtain ⟨x,H7,I7,r7,y7,JC,M?⟩:=e_;have I7':=I7.pinned (q_ M?) (T.obj _ _ JC);refine Ro (hg _ s7 DC H7 x u _ I7' r7 (step x H7 y7)) (λ_ s8 e_=>?_) λv s' z=>hx v s' z;obtain ⟨IW,H8,I8,q8⟩:=e_;refine Ro (ht _ s8 IW H8 _ I8 q8) (λb s9 e_=>?_) λv s' z=>hx v s' z;obtain ⟨H9,I9,q9⟩:=e_;have O3:Ok D ys s9.heap:=AO.gu I5 (I9.jq:Inv Y ((D,o)::ps) IW H9 s9) O4;have fin:∀ {s':ah} {d9:St} {H':Hp} {o':cb} {a':α},Inv Y ((D,o')::(ps++rC fp s7.heap)) d9 H' s'->Ok D a' s'.heap->N a' d9 H'->∃ m,m < n/\∃ i d9 H' a o,Inv Y ((D,o)::ps) d9 H' s'/\Ok D a s'.heap/\tn i s'.heap/\(∀ b∈fp,H' b=none)/\W i m a d9 H':=λ{s' d9 H' o' a'} I' ok q=>by
    obtain ⟨m',hm,w'⟩:=hN a' d9 H' q;have pin:=λb (hb:b∈fp) o e=>I'.pin (b,o) (Qz _ (Qj _ (Qz _ (pC hb e))));refine ⟨m',hm,i+1,d9,H',a',o',I'.jm λp hp=>I'.pin p (Qz _ ?_),ok,T.keep _ _ _ JC λb hb o e=>(pin b hb o e).1,λb hb=>?_,w'⟩
    ·rcases Ql.mp hp with h | h
     ·exact h ▸ Qk ..
     ·exact Qj _ (Jy _ h)
    ·obtain ⟨o,e,_⟩:=T.obj _ _ JC b hb;exact (pin b hb o e).2.1
   cases b with
   | false =>
    rw [if_neg Qw] at q9;rw [if_neg Qw];exact fin I9 O3 q9
   | true =>
    rw [if_pos rfl] at q9;rw [if_pos rfl];refine Ro (hb (ps++rC fp s7.heap) s9 IW H9 D o ys _ ⟨dn.L,dn.ex,dn.c,dn.pn,dn.fs,λp hp=>?_⟩ I9 O3 q9) (λ_ Ap e_=>?_) λv s' z=>hx v s' z
    ·rcases Qp.mp hp with h | h
     ·exact dn.ps p h
     ·exact λq=>(f0 p.1 (xY h).1).2.2.2.2.2 (D,_) (Qz _ (Qk ..)) q.symm
    ·obtain ⟨d9,H',a',o',I',ok,q⟩:=e_;exact fin I' ok q
 exact LO.start loop (T.self Y.A 0 _ _ _ OG loop)
theorem aCJ {s2:ah} {RR:aa->ae->Result->ah->Prop} {Q:α->Hp->Prop} (S:fz X scope z own fr ff) (LO:gq X.prog X.w X.A e 0 tg iter ifs bd) (AO:iw X.prog X.w X.A na a0 Ok) (hc:X.calm=true) (I2:Inv X a_ σ H2 s2) (T:Turn X.prog X.w X.K tg J fp it tn) (Al:tn 0 s2.heap) (f2:∀ b∈fp,mV X a_ H2 b) (hg:∀ C s0 H0 fp,PG (bW X scope z (own++ff) C s0 H0 fp) tg g) (ht:∀ C s0 H0 fp,PF (bW X scope z (own++ff) C s0 H0 fp) ifs tt) (hb:∀ C s0 H0 fp,lW (bW X scope z (own++ff) C s0 H0 fp) bd Ok tb) (w:ki J a0 (h_ own.length fr σ) H2 (λa _ H=>Q a H) g tt tb) (C!:∀ (C D:ae) (s':ah) (H':Hp) (ys:α) (m:aj->Option aa),s2.heap.objs.size<=C->s2.heap.objs.size<=D->D≠C->s'.heap.Ns C m->H' C=none->H' D=none->Ok D ys s'.heap->Inv X a_ σ H' s'->Q ys H'->RR (.ref D) C (.ok .next) s') :
  aq (ar X.prog X.w) X.A na (λacc An=>aq (ar X.prog X.w) X.A (newFunctionEnv scope X.env.globals (fM X.env scope.names []) [] X.env.qual none .none (some X.env)) (λFN ZK =>
   codeAny (ar X.prog X.w) X.A (.compStart e 0 (.ref it) acc { FN with scope:=relabel scope X.env }) (RR acc FN.locals) ZK) E An) E s2:=by
 obtain ⟨o0,n0,f0,k0,nw⟩:=AO.new;refine nw (S.env λmv tk yc ol ig=>?_);dsimp only at yc ol ig ⊢;generalize K7:s2.heap.push o0=HD at yc ol ig ⊢;have hCs:HD.objs.size=s2.heap.objs.size+1:=by rw [<- K7,ag.size_push]
 have zt:s2.heap.objs.size≠HD.objs.size:=by omega
 have Ah:s2.heap.objs.size<=HD.objs.size:=by omega
 have below:∀ b,b < s2.heap.objs.size->b≠HD.objs.size/\b≠s2.heap.objs.size:=λb hb=>⟨by omega,by omega⟩
 have old:∀ b o,s2.heap.get? b=some o->mv.get? b=some o:=λb o e=>ol b o (K7 ▸ ag.get?_push_of_some _ e);have FG:mv.get? s2.heap.objs.size=some o0:=ol _ _ (K7 ▸ ag.get?_push_size _ f0);have yu:∀ b∈fp,b < s2.heap.objs.size:=λb hb=>by
  obtain ⟨o,e,_⟩:=T.obj _ _ Al b hb;exact ag.lt_size e
 generalize K9:s2.heap.objs.size=D at *;generalize hCg:HD.objs.size=C at *;have F7:tn 0 mv:=T.keep _ _ _ Al λb _ o e=>old b o e;have BB:∀ x c,(zc z C++fM X.env scope.names []).lookup x=some c->c=C+1∨X.env.cells.lookup x=some c:=λx c e=>by
  rcases lV e with ⟨_,e⟩ | ⟨_,e⟩
  ·exact .inl e
  ·rcases nB _ _ _ _ (kO e) with q | q
   ·cases q
   ·exact .inr q
 have I3:Inv (bW X scope z (own++ff) C s2 H2 fp) [(D,_)] (h_ own.length fr σ) H2 { s2 with heap:=mv,toks:=tk } :=
  aFT (m:=λ_=>none) I2 S f2 (by rw [K9]; exact yu) (by rw [K9]; exact Ah) (yc:mv.Ns C _) old (by simp_all) zt FG n0 ig
 refine yI (Y:=bW X scope z (own++ff) C s2 H2 fp) LO AO (λ_ _ z=>z) hc T (hg C s2 H2 fp) (ht C s2 H2 fp) (hb C s2 H2 fp) ⟨zt,.inr (by show s2.heap.objs.size<=D; rw [K9]; exact Qe _),λx c e q=>?_,λp hp=>(by cases hp),λz=>?_,λp hp=>(by cases hp)⟩ I3 (k0 _ _ FG) F7 (λb hb=>?_) w (λs6 Oq H6 a o I6 pl qn=>?_)
 ·rcases BB x c e with e | e
  ·exact Jk _ (Qn (Yl C) (Qr (Wo (e.symm.trans q)) Ah))
  obtain ⟨v,u⟩:=I2.cell x c e;exact Jk _ (Qn u.lt (by simp_all))
 ·rcases Ql.mp (I2.j3 D z) with e | e
  ·exact Jk _ (Qn I2.lt (by simp_all))
  ·exact I2.B0 (by simp_all) e
 ·refine ⟨(f2 b hb).1,(below b (yu b hb)).1,λz=>?_,.inl hb,λx c e=>(by
   rcases BB x c e with e | e
   ·exact λq=>Jk _ (Qn (yu b hb) (by rw [<- q,e]; exact Xx Ah))
   ·exact (f2 b hb).2.2.2.2.1 x c e),λp hp=>?_⟩
  ·have z':b∈gr X.stack:=z;rcases Ql.mp (I2.j3 b z') with e | e
   ·exact (f2 b hb).2.1 e
   ·exact (f2 b hb).2.2.1 e
  ·rw [Qi.mp (show p∈[(D,o0)] from hp)];exact Ne.symm (below b (yu b hb)).2
 ·obtain ⟨m6,ie,_⟩:=I6.loc;have IX:Inv X a_ σ H6 s6:=I2.pw (ch:=fp) I6.os I6.base I6.ei I6.bare λb hb=>⟨(f2 b hb).2.2.2.1,(f2 b hb).2.1,(f2 b hb).2.2.2.2.1,(f2 b hb).2.2.2.2.2⟩
  exact C! C D s6 H6 a m6 Ah (Qe _) zt ie I6.free (I6.pin (D,o) (Qz _ (Qk ..))).2.1 pl IX qn
theorem XC {R:aa->ah->Prop} {use:Option (aa->Sem Unit)} {q:α->Hp->Prop} (S:fz X scope z own fr ff) (cl:clausesOf e=⟨tg,iter,ifs,0⟩::gs) (LO:gq X.prog X.w X.A e 0 tg iter ifs bd) (AO:iw X.prog X.w X.A na a0 Ok) (hc:X.calm=true) (hi:PI X tg iter wi) (hg:∀ C s0 H0 fp,PG (bW X scope z (own++ff) C s0 H0 fp) tg g) (ht:∀ C s0 H0 fp,PF (bW X scope z (own++ff) C s0 H0 fp) ifs tt)
  (hb:∀ C s0 H0 fp,lW (bW X scope z (own++ff) C s0 H0 fp) bd Ok tb) (hs:∀ x,foldedSetIterable iter X.env x=pure x) (I:Inv X a_ σ H s)
  (h:wi σ H λJ H1=>ki J a0 (h_ own.length fr σ) H1 (λa _ H=>q a H) g tt tb)
  (hq:∀ (C D:ae) (s':ah) (H':Hp) (a:α) (m:aj->Option aa),D≠C->s'.heap.Ns C m->H' C=none->H' D=none->Ok D a s'.heap->Inv X a_ σ H' s'->q a H' ->
   (∀ b,b=C∨b=D->b≠X.env.locals/\X.jg.heap.objs.size<=b/\br < b/\(∀ x c,X.env.cells.lookup x=some c->c≠b)/\∀ p∈X.pn++a_,p.1≠b)->compPost (ar X.prog X.w) X.A X.xe use R (.ref D) C (.ok .next) s') :
  aq (ar X.prog X.w) X.A (comprehension e scope X.env pos na false (eval iter X.env) use) R X.xe s:=by
 obtain ⟨p1,p2,p3,p4,p5,p7,p9⟩:=S.parts;refine wpAny_comprehension_free cl hs (UN λy hy e=>I.ok.has y.1 (p4 y hy e)) p1 p3 (fc (hi a_ s σ H _ I h) λv s1 h1=>fc h1 λGf s2 h2=>?_);obtain ⟨it,fp,tn,J,H2,e,I2,T,Al,f2,hw⟩:=h2;subst e;refine aCJ (RR:=λacc C=>compPost (ar X.prog X.w) X.A X.xe use R acc C) S LO AO hc I2 T Al f2 hg ht hb hw λC D s' H' a m hC hD zt k_ Eu BG pl IX z=>hq C D s' H' a m zt k_ Eu BG pl IX z λb hb=>?_;have ij:s2.heap.objs.size<=b:=by rcases hb with rfl | rfl; exact hC; exact hD
 exact ⟨λz=>Jk _ (Qn I2.lt (by rw [<- z]; exact ij)),Qr I2.sz ij,Qn (Xh 'c' (I2.mod.glob.keeps I2.bk).lt) ij,λx c e z=>by
  obtain ⟨v,w⟩:=I2.cell x c e;exact Jk _ (Qn w.lt (by rw [z]; exact ij)),λp hp z=>Jk _ (Qn (ag.lt_size (I2.pin p hp).1) (by rw [z]; exact ij))⟩
theorem uT {hq:(V->Hp->Prop)->α->Hp->Prop} (S:fz X scope z own fr ff) (cl:clausesOf e=⟨tg,iter,ifs,0⟩::gs) (LO:gq X.prog X.w X.A e 0 tg iter ifs bd) (AO:iw X.prog X.w X.A na a0 Ok) (hc:X.calm=true) (ev:eval e X.env=comprehension e scope X.env pos na false (eval iter X.env) none) (hi:PI X tg iter wi) (hg:∀ C s0 H0 fp,PG (bW X scope z (own++ff) C s0 H0 fp) tg g) (ht:∀ C s0 H0 fp,PF (bW X scope z (own++ff) C s0 H0 fp) ifs tt)
  (hb:∀ C s0 H0 fp,lW (bW X scope z (own++ff) C s0 H0 fp) bd Ok tb) (hs:∀ x,foldedSetIterable iter X.env x=pure x)
  (tr:∀ {D:ae} {a:α} {H:Hp} {h:ag} {Q:V->Hp->Prop},Ok D a h->H D=none->(D==br)=false->hq Q a H->∃ u,bT X.prog X.w (upd H D u) h D u/\Q (.ref D) (upd H D u)) :
  PE X e λσ H Q=>wi σ H λJ H1=>ki J a0 (h_ own.length fr σ) H1 (λa _ H=>hq Q a H) g tt tb:=by
 intro a_ s σ H Q I h;rw [ev];refine XC (use:=none) S cl LO AO hc hi hg ht hb hs I h λC D s' H' a m zt k_ Eu BG pl IX q ne=>?_;obtain ⟨c1,c2,_,c3,c4⟩:=ne C (.inl rfl);obtain ⟨d1,d2,d5,d3,d4⟩:=ne D (.inr rfl);obtain ⟨u,ou,qu⟩:=tr pl BG (beq_eq_false_iff_ne.mpr (Ne.symm (Qy d5))) q;refine ⟨m,k_,λh' k9=>⟨.ref D,upd H' D u,?_,rfl,qu⟩⟩;exact (IX.ye BG d1 d2 d3 d4 ou).turned (t':=s'.toks) (it:=C) (λb o hb e=>(k9.2 b hb).trans e) (by rw [aG (Ne.symm zt)]; exact Eu) c1 (.inr c2) c3 c4
def E8 (D:ae) (ys:List V) (h:ag):Prop:=ys.length<=af/\∃ its:Array aa,h.PlainList D its/\bG ys its.toList
noncomputable def Sy (elt:ay) (env:cz) (D:ae):Sem Unit:=do let _<-call (.builtin "list.append") [.ref D,<- eval elt env]
theorem G7:iw P w A (newList []) [] E8 where
 new:=⟨{ cls:=.type "list",dict:=none,data:=.seq ([]:List aa).toArray },λv z=>(by cases z),rfl,λh D e=>⟨Ji _,#[],⟨_,e⟩,.nil⟩,λh=>Ry h⟩
 keep:=λ⟨hl,its,⟨k,e⟩,v⟩ f=>⟨hl,its,⟨k,f _ e⟩,v⟩
 obj:=λ⟨_,its,⟨k,e⟩,_⟩=>⟨_,e,λv z=>by cases z⟩
theorem TM:gq P w A (.ListComp elt [⟨tg,iter,ifs,0⟩] scope pos) 0 tg iter ifs (Sy elt) where
 CF:=λ_ _ _=>⟨rfl,rfl⟩
 turn:=λit D env=>compTurn_list elt tg iter ifs scope pos it (.ref D) env
 start:=codeAny_compStart_list
theorem SO (he:PE Y elt te):lW Y (Sy elt) E8 (sj te):=by
 intro ps s σ H D o ys R dn I pl h;refine Ra (fc (he _ s σ H _ I h) λy s1 hx=>?_);obtain ⟨yv,H1,I1,r1,lt,q⟩:=hx;obtain ⟨hl,its,ZQ,v⟩:=G7.gu I I1 pl;have hlen:=v.length;refine Ra (wpAny_list_append_plain ZQ (λAS xo xm=>Rc ?_) (by simp_all));have ok:E8 D (ys++[yv]) AS:=⟨by rw [Qg]; exact lt,_,xo,by rw [Array.toList_push]; exact v.append (.cons r1 .nil)⟩
 obtain ⟨o',I'⟩:=dn.put (t:=s1.toks) G7 I1 xm ok;exact ⟨σ,H1,_,o',I',ok,q⟩
theorem Y9 {Q:V->Hp->Prop} {D:ae} (ok:E8 D ys h) (hn:H D=none) (q:∀ p,H p=none->Q (.ref p) (upd H p (.lst ys))):∃ u,bT P w (upd H D u) h D u/\Q (.ref D) (upd H D u) :=
 let ⟨hl,its,⟨k,e⟩,v⟩:=ok; ⟨.lst ys,⟨hl,its.toList,k,v,by simpa using e⟩,q _ hn⟩
theorem cM (S:fz X scope z own fr ff) (hc:X.calm=true) (hi:PI X tg iter wi) (hg:∀ C s0 H0 fp,PG (bW X scope z (own++ff) C s0 H0 fp) tg g) (ht:∀ C s0 H0 fp,PF (bW X scope z (own++ff) C s0 H0 fp) ifs tt) (he:∀ C s0 H0 fp,PE (bW X scope z (own++ff) C s0 H0 fp) elt te) (hs:autoParam (∀ x,foldedSetIterable iter X.env x=pure x) L2.y_) :
  PE X (.ListComp elt [⟨tg,iter,ifs,0⟩] scope pos) (ET own.length fr wi g tt te) :=
 uT S rfl TM G7 hc (eval_ListComp ..) hi hg ht (λC s0 H0 fp=>SO (he C s0 H0 fp)) hs λok hn _ q=>Y9 ok hn q
theorem aBh {tb:List V->St->Hp->(List V->St->Hp->Prop)->Prop} {y:aj} {xk:Pos} (S:fz X scope z own fr ff) (LO:gq X.prog X.w X.A (.ListComp elt (⟨tg,iter,ifs,0⟩::gs) scope pos) 0 tg iter ifs bd) (hc:X.calm=true) (hN:X.N.Nodup) (Kg:X.N[i]?=some y) (hx:X.env.scope.names.lookup y=some .local) (Kn:cp (.ListComp elt (⟨tg,iter,ifs,0⟩::gs) scope pos) (some (.Name y py)) xk.line X.env=pure true) (hi:PI X tg iter wi) (hg:∀ C s0 H0 fp,PG (bW X scope z (own++ff) C s0 H0 fp) tg g) (ht:∀ C s0 H0 fp,PF (bW X scope z (own++ff) C s0 H0 fp) ifs tt) (hb:∀ C s0 H0 fp,lW (bW X scope z (own++ff) C s0 H0 fp) bd E8 tb) (hs:∀ x,foldedSetIterable iter X.env x=pure x) :
  PS X (.Assign [.Name y py] (.ListComp elt (⟨tg,iter,ifs,0⟩::gs) scope pos) xk) (A0 (λσ H Q=>wi σ H λJ H1=>ki J [] (h_ own.length fr σ) H1 (λys _ H=>∀ p,H p=none->Q (.ref p) (upd H p (.lst ys))) g tt tb) (gI i)):=by
 intro a_ s σ H D I h;rw [exec_Assign_Name_used _ _ _ _ Kn];refine Ra (Tt (Ra ?_));refine Ra (Ro (XC (use:=some (assign (.Name y py) X.env)) (R:=λ_ s'=>SP X a_ D .next s') S rfl LO G7 hc hi hg ht hb hs I h λC L s' H' ys m F? k_ Eu RA pl IX q ne=>?_) (λ_ s' hq=>Rc (Rc hq)) λ_ _ e=>e);obtain ⟨c1,c2,_,c3,c4⟩:=ne C (.inl rfl);obtain ⟨d1,d2,_,d3,d4⟩:=ne L (.inr rfl);obtain ⟨hl,its,⟨k,e⟩,v⟩:=pl;have IT:Inv X a_ σ (upd H' L (.lst ys)) s':=IX.ye RA d1 d2 d3 d4 ⟨hl,its.toList,k,v,by simpa using e⟩;refine Ran (qZ IT hN Kg (.inl hx) (v:=.ref L) rfl (λog Fd j7=>?_) (.inr hx));obtain ⟨a,sb,ha⟩:=j7;have J?:C≠a:=by
  rcases ha with e | e
  ·rw [e]; exact c1
  ·exact Ne.symm (c3 y a e)
 refine ⟨m,k_.sameBut sb J?,λh' k9=>⟨σ.set i (some (.ref L)),upd H' L (.lst ys),?_,q L RA⟩⟩;exact Fd.turned (t':=og.toks) (it:=C) (λb o hb e=>(k9.2 b hb).trans e) (by rw [aG (Ne.symm F?)]; exact Eu) c1 (.inr c2) c3 c4
theorem hU {y:aj} {xk:Pos} (S:fz X scope z own fr ff) (hc:X.calm=true) (hN:X.N.Nodup) (Kg:X.N[i]?=some y) (hx:X.env.scope.names.lookup y=some .local) (Kn:cp (.ListComp elt [⟨tg,iter,ifs,0⟩] scope pos) (some (.Name y py)) xk.line X.env=pure true) (hi:PI X tg iter wi) (hg:∀ C s0 H0 fp,PG (bW X scope z (own++ff) C s0 H0 fp) tg g) (ht:∀ C s0 H0 fp,PF (bW X scope z (own++ff) C s0 H0 fp) ifs tt) (he:∀ C s0 H0 fp,PE (bW X scope z (own++ff) C s0 H0 fp) elt te) (hs:autoParam (∀ x,foldedSetIterable iter X.env x=pure x) L2.y_) :
  PS X (.Assign [.Name y py] (.ListComp elt [⟨tg,iter,ifs,0⟩] scope pos) xk) (A0 (ET own.length fr wi g tt te) (gI i)) :=
 aBh S TM hc hN Kg hx Kn hi hg ht (λC s0 H0 fp=>SO (he C s0 H0 fp)) hs
end
inductive Kd where
 | int | bl | fk | str | tup | lst | Su
 deriving DecidableEq
def IF (K:Rb) (H:Hp):V->Kd->Prop
 | .int _,k=>k=.int
 | .bl _,k=>k=.bl
 | .fk,k=>k=.fk
 | .str _,k=>k=.str
 | .ref p,k=>(k=.lst/\∃ xs,dm K H p xs)∨(k=.tup/\∃ xs,dt K H p xs)∨(k=.Su/\∃ kvs,H p=some (.dK kvs))
 | _,_=>False
theorem ML {σ:St} {p:ae} (I:Inv X a_ σ H s) (h:H p=some (.dK kvs)):∃ o,s.heap.get? p=some o/\o.cls=.type "dict" := by
 obtain ⟨_,_,vs,_,o,es,ep,e,ex,_⟩:=I.ei p _ h;exact ⟨o,e,ex.1⟩
theorem aAb:eQ X (.builtin "isinstance") (λxs H Q=>∃ x k,xs = [x,.ty "int"]/\IF X.K H x k/\Q (.bl (decide (k=.int∨k=.bl))) H):=by
 intro a_ s σ H xs us Q I r h;obtain ⟨x,k,rfl,hk,q⟩:=h;obtain ⟨u,t,rfl,rx,rt⟩:=uM r;cases rt;cases x with
 | int i=>cases hk; obtain ⟨t,rfl⟩:=rx; exact IsiPair.int_int ⟨.bl true,H,I,rfl,q⟩
 | bl b=>cases hk; cases rx; exact IsiPair.bool_int ⟨.bl true,H,I,rfl,q⟩
 | fk=>cases hk; cases rx; exact IsiPair.NoneType_int ⟨.bl false,H,I.tok _,rfl,q⟩
 | str y=>cases hk; obtain ⟨t,rfl⟩:=rx; exact IsiPair.str_int ⟨.bl false,H,I.tok _,rfl,q⟩
 | ref p =>
  cases rx;rcases hk with ⟨rfl,xs,hx⟩ | ⟨rfl,xs,hx⟩ | ⟨rfl,kvs,hx⟩
  ·obtain ⟨its,r',pl,hz⟩:=I.list hx; exact IsiPair.isList_int pl.isList (λ_ _ e=>e) ⟨.bl false,H,I.tok _,rfl,q⟩
  ·obtain ⟨its,r',pl,hz⟩:=I.tuple hx; exact IsiPair.isTuple_int pl (λ_ _ e=>e) ⟨.bl false,H,I.tok _,rfl,q⟩
  ·obtain ⟨o,e,c⟩:=ML I hx; exact IsiPair.dict_int e c ⟨.bl false,H,I.tok _,rfl,q⟩
 | _=>exact hk.elim
theorem xK:eQ X (.builtin "isinstance") (λxs H Q=>∃ x k,xs = [x,.ty "bool"]/\IF X.K H x k/\Q (.bl (decide (k=.bl))) H):=by
 intro a_ s σ H xs us Q I r h;obtain ⟨x,k,rfl,hk,q⟩:=h;obtain ⟨u,t,rfl,rx,rt⟩:=uM r;cases rt;cases x with
 | int i=>cases hk; obtain ⟨t,rfl⟩:=rx; exact IsiPair.int_bool ⟨.bl false,H,I.tok _,rfl,q⟩
 | bl b=>cases hk; cases rx; exact IsiPair.bool_bool ⟨.bl true,H,I,rfl,q⟩
 | fk=>cases hk; cases rx; exact IsiPair.NoneType_bool ⟨.bl false,H,I.tok _,rfl,q⟩
 | str y=>cases hk; obtain ⟨t,rfl⟩:=rx; exact IsiPair.str_bool ⟨.bl false,H,I.tok _,rfl,q⟩
 | ref p =>
  cases rx;rcases hk with ⟨rfl,xs,hx⟩ | ⟨rfl,xs,hx⟩ | ⟨rfl,kvs,hx⟩
  ·obtain ⟨its,r',pl,hz⟩:=I.list hx; exact IsiPair.isList_bool pl.isList (λ_ _ e=>e) ⟨.bl false,H,I.tok _,rfl,q⟩
  ·obtain ⟨its,r',pl,hz⟩:=I.tuple hx; exact IsiPair.isTuple_bool pl (λ_ _ e=>e) ⟨.bl false,H,I.tok _,rfl,q⟩
  ·obtain ⟨o,e,c⟩:=ML I hx; exact IsiPair.dict_bool e c ⟨.bl false,H,I.tok _,rfl,q⟩
 | _=>exact hk.elim
theorem eJ:eQ X (.builtin "isinstance") (λxs H Q=>∃ x k,xs = [x,.ty "tuple"]/\IF X.K H x k/\Q (.bl (decide (k=.tup))) H):=by
 intro a_ s σ H xs us Q I r h;obtain ⟨x,k,rfl,hk,q⟩:=h;obtain ⟨u,t,rfl,rx,rt⟩:=uM r;cases rt;cases x with
 | int i=>cases hk; obtain ⟨t,rfl⟩:=rx; exact IsiPair.int_tuple ⟨.bl false,H,I.tok _,rfl,q⟩
 | bl b=>cases hk; cases rx; exact IsiPair.bool_tuple ⟨.bl false,H,I.tok _,rfl,q⟩
 | fk=>cases hk; cases rx; exact IsiPair.NoneType_tuple ⟨.bl false,H,I.tok _,rfl,q⟩
 | str y=>cases hk; obtain ⟨t,rfl⟩:=rx; exact IsiPair.str_tuple ⟨.bl false,H,I.tok _,rfl,q⟩
 | ref p =>
  cases rx;rcases hk with ⟨rfl,xs,hx⟩ | ⟨rfl,xs,hx⟩ | ⟨rfl,kvs,hx⟩
  ·obtain ⟨its,r',pl,hz⟩:=I.list hx; exact IsiPair.isList_tuple pl.isList (λ_ _ e=>e) ⟨.bl false,H,I.tok _,rfl,q⟩
  ·obtain ⟨its,r',pl,hz⟩:=I.tuple hx; exact IsiPair.isTuple_tuple pl (λ_ _ e=>e) ⟨.bl true,H,I,rfl,q⟩
  ·obtain ⟨o,e,c⟩:=ML I hx; exact IsiPair.dict_tuple e c ⟨.bl false,H,I.tok _,rfl,q⟩
 | _=>exact hk.elim
theorem aEN (bs:List Bool) (tr:Nat->Bool) (h:∀ i b,bs[i]?=some b->tr i=b):(List.range bs.length).all tr=bs.all id:=by
 rw [Xb,Jo,Jo];constructor
 ·intro q b hb;obtain ⟨i,hi⟩:=Wu hb;have:=q i (Zm.mpr (Qb.mp hi).1);rw [h i b hi] at this;exact this
 ·intro q i hi;have yr:=Zm.mp hi;have e:bs[i]?=some bs[i]:=Qc yr;rw [h i _ e];exact q _ (Zl yr)
theorem jB (hc:X.calm=true):eQ X (.builtin "all") (λxs H Q=>∃ (p:ae) (bs:List Bool),xs = [.ref p]/\dm X.K H p (bs.map V.bl)/\Q (.bl (bs.all id)) H):=by
 intro a_ s σ H xs us Q I r h;obtain ⟨p,bs,rfl,hx,q⟩:=h;obtain ⟨u,rfl,rx⟩:=eU r;cases rx;obtain ⟨its,rv,pl,hz⟩:=I.list hx;have hl:=rv.length;rw [Qa] at hl;have gh:p < s.heap.objs.size:=by obtain ⟨o,n,e,_⟩:=pl; exact ag.lt_size e
 refine call_all_walk (Uw pl.isList ⟨s.heap.objs.size,_,_,_,_,_,λi=>(bs[i]?).getD false,rfl,cx.list (A:=X.A.in1) (I.ok.hd hc) s.heap.objs.size p (Qy gh) its.toArray,⟨⟨_,ag.get?_push_size _ rfl,rfl,rfl⟩,pl.isList.push _⟩,?_,λh' tk hk=>?_⟩)
 ·intro i v s' Q' E' hP Et;have oy:its[i]?=some v:=by simpa using hP
  have hi:i < bs.length:=by rw [hl]; exact (Qb.mp oy).1
  obtain ⟨w,hw,js⟩:=rv.get (i:=i) (x:=.bl bs[i]) (by rw [Qh,Qc hi]; rfl);rw [hw] at oy;cases oy;cases js;have e:(bs[i]?).getD false=bs[i]:=by rw [Qc hi]; rfl
  rw [<- e];exact Rw Et
 ·have e:(List.range its.toArray.size).all (λi=>(bs[i]?).getD false)=bs.all id:=by
   rw [Jj,<- hl];exact aEN bs _ λi b hb=>by rw [hb]; rfl
  rw [e];refine ⟨.bl _,H,I.kept (h':=h') λb o e=>hk b o ?_ (ag.get?_push_of_some _ e),rfl,q⟩;intro z;have z':b=s.heap.objs.size:=by simpa using z
  exact Jk _ (z' ▸ ag.lt_size e)
noncomputable def fQ (ns:LIn):Int:=ns.foldr (· + ·) 0
theorem nF (ns:LIn) (val:Nat->Int) (h:∀ (i:Nat) (v:Int),ns[i]?=some v->val i=v):∀ j,j<=ns.length->preSum val j=fQ (ns.take j)
 | 0,_=>rfl
 | j+1,hj=>by
  have ih:=nF ns val h j 'a';have e:ns[j]?=some ns[j]:=Qc 'a';show preSum val j+val j=_;rw [ih,h j _ e,Jw,e];unfold fQ;rw [List.foldr_append];simp only [Option.toList_some,List.foldr_cons,List.foldr_nil,Int.add_zero];generalize ns[j]=v
  induction (List.take j ns) with
  | nil=>simp
  | cons a l ih2=>simp only [List.foldr_cons]; omega
theorem XB (hc:X.calm=true):eQ X (.builtin "sum") (λxs H Q=>∃ (p:ae) (ns:LIn),xs = [.ref p]/\dm X.K H p (ns.map V.int)/\(∀ n∈ns,0<=n/\n < 1000000)/\ns.length<=1000000/\Q (.int (fQ ns)) H):=by
 intro a_ s σ H xs us Q I r h;obtain ⟨p,ns,rfl,hx,hb,hlen,q⟩:=h;obtain ⟨u,rfl,rx⟩:=eU r;cases rx;obtain ⟨its,rv,pl,hz⟩:=I.list hx;have hl:=rv.length;rw [Qa] at hl;have gh:p < s.heap.objs.size:=by obtain ⟨o,n,e,_⟩:=pl; exact ag.lt_size e
 have xr:∀ (i:Nat) (v:Int),ns[i]?=some v->(ns[i]?).getD 0=v:=λi v e=>by rw [e]; rfl
 have bnd:∀ (ms:LIn),(∀ n∈ms,0<=n/\n < 1000000)->0<=fQ ms/\fQ ms<=ms.length*1000000:=λms=>by
  induction ms with
  | nil=>intro _; exact ⟨Jz _,Jz _⟩
  | cons a l ih =>
   intro hh;have h1:=hh a Qk;have h2:=ih λn hn=>hh n (Qj _ hn);have e:fQ (a::l)=a+fQ l:=rfl;rw [e,Jl];rw [Int.natCast_add];omega
 refine call_sum_walk (Uw pl.isList ⟨s.heap.objs.size,_,_,_,_,_,λi=>(ns[i]?).getD 0,rfl,cx.list (A:=X.A.in1) (I.ok.hd hc) s.heap.objs.size p (Qy gh) its.toArray,⟨⟨_,ag.get?_push_size _ rfl,rfl,rfl⟩,pl.isList.push _⟩,?_,?_,?_,λh' tk t' hk=>?_⟩)
 ·intro b ij;rw [ag.size_push];rcases Ql.mp ij with e | e
  ·simp_all
  ·have e':b=p:=by simpa using e
   rw [e']; exact Yf gh
 ·intro i v hP;have oy:its[i]?=some v:=by simpa using hP
  have hi:i < ns.length:=by rw [hl]; exact (Qb.mp oy).1
  obtain ⟨w,hw,js⟩:=rv.get (i:=i) (x:=.int ns[i]) (by rw [Qh,Qc hi]; rfl);rw [hw] at oy;cases oy;obtain ⟨t,rfl⟩:=js;exact ⟨t,by show aa.int ns[i] t=aa.int ((ns[i]?).getD 0) t; rw [Qc hi]; rfl⟩
 ·intro j hj;have AF:j < ns.length:=by simp_all
  have e:ns[j]?=some ns[j]:=Qc AF;have h1:=hb _ (Zl AF);have h2:=bnd (ns.take (j+1)) λn hn=>hb n (Zf hn);rw [nF ns _ xr (j+1) 'a'];have h3:(ns.take (j+1)).length<=1000000:=by grind
  unfold InLong;have e5:(λi:Nat=>(ns[i]?).getD 0) j=ns[j]:=by simp_all
  rw [e5];have h4:((ns.take (j+1)).length:Int)*1000000<=1000000*1000000:=by omega
  omega
 ·have e:preSum (λi=>(ns[i]?).getD 0) its.toArray.size=fQ ns:=by
   rw [Jj,<- hl,nF ns _ xr ns.length (Qe _),Qu]
  rw [e];refine ⟨.int _,H,I.kept (h':=h') λb o e=>hk b o ?_ (ag.get?_push_of_some _ e),⟨_,rfl⟩,q⟩;intro z;have z':b=s.heap.objs.size:=by simpa using z
  exact Jk _ (z' ▸ ag.lt_size e)
mutual
def Den (K:Rb) (H:Hp):au->V->Prop
 | .none,v=>v=.fk
 | .bool b,v=>v=.bl b
 | .int i,v=>v=.int i
 | .str x,v=>v=.str x
 | .list ds,v=>∃ a xs,v=.ref a/\dm K H a xs/\bC K H ds xs
 | .tuple ds,v=>∃ a xs,v=.ref a/\dt K H a xs/\bC K H ds xs
 | .dict kvs,v=>kvs = []/\∃ a,v=.ref a/\H a=some (.dK [])
def bC (K:Rb) (H:Hp):List au->List V->Prop
 | [],xs=>xs = []
 | d::ds,xs=>∃ x r,xs=x::r/\Den K H d x/\bC K H ds r
end
theorem aD.rd {a:ae} {u:HO} (e:aD H H') (h:Rd H a u):Rd H' a u:=by
 rcases h with h | ⟨o,h⟩
 ·exact .inl (e a u h)
 ·exact .inr ⟨o,e a _ h⟩
theorem aD.iq {a:ae} (e:aD H H') (h:dm K H a xs):dm K H' a xs:=by
 rcases h with h | h
 ·exact .inl (e.rd h)
 ·exact .inr h
theorem aD.di {a:ae} (e:aD H H') (h:dt K H a xs):dt K H' a xs:=by
 rcases h with h | h
 ·exact .inl (e.rd h)
 ·exact .inr h
theorem jv.same {k:Sk} {a:ae} (h:jv k K H a xs) (e:aD H H'):jv k K H' a xs:=by
 cases k
 ·exact e.iq h
 ·exact e.di h
theorem aD.new {p:ae} {o:HO} (h:H p=none):aD H (upd H p o):=λb u e=>by rw [aG (gZ e h)]; exact e
mutual
theorem aD.den (e:aD H H'):∀ (d:au) (v:V),Den K H d v->Den K H' d v
 | .none,v,h=>by unfold Den at h ⊢; exact h
 | .bool b,v,h=>by unfold Den at h ⊢; exact h
 | .int i,v,h=>by unfold Den at h ⊢; exact h
 | .str x,v,h=>by unfold Den at h ⊢; exact h
 | .list ds,v,h=>by unfold Den at h ⊢; obtain ⟨a,xs,h1,h2,h3⟩:=h; exact ⟨a,xs,h1,e.iq h2,aD.fh e ds xs h3⟩
 | .tuple ds,v,h=>by unfold Den at h ⊢; obtain ⟨a,xs,h1,h2,h3⟩:=h; exact ⟨a,xs,h1,e.di h2,aD.fh e ds xs h3⟩
 | .dict kvs,v,h=>by unfold Den at h ⊢; obtain ⟨h1,a,h2,h3⟩:=h; exact ⟨h1,a,h2,e a _ h3⟩
theorem aD.fh (e:aD H H'):∀ (ds:List au) (xs:List V),bC K H ds xs->bC K H' ds xs
 | [],xs,h=>by unfold bC at h ⊢; exact h
 | d::ds,xs,h=>by unfold bC at h ⊢; obtain ⟨x,r,h1,h2,h3⟩:=h; exact ⟨x,r,h1,aD.den e d x h2,aD.fh e ds r h3⟩
end
theorem cU {i:Int}:Den K H (.int i) v↔v=.int i:=by rfl
theorem XA {b:Bool}:Den K H (.bool b) v↔v=.bl b:=by rfl
theorem W_:Den K H .none v↔v=.fk:=by rfl
theorem MZ {x:aj}:Den K H (.str x) v↔v=.str x:=by rfl
theorem uU:Den K H (.list ds) v↔∃ a xs,v=.ref a/\dm K H a xs/\bC K H ds xs:=by rfl
theorem cJ:Den K H (.tuple ds) v↔∃ a xs,v=.ref a/\dt K H a xs/\bC K H ds xs:=by rfl
theorem aFU {kvs:List (au×au)}:Den K H (.dict kvs) v↔kvs = []/\∃ a,v=.ref a/\H a=some (.dK []):=by rfl
theorem bB:bC K H [] xs↔xs = []:=by rfl
theorem aQ {d:au}:bC K H (d::ds) xs↔∃ x r,xs=x::r/\Den K H d x/\bC K H ds r:=by rfl
theorem aT:∀ {ds:List au} {xs:List V},bC K H ds xs->xs.length=ds.length
 | [],xs,h=>by rw [bB.mp h]; rfl
 | d::ds,xs,h=>by
  obtain ⟨x,r,rfl,_,h3⟩:=aQ.mp h;rw [Jl,Jl,aT h3]
theorem pH:∀ {ds:List au} {xs:List V} {i:Nat} {d:au},bC K H ds xs->ds[i]?=some d->∃ x,xs[i]?=some x/\Den K H d x
 | [],_,_,_,_,e=>by simp at e
 | d::ds,xs,0,d',h,e=>by
  obtain ⟨x,r,rfl,h2,_⟩:=aQ.mp h;simp at e; subst e;exact ⟨x,rfl,h2⟩
 | d::ds,xs,i+1,d',h,e=>by
  obtain ⟨x,r,rfl,_,h3⟩:=aQ.mp h;obtain ⟨y,h4,h5⟩:=pH (i:=i) (d:=d') h3 (by assumption);exact ⟨y,by simpa using h4,h5⟩
theorem iR {x:V} (h:bC K H ds xs) (e:xs[i]?=some x):∃ d,ds[i]?=some d/\Den K H d x:=by
 have hi:i < ds.length:=by rw [<- (aT h)]; exact (Qb.mp e).1
 obtain ⟨y,h1,h2⟩:=pH h (Qc hi);rw [e] at h1; cases h1;exact ⟨_,Qc hi,h2⟩
theorem eF:∀ {ds es:List au} {xs ys:List V},bC K H ds xs->bC K H es ys->bC K H (ds++es) (xs++ys)
 | [],es,xs,ys,h,h'=>by rw [bB.mp h]; exact h'
 | d::ds,es,xs,ys,h,h'=>by
  obtain ⟨x,r,rfl,h2,h3⟩:=aQ.mp h;exact aQ.mpr ⟨x,r++ys,rfl,h2,eF h3 h'⟩
theorem kP:∀ {ns:LIn} {xs:List V},bC K H (ns.map au.int) xs↔xs=ns.map V.int
 | [],xs=>bB
 | n::ns,xs=>by
  rw [Jb,aQ];constructor
  ·rintro ⟨x,r,rfl,h2,h3⟩;rw [cU.mp h2,kP.mp h3];rfl
  ·intro e;exact ⟨_,_,e,cU.mpr rfl,kP.mpr rfl⟩
theorem bK:Den K H (.tuple (ns.map .int)) v↔∃ a,v=.ref a/\dt K H a (ns.map V.int):=by
 rw [cJ];constructor
 ·rintro ⟨a,xs,rfl,h1,h2⟩;rw [kP.mp h2] at h1;exact ⟨a,rfl,h1⟩
 ·rintro ⟨a,rfl,h⟩;exact ⟨a,_,rfl,h,kP.mpr rfl⟩
def mR:au->Kd
 | .none=>.fk | .bool _=>.bl | .int _=>.int | .str _=>.str | .list _=>.lst | .tuple _=>.tup | .dict _=>.Su
theorem Den.kd {d:au} (h:Den K H d v):IF K H v (mR d):=by
 cases d with
 | none=>rw [W_.mp h]; rfl
 | bool b=>rw [XA.mp h]; rfl
 | int i=>rw [cU.mp h]; rfl
 | str x=>rw [MZ.mp h]; rfl
 | list ds=>obtain ⟨a,xs,rfl,h1,_⟩:=uU.mp h; exact .inl ⟨rfl,xs,h1⟩
 | tuple ds=>obtain ⟨a,xs,rfl,h1,_⟩:=cJ.mp h; exact .inr (.inl ⟨rfl,xs,h1⟩)
 | dict kvs=>obtain ⟨_,a,rfl,h1⟩:=aFU.mp h; exact .inr (.inr ⟨rfl,[],h1⟩)
section
variable {σ:St}
mutual
def fT:au->Bool
 | .dict _=>false
 | .list ds=>jO ds
 | .tuple ds=>jO ds
 | _=>true
def jO:List au->Bool
 | []=>true
 | d::ds=>fT d && jO ds
end
mutual
theorem Den.reads (I:Inv X a_ σ H s):∀ (d:au) (v:V) (u:aa),fT d=true->Den X.K H d v->bN v u->∃ as,Reads s.heap u d as
 | .none,v,u,_,h,r=>by rw [W_.mp h] at r; cases r; exact ⟨_,.none⟩
 | .bool b,v,u,_,h,r=>by rw [XA.mp h] at r; cases r; exact ⟨_,.bool b⟩
 | .int i,v,u,_,h,r=>by rw [cU.mp h] at r; obtain ⟨t,rfl⟩:=r; exact ⟨_,.int i t⟩
 | .str x,v,u,_,h,r=>by rw [MZ.mp h] at r; obtain ⟨t,rfl⟩:=r; exact ⟨_,.str x t⟩
 | .list ds,v,u,hn,h,r=>by
  obtain ⟨a,xs,rfl,h1,h2⟩:=uU.mp h;cases r;obtain ⟨its,rv,⟨o,n,e,c,_,d⟩,_⟩:=I.list h1;obtain ⟨as,ra⟩:=bC.reads I ds xs its (by assumption) h2 rv;exact ⟨_,.list e c d (by simpa using ra)⟩
 | .tuple ds,v,u,hn,h,r=>by
  obtain ⟨a,xs,rfl,h1,h2⟩:=cJ.mp h;cases r;obtain ⟨its,rv,⟨o,e,c,n,d⟩,_⟩:=I.tuple h1;obtain ⟨as,ra⟩:=bC.reads I ds xs its (by assumption) h2 rv;exact ⟨_,.tuple e c d (by simpa using ra)⟩
 | .dict kvs,v,u,hn,_,_=>by unfold fT at hn; cases hn
theorem bC.reads (I:Inv X a_ σ H s):∀ (ds:List au) (xs:List V) (us:List aa),jO ds=true->bC X.K H ds xs->bG xs us->∃ as,ReadsAll s.heap us ds as
 | [],xs,us,_,h,r=>by rw [bB.mp h] at r; cases r; exact ⟨_,.nil⟩
 | d::ds,xs,us,hn,h,r=>by
  obtain ⟨x,rr,rfl,h2,h3⟩:=aQ.mp h;unfold jO at hn;rw [Qt] at hn;cases r with
  | cons r1 r2 =>
   obtain ⟨as,ra⟩:=Den.reads I d x _ hn.1 h2 r1;obtain ⟨bs,rb⟩:=bC.reads I ds rr _ hn.2 h3 r2;exact ⟨_,.cons ra rb⟩
end
theorem MJ (hu:X.A.units+64 < c9):gy X (bj .Eq) (λx y H Q=>∃ d e,Den X.K H d x/\Den X.K H e y/\fT d=true/\fT e=true/\SeqAt.shaped d=true/\SeqAt.shaped e=true/\Q (.bl (au.eqv d e)) H):=by
 intro a_ s σ H x y v u Q I rx ry h;obtain ⟨d,e,hd,he,n1,n2,s1,s2,q⟩:=h;obtain ⟨as,ra⟩:=Den.reads I d x v n1 hd rx;obtain ⟨bs,rb⟩:=Den.reads I e y u n2 he ry;exact eq_dataH ra rb s1 s2 hu ⟨.bl _,H,I,rfl,q⟩
theorem aJ0 (hu:X.A.units+64 < c9):gy X (bj .NotEq) (λx y H Q=>∃ d e,Den X.K H d x/\Den X.K H e y/\fT d=true/\fT e=true/\SeqAt.shaped d=true/\SeqAt.shaped e=true/\Q (.bl (!PyData.eqv d e)) H):=by
 intro a_ s σ H x y v u Q I rx ry h;obtain ⟨d,e,hd,he,n1,n2,s1,s2,q⟩:=h;obtain ⟨as,ra⟩:=Den.reads I d x v n1 hd rx;obtain ⟨bs,rb⟩:=Den.reads I e y u n2 he ry;exact ne_dataH ra rb s1 s2 hu ⟨.bl _,H,I,rfl,q⟩
theorem aEO:wd X "tuple.count" (λx vs H Q=>∃ (a:ae) (ns:LIn) (n:Int),x=.ref a/\vs = [.int n]/\dt X.K H a (ns.map V.int)/\Q (.int (ns.count n:Nat)) H):=by
 intro a_ s σ H x v vs us Q I rx r h;obtain ⟨a,ns,n,rfl,rfl,ha,q⟩:=h;obtain ⟨u,rfl,t,rfl⟩:=eU r;cases rx;obtain ⟨its,rv,⟨⟨cls,dd,data,sl⟩,ho,hc,k,hd⟩,CS⟩:=I.tuple ha;simp only at hc hd;subst hc hd;have hi:IntsAre its ns:=pG rv;refine Tg Iq ⟨_,ho,rfl⟩ PySem.F.entry_tuple_count (PySem.F.args_tuple_count_2 _ _) (SeqAt.tuple_countAt a its.toArray k dd sl (.int n t) (isInt n)) ⟨ho,λy hy=>(eq_isInt n t hi y (by simp_all)).at _ _,?_⟩;have e:(its.toArray.toList.countP (isInt n))=ns.count n:=by
  simp only [Qad];clear q r ha rv ho CS
  induction hi with
  | nil=>rfl
  | cons m t' _ ih =>
   rw [List.countP_cons,List.count_cons,ih];rfl
 rw [e];exact ⟨.int _,H,I.tok _,⟨_,rfl⟩,q⟩
end
theorem aEP {x:aa} (R7:ns.length < 64) (hc:∀ Q':List aa->ah->Prop,(∀ h' tk vs,(∀ b o,s.heap.get? b=some o->h'.get? b=some o)->IntsAre vs ns->Q' vs { s with heap:=h',toks:=tk })->aq (ar prog w) A.in1 (collect x) Q' E s) (h:∀ (h1 h':ag) tk out Ar,(∀ b o,s.heap.get? b=some o->h1.get? b=some o)->(∀ b o,h1.get? b=some o->h'.get? b=some o)->h'.PlainList h1.objs.size out->IntsAre out.toList Ar->Ar.Perm ns->Ar.Pairwise (·<=·)->Q (.ref h1.objs.size) { s with heap:=h',toks:=tk }) :
  aq (ar prog w) A (call (.builtin "sorted") [x]) Q E s:=by
 refine Calls.call_function_entry kind_sorted plain_sorted entry_sorted (args_sorted1 _) ?_;unfold ak.«sorted»;refine Ra (m:=checkCount "sorted" 1 1 _) (Rc (Ra (hc _ λh1 tk vs kp hi=>?_)));have hlen:=hi.length;refine Ra (wpAny_newList ?_ (by grind [Rf]));have w9:(h1.push (seqObj "list" vs.toArray 0)).get? h1.objs.size=some (seqObj "list" vs.toArray 0):=ag.get?_push_size _ rfl;refine Ra (Rt (Tn slot_list_sort ⟨_,w9,rfl⟩ entry_list_sort (list_sort_tree w9 hi 'a' λout Ar a1 a2 a3=>⟨_,rfl,?_⟩) (args_list_sort _)));refine Rc ⟨_,rfl,?_⟩;obtain ⟨e,he⟩:=sortedHeap_at (out:=out) w9;refine h h1 _ tk out Ar kp (λb o q=>?_) ⟨e,he⟩ a1 a2 a3;rw [sortedHeap_old (Qy (ag.lt_size q)) (by rw [size_push']; exact Yf (ag.lt_size q))];exact ag.get?_push_of_some _ q
theorem aBl:eQ X (.type "range") (λxs H Q=>∃ j,xs = [.int j]/\∀ p,H p=none->Q (.ref p) (upd H p (.so 0 j))):=by
 intro a_ s σ H xs us Q I r h;obtain ⟨j,rfl,q⟩:=h;obtain ⟨u,rfl,t,rfl⟩:=eU r;refine call_range_1 ⟨.ref s.heap.objs.size,_,I.laid (λb o e=>ag.get?_push_of_some _ e) (Qe _) ?_,rfl,q _ (I.ei.fresh (Qe _))⟩;exact ⟨_,_,_,ag.get?_push_size _ rfl⟩
noncomputable def fN (n:Nat):LIn:=(List.range n).map λ(i:Nat)=>(i:Int)
noncomputable def tab (L:Bool) (ns:List Nat):SetTable:={ mask:=7,place:=ns.toArray,dummies:=#[],finger:=0,led:=L,moves:=0,plain:=true }
noncomputable def aMg (l:List (Nat×df)):Array (Int×aa):=(l.map λp=>((p.1:Int),aa.int (p.1:Int) p.2)).toArray
def SX (L:Bool) (h:ag) (a:ae) (l:List (Nat×df)):Prop:=∃ o ep,h.get? a=some o/\o.ExactSet/\o.data=.set (aMg l) ep (tab L (l.map (·.1)))
section
variable {a:ae}
end
noncomputable abbrev Led (w:bx):Bool:=!(w.params.followText "set-order")
def two (a b:Nat) (t u:df):List (Nat×df):=if a=b then [(a,t)] else if a < b then [(a,t),(b,u)] else [(b,u),(a,t)]
section
variable {S:ae} {l:List (Nat×df)}
end
noncomputable def aMh (w:bx) (p:ae) (a b:Nat):HO:=.ext λh=>∃ t u,SX (Led w) h p (two a b t u)
abbrev pR (h:ag) (z:ae) (n:String) (f0:aa) (f1:Bool) (r:List aa):Prop:=h.get? z=some { cls:=.type n,dict:=none,data:=.fields (f0::.bool f1::r).toArray,slots:=#[] }
theorem aBm {a:ae} {Q:Option cb->ah->Prop} (h:Q (s.heap.get? a) s):aq M A (loadIfAlive a) Q E s:=λΓ p _=>by assumption
section
variable {z:ae} {n:String} {f0:aa} {f1:Bool} {r:List aa}
theorem UM {Q:Bool->ah->Prop} (hz:pR s.heap z n f0 f1 r) (h:∀ h' b c,pR h' z n f0 b r->ag.SameBut z s.heap h'->Q c { s with heap:=h' }) :
  aq (ar prog w) A (ak.SmallTypes.ownedTupleIsFree (.ref z)) Q E s:=by
 have q:=h s.heap f1;unfold ak.SmallTypes.ownedTupleIsFree;refine Ra (Th hz rfl (x:=f0) rfl ?_);cases f0 with
 | none=>exact Rc (q _ hz (ag.SameBut.refl _ _))
 | int a t =>
  refine Ra (aBm ?_);cases hq:s.heap.get? a.toNat with
  | none=>exact Rc (q _ hz (ag.SameBut.refl _ _))
  | some o =>
   refine Ra (Th hz rfl (x:=.bool f1) rfl ?_);cases f1 with
   | true=>exact Rc (q _ hz (ag.SameBut.refl _ _))
   | false=>exact Ra (Tc hz 'b' λg hg b=>Rc (h g true false hg b))
 | _=>exact Rc (q _ hz (ag.SameBut.refl _ _))
theorem VW {a:ae} {Q:Unit->ah->Prop} (hz:pR s.heap z n f0 f1 r) (h:∀ h' f0 b,pR h' z n f0 b r->ag.SameBut z s.heap h'->Q () { s with heap:=h' }):aq (ar prog w) A (ak.SmallTypes.ownedTupleHandOut (.ref z) (.ref a)) Q E s:=by
 unfold ak.SmallTypes.ownedTupleHandOut;exact Ra (Tc hz 'b' λg hg b=>Tc hg 'b' λg2 AH b2=>h g2 _ _ AH (b.trans b2))
theorem VU {Q:Unit->ah->Prop} (hz:pR s.heap z n f0 f1 r) (h:∀ h' f0 b,pR h' z n f0 b r->ag.SameBut z s.heap h'->Q () { s with heap:=h' }):aq (ar prog w) A (letOwnedTupleGo tg (.ref z) u) Q E s:=by
 have q:=h s.heap f0 f1 hz (ag.SameBut.refl _ _);unfold letOwnedTupleGo;cases tg <;> first
  | exact Rc q
  | (cases u <;> first
    | exact Rc q
    | (refine Ra (wpAny_load hz ?_)
       refine Mi (λ_=>?_) (λ_=>Rc q);refine Ra (Ut ?_);show aq _ _ (setField (.ref z) 0 .none) Q E s;exact Tc hz 'b' λg hg b=>h g _ _ hg b))
end
noncomputable def Nx (J1 J2:It):It :=
 ⟨λi H=>J1.go i H/\J2.go i H,λi H v H'=>∃ x y p,J1.m7 i H x H/\J2.m7 i H y H/\H p=none/\v=.ref p/\H'=upd H p (.tup [x,y]),λi H=>J1.stop i H∨J1.go i H/\J2.stop i H⟩
section
variable {J1 J2:It} {p1 p2:List ae} {i1 i2 z TI TO:ae} {t1 t2:Nat->ag->Prop}
def aK9 (z TI TO i1 i2:ae) (t1 t2:Nat->ag->Prop) (i:Nat) (h:ag):Prop:=(∃ f0 f1,pR h z "zip" f0 f1 [.bool false,.ref TI,.ref TO])/\IsPair h TI (.ref i1) (.ref i2)/\(∃ a b,IsPair h TO a b)/\t1 i h/\t2 i h
theorem lB {it:aa} (h:aq (ar prog w) A (callSpecial? it (aj.ofString "__next__")) (λr s1=>∃ u,r=some u/\Q u s1) E s):aq (ar prog w) A (ak.SmallTypes.nextOf it) Q E s :=
 Ra (Ro h (λr s1 ⟨u,e,q⟩=>by subst e; exact Rc q) λ_ _ q=>q)
theorem aHR (N1:qj P w K J1 p1 i1 t1) (N2:qj P w K J2 p2 i2 t2) (y1:∀ i H x H',J1.m7 i H x H'->H'=H) (y2:∀ i H x H',J2.m7 i H x H'->H'=H) (D:(z::TI::TO::(p1++p2)).Nodup):qj P w K (Nx J1 J2) (z::TI::TO::(p1++p2)) z (aK9 z TI TO i1 i2 t1 t2) where
 mem:=by simp
 obj:=λi h ⟨⟨f0,f1,hz⟩,a,⟨x,y,b⟩,c,d⟩ e he=>by
  simp only [Ql,Qp] at he;rcases he with rfl | rfl | rfl | he | he
  ·exact ⟨_,hz,λv q=>by cases q⟩
  ·exact ⟨_,a,λv q=>by cases q⟩
  ·exact ⟨_,b,λv q=>by cases q⟩
  ·exact N1.obj i h c e he
  ·exact N2.obj i h d e he
 keep:=λi h h' ⟨⟨f0,f1,hz⟩,a,⟨x,y,b⟩,c,d⟩ k=>⟨⟨f0,f1,k _ 'b' _ hz⟩,k _ 'b' _ a,⟨x,y,k _ 'b' _ b⟩,N1.keep i h h' c λb hb=>k b (by simp [hb]),N2.keep i h h' d λb hb=>k b (by simp [hb])⟩
 next:=by
  intro X hP hw hK A hA i a_ s σ H b Q E I hf ⟨⟨f0,f1,hz⟩,AM,⟨a,b',qe⟩,c1,c2⟩ g hQ hE;subst hP hw hK;have p:=Pg.refl I λb hb=>⟨hf b hb,by
   simp only [Ql,Qp] at hb;rcases hb with rfl | rfl | rfl | hb | hb
   ·exact ag.lt_size hz
   ·exact ag.lt_size AM
   ·exact ag.lt_size qe
   ·exact N1.lt c1 b hb
   ·exact N2.lt c2 b hb⟩
  obtain ⟨b1,b2,g1,g2,e,e1⟩:∃ b1 b2,J1.at b1 i H/\(b1=true->J2.at b2 i H)/\(b1=true->b2=b)/\(b1=false->b=false):=by
   cases b
   ·rcases g with g | g
    ·exact ⟨false,false,g,nofun,nofun,λ_=>rfl⟩
    ·exact ⟨true,false,g.1,λ_=>g.2,λ_=>rfl,nofun⟩
   ·exact ⟨true,true,g.1,λ_=>g.2,λ_=>rfl,nofun⟩
  simp only [Jq,Ql,Qp,not_or,Zr] at D;obtain ⟨⟨D1,D2,D3,D4⟩,⟨D5,D6,D7⟩,⟨D8,D9⟩,_,_,IV⟩:=D;have hT:s.TypeIs (.ref z) "zip" := ⟨_,hz,rfl⟩
  refine To hT PySem.F.slot_zip_next (Tn PySem.F.slot_zip_next hT PySem.F.entry_zip_next ?_ (PySem.F.args_zip_next_1 _));refine Ra (m:=field (.ref z) 2) (Th hz rfl (x:=.bool false) rfl (Ra (m:=field (.ref z) 3) (Th hz rfl (x:=.ref TI) rfl ?_)));refine Ra (Tv AM rfl (Ra (m:=ak.SmallTypes.ownedTupleIsFree (.ref z)) (UM hz λh0 fb c hz k=>?_)));replace p:=p.cell (t':=s.toks) 'b' k;replace AM:IsPair h0 TI (.ref i1) (.ref i2):=k.extBut _ _ (Ne.symm D1) AM;replace qe:IsPair h0 TO a b':=k.extBut _ _ (Ne.symm D2) qe;replace c1:=N1.keep _ _ h0 c1 λb hb o e=>k.extBut _ _ (λq=>D3 (q ▸ hb)) e;replace c2:=N2.keep _ _ h0 c2 λb hb o e=>k.extBut _ _ (λq=>D4 (q ▸ hb)) e;clear hT k I;have hA:A.in1.handled=none:=hA;cases c with
  | true =>
   simp only [if_true];refine Ra (Ut (Ra (Th hz rfl (x:=.ref TO) rfl ?_)));refine Ra (Tc hz 'b' λh hz k=>Ra ?_);replace p:=p.cell (t':=s.toks) 'b' k;have fin:∀ {e s1},b=false->Pg X a_ σ (z::TI::TO::(p1++p2)) H s H s1->(∀ o,h.get? z=some o->s1.heap.get? z=some o)->(∃ o,s1.heap.get? e=some o/\o.cls=.type "StopIteration")->aq (ar X.prog X.w) A.in1 (setField (.ref z) 0 .none) (λ_ s=>E (.ref e) s) E s1:=λ{e s1} eb p kz ⟨o,he,hc⟩ =>
    Tc (kz _ hz) 'b' λh' _ k=>hE e _ eb (p.cell (t':=s1.toks) 'b' k) ⟨o,k.extBut _ _ (λq=>by rw [q,kz _ hz] at he; cases he; simp at hc) he,hc⟩
   simp only [List.zipIdx_cons,List.zipIdx_nil,Wp,Yw];refine Ra (Ra (wpAny_onRaise (Ra (m:=ak.SmallTypes.nextOf (.ref i1)) (lB (N1.next X rfl rfl rfl _ hA i a_ _ σ H b1 _ _ p.inv (λb hb=>(p.fo b (by simp [hb])).1) (N1.keep _ _ h c1 λb hb o e=>k.extBut _ _ (λq=>D3 (q ▸ hb)) e) g1 (λu x H1 s1 eb q rx yx t1=>⟨u,rfl,Rc ?_⟩) λe s1 eb q he=>fin (e1 eb) (p.trans q (by simp +contextual)) (λo=>q.kp _ _ D3) he)))));cases y1 _ _ _ _ yx;replace p:=p.trans q (by simp +contextual);replace qe:=q.kp _ _ D8 (k.extBut _ _ (Ne.symm D2) qe);refine Ra (Tv qe rfl (Ra (Rah qe λh2 o2 k2=>Ra (Uu (Rc ?_)))));replace p:=p.cell (t':=s1.toks) 'b' k2;cases e eb;refine Ra (Ra (wpAny_onRaise (Ra (m:=ak.SmallTypes.nextOf (.ref i2)) (lB (N2.next X rfl rfl rfl _ hA i a_ _ σ H b _ _ p.inv (λb hb=>(p.fo b (by simp [hb])).1) (N2.keep _ _ h2 c2 λb hb o e=>k2.extBut _ _ (λq=>D9 (q ▸ hb)) (q.kp _ _ (λz=>IV _ z _ hb rfl) (k.extBut _ _ (λq=>D4 (q ▸ hb)) e))) (g2 eb) (λv y H2 s2 eb q2 ry yy t2=>⟨v,rfl,Rc ?_⟩) λe s1 eb q2 he=>fin eb (p.trans q2 (by simp +contextual)) (λo e=>q2.kp _ _ D4 (k2.extBut _ _ D2 (q.kp _ _ D3 e))) he)))));cases y2 _ _ _ _ yy;replace p:=p.trans q2 (by simp +contextual);have qe:IsPair s2.heap TO u b':=q2.kp _ _ D9 o2;refine Ra (Tv qe rfl (Ra (Rah qe λh4 o4 k4=>Ra (Uu (Rc (Rc (Ra (Tv o4 rfl (Ra (Mm ?_ (by show 2<=af; rw [Rf]; decide)))))))))));replace p:=p.cell (t':=s2.toks) 'b' k4;have up:∀ {c o},c≠TO->c∉p1->c∉p2->h.get? c=some o->(h4.push { cls:=.type "tuple",data:=.seq #[u,v] }).get? c=some o:=λn n1 n2 e=>ag.get?_push_of_some _ (k4.extBut _ _ n (q2.kp _ _ n2 (k2.extBut _ _ n (q.kp _ _ n1 e))));refine Ra (m:=ak.SmallTypes.ownedTupleHandOut (.ref z) (.ref _)) (VW (up D2 D3 D4 hz) λh5 f0 f1 hz k5=>?_);exact Rc ⟨_,rfl,hQ _ (.ref _) _ _ eb ((p.pair rx ry).cell (t':=s2.toks) 'b' k5) rfl ⟨x,y,_,yx,yy,p.inv.fresh,rfl,rfl⟩ ⟨⟨_,_,hz⟩,k5.extBut _ _ (Ne.symm D1) (up D5 D6 D7 (k.extBut _ _ (Ne.symm D1) AM)),⟨_,_,k5.extBut _ _ (Ne.symm D2) (ag.get?_push_of_some _ o4)⟩,N1.keep _ _ _ t1 λb hb o e=>k5.extBut _ _ (λq=>D3 (q ▸ hb)) (ag.get?_push_of_some _ (k4.extBut _ _ (λq=>D8 (q ▸ hb)) (q2.kp _ _ (λz=>IV _ hb _ z rfl) (k2.extBut _ _ (λq=>D8 (q ▸ hb)) e)))),N2.keep _ _ _ t2 λb hb o e=>k5.extBut _ _ (λq=>D4 (q ▸ hb)) (ag.get?_push_of_some _ (k4.extBut _ _ (λq=>D9 (q ▸ hb)) e))⟩⟩
  | false =>
   simp only [Xq,if_false];rw [<- Array.forIn_toList];simp only [Wp,Yw];refine Ra (Ra (Ra (Rt (Ra (m:=ak.SmallTypes.nextOf (.ref i1)) (lB (N1.next X rfl rfl rfl _ hA i a_ _ σ H b1 _ _ p.inv (λb hb=>(p.fo b (by simp [hb])).1) c1 g1 (λu x H1 s1 eb q rx yx t1=>⟨u,rfl,Rc (Rc ?_)⟩) λe s1 eb q he=>hE _ _ (e1 eb) (p.trans q (by simp +contextual)) he))))));cases y1 _ _ _ _ yx;replace p:=p.trans q (by simp +contextual);cases e eb;refine Ra (Ra (Rt (Ra (m:=ak.SmallTypes.nextOf (.ref i2)) (lB (N2.next X rfl rfl rfl _ hA i a_ _ σ H b _ _ p.inv (λb hb=>(p.fo b (by simp [hb])).1) (N2.keep _ _ _ c2 λb hb o e=>q.kp _ _ (λz=>IV _ z _ hb rfl) e) (g2 eb) (λv y H2 s2 eb q2 ry yy t2=>⟨v,rfl,Rc (Rc (Rc (Ra (Mm ?_ (by show 2<=af; rw [Rf]; decide)))))⟩) λe s1 eb q2 he=>hE _ _ eb (p.trans q2 (by simp +contextual)) he)))));cases y2 _ _ _ _ yy;replace p:=p.trans q2 (by simp +contextual);have up:∀ {c o},c∉p1->c∉p2->h0.get? c=some o->(s2.heap.push { cls:=.type "tuple",data:=.seq #[u,v] }).get? c=some o:=λn1 n2 e=>ag.get?_push_of_some _ (q2.kp _ _ n2 (q.kp _ _ n1 e));exact Rc ⟨_,rfl,hQ _ (.ref _) _ _ eb (p.pair rx ry) rfl ⟨x,y,_,yx,yy,p.inv.fresh,rfl,rfl⟩ ⟨⟨f0,fb,up D3 D4 hz⟩,up D6 D7 AM,⟨a,b',up D8 D9 qe⟩,N1.keep _ _ _ t1 λb hb o e=>ag.get?_push_of_some _ (q2.kp _ _ (λz=>IV _ hb _ z rfl) e),N2.keep _ _ _ t2 λb hb o e=>ag.get?_push_of_some _ e⟩⟩
 self:=λ_ _ _ _ _ ⟨⟨_,_,hz⟩,_⟩ h=>Raq ⟨_,hz,rfl⟩ Mf (Tn Mf ⟨_,hz,rfl⟩ PySem.F.entry_zip_iter (Rc ⟨_,rfl, "zip",_,⟨_,hz,rfl⟩,PySem.F.slot_zip_next.lookup,h⟩) (PySem.F.args_zip_iter_1 _))
 lets:=λX _ _ _ tg u i a_ s s' σ H H' Q E p st hQ=>by
  obtain ⟨⟨f0,f1,hz⟩,AM,⟨a,b,qe⟩,c1,c2⟩:=st;simp only [Jq,Ql,Qp,not_or] at D;obtain ⟨⟨D1,D2,D3,D4⟩,_⟩:=D;exact VU hz λh' f0 b hz k=>hQ _ (p.cell (t':=s'.toks) 'b' k) ⟨⟨_,_,hz⟩,k.extBut _ _ (Ne.symm D1) AM,⟨_,_,k.extBut _ _ (Ne.symm D2) qe⟩,N1.keep _ _ _ c1 λb hb o=>k.extBut _ _ (λq=>D3 (q ▸ hb)),N2.keep _ _ _ c2 λb hb o=>k.extBut _ _ (λq=>D4 (q ▸ hb))⟩
end
def PN (X:Cx) (e:ay) (wi:TI):Prop :=
 ∀ (a_:List (ae×cb)) (s:ah) (σ:St) (H:Hp) (R:It->Hp->Prop),Inv X a_ σ H s->wi σ H R ->
  aq (ar X.prog X.w) X.A (eval e X.env) (λv s1=>∃ a it fp tn J H' h',v=.ref a/\(∃ o,s1.heap.get? a=some o)/\(∀ {prog:bq} {w:bx} {A:bz} {Q:aa->ah->Prop} {E:aa->ah->Prop},Q (.ref it) { s1 with heap:=h' }->aq (ar prog w) A (pyIter v) Q E s1) /\
   Inv X a_ σ H' { s1 with heap:=h' }/\qj X.prog X.w X.K J fp it tn/\tn 0 h'/\(∀ b∈fp,mV X a_ H' b)/\R J H') X.xe s
theorem TL {wi:TI} (h:PN X e wi):PI X tg e wi:=λa_ s σ H R I q =>
 fc (h a_ s σ H R I q) λv s1 p=>by
  obtain ⟨a,it,fp,tn,J,H',h',e,_,g,I',N,t,f,r⟩:=p;exact g ⟨it,fp,tn,J,H',rfl,I',N.turn (λ_ _ h=>h) (λ_ _ _ _ h=>h) (λ_ _ h=>h),t,f,r⟩
def ES (X:Cx) (e:ay) (n:String) (wi:TI):Prop :=
 ∀ (a_:List (ae×cb)) (s:ah) (σ:St) (H:Hp) (R:It->Hp->Prop),Inv X a_ σ H s->wi σ H R ->
  aq (ar X.prog X.w) X.A (eval e X.env) (λv s1=>∃ it fp tn J H',v=.ref it/\s1.TypeIs (.ref it) n/\Inv X a_ σ H' s1/\qj X.prog X.w X.K J fp it tn/\tn 0 s1.heap/\(∀ b∈fp,mV X a_ H' b)/\R J H') X.xe s
theorem ES.pn {n:String} {wi:TI} (h:ES X e n wi):PN X e wi:=λa_ s σ H R I q =>
 fc (h a_ s σ H R I q) λv s1 p=>by
  obtain ⟨it,fp,tn,J,H',e,⟨o,c,_⟩,I',N,t,f,r⟩:=p;exact ⟨it,it,fp,tn,J,H',s1.heap,e,⟨o,c⟩,λ{_ _ _ _ _} q=>by rw [e]; exact N.self _ 0 _ _ _ t q,I',N,t,f,r⟩
theorem aFX (k1 k2:Sk) (a b:ae) (xs ys:Array aa) :
  Meets (ak.«zip.__new__» ⟨[.type "zip",.ref a,.ref b],[]⟩) (λ_ R s=>u7 k1 s.heap a xs/\u7 k2 s.heap b ys/\∀ n,s.heap.objs.size=n->R (.ok (.ret (.ref (n+4)))) { s with heap:=((((s.heap.push (Bp k1 a)).push (Bp k2 b)).push { cls:=.type "tuple",data:=.seq #[.ref n,.ref (n+1)] }).push { cls:=.type "tuple",data:=.seq #[.none,.none] }).push { cls:=.type "zip",data:=.fields #[.none,.bool false,.bool false,.ref (n+2),.ref (n+3)] } }) :=
 .of_wp λprog w A R s h=>by
  obtain ⟨hp,g,d,tk,os⟩:=s;obtain ⟨Ec,ow,h⟩:=h;have Fs:=sub_zip;have hA:u7 k1 (ah.heap ⟨hp,g,d,tk,os⟩) a xs:=Ec;have hB:u7 k2 (ah.heap ⟨hp.push (Bp k1 a),g,d,tk,os⟩) b ys:=u7.at ow λo e=>ag.get?_push_of_some _ e
  wp_walk using Hv hA,Hv hB
  simp only [ag.size_push];exact ⟨_,rfl,h _ rfl⟩
section
variable {x1:Nat}
def G6 (K:Rb) (k1 k2:Sk) (ta:TA):TI:=λσ H R=>ta σ H λvs H1=>∃ a b xs ys,vs = [.ref a,.ref b]/\jv k1 K H1 a xs/\jv k2 K H1 b ys/\R (Nx (y' K k1 a) (y' K k2 b)) H1
theorem MI (k1 k2:Sk) {a b:ay} {ta:TA} (hg:Gl X "zip") (hm:X.mg "zip" = none) (ha:PA X [a,b] ta) (hs:autoParam (ao [a,b] X.env = [(false,eval a X.env),(false,eval b X.env)]) L2.f') (ug:autoParam (ao [b] X.env = [(false,eval b X.env)]) L2.f') :
  ES X (.Call (.Name "zip" p) [a,b] [] pos) "zip" (G6 X.K k1 k2 ta):=by
 intro a_ s σ H R I h;refine Call_ (mT (u:=.type "zip") I hg hm 'd' (PyProof.Rows.callWith_type1 (fc (ha pos a_ s σ H _ I h) λus s1 q9=>?_) (by rw [hs,ug]) (by rw [ug]; rfl)));obtain ⟨vs,H1,I1,r1,l1,l2,xs,ys,e,hA,hB,q⟩:=q9;subst e;obtain ⟨u1,u2,rfl,ZP,ZN⟩:=uM r1;cases ZP;cases ZN;obtain ⟨its,rv,pa⟩:=I1.u9 hA;obtain ⟨π,js,pb⟩:=I1.u9 hB;refine callType_new PySem.F.called_zip 'c' (PySem.F.typeCall_zip_2 _ _) (PySem.F.newCall_zip_2 _ _) (λobj=>PySem.F.args_object_init_3 obj _ _) PySem.F.entry_zip_new (aFX k1 k2 l1 l2 its.toArray π.toArray) ⟨pa,pb,λn hn=>?_⟩;subst hn;have N:qj X.prog X.w X.K _ _ _ _:=aHR (zS k1 l1 s1.heap.objs.size) (zS k2 l2 (s1.heap.objs.size+1)) (λ_ _ _ _ h=>h.1) (λ_ _ _ _ h=>h.1) (z:=s1.heap.objs.size+4) (TI:=s1.heap.objs.size+2) (TO:=s1.heap.objs.size+3) 'b';generalize hg:ag.push _ _=h';have up:∀ {c o},s1.heap.get? c=some o->h'.get? c=some o:=λe=>by rw [<- hg]; heap_get
 have t:=N.st (h:=h') (by rw [<- hg]; exact ⟨⟨.none,false,by heap_get⟩,by unfold IsPair; heap_get,⟨.none,.none,by unfold IsPair; heap_get⟩,⟨Bp k1 l1,by heap_get,rfl,rfl⟩,⟨Bp k2 l2,by heap_get,rfl,rfl⟩⟩);have ⟨⟨_,_,z⟩,_⟩:=t;exact ⟨⟨_,z,rfl⟩,_,_,_,_,H1,rfl,⟨_,z,rfl⟩,I1.kept (t':=s1.toks) λc o=>up,N,t,λc hc=>(λhc=>I1.n_ hc (I1.ei.fresh hc)) (show s1.heap.objs.size<=c by simp at hc; rcases hc with rfl | rfl | rfl | rfl | rfl <;> omega),q⟩
end
noncomputable abbrev IH (K:Rb) (k1 k2:Sk) (a b:ae):It:=Nx (y' K k1 a) (y' K k2 b)
theorem aJ1 (k1 k2:Sk) {a b:ay} {ta:TA} (hg:Gl X "zip") (hm:X.mg "zip" = none) (ha:PA X [a,b] ta) (hs:autoParam (ao [a,b] X.env = [(false,eval a X.env),(false,eval b X.env)]) L2.f') (ug:autoParam (ao [b] X.env = [(false,eval b X.env)]) L2.f') :
  PI X tg (.Call (.Name "zip" p) [a,b] [] pos) (G6 X.K k1 k2 ta):=TL (MI k1 k2 hg hm ha hs ug).pn
theorem MH {a b:ae} (h1:jv k1 K H a xs) (h2:jv k2 K H b ys) (a1:i < xs.length) (a2:i < ys.length):(IH K k1 k2 a b).go i H:=⟨⟨xs,_,h1,Qc a1⟩,ys,_,h2,Qc a2⟩
open PySem.AutoSeq1 (wpAny_loadPart')
theorem xL (l b:ae) (items Cz:Array aa) (n n2:Nat) (dd Dm:Option ae) (sl CL:Array (Option aa)) (KR:items.isEmpty=true) :
  Meets (ak.«tuple.__add__» ⟨[.ref l,.ref b],[]⟩) (λ_ R s=>s.heap.get? l=some { cls:=.type "tuple",dict:=dd,data:=.seq items n,slots:=sl }/\s.heap.get? b=some { cls:=.type "tuple",dict:=Dm,data:=.seq Cz n2,slots:=CL }/\R (.ok (.ret (aa.ref b))) s) :=
 .of_wp λprog w A R s h=>by
  obtain ⟨hp,g,d,tk,os⟩:=s;obtain ⟨hl,hb,h⟩:=h;have f1:=AutoSeq1.idx_int;have f2:=AutoSeq1.sub_tuple_tuple
  wp_walk using Rn hl,Rn hb
  exact ⟨_,rfl,h⟩
theorem aHT:gy X (binaryOp .Add) (λx y H Q=>∃ a b xs ys,x=.ref a/\y=.ref b/\dt X.K H a xs/\dt X.K H b ys/\xs.length+ys.length<=af/\∀ p H',aD H H'->dt X.K H' p (xs++ys)->Q (.ref p) H'):=by
 intro a_ s σ H x y v u Q I rx ry h;obtain ⟨a,b,xs,ys,rfl,rfl,ha,hb,hz,q⟩:=h;by_cases hx:xs = []
 ·subst hx;cases rx;cases ry;obtain ⟨its,r1,⟨⟨cls,dd,data,sl⟩,ho,hc,n,hd⟩,_⟩:=I.tuple ha;obtain ⟨Ac,r2,⟨⟨Oj,Dm,data2,CL⟩,zk,AK,n2,hd2⟩,_⟩:=I.tuple hb;simp only at hc hd AK hd2;subst hc hd AK hd2;cases r1;exact Mw ⟨_,ho,rfl⟩ ⟨_,zk,rfl⟩ Ma Mr Vi Vf (Vd _ _)
   (xL a b _ _ n n2 dd Dm sl CL rfl) ⟨ho,zk,⟨.ref b,H,I,rfl,q b H (aD.refl H) hb⟩⟩
 ·refine aHP a_ s σ H _ _ v u Q I rx ry ⟨a,b,xs,ys,rfl,rfl,ha,hb,hx,hz,λe=>?_,λe p hp=>?_⟩
  ·subst e;exact q a H (aD.refl H) (by simp_all)
  ·exact q p _ (aD.new hp) (dt.of aB)
theorem oS {items:Array aa} {lo:Option Int} (ht:IsTup s.heap t items) (hs:s.heap.IsSliceOf sl vl vu .none) (pl:de vl lo) (pu:de vu hi) (hw:HT.gj items.size 0 lo=0/\HT.gj items.size items.size hi=items.size) (h:Q (.ref t) s):aq (ar prog w) A (cq (.ref t) (.ref sl)) Q E s:=by
 obtain ⟨os,Bw,BB,ur⟩:=id hs;have KW:s.TypeIs (.ref sl) "slice" := ⟨os,Bw,BB⟩
 unfold cq
 try with_reducible refine Rt ?_
 first | refine Ra (Rc ?_) | skip
 refine Ra (Rap ht.typeIs 'c' ?_);refine Ra (To (name:=aj.ofString "__getitem__") ht.typeIs PyProof.Rows.slot_tuple_getitem
  (Tn PyProof.Rows.slot_tuple_getitem ht.typeIs Raj ?_ (Ram _ _)))
 refine Ra (m:=ak.Tuple.tupleItemsOf (.ref t)) (tupleItemsOf_ ht (Ra (Vq KW ?_)));rw [if_pos 'c'];refine Ra (HT.g_ hs pl pu ?_);have B2:(((HT.gj items.size 0 lo:Nat):Int)==0 && (1:Int)==1 && (HT.gj items.size items.size hi - HT.gj items.size 0 lo)==items.size)=true:=by simp_all
 show aq _ _ (if (((HT.gj items.size 0 lo:Nat):Int)==0 && (1:Int)==1 && (HT.gj items.size items.size hi - HT.gj items.size 0 lo)==items.size)=true then _ else _) _ _ s;rw [if_pos B2];unfold ak.Tuple.tupleIsExact;refine Ra (Ra (Vq ht.typeIs (Rc (Mi (λ_=>Ra (Ut (Rc ⟨_,rfl,Rc h⟩))) (λA?=>absurd (by rfl) A?)))))
theorem VT:Dv X (λx lo hi H Q=>∃ a xs,x=.ref a/\dt X.K H a xs/\∀ p H',aD H H'->dt X.K H' p (mY xs lo hi)->Q (.ref p) H'):=by
 intro a_ s σ H x v vl vu lo hi sl Q I rx hs pl pu h;obtain ⟨a,xs,rfl,hx,q⟩:=h;by_cases hw:HT.gj xs.length 0 lo=0/\HT.gj xs.length xs.length hi=xs.length
 ·cases rx;obtain ⟨its,r,ht,hz⟩:=I.tuple hx;have hlen:its.toArray.size=xs.length:=by rw [Jj]; exact r.length.symm
  refine ⟨"tuple",_,PyProof.Rows.slot_tuple_getitem.lookup,ht.typeIs,oS ht hs pl pu (by rw [hlen]; exact hw) ⟨.ref a,H,I,rfl,q a H (aD.refl H) ?_⟩⟩;have e:mY xs lo hi=xs:=by simp_all [mY,Zv,Nat.sub_zero,Qu]
  rw [e]; exact hx
 ·exact aJW a_ s σ H _ v vl vu lo hi sl Q I rx hs pl pu ⟨a,xs,rfl,hx,hw,λp hp=>q p _ (aD.new hp) (dt.of aB)⟩
theorem VS (xs:List V) (k:Nat):mY xs none (some (k:Int))=xs.take k:=by
 unfold mY;rw [HT.mi,HT.ub,Zv,Nat.sub_zero];by_cases h:k<=xs.length
 ·simp_all
 ·simp
theorem lC (xs:List V) (k:Nat):mY xs (some (k:Int)) none=xs.drop k:=by
 unfold mY;rw [HT.mi,HT.ub];by_cases h:k<=xs.length
 ·simp_all [Nat.min_eq_left,Jf,Xa,Qe]
 ·rw [Nat.min_eq_right 'a',Ye (Qe _),Ye 'a',List.take_nil]
noncomputable def MY (N ff:List aj) (fr:List Nat):Bool:=ff.length==fr.length && (ff.zip fr).all λy=>N[y.2]?==some y.1
theorem aFY (h1:X.env.scope=sc) (h2:X.N=N) (cf:∀ z0,z=some z0->(∀ (n:Nat) (cl:List (aj×ae)),cellsFrom n scope.names cl=(z0,n)::cl)/\∀ h:ag,pushCells h scope.names=h.push { cls:=.type "cell",data:=.cell none }) (h:(oA sc scope z own ff && MY N ff fr)=true):fz X scope z own fr ff:=by
 rw [Qt] at h;obtain ⟨ha,hb⟩:=h;unfold MY at hb;simp only [Qt,beq_iff_eq,Jo] at hb;refine ⟨by rw [h1]; exact ha,λk x hk=>?_,hb.1.symm,cf⟩;have gh:k < fr.length:=by rw [<- hb.1]; exact (Qb.mp hk).1
 refine ⟨fr[k],Qc gh,?_⟩;have hm:(x,fr[k])∈ff.zip fr:=by
  refine Qd (i:=k) ?_;rw [Jh];exact ⟨hk,Qc gh⟩
 rw [h2];exact hb.2 _ hm
theorem aX (sc:dc) (N:List aj) (h1:X.env.scope=sc) (h2:X.N=N) (h:(oA sc scope none own ff && MY N ff fr)=true):fz X scope none own fr ff:=aFY h1 h2 (λ_ q=>by cases q) h
section
variable {own:Nat} {σ:St} {Q:Hp->List V->Prop}
theorem VR {a0:α} {FZ:St} {Q:Hp->α->Prop} {tb:α->St->Hp->(α->St->Hp->Prop)->Prop} (n:Nat) (SH:St->Prop) (Pv:Nat->α->Hp->Prop) (jw:SH FZ) (h0:Pv 0 a0 H) (o7:∀ a H,Pv n a H->J.stop n H) (Ef:∀ i a H,i < n->Pv i a H->J.go i H) (hs:∀ i a σ x H H',i < n->SH σ->Pv i a H->J.m7 i H x H'->g x σ H' λfi H2=>tt fi H2 λb H3=>if b=true then tb a fi H3 λa' uc H4=>SH uc/\Pv (i+1) a' H4 else SH fi/\Pv (i+1) a H3) (hd:∀ a H,Pv n a H->Q H a):ki J a0 FZ H (λa _ H=>Q H a) g tt tb:=by
 refine ⟨λi m ys d9 H=>m=n - i/\i<=n/\SH d9/\Pv i ys H,⟨n,by simp,Ji _,jw,h0⟩,?_⟩;rintro i m ys d9 H ⟨rfl,hi,sh,p⟩;by_cases gh:i < n
 ·exact .inr ⟨Ef i ys H gh p,λF1 fi H2=>SH fi/\Pv (i+1) F1 H2,λF1 fi H2 ⟨e,q⟩=>⟨n - (i+1),by omega,rfl,gh,e,q⟩,λx H' y=>hs i ys d9 x H H' gh sh p y⟩
 ·have e:i=n:=by omega
  subst e;exact .inl ⟨o7 ys H p,hd ys H p⟩
theorem jP (n:Nat) (hn:n<=af) (SH:St->Prop) (Pv:Nat->List V->Hp->Prop) (jw:SH (h_ own fr σ)) (h0:Pv 0 [] H) (hlen:∀ i ys H,Pv i ys H->ys.length<=i)
  (o7:∀ ys H,Pv n ys H->J.stop n H) (Ef:∀ i ys H,i < n->Pv i ys H->J.go i H)
  (hs:∀ i ys σ x H H',i < n->SH σ->Pv i ys H->J.m7 i H x H'->ys.length < af->g x σ H' λfi H2=>tt fi H2 λb H3=>if b=true then te fi H3 λy H4=>ys.length < af/\SH fi/\Pv (i+1) (ys++[y]) H4 else SH fi/\Pv (i+1) ys H3)
  (hd:∀ ys H,Pv n ys H->Q H ys) :
  ki J [] (h_ own fr σ) H (λys _ H=>Q H ys) g tt (sj te) :=
 VR n SH Pv jw h0 o7 Ef (λi ys σ x H H' hi sh p y=>hs i ys σ x H H' hi sh p y (by grind)) hd
theorem kB {a:ae} (SH:St->Prop) (Pv:Nat->List V->Hp->Prop) (hn:xs.length<=af) (jw:SH (h_ own fr σ)) (h0:Pv 0 [] H) (hlen:∀ i ys H,Pv i ys H->ys.length<=i) (hl:∀ i ys H,Pv i ys H->dt K H a xs) (hs:∀ i ys σ x H,xs[i]?=some x->SH σ->Pv i ys H->ys.length < af->g x σ H λfi H2=>tt fi H2 λb H3=>if b=true then te fi H3 λy H4=>ys.length < af/\SH fi/\Pv (i+1) (ys++[y]) H4 else SH fi/\Pv (i+1) ys H3) (hd:∀ ys H,Pv xs.length ys H->Q H ys) :
  ki (IK K a) [] (h_ own fr σ) H (λys _ H=>Q H ys) g tt (sj te):=by
 refine jP xs.length hn SH Pv jw h0 hlen (λys H p=>⟨xs,hl _ _ _ p,Qe _⟩) (λi ys H hi p=>⟨xs,xs[i],hl _ _ _ p,Qc hi⟩) (λi ys σ x H H' hi sh p y hz=>?_) hd;obtain ⟨e,y⟩:=y;subst e;exact hs i ys σ x _ (y xs (hl _ _ _ p)) sh p hz
theorem eZ {a:ae} (SH:St->Prop) (Pv:Nat->List V->Hp->Prop) (hn:xs.length<=af) (jw:SH (h_ own fr σ)) (h0:Pv 0 [] H) (hlen:∀ i ys H,Pv i ys H->ys.length<=i) (hl:∀ i ys H,Pv i ys H->dm K H a xs) (hs:∀ i ys σ x H,xs[i]?=some x->SH σ->Pv i ys H->ys.length < af->g x σ H λfi H2=>tt fi H2 λb H3=>if b=true then te fi H3 λy H4=>ys.length < af/\SH fi/\Pv (i+1) (ys++[y]) H4 else SH fi/\Pv (i+1) ys H3) (hd:∀ ys H,Pv xs.length ys H->Q H ys) :
  ki (A2 K a) [] (h_ own fr σ) H (λys _ H=>Q H ys) g tt (sj te):=by
 refine jP xs.length hn SH Pv jw h0 hlen (λys H p=>⟨xs,hl _ _ _ p,Qe _⟩) (λi ys H hi p=>⟨xs,xs[i],hl _ _ _ p,Qc hi⟩) (λi ys σ x H H' hi sh p y hz=>?_) hd;obtain ⟨e,y⟩:=y;subst e;exact hs i ys σ x _ (y xs (hl _ _ _ p)) sh p hz
theorem kC (SH:St->Prop) (Pv:Nat->List V->Hp->Prop) (hn:n<=af) (jw:SH (h_ own fr σ)) (h0:Pv 0 [] H) (hlen:∀ i ys H,Pv i ys H->ys.length<=i) (hs:∀ i ys σ H,i < n->SH σ->Pv i ys H->ys.length < af->g (.int (lo+i)) σ H λfi H2=>tt fi H2 λb H3=>if b=true then te fi H3 λy H4=>ys.length < af/\SH fi/\Pv (i+1) (ys++[y]) H4 else SH fi/\Pv (i+1) ys H3) (hd:∀ ys H,Pv n ys H->Q H ys) :
  ki (Fb lo n) [] (h_ own fr σ) H (λys _ H=>Q H ys) g tt (sj te):=by
 refine jP n hn SH Pv jw h0 hlen (λys H p=>Qe _) (λi ys H hi p=>hi) (λi ys σ x H H' hi sh p y hz=>?_) hd;obtain ⟨e,y⟩:=y;subst e y;exact hs i ys σ _ hi sh p hz
theorem aFZ {a b:ae} (SH:St->Prop) (Pv:Nat->List V->Hp->Prop) (hn:xs.length<=af) (heq:xs.length=ys.length) (jw:SH (h_ own fr σ)) (h0:Pv 0 [] H) (hlen:∀ i zs H,Pv i zs H->zs.length<=i) (hl:∀ i zs H,Pv i zs H->jv k1 K H a xs/\jv k2 K H b ys) (hs:∀ i zs σ x y p H,xs[i]?=some x->ys[i]?=some y->SH σ->Pv i zs H->H p=none->zs.length < af->g (.ref p) σ (upd H p (.tup [x,y])) λfi H2=>tt fi H2 λc H3=>if c=true then te fi H3 λy H4=>zs.length < af/\SH fi/\Pv (i+1) (zs++[y]) H4 else SH fi/\Pv (i+1) zs H3) (hd:∀ zs H,Pv xs.length zs H->Q H zs) :
  ki (IH K k1 k2 a b) [] (h_ own fr σ) H (λys _ H=>Q H ys) g tt (sj te):=by
 refine jP xs.length hn SH Pv jw h0 hlen (λzs H p=>.inl ⟨xs,(hl _ _ _ p).1,Qe _⟩) (λi zs H hi p=>MH (hl _ _ _ p).1 (hl _ _ _ p).2 hi (heq ▸ hi)) (λi zs σ v H H' hi sh p y hz=>?_) hd;obtain ⟨x,y,q,h1,h2,hq,rfl,rfl⟩:=y;exact hs i zs σ x y q H (h1.2 xs (hl _ _ _ p).1) (h2.2 ys (hl _ _ _ p).2) sh p hq hz
end
theorem tP:∀ {xs:List V} {us:List aa},xs.length=us.length->(∀ (j:Nat) (x:V) (u:aa),xs[j]?=some x->us[j]?=some u->bN x u)->bG xs us
 | [],[],_,_=>.nil
 | [],_::_,h,_=>by cases h
 | _::_,[],h,_=>by cases h
 | x::xs,u::us,h,k=>.cons (k 0 x u rfl rfl) (tP (by simpa using h) λj y v hy hv=>k (j+1) y v hy hv)
theorem xM (hc:X.calm=true):eQ X (.type "list") (λxs H Q=>∃ (a:ae) (n:Nat),xs = [.ref a]/\H a=some (.so 0 n)/\n<=1000/\∀ p,H p=none->Q (.ref p) (upd H p (.lst ((fN n).map V.int)))):=by
 intro a_ s σ H xs us Q I r h;obtain ⟨a,n,rfl,ha,hn,q⟩:=h;obtain ⟨u,rfl,rx⟩:=eU r;cases rx;obtain ⟨t,u,v,e⟩:=I.ei a _ ha;have hsz:ak.Range.rangeSize 0 (n:Int) 1=(n:Int):=by simp_all [rangeSize_one]
 have Br:ak.Range.small 0 (n:Int) 1=true:=by grind [small_one]
 refine call_list_range (I.ok.hd hc) e Br hsz (Qr hn 'c') λh' tk FO c' kp hl hi=>?_;have hv:bG ((fN n).map V.int) FO.toList:=by
  obtain ⟨h1,h2⟩:=hi;refine tP (by simp_all [fN]) λj x u hx hu=>?_;have hj:j < n:=by
   have:=(Qb.mp hu).1;rw [Array.length_toList,h1] at this;exact this
  obtain ⟨t,rfl⟩:=h2 j u (by rw [<- Array.getElem?_toList]; exact hu);unfold fN at hx;rw [Qh,Qh,Qae hj] at hx;have e:V.int (j:Int)=x:=Option.some.inj hx;rw [<- e];exact ⟨t,by rw [Wr,Int.mul_one]⟩
 have hlen:((fN n).map V.int).length<=af:=by grind [fN,Qa,List.length_range,Rf]
 exact ⟨.ref s.heap.objs.size,_,I.laid (t':=tk) kp (Qe _) (show bT X.prog X.w _ h' _ (.lst _) from ⟨hlen,FO.toList,c',hv,hl⟩),rfl,q _ (I.ei.fresh (Qe _))⟩
theorem W9 {f g:α->Option β}:∀ {l:List α},(∀ x∈l,f x=g x)->l.filterMap f=l.filterMap g
 | [],_=>rfl
 | x::r,h=>by rw [Xe,Xe,h x (Qk ..),W9 λy hy=>h y (Qj _ hy)]
theorem aF0 (xs:Array aa):((List.range xs.size).filterMap λ(k:Nat)=>xs[((xs.size:Int) - 1+(k:Int)*(-1)).toNat]?).toArray=xs.toList.reverse.toArray:=by
 have e:(List.range xs.size).filterMap (λ(k:Nat)=>xs[((xs.size:Int) - 1+(k:Int)*(-1)).toNat]?)=(List.range xs.size).filterMap (λ(m:Nat)=>xs.toList.reverse.toArray[(((0:Nat):Int)+(m:Int)*1).toNat]?):=by
  refine W9 λk hk=>?_;have AE:=Zm.mp hk;have h1:((xs.size:Int) - 1+(k:Int)*(-1)).toNat=xs.size - 1 - k:=by omega
  have h2:(((0:Nat):Int)+(k:Int)*1).toNat=k:=by omega
  rw [h1,h2];simp only [List.getElem?_toArray];rw [List.getElem?_reverse 'a'];simp
 rw [e,(HT.pz xs.toList.reverse.toArray 0 xs.size)];congr 1;rw [Zv,Jf 'b']
noncomputable def Vw (S:List ae) (H:Hp):Hp:=λb=>if b∈S then none else H b
theorem Vw.out {S:List ae} {b:ae} (n:b∉S):Vw S H b=H b:=by simp_all [Vw,if_neg]
theorem Vw.keep {S:List ae} (e:∀ b o,b∉S->H b=some o->H' b=some o):aD (Vw S H) (Vw S H'):=λb o h=>by simp_all [Vw,if_pos,Vw.out]
theorem Vw.same {S:List ae} (e:aD H H'):aD (Vw S H) (Vw S H'):=Vw.keep λb o _ h=>e b o h
section
variable {S:List ae}
def Dn (K:Rb) (S:List ae) (H:Hp) (x:V):Prop:=∃ d,Den K (Vw S H) d x
def DT (K:Rb) (S:List ae) (n:Nat) (H:Hp) (x:V):Prop:=∃ a xs,x=.ref a/\dt K (Vw S H) a xs/\xs.length<=n/\∀ y∈xs,Dn K S H y
def II (_:Hp) (x:V):Prop:=∃ i,x=.int i
class Mo (R:Hp->V->Prop):Prop where
 mo:∀ {H H':Hp} {v:V},aD H H'->R H v->R H' v
theorem Dn.keep {x:V} (h:Dn K S H x) (e:aD (Vw S H) (Vw S H')):Dn K S H' x:=let ⟨d,h⟩:=h; ⟨d,e.den _ _ h⟩
theorem Dn.same {x:V} (h:Dn K S H x) (e:aD H H'):Dn K S H' x:=h.keep (Vw.same e)
theorem DT.keep {x:V} (h:DT K S n H x) (e:aD (Vw S H) (Vw S H')):DT K S n H' x:=let ⟨a,xs,h1,h2,h3,h4⟩:=h; ⟨a,xs,h1,e.di h2,h3,λy hy=>(h4 y hy).keep e⟩
theorem DT.same {x:V} (h:DT K S n H x) (e:aD H H'):DT K S n H' x:=h.keep (Vw.same e)
instance:Mo (Dn K S):=⟨λe h=>Dn.same h e⟩
instance {n:Nat}:Mo (DT K S n):=⟨λe h=>DT.same h e⟩
instance:Mo II:=⟨λ_ h=>h⟩
variable {σ:St} {R R':Hp->V->Prop} {t:TA} {tl th:TO}
def TJ (K:Rb):R2:=λx y H Q=>∃ a b xs ys,x=.ref a/\y=.ref b/\dt K H a xs/\dt K H b ys/\xs.length+ys.length<=af/\∀ p H',aD H H'->dt K H' p (xs++ys)->Q (.ref p) H'
theorem kD (hK:X.K=K):gy X (binaryOp .Add) (TJ K):=by subst hK; exact aHT
def G5 (K:Rb):V->Option Int->Option Int->Hp->VK->Prop:=λx lo hi H Q=>∃ a xs,x=.ref a/\dt K H a xs/\∀ p H',aD H H'->dt K H' p (mY xs lo hi)->Q (.ref p) H'
theorem nG (hK:X.K=K):Dv X (G5 K):=by subst hK; exact VT
instance {a:ae} {xs:List V}:Mo (λH v=>v=.ref a/\dt K H a xs):=⟨λe h=>⟨h.1,e.di h.2⟩⟩
instance {x:V}:Mo (λ_ v=>v=x):=⟨λ_ h=>h⟩
end
open PySem.AutoSeq1 (wpAny_loadPart')
theorem nf {b:Bool} (h:b=false):decide (b=true)=false:=by rw [h]; rfl
theorem nt {b:Bool} (h:b=true):decide (b=true)=true:=by rw [h]; rfl
theorem uV (l:ae) (items:Array aa) (n:Nat) (dd:Option ae) (sl:Array (Option aa)) (x:Int) (u:df) (h1:1 < x) (h2:x<=1000) (gw:items.isEmpty=false) (hz:items.size<=1000) :
  Meets (ak.«tuple.__mul__» ⟨[.ref l,.int x u],[]⟩) (λ_ R s=>s.heap.get? l=some { cls:=.type "tuple",dict:=dd,data:=.seq items n,slots:=sl }/\R (.ok (.ret (aa.ref s.heap.objs.size))) { s with heap:=s.heap.push { cls:=aa.type "tuple",data:=Data.seq (List.foldl (λx1 x2=>x1++x2) #[] (List.replicate x.toNat items)) },toks:=s.toks }) :=
 .of_wp λprog w A R s h=>by
  obtain ⟨hp,g,d,tk,os⟩:=s;obtain ⟨hl,h⟩:=h;have f1:=AutoSeq1.idx_int;have f2:=AutoSeq1.sub_tuple_tuple
  wp_walk using Rn hl
  refine Ur (nf (show (decide (x < -2^63) || decide (x≥2^63))=false from by rw [decide_eq_false (show ¬ x < -2^63 by omega),decide_eq_false (show ¬ x≥2^63 by omega)]; rfl)) ?_
  wp_walk using Rn hl
  refine Ur (nf (show (items.isEmpty || x==1)=false from by rw [gw,beq_eq_false_iff_ne.mpr (show x≠1 by omega)]; rfl)) ?_
  wp_walk using Rn hl
  refine Ur (nf (show (decide (x<=0) || items.isEmpty)=false from by rw [gw,decide_eq_false (show ¬ x<=0 by omega)]; rfl)) ?_
  wp_walk using Rn hl
  have hm:(items.size:Int)*x<=1000*1000:=Wx 'a' h2 'a' 'a';refine Ur (decide_eq_false (show ¬ (items.size:Int)*x > (2^63 - 1) / 8 by omega)) ?_
  wp_walk using Rn hl
  refine Ur (nf (show decide ((items.size:Int)*x > (af:Int))=false from decide_eq_false (by rw [Rf]; omega))) ?_;have hsz:¬ (List.foldl (λx1 x2=>x1++x2) #[] (List.replicate x.toNat items)).size > af:=by
   have e:=rH items.toList x.toNat [];rw [Yp] at e;have e2:List.foldl (λx1 x2=>x1++x2) #[] (List.replicate x.toNat items)=(List.replicate x.toNat items.toList).flatten.toArray:=e;rw [e2,Jj,VX,Array.length_toList,Rf];have:x.toNat*items.size<=1000*1000:=Nat.mul_le_mul 'a' hz;omega
  wp_walk using Rn hl
  exact ⟨_,rfl,h⟩
theorem uW (l:ae) (items:Array aa) (n:Nat) (dd:Option ae) (sl:Array (Option aa)) (x:Int) (u:df) (h1:1 < x) (h2:x<=1000) (gw:items.isEmpty=true) :
  Meets (ak.«tuple.__mul__» ⟨[.ref l,.int x u],[]⟩) (λ_ R s=>s.heap.get? l=some { cls:=.type "tuple",dict:=dd,data:=.seq items n,slots:=sl }/\R (.ok (.ret (aa.ref l))) s) :=
 .of_wp λprog w A R s h=>by
  obtain ⟨hp,g,d,tk,os⟩:=s;obtain ⟨hl,h⟩:=h;have f1:=AutoSeq1.idx_int;have f2:=AutoSeq1.sub_tuple_tuple
  wp_walk using Rn hl
  refine Ur (nf (show (decide (x < -2^63) || decide (x≥2^63))=false from by rw [decide_eq_false (show ¬ x < -2^63 by omega),decide_eq_false (show ¬ x≥2^63 by omega)]; rfl)) ?_
  wp_walk using Rn hl
  exact ⟨_,rfl,h⟩
theorem lD:fillsNumberSlot (.type "tuple") "mul" = pure false :=
 PySem.fillsNumberSlot_seq (id := "tuple.__mul__") (r:=some (.builtin "tuple.__rmul__")) PySem.F.slot_tuple_mul.lookup 'd' PySem.F.slot_tuple_rmul.lookup 'd'
theorem pS:seqRepeat? (.type "tuple")=pure (some (.builtin "tuple.__mul__")):=by
 unfold seqRepeat?;rw [Raa (T := "tuple") (name := "__mul__") (id := "tuple.__mul__") PySem.F.slot_tuple_mul.lookup 'd',Raa (T := "tuple") (name := "__rmul__") (id := "tuple.__rmul__") PySem.F.slot_tuple_rmul.lookup 'd'];rfl
theorem nH (a:Int) (t:df) (l:ae) (items:Array aa) (n:Nat) (dd:Option ae) (sl:Array (Option aa)) :
  Meets (ak.«int.__rmul__» ⟨[.int a t,.ref l],[]⟩) (λ_ R s=>s.heap.get? l=some { cls:=.type "tuple",dict:=dd,data:=.seq items n,slots:=sl }/\R (.ok (.ret aa.notImplemented)) s) :=
 .of_wp λprog w A R s h=>by
  obtain ⟨hp,g,d,tk,os⟩:=s;obtain ⟨hl,h⟩:=h
  wp_walk using Rn hl
  exact ⟨_,rfl,h⟩
def aLa (K:Rb):R2:=λx y H Q=>∃ a k xs,x=.ref a/\y=.int k/\dt K H a xs/\1 < k/\k<=1000/\xs.length<=1000/\∀ p H',aD H H'->dt K H' p (List.replicate k.toNat xs).flatten->Q (.ref p) H'
theorem aHV (hK:X.K=K):gy X (binaryOp .Mult) (aLa K):=by
 subst hK;intro a_ s σ H x y v u Q I rx ry h;obtain ⟨a,k,xs,rfl,rfl,ha,h1,h2,hz,q⟩:=h;cases rx;obtain ⟨t,rfl⟩:=ry;obtain ⟨its,r,⟨⟨cls,dd,data,sl⟩,ho,hc,n,hd⟩,CS⟩:=I.tuple ha;simp only at hc hd;subst hc hd;have hl:=r.length;refine Mn (T := "tuple") (U := "int") 'c' ⟨_,ho,rfl⟩ (λs'=>Il s' k t) lD Mg Us pS PySem.F.slot_int_index.lookup
  (Tg Us (Il s k t) Mc (Iu _ _) (nH k t a its.toArray n dd sl) ⟨ho,rfl,⟨_,ho,rfl⟩,?_⟩)
 by_cases hx:xs = []
 ·subst hx;cases r;exact Tg PySem.F.slot_tuple_mul ⟨_,ho,rfl⟩ Tz (Tw _ _) (uW a _ n dd sl k t h1 h2 rfl) ⟨ho,.ref a,H,I,rfl,q a H (aD.refl H) (by simp_all)⟩
 ·have gw:its.toArray.isEmpty=false:=by grind
  refine Tg PySem.F.slot_tuple_mul ⟨_,ho,rfl⟩ Tz (Tw _ _) (uV a its.toArray n dd sl k t h1 h2 gw (by simp_all)) ⟨ho,?_⟩;have j1:List.foldl (λx1 x2=>x1++x2) #[] (List.replicate k.toNat its.toArray)=(List.replicate k.toNat its).flatten.toArray:=by simp_all [rH,Yp]
  rw [j1];have hlen:(List.replicate k.toNat xs).flatten.length<=af:=by
   rw [VX,Rf];have:k.toNat*xs.length<=1000*1000:=Nat.mul_le_mul 'a' hz;omega
  refine ⟨.ref _,_,I.laid (t':=s.toks) (o:=.tup (List.replicate k.toNat xs).flatten) (λb ob q=>ag.get?_push_of_some _ q) (Qe _) ?_,rfl,q _ _ (aD.new (I.ei.fresh (Qe _))) (dt.of aB)⟩;exact ⟨hlen,(List.replicate k.toNat its).flatten,0,r.rep k.toNat,ag.get?_push_size _ rfl⟩
section
variable {σ:St}
end
section
variable {S:List ae} {E E':Hp->V->Prop}
def DTe (K:Rb) (S:List ae) (E:Hp->V->Prop) (n:Nat) (H:Hp) (x:V):Prop:=∃ a xs,x=.ref a/\dt K (Vw S H) a xs/\xs.length<=n/\∀ y∈xs,E H y
def LTe (S:List ae) (E:Hp->V->Prop) (n:Nat) (H:Hp) (x:V):Prop:=∃ a xs,x=.ref a/\Vw S H a=some (.lst xs)/\xs.length<=n/\∀ y∈xs,E H y
instance {n:Nat} [m:Mo E]:Mo (DTe K S E n):=⟨λe ⟨a,xs,h1,h2,h3,h4⟩=>⟨a,xs,h1,(Vw.same e).di h2,h3,λy hy=>m.mo e (h4 y hy)⟩⟩
instance {n:Nat} [m:Mo E]:Mo (LTe S E n):=⟨λe ⟨a,xs,h1,h2,h3,h4⟩=>⟨a,xs,h1,Vw.same e _ _ h2,h3,λy hy=>m.mo e (h4 y hy)⟩⟩
variable {σ:St} {t:TA} {tl th:TO}
end
section
variable {env:cz} {cC:List ay} {k:Nat} {a b c:ay}
theorem MG:ao (.Tuple es k pos::cC) env=(false,eval (.Tuple es k pos) env)::ao cC env:=rfl
theorem uX {op:Operator}:ao (.BinOp a op b pos::cC) env=(false,eval (.BinOp a op b pos) env)::ao cC env:=rfl
theorem bE {v:Const}:ao (.Constant v k pos::cC) env=(false,eval (.Constant v k pos) env)::ao cC env:=rfl
theorem aHW {x:aj}:ao (.Name x pos::cC) env=(false,eval (.Name x pos) env)::ao cC env:=rfl
theorem aJ2:ao (.Subscript a b pos::cC) env=(false,eval (.Subscript a b pos) env)::ao cC env:=rfl
theorem aHX {kw:List c8}:ao (.Call a es kw pos::cC) env=(false,eval (.Call a es kw pos) env)::ao cC env:=rfl
end
noncomputable def aMi (scope sc:dc):dc:={ scope with names:=scope.names.map λ(n,k)=>if (k==bo.free && sc.kind==.function && sc.names.lookup n==some .cell) then (n,bo.cell) else (n,k) }
theorem aEQ:wd X "list.index" (λx vs H Q=>∃ (a:ae) (ns:LIn) (n:Int) (j:Nat),x=.ref a/\vs = [.int n]/\dm X.K H a (ns.map V.int)/\ns[j]?=some n/\(∀ m,m < j->ns[m]?≠some n)/\Q (.int (j:Nat)) H):=by
 intro a_ s σ H x xs v us Q I rx r h;obtain ⟨a,ns,n,j,rfl,rfl,ha,hj,jh,q⟩:=h;obtain ⟨u,rfl,t,rfl⟩:=eU r;cases rx;obtain ⟨its,rv,⟨⟨cls,dd,data,sl⟩,k,ho,hc,Em,hd⟩,CS⟩:=I.list ha;simp only at hc hd;subst hc hd;have hi:IntsAre its ns:=pG rv;have hl:=hi.length;have qq:j < ns.length:=(Qb.mp hj).1;have vp:ns.length<=af:=by simp_all
 have val:∀ m (hm:m < its.toArray.size),isInt n its.toArray[m]=decide (ns[m]?=some n):=λm hm=>by
  have hm':m < its.length:=by omega
  have Az:m < ns.length:=by omega
  obtain ⟨w,hw,js⟩:=rv.get (i:=m) (x:=.int ns[m]) (by rw [Qh,Qc Az]; rfl);obtain ⟨t',rfl⟩:=js;have e:its.toArray[m]=.int ns[m] t':=by simp_all
  rw [e,Qc Az];unfold isInt;by_cases z:ns[m]=n
  ·simp [z]
  ·simp [z]
 refine Tg Uk ⟨_,ho,rfl⟩ Ir (Ip _ _) (SeqAt.list_indexAt a its.toArray k dd sl (.int n t) (isInt n) j (by simp_all) (by grind [Rf]) ?_ ?_) ⟨ho,λy hy=>(eq_isInt n t hi y (by simp_all)).at _ _,?_⟩
 ·rw [val,hj]; simp
 ·intro m hm gh;rw [val];exact decide_eq_false (jh m gh)
 ·exact ⟨.int _,H,I.tok _,⟨_,rfl⟩,q⟩
def HE (h:ag) (a:ae) (cls:aa) (T:ae):Prop :=
 ∃ oe vs oT ts,h.get? a=some oe/\oe.cls=cls/\oe.data=.fields vs/\vs[1]?=some (.ref T)/\T≠a/\h.get? T=some oT/\oT.data=.fields ts/\ts[3]?=some .none
def gk (P:bq) (w:bx):xj:=λouter H s E e s'=>∃ (a T C:ae) (H':Hp),e=.ref a/\s'.os=s.os/\AllBare s'.gens/\Un (gr outer) [] H H' s.heap s'.heap/\iz P w H' s'.heap/\HE s'.heap a (.ref C) T /\
 s.heap.get? a=none/\s.heap.get? T=none/\H' a=none/\H' T=none/\E (.ref C) none H'
theorem kE:jI (gk P w) X E0:=by
 rintro _ _ _ _ _ _ _ ⟨_,_,_,_,_,_,_,_,_,_,_,_,_,_,h⟩;exact h.elim
theorem gL {b1 b2:ag}:∀ {l:List cz},h.FunFrames b1 l->(∀ L∈gr l,b2.get? L=none)->h.FunFrames b2 l
 | [],_,_=>trivial
 | env::cC,⟨hk,⟨L,o,hf,hn,ho,hd⟩,hr⟩,hb=>⟨hk,⟨L,o,hf,hb L (by unfold gr; rw [Xe,hf]; exact Qk ..),ho,hd⟩,gL hr λM hM=>hb M (by
   unfold gr at hM ⊢;rw [Xe,hf];exact Qj _ hM)⟩
theorem uY {l:List cz} {a:ae} {cls:aa} {vt:List ae} (hb:base=Rx h vt) (hl:h.FunFrames base l) (x:ag.Left base l a cls h h') (ha:a∈vt) :
  (∀ b o,b∉vt->h.get? b=some o->h'.get? b=some o)/\(∀ b o,b∈gr l->h.get? b=some o->∃ sl,h'.get? b=some { o with slots:=sl })/\∃ T,HE h' a cls T/\T∉gr l/\(T∈vt∨h.get? T=none):=by
 obtain ⟨x1,x2,⟨oe,vs,T,oT,ts,e1,e2,e3,e4,e5,e6,e7,e8,e9⟩,x4⟩:=x;refine ⟨λb o nb e=>x1 b o (by rw [hb]; exact Vn _ e nb),λb o zo e=>?_,T,⟨oe,vs,oT,ts,e1,e2,e3,e4,e6,e7,e8,e9⟩,λz=>?_,?_⟩
 ·obtain ⟨_,o',m9,BA⟩:=hl.mem zo;have eo:o'=o:=Option.some.inj (m9.symm.trans e);subst eo;exact x4 b o' m9 BA
 ·obtain ⟨_,o',m9,BA⟩:=x2.mem z;have eo:o'=oT:=Option.some.inj (m9.symm.trans e7);subst eo;exact BA ts e8
 ·by_cases hT:T∈vt
  ·exact .inl hT
  ·refine .inr ?_;cases q:h.get? T with
   | none=>rfl
   | some o =>
    have:=Vn vt q hT;rw [<- hb,e5] at this;cases this
section
variable {cd:aa} {s0:ah} {E:XK}
theorem VQ {σ:St} {a:ae} {vt:List ae} {bs:ag} (I:Inv (cB (gk P w) P w K mg base N qual scope f cd A outer s0 H0 E) a_ σ H s) (hb:bs=Rx s.heap vt) (hl:s.heap.FunFrames bs (envOfC qual scope s0.heap.objs.size f cd::outer)) (x:ag.Left bs (envOfC qual scope s0.heap.objs.size f cd::outer) a (.ref C) s.heap h') (ha:a∈vt) (hh:∀ b∈vt,b∈gr (envOfC qual scope s0.heap.objs.size f cd::outer)∨(s0.heap.get? b=none/\H b=none)) (hE:E (.ref C) none H) (B!:s0.heap.get? a=none) (nj:H a=none) :
  gk P w outer H0 s0 E (.ref a) { s with heap:=h' }:=by
 obtain ⟨k1,k2,T,fl,nT,hT⟩:=uY hb hl x ha;have Lne:∀ b o,s0.heap.get? b=some o->b≠s0.heap.objs.size:=λb o e z=>Jk _ (z ▸ ag.lt_size e);have fs:∀ b,b∈gr (envOfC qual scope s0.heap.objs.size f cd::outer)↔b=s0.heap.objs.size∨b∈gr outer:=λb=>by
  unfold gr;rw [Xe];exact Ql
 have un:Un (gr outer) [] H0 H s0.heap s.heap:=I.base;have nh:∀ b o,s0.heap.get? b=some o->b∉gr outer->b∉vt:=λb o e nb z=>by
  rcases hh b z with q | q
  ·rcases (fs b).mp q with q | q
   ·exact Lne b o e q
   ·exact nb q
  ·simp_all
 have yk:∀ b u,H b=some u->b∉vt:=λb u e z=>by
  rcases hh b z with q | q
  ·rw [I.jk b q] at e; cases e
  ·simp_all
 have T0:s0.heap.get? T=none/\H T=none:=by
  rcases hT with z | z
  ·rcases hh T z with q | q
   ·exact absurd q nT
   ·exact q
  ·refine ⟨?_,?_⟩
   ·cases q:s0.heap.get? T with
    | none=>rfl
    | some o =>
     obtain ⟨o',e⟩:=un.there T o q 'b';rw [z] at e; cases e
   ·cases q:H T with
    | none=>rfl
    | some u =>
     obtain ⟨o',e⟩:=(I.ei T u q).k7;rw [show s.heap.get? T=none from z] at e; cases e
 refine ⟨a,T,C,H,rfl,I.os,I.bare,⟨λb o e n nb _=>?_,λb o e n ij _=>?_,un.free,λb o e _=>?_,un.jy,un.jc,un.jz⟩,λb u e=>?_,fl,B!,T0.1,nj,T0.2,hE⟩
 ·exact k1 b o (nh b o e nb) (un.keep b o e n nb 'b')
 ·obtain ⟨sl,q⟩:=un.slot b o e n ij 'b';obtain ⟨Bj,q'⟩:=k2 b _ ((fs b).mpr (.inr ij)) q;exact ⟨Bj,q'⟩
 ·obtain ⟨o',q⟩:=un.there b o e 'b';by_cases ij:b∈gr outer
  ·obtain ⟨sl,q'⟩:=k2 b _ ((fs b).mpr (.inr ij)) q;exact ⟨_,q'⟩
  ·exact ⟨o',k1 b o' (nh b o e ij) q⟩
 ·refine (I.ei b u e).gu (λc v hc q=>k1 c v ?_ q) (λ_ q=>q) λ_ _ q=>q;rcases hc with z | z
  ·rw [z]; exact yk b u e
  ·exact yk c _ z
theorem yJ:jI (gk P w) (cB (gk P w) P w K mg base N qual scope f cd A outer s0 H0 E) E:=by
 intro a_ σ H s e s' I h;obtain ⟨a,T,C,H',rfl,os,bare,un,ei,fl,na,nT,nj,AQ,hE⟩:=h;have I3:Inv (cB (gk P w) P w K mg base N qual scope f cd A outer s0 H0 E) a_ σ H' s':=I.pw (ch:=[]) os un ei bare (λb z=>absurd z 'b');have IZ:Un (gr outer) [] H0 H s0.heap s.heap:=I.base;have n0:∀ b,s.heap.get? b=none->s0.heap.get? b=none:=λb z=>by
  cases q:s0.heap.get? b with
  | none=>rfl
  | some o =>
   obtain ⟨o',e⟩:=IZ.there b o q 'b';rw [z] at e; cases e
 have hl:s'.heap.FunFrames (Rx s'.heap (a::T::gr (envOfC qual scope s0.heap.objs.size f cd::outer))) (envOfC qual scope s0.heap.objs.size f cd::outer) :=
  gL I3.stack λL hL=>Rv _ (Qj _ (Qj _ hL))
 obtain ⟨oe,vs,oT,ts,e1,e2,e3,e4,e6,e7,e8,e9⟩:=fl;refine wpAny_leaving_next (base:=Rx s'.heap (a::T::gr (envOfC qual scope s0.heap.objs.size f cd::outer))) (cls:=.ref C) I3.ok.frames hl rfl
  ⟨oe,vs,T,oT,ts,e1,e2,e3,e4,Rv _ 'b',e6,e7,e8,e9⟩ (λb o q=>Ui _ q) (Rv _ 'b') λh' lf=>?_
 refine VQ I3 rfl hl lf 'b' (λb hb=>?_) hE (n0 a na) nj;rcases Ql.mp hb with z | hb
 ·rw [z]; exact .inr ⟨n0 a na,nj⟩
 rcases Ql.mp hb with z | hb
 ·rw [z]; exact .inr ⟨n0 T nT,AQ⟩
 ·exact .inl hb
theorem kQ {σ:St} {a:ae} {vs:List aa} (I:Inv (cB (gk P w) P w K mg base N qual scope f cd A outer s0 H0 E) a_ σ H s) (m:ag.MadeExcOf s.heap h' a (.ref C) vs) (hE:E (.ref C) none H) :
  (cB (gk P w) P w K mg base N qual scope f cd A outer s0 H0 E).xe (.ref a) { s with heap:=h' }:=by
 obtain ⟨t,e1,_,_⟩:=m.there;have I3:Inv (cB (gk P w) P w K mg base N qual scope f cd A outer s0 H0 E) a_ σ H { s with heap:=h' }:=I.kept (t':=s.toks) m.keeps;have IZ:Un (gr outer) [] H0 H s0.heap s.heap:=I.base;have a0:s0.heap.get? a=none:=by
  cases q:s0.heap.get? a with
  | none=>rfl
  | some o =>
   obtain ⟨o',e⟩:=IZ.there a o q 'b';rw [m.new] at e; cases e
 have nj:H a=none:=by
  cases q:H a with
  | none=>rfl
  | some u =>
   obtain ⟨o',e⟩:=(I.ei a u q).k7;rw [m.new] at e; cases e
 have hl:h'.FunFrames (Rx h' (a::gr (envOfC qual scope s0.heap.objs.size f cd::outer))) (envOfC qual scope s0.heap.objs.size f cd::outer) :=
  gL I3.stack λL hL=>Rv _ (Qj _ hL)
 refine wpAny_leaving_first (base:=Rx h' (a::gr (envOfC qual scope s0.heap.objs.size f cd::outer))) I3.ok.frames hl rfl e1 (λb o q=>Ui _ q) (Rv _ 'b') rfl rfl λh2 lf=>VQ (s:={ s with heap:=h' }) I3 rfl hl lf 'b' (λb hb=>?_) hE a0 nj;rcases Ql.mp hb with z | hb
 ·rw [z]; exact .inr ⟨a0,nj⟩
 ·exact .inl hb
theorem qk.ZS {x:aj} {st:ax} {k:Nat} (F:qk K x qual st f fd) (S:b_ N ps (aF st)) (len:∀ vs H Q E,sp vs H Q E->vs.length=ps.length) (iu:∀ (fe:aa) (A:bz) (outer:List cz) (s:ah) (H:Hp) (vs:List V) (Q:VK) (E:XK),dj k (A.deeper (envOfC qual (aF st) s.heap.objs.size f fe))->sp vs H Q E ->
   ∃ t,nc (cB (gk P w) P w K mg base N qual (aF st) f fe A outer s H E) (dQ st) t/\t { nx:=λ_ H'=>Q .fk H',rt:=Q } (start N vs) H):c_ P w K mg base (gk P w) (k+1) f fd ps sp:=by
 obtain ⟨oc,od,kV,doc,pm,an,fe,ct,sv,rfl,lk,ku⟩:=F.ex;exact LR lk ku S len λA outer s H vs Q E hr i9=>iu fe A outer s H vs Q E hr i9
theorem qk.vm {x:aj} {st:ax} {k:Nat} (F:qk K x qual st f fd) (S:b_ N ps (aF st)) (iu:∀ (fe:aa) (A:bz) (outer:List cz) (s:ah) (H:Hp) (vs:List V) (Q:VK) (E:XK),dj k (A.deeper (envOfC qual (aF st) s.heap.objs.size f fe))->sp vs H Q E ->
   ∃ t,nc (cB (gk P w) P w K mg base N qual (aF st) f fe A outer s H E) (dQ st) t/\t { nx:=λ_ H'=>Q .fk H',rt:=Q } (start N vs) H) (len:autoParam (∀ vs H Q E,sp vs H Q E->vs.length=ps.length) L2.Ou):c_ P w K mg base (gk P w) (k+1) f fd ps sp:=F.ZS S len iu
end
noncomputable abbrev kq:List aa:=[.type "ValueError",.type "Exception",.type "BaseException",.type "object"]
noncomputable def ze:List aj:=["__init__", "__getattribute__", "__getattr__", "__class__"]
inductive l_ (h:ag) (yz:List aa):List aa->Prop
 | base:l_ h yz yz
 | own {A:ae} {c0:aa} {dd:Option ae} {cd:ClassData} {sl:Array (Option aa)} {mA:aj->Option aa} {tl:List aa} :
   h.get? A=some { cls:=c0,dict:=dd,data:=.cls cd,slots:=sl }->h.Ns cd.ns mA->(∀ n∈ze,mA n=none)->l_ h yz tl->l_ h yz (.ref A::tl)
theorem l_.tail {yz tl:List aa} (T:l_ h yz tl):OwnTail h yz tl:=by
 induction T with
 | base=>exact .base
 | own hA hN hq _ ih=>exact .own hA hN (hq _ (.head _)) ih
def mz (h:ag) (C:ae) (bm:List aa):Prop:=∃ N nm q bs hdct sn sub ab col dd k0 k1 k2 k3 k5 mN,h.get? C=some (excClassObj nm q C N bs bm hdct sn sub ab col dd k0 k1 k2 k3 k5 "ValueError.__new__")/\h.Ns N mN/\(∀ n∈ze,mN n=none)/\l_ h kq bm
section
variable {g:Array GenState} {d:Drawn} {t:Nat} {a:ae}
theorem aHY {yz tl:List aa} {n:aj} {y:Option aa} {Q:Option aa->ah->Prop} (hn:n∈ze) (T:l_ h yz tl) (o8:lookupAlong yz n=pure y) (hq:Q y ⟨h,g,d,t,os⟩) :
  aq M A (lookupAlong tl n) Q E ⟨h,g,d,t,os⟩:=by
 induction T with
 | base=>rw [o8]; exact Rc hq
 | own hA hN j? _ ih =>
  rw [Rau];refine Ra (wpAny_classOwn_cls hA hN ?_);rw [j? n hn];exact ih
theorem MF {n:aj} {y:Option aa} {Q:Option aa->ah->Prop} (hn:n∈ze) (x:mz h C bm) (hB:typeLookup (.type "ValueError") n=pure y) (hq:Q y ⟨h,g,d,t,os⟩):aq M A (typeLookup (.ref C) n) Q E ⟨h,g,d,t,os⟩:=by
 obtain ⟨N,nm,q,bs,hdct,sn,sub,ab,col,dd,k0,k1,k2,k3,k5,mN,hC,hN,Kx,T⟩:=x;have o8:lookupAlong kq n=pure y:=by assumption
 rw [typeLookup_eq];refine Ra (wpAny_mroOf_exc hC ?_);rw [Rau];refine Ra (wpAny_classOwn_exc hC hN ?_);rw [Kx n hn];exact aHY hn T o8 hq
theorem aBo:typeLookup (.type "ValueError") "__class__" = pure (some (.builtin "object.__class__")):=by rw [Mj,Vu]; kernel_rfl
theorem uZ {base:aa} {Q:Bool->ah->Prop} (x:mz h C bm) (hq:Q ((aa.ref C::bm).contains base) ⟨h,g,d,t,os⟩):aq M A (isSubtype (.ref C) base) Q E ⟨h,g,d,t,os⟩:=by
 obtain ⟨N,nm,q,bs,hdct,sn,sub,ab,col,dd,k0,k1,k2,k3,k5,mN,hC,hN,Kx,T⟩:=x;exact wpAny_isSubtype_exc hC hq
theorem mz.has (x:mz h C bm) (hb:kq.contains (.type T)=true):(aa.ref C::bm).contains (.type T)=true:=by
 obtain ⟨N,nm,q,bs,hdct,sn,sub,ab,col,dd,k0,k1,k2,k3,k5,mN,hC,hN,Kx,TT⟩:=x;rw [Yt,TT.tail.hasType hb,Bool.or_true]
theorem aBp (x:mz h C bm) (hx:h.get? a=some o) (hc:o.cls=.ref C) (hq:R (.ok (.ret (.ref C))) ⟨h,g,d,t,os⟩) :
  codeAny (ar prog w) A (.call (.builtin "getset_descriptor.__get__") ⟨[.builtin "object.__class__",.ref a,.ref C],[]⟩) R ⟨h,g,d,t,os⟩:=by
 have QI:(⟨h,g,d,t,os⟩:ah).TypeIs (.builtin "object.__class__") "getset_descriptor" := Va;have Ep:(aa.ref C::bm).contains (.type (".".intercalate ("object.__class__".cutAt '.').dropLast))=true:=by
  rw [PySem.F.owner_object_class]; exact x.has 'd'
 refine Vx PySem.F.slot_gs_get.plain PySem.F.entry_gs_get (PySem.F.slot_gs_get.check _ _ _ _ _ _ _ _ QI (PySem.F.args_gs_get _ _ _) ?_)
 repeat (any_goals (first | assumption | (with_reducible refine Ru hx ?_; rw [hc]) | (with_reducible refine uZ x ?_; rw [Ep]) | wp_step))
 refine ⟨Code.quiet_builtin _ 'd',Vc PySem.F.entry_object_class ?_⟩
 repeat (any_goals (first | assumption | (with_reducible refine Ru hx ?_; rw [hc]) | wp_step))
theorem xN {tk:df} {Q:PySem.Fin->ah->Prop} (x:mz h C bm) (hx:h.get? a=some o) (hc:o.cls=.ref C) (hq:Q (.done (.ret (.ref C))) ⟨h,g,d,t,os⟩) :
  aq (ar prog w) A (ak.«object.__getattribute__» ⟨[.ref a,.str "__class__" tk],[]⟩) Q E ⟨h,g,d,t,os⟩:=by
 have QI:(⟨h,g,d,t,os⟩:ah).TypeIs (.builtin "object.__class__") "getset_descriptor" := Va;have f5:=Va;have f6:=PySem.F.slot_gs_get.lookup;have f7:=PySem.F.slot_gs_set.lookup;have hm:("__class__" : aj)∈ze:=.tail _ (.tail _ (.tail _ (.head _)))
 repeat (any_goals (first | assumption | (with_reducible refine Ru hx ?_; rw [hc]) | with_reducible refine MF hm x aBo ?_ | wp_step))
 refine aBp x hx hc ?_
 repeat (any_goals (first | assumption | wp_step))
theorem aCQ {A_:aa} {Q:Unit->ah->Prop} (x:mz h C bm) (hx:h.get? a=some o) (hc:o.cls=.ref C) (hq:Q () ⟨h,g,d,t,os⟩):aq M A (checkBuiltinCall "BaseException.__getattribute__" ⟨[.ref a,A_],[]⟩) Q E ⟨h,g,d,t,os⟩:=by
 have hk:builtinKind "BaseException.__getattribute__" = some .slot:=by rfl
 have CA:splitId "BaseException.__getattribute__" = some ("BaseException", "__getattribute__"):=by rfl
 have Ep:(aa.ref C::bm).contains (.type "BaseException")=true:=x.has 'd';have ha:=PySem.F.args_bexc_ga (.ref a) A_;simp only [checkBuiltinCall,hk,CA];refine Ra ?_
 ·unfold isInstance
  repeat (first | (with_reducible refine Ru hx ?_; rw [hc]) | (with_reducible refine uZ x ?_; rw [Ep]) | wp_step)
  exact hq
theorem aCR {tk:df} (x:mz h C bm) (hx:h.get? a=some o) (hc:o.cls=.ref C) (hq:Q (.ref C) ⟨h,g,d,t,os⟩):aq (ar prog w) A (getAttrBy (.ref a) (.str "__class__" tk) false) Q E ⟨h,g,d,t,os⟩:=by
 have FB:=PySem.F.attrBase_ValueError;have f3:=FB.ga.bind (.ref a);have CT:(aa.builtin "BaseException.__getattribute__" == aa.builtin "object.__getattribute__")=false:=by rfl
 have hx1:(onTheHeap (aa.ref C) && aa.builtin "BaseException.__getattribute__" == aa.builtin "object.__getattribute__")=false:=by assumption
 have qp:("__getattribute__" : aj)∈ze:=.tail _ (.head _);have vq:("__getattr__" : aj)∈ze:=.tail _ (.tail _ (.head _))
 repeat (any_goals (first | assumption | (with_reducible refine Ru hx ?_; rw [hc]) | with_reducible refine MF qp x FB.ga.lookup ?_ | with_reducible refine MF vq x FB.noGetattr ?_ | wp_step))
 refine Vx FB.ga.plain PySem.F.entry_bexc_ga (aCQ x hx hc (xN x hx hc ?_))
 repeat (any_goals (first | assumption | wp_step))
theorem aAe {Q:Option aa->ah->Prop} (x:mz h C bm) (hx:h.get? a=some o) (hc:o.cls=.ref C) (hq:Q (some (.ref C)) ⟨h,g,d,t+1,os⟩):aq (ar prog w) A (getAttr? (.ref a) "__class__") Q E ⟨h,g,d,t,os⟩:=by
 unfold getAttr? getAttrBy?
 repeat (any_goals (first | assumption | with_reducible apply aCR x hx hc | wp_step))
theorem aHZ {oj:Option ae} {cd':ClassData} {Bj:Array (Option aa)} (x:mz h C bm) (hx:h.get? a=some o) (hc:o.cls=.ref C) (xb:h.get? C'=some { cls:=.type "type",dict:=oj,data:=.cls cd',slots:=Bj }) (hq:∀ t',Q (.bool ((aa.ref C::bm).contains (.ref C'))) ⟨h,g,d,t',os⟩):aq (ar prog w) A (call (.builtin "isinstance") [.ref a,.ref C']) Q E ⟨h,g,d,t,os⟩:=by
 have f3:=tc_sub;have QK:(⟨h,g,d,t,os⟩:ah).TypeIs (.ref C') "type" := ⟨_,xb,rfl⟩
 obtain ⟨N,nm,q,bs,hdct,sn,sub,ab,col,dd,k0,k1,k2,k3,k5,mN,hC,_⟩:=id x;refine PyProof.Rows.call_isinstance_of ?_ 'b';by_cases e:C=C'
 ·subst e;have hb:(aa.ref C::bm).contains (.ref C)=true:=by simp
  rw [hb] at hq;unfold ak.«isinstance.nested»
  repeat (any_goals (first | assumption | (with_reducible refine Ru hx ?_; rw [hc]) | wp_step))
  exact hq _
 ·have gw:(aa.ref C==aa.ref C')=false:=by simp [e]
  cases hb:(aa.ref C::bm).contains (.ref C') with
  | true =>
   rw [hb] at hq;unfold ak.«isinstance.nested»
   repeat (any_goals (first | assumption | (with_reducible refine Ru hx ?_; rw [hc]) | (with_reducible refine Ru xb ?_) | (with_reducible refine uZ x ?_; rw [hb]) | wp_step))
   exact hq _
  | false =>
   rw [hb] at hq;have hTC:∀ t',(⟨h,g,d,t',os⟩:ah).TypeIs (.ref C) "type" := λ_=>⟨_,hC,rfl⟩
   unfold ak.«isinstance.nested»
   repeat (any_goals (first | assumption | (with_reducible refine Ru hx ?_; rw [hc]) | (with_reducible refine Ru xb ?_) | (with_reducible refine uZ x ?_; rw [hb]) | with_reducible refine aAe x hx hc ?_ | (with_reducible refine Ru hC ?_) | wp_step))
   exact hq _
theorem aJ3 (x:mz h C bm) (hx:h.get? a=some o) (hc:o.cls=.ref C) (hq:∀ t',Q (.bool true) ⟨h,g,d,t',os⟩):aq (ar prog w) A (call (.builtin "isinstance") [.ref a,.type "ValueError"]) Q E ⟨h,g,d,t,os⟩:=by
 have f3:=tc_sub;have CU:typeOf (.type "ValueError")=pure (.type "type"):=by rfl
 have gw:(aa.ref C==aa.type "ValueError")=false:=by rfl
 have hb:(aa.ref C::bm).contains (.type "ValueError")=true:=x.has 'd';refine PyProof.Rows.call_isinstance_of ?_ 'b';unfold ak.«isinstance.nested»
 repeat (any_goals (first | assumption | (with_reducible refine Ru hx ?_; rw [hc]) | (with_reducible refine uZ x ?_; rw [hb]) | wp_step))
 exact hq _
end
noncomputable def A6 (C a:ae):HO:=.ext λh=>∃ o,h.get? a=some o/\o.cls=.ref C
theorem Inv.Sj {σ:St} {a:ae} (I:Inv X a_ σ H s) (h:H a=some (A6 C a)):∃ o,s.heap.get? a=some o/\o.cls=.ref C:=(I.ei a _ h).1
theorem aAf (hK:X.K=K) (xb:∀ h:ag,K.In h->∃ dd cd sl,h.get? C'=some { cls:=.type "type",dict:=dd,data:=.cls cd,slots:=sl }) :
  eQ X (.builtin "isinstance") (λxs H Q=>∃ a C bm,xs = [.ref a,.ref C']/\H a=some (A6 C a)/\(∀ h:ag,K.In h->mz h C bm)/\Q (.bl ((aa.ref C::bm).contains (.ref C'))) H):=by
 subst hK;intro a_ s σ H xs us Q I r h;obtain ⟨a,C,bm,rfl,hH,hE,q⟩:=h;obtain ⟨u,t,rfl,rx,rt⟩:=uM r;cases rx;cases rt;obtain ⟨o,ho,hc⟩:=I.Sj hH;obtain ⟨dd,cd,sl,h2⟩:=xb _ I.j4;obtain ⟨hh,g,d,tk,os⟩:=s;exact aHZ (hE _ I.j4) ho hc h2 λt'=>⟨.bl _,H,I.tok _,rfl,q⟩
theorem aBq (hK:X.K=K) :
  eQ X (.builtin "isinstance") (λxs H Q=>∃ a C bm,xs = [.ref a,.ty "ValueError"]/\H a=some (A6 C a)/\(∀ h:ag,K.In h->mz h C bm)/\Q (.bl true) H):=by
 subst hK;intro a_ s σ H xs us Q I r h;obtain ⟨a,C,bm,rfl,hH,hE,q⟩:=h;obtain ⟨u,t,rfl,rx,rt⟩:=uM r;cases rx;cases rt;obtain ⟨o,ho,hc⟩:=I.Sj hH;obtain ⟨hh,g,d,tk,os⟩:=s;exact aJ3 (hE _ I.j4) ho hc λt'=>⟨.bl _,H,I.tok _,rfl,q⟩
def aJ4 (C:ae) (E:XK):TS:=λ_ _ H=>E (.ref C) none H
theorem jC {x txt:aj} {np:Pos} {k:Nat} {E:XK} (GU:∀ h:ag,X.K.In h->mz h C bm) (hg:Gl X x) (hm:X.mg x=some (.ref C)) (hc:X.calm=true) (hR:∀ (a_:List (ae×cb)) (σ:St) (H:Hp) (s:ah) (h':ag) (a:ae) (vs:List aa),Inv X a_ σ H s->ag.MadeExcOf s.heap h' a (.ref C) vs->E (.ref C) none H->X.xe (.ref a) { s with heap:=h' }) (lh:autoParam ((x==("__debug__" : aj))=false) L2.iy) :
  PS X (.Raise (some (.Call (.Name x np) [.Constant (.str txt) k p2] [] gv)) none pos) (aJ4 C E):=by
 intro a_ s σ H D I h;obtain ⟨N,nm,q,bs,hdct,sn,sub,ab,col,dd,k0,k1,k2,k3,k5,mN,hC,hN,hq,T⟩:=GU _ I.ok.mod.zg;refine wpAny_Raise_call_subU (C:=C) (nm:=nm) (q:=q) (N:=N) (bs:=bs) (bm:=bm) (hdct:=hdct) (sn:=sn) (sub:=sub) (ab:=ab) (col:=col) (dd:=dd) (k0:=k0) (k1:=k1) (k2:=k2) (k3:=k3) (k5:=k5) (mN:=mN)
  Im 'd' Im (T.tail.hasType 'd') (I.ok.hd hc) rfl (hq _ (.head _)) ?_
 refine jN I hg hm ⟨rfl,?_⟩ lh;have ha:PA X [.Constant (.str txt) k p2] (gJ (tC (.str txt)) lU):=aA aJ aC;refine Calls.evalArgs_plain (Ro (ha gv a_ s σ H (λxs H1=>xs.length=1/\E (.ref C) none H1) I ⟨rfl,h⟩) (λvs kc e_=>?_) λ_ _ y=>y);obtain ⟨xs,H1,I1,r,z1,z⟩:=e_;have Ed:∀ b o,X.base.get? b=some o->kc.heap.get? b=some o:=I1.bk;have hl:=r.length;refine ⟨rfl,?_,Ed _ _ hC,hN.keeps Ed,T.tail.keeps Ed,λh' a' m=>hR a_ σ H1 kc h' a' _ I1 m z⟩;show vs.length<=_;rw [Rf];omega
section
variable {l:List cz} {E:XK} {a T:ae}
theorem W8 {bs:ag} (un:Un (gr l) [] H H' s.heap s'.heap) (os:s'.os=s.os) (bare:AllBare s'.gens) (ei:iz P w H' s'.heap) (na:s.heap.get? a=none) (nT:s.heap.get? T=none) (nj:H' a=none) (AQ:H' T=none) (hE:E (.ref C) none H') (hb:bs=Rx s'.heap (a::T::gr l)) (hl:s'.heap.FunFrames bs l) (zu:∀ b∈gr l,H' b=none) (x:ag.Left bs l a (.ref C) s'.heap h'):gk P w l H s E (.ref a) { s' with heap:=h' }:=by
 obtain ⟨k1,k2,T',fl,Z7,QK⟩:=uY hb hl x 'b';have nh:∀ b o,s.heap.get? b=some o->b∉gr l->b∉a::T::gr l:=λb o e nb z=>by grind
 have yk:∀ b u,H' b=some u->b∉a::T::gr l:=λb u e z=>by grind
 have T0:s.heap.get? T'=none/\H' T'=none:=by
  rcases QK with z | z
  ·rcases Ql.mp z with q | z
   ·rw [q]; exact ⟨na,nj⟩
   rcases Ql.mp z with q | z
   ·rw [q]; exact ⟨nT,AQ⟩
   ·exact absurd z Z7
  ·refine ⟨?_,?_⟩
   ·cases q:s.heap.get? T' with
    | none=>rfl
    | some o =>
     obtain ⟨o',e⟩:=un.there T' o q 'b';rw [z] at e; cases e
   ·cases q:H' T' with
    | none=>rfl
    | some u =>
     obtain ⟨o',e⟩:=(ei T' u q).k7;rw [show s'.heap.get? T'=none from z] at e; cases e
 refine ⟨a,T',C,H',rfl,os,bare,⟨λb o e n nb _=>?_,λb o e n ij _=>?_,un.free,λb o e _=>?_,un.jy,un.jc,un.jz⟩,λb u e=>?_,fl,na,T0.1,nj,T0.2,hE⟩
 ·exact k1 b o (nh b o e nb) (un.keep b o e n nb 'b')
 ·obtain ⟨sl,q⟩:=un.slot b o e n ij 'b';obtain ⟨Bj,q'⟩:=k2 b _ ij q;exact ⟨Bj,q'⟩
 ·obtain ⟨o',q⟩:=un.there b o e 'b';by_cases ij:b∈gr l
  ·obtain ⟨sl,q'⟩:=k2 b _ ij q;exact ⟨_,q'⟩
  ·exact ⟨o',k1 b o' (nh b o e ij) q⟩
 ·refine (ei b u e).gu (λc v hc q=>k1 c v ?_ q) (λ_ q=>q) λ_ _ q=>q;rcases hc with z | z
  ·rw [z]; exact yk b u e
  ·exact yk c _ z
theorem HE.yf {bs:ag} {cls:aa} (fl:HE h a cls T) (hT:bs.get? T=none):∃ a0,h.TracedW bs a cls a0:=by
 obtain ⟨oe,vs,oT,ts,e1,e2,e3,e4,e6,e7,e8,e9⟩:=fl;have hs:1 < vs.size:=(Array.getElem?_eq_some_iff.mp e4).1;exact ⟨vs[0]''a',oe,vs,T,oT,ts,e1,⟨e2,Array.getElem?_eq_getElem _⟩,e3,e4,hT,e6,e7,e8,e9⟩
end
section
variable {σ:St} {E:XK} {e:aa} {F:aa->ah->Prop} {L:ae}
theorem Inv.rn (I:Inv X a_ σ H s) (h:gk X.prog X.w X.stack H s E e s'):∃ (a C:ae) (H':Hp),e=.ref a/\Inv X a_ σ H' s'/\s.heap.get? a=none/\H' a=none/\E (.ref C) none H'/\∃ o,s'.heap.get? a=some o/\o.cls=.ref C:=by
 obtain ⟨a,T,C,H',rfl,os,bare,un,ei,⟨oe,vs,oT,ts,e1,e2,_⟩,na,nT,nj,AQ,hE⟩:=h;exact ⟨a,C,H',rfl,I.pw (ch:=[]) os un ei bare (λb z=>absurd z 'b'),na,nj,hE,oe,e1,e2⟩
theorem aF1 (jx:X.stack=X.env::X.outer) (hf:X.env.frame=some L) (KG:A.frames=some X.stack) (I:Inv X a_ σ H s) (h:gk X.prog X.w X.stack H s E e s') :
  aq M A (noteFrame e X.env) (λ_ s2=>aq M A (setFlight e none) (λ_ s3=>gk X.prog X.w X.stack H s E e s3) F s2) F s':=by
 obtain ⟨a,T,C,H',rfl,os,bare,un,ei,fl,na,nT,nj,AQ,hE⟩:=h;have I3:Inv X a_ σ H' s':=I.pw (ch:=[]) os un ei bare (λb z=>absurd z 'b');have hl:s'.heap.FunFrames (Rx s'.heap (a::T::gr X.stack)) X.stack :=
  gL I3.stack λL hL=>Rv _ (Qj _ (Qj _ hL))
 obtain ⟨a0,tr⟩:=fl.yf (bs:=Rx s'.heap (a::T::gr X.stack)) (Rv _ 'b');have fin:=λ(h':ag)=>W8 (P:=X.prog) (w:=X.w) (h':=h') un os bare ei na nT nj AQ hE rfl hl I3.jk;generalize Gz:Rx s'.heap (a::T::gr X.stack)=bs at *;have kb:bs.StaysIn s'.heap:=λb o q=>by rw [<- Gz] at q; exact Ui _ q
 have en:bs.get? a=none:=by rw [<- Gz]; exact Rv _ 'b'
 have ow:=hl;rw [jx] at ow;refine wpAny_looks_onW (base:=bs) (outer:=X.outer) (by rw [<- jx]; exact KG) hf ⟨kb,en,ow,tr⟩ λh1 held up1=>wpAny_landsW held λh2 N! Y7=>?_;obtain ⟨f1,f2,f3,f4⟩:=N!.flying;exact fin h2 ⟨f1,by rw [jx]; exact f3,f4,up1.trans Y7⟩
theorem aH0 (I:Inv X a_ σ H s) (h:gk X.prog X.w X.stack H s E e s'):aq M A (setFlight e none) (λ_ s3=>gk X.prog X.w X.stack H s E e s3) F s':=by
 obtain ⟨a,T,C,H',rfl,os,bare,un,ei,fl,na,nT,nj,AQ,hE⟩:=h;have I3:Inv X a_ σ H' s':=I.pw (ch:=[]) os un ei bare (λb z=>absurd z 'b');have hl:s'.heap.FunFrames (Rx s'.heap (a::T::gr X.stack)) X.stack :=
  gL I3.stack λL hL=>Rv _ (Qj _ (Qj _ hL))
 obtain ⟨a0,tr⟩:=fl.yf (bs:=Rx s'.heap (a::T::gr X.stack)) (Rv _ 'b');have fin:=λ(h':ag)=>W8 (P:=X.prog) (w:=X.w) (h':=h') un os bare ei na nT nj AQ hE rfl hl I3.jk;generalize Gz:Rx s'.heap (a::T::gr X.stack)=bs at *;have kb:bs.StaysIn s'.heap:=λb o q=>by rw [<- Gz] at q; exact Ui _ q
 refine wpAny_setFlight_noneW kb hl tr.at λh1 k1 k2 k3 k4=>fin h1 ⟨k1,k2,?_,λb o q n=>⟨o.slots,k4 b o q n⟩⟩;obtain ⟨oe,vs,T,oT,ts,he,hc,r⟩:=k3;exact ⟨oe,vs,T,oT,ts,he,hc.1,r⟩
theorem Inv.Cu {D:ae} {u:HO} (I:Inv X a_ σ H s) (new:bT X.prog X.w (upd H D u) s.heap D u) (hn:H D=none) (hL:D≠X.env.locals)
  (h1:X.jg.heap.get? D=none) (h2:∀ x c,X.env.cells.lookup x=some c->c≠D) (h3:∀ p∈X.pn++a_,p.1≠D):Inv X a_ σ (upd H D u) s:=by
 have ne:∀ b v,H b=some v->b≠D:=λb v e z=>by rw [z,hn] at e; cases e
 refine ⟨I.ok,I.os,I.bare,⟨I.base.keep,I.base.slot,λb o q n hx=>?_,I.base.there,λb xs q=>?_,λb o v q=>?_,λb ps q=>?_⟩,I.loc,I.cell,?_,λx c q=>?_,λp hp=>?_,λb v q=>?_,I.len⟩
 ·rw [aG (λz=>by rw [z,h1] at q; cases q)]; exact I.base.free b o q n hx
 ·have:=I.base.jy b xs q;rw [aG (ne b _ this)]; exact this
 ·have:=I.base.jc b o v q;rw [aG (ne b _ this)]; exact this
 ·obtain ⟨more,this⟩:=I.base.jz b ps q;exact ⟨more,by rw [aG (ne b _ this)]; exact this⟩
 ·rw [aG (Ne.symm hL)]; exact I.free
 ·rw [aG (h2 x c q)]; exact I.gm x c q
 ·obtain ⟨p1,p2,p3⟩:=I.pin p hp;exact ⟨p1,by rw [aG (h3 p hp)]; exact p2,p3⟩
 ·by_cases hb:b=D
  ·simp_all [aB]
  ·rw [aG hb] at q;exact (I.ei b v q).gu (λc v _ q=>q) (λc q=>by rw [aG (ne c _ q)]; exact q) λc xs q=>by rw [aG (ne c _ q)]; exact q
theorem aH1 {x:aj} {Q:Unit->ah->Prop} (I:Inv X a_ σ H s) (hN:X.N.Nodup) (hi:X.N[i]?=some x) (hk:X.env.scope.names.lookup x=some .local) (h:∀ s',Inv X a_ (σ.set i none) H s'->Q () s'):aq M A (do bindName X.env x .none; unbindBehindTheSuite X.env x pos) Q F s:=by
 obtain ⟨m,hn,hl⟩:=id I.loc;have Co:(X.env.scope.kind==.class || (X.env.scope.kind==.module && X.env.locals !=X.env.globals))=false:=by rw [I.ok.kind]; rfl
 have B':i < σ.length:=by rw [I.len]; exact (Qb.mp hi).1
 have xf:=I.xf;obtain ⟨oL,_,_,w9,_⟩:=id hn;refine wpAny_nameGoes_keeps hk hn Co λh' v Ku hs=>h _ ⟨I.ok,I.os,I.bare,⟨λb o e n hb hx=>?_,λb o e n hb hx=>?_,I.base.free,λb o e hx=>?_,I.base.jy,I.base.jc,I.base.jz⟩,⟨_,Ku,λj y v' e1 e2 e3=>?_⟩,λy c e=>?_,I.free,I.gm,λp hp=>?_,λb ob e=>?_,by simpa using I.len⟩
 ·exact (hs.2 b (Qy (Qn (ag.lt_size e) I.ok.above))).trans (I.base.keep b o e n hb hx)
 ·obtain ⟨sl,e1⟩:=I.base.slot b o e n hb hx;exact ⟨sl,(hs.2 b (Qy (Qn (ag.lt_size e) I.ok.above))).trans e1⟩
 ·obtain ⟨o',e1⟩:=I.base.there b o e hx;exact ⟨o',(hs.2 b (Qy (Qn (ag.lt_size e) I.ok.above))).trans e1⟩
 ·by_cases hj:j=i
  ·simp_all
  ·rw [Ym (Ne.symm hj)] at e2;obtain ⟨u',r',q⟩:=hl j y v' e1 e2 e3;refine ⟨u',r',?_⟩;rcases q with ⟨k,e⟩ | ⟨k,c,e,z⟩
   ·refine .inl ⟨k,?_⟩;have:y≠x:=λe=>hj (uH hN e1 (e ▸ hi));simp [this,e]
   ·exact .inr ⟨k,c,e,z.sameBut hs (xf _ _ e)⟩
 ·obtain ⟨v',z⟩:=I.cell y c e;exact ⟨v',z.sameBut hs (xf _ _ e)⟩
 ·obtain ⟨p1,p2,p3,p4⟩:=I.pin p hp;exact ⟨(hs.2 _ p3).trans p1,p2,p3,p4⟩
 ·refine (I.ei b ob e).gu (λc w' hc q=>(hs.2 c ?_).trans q) (λ_ q=>q) λ_ _ q=>q;rintro rfl;rcases hc with z | hc
  ·rw [<- z,I.free] at e; cases e
  ·rw [I.free] at hc; cases hc
end
section
variable {g:Array GenState} {d:Drawn} {t:Nat} {a:ae} {oe:cb} {G2:List aa}
theorem aLb {Q:Bool->ah->Prop} (x:mz h C bm) (x':mz h C' G2) (he:h.get? a=some oe) (hc:oe.cls=.ref C) (hb:(aa.ref C::bm).contains (.ref C')=true)
  (hq:Q true ⟨h,g,d,t,os⟩):aq M A (excMatches (.ref a) (.ref C')) Q E ⟨h,g,d,t,os⟩:=by
 have Ep:(aa.ref C'::G2).contains (.type "BaseException")=true:=x'.has 'd';have f:=tc_notTuple;obtain ⟨N,nm,q,bs,hdct,sn,sub,ab,col,dd,k0,k1,k2,k3,k5,mN,xb,_⟩:=id x';unfold excMatches
 repeat (first | (with_reducible refine Ru he ?_; rw [hc]) | with_reducible refine Ru xb ?_ | (with_reducible refine uZ x' ?_; rw [Ep]) | (with_reducible refine uZ x ?_; rw [hb]) | wp_step)
 exact hq
end
abbrev TB:=Ends->XK->St->Hp->Prop
def FX (X:Cx) (a_:List (ae×cb)) (σ:St) (EX:XK) (e:aa) (s':ah):Prop:=∃ (H0:Hp) (s1:ah),Inv X a_ σ H0 s1/\gk X.prog X.w X.stack H0 s1 EX e s'
def PB (X:Cx) (st:List ax) (t:TB):Prop :=
 ∀ (a_:List (ae×cb)) (s:ah) (σ:St) (H:Hp) (D:Ends) (EX:XK),Inv X a_ σ H s->t D EX σ H->aq (ar X.prog X.w) X.A (execs st X.env) (SP X a_ D) (FX X a_ σ EX) s
section
variable {k:Nat} {ds:List aa} {x:aj} {t:TA}
def aMj (X:Cx) (C':ae) (i j:Nat) (tb:TB):TS:=λD σ H=>tb D (λcls _ H2=>∃ C bm,cls=.ref C/\(∀ h:ag,X.K.In h->mz h C bm)/\(aa.ref C::bm).contains (.ref C')=true/\∀ a,H2 a=none->D.nx ((σ.set i (some (.ref a))).set j none) (upd H2 a (A6 C a))) σ H
theorem aJ5 {st:List ax} {tb:TB} {dn en cn:aj} {p4 p5 p6:Pos} {L:ae} {G2:List aa} (hb:PB X st tb) (jx:X.stack=X.env::X.outer) (hf:X.env.frame=some L) (hex:X.ex = []) (hg:Gl X dn) (hm:X.mg dn=some (.ref C')) (xb:∀ h:ag,X.K.In h->mz h C' G2) (hN:X.N.Nodup) (hi:X.N[i]?=some cn) (hj:X.N[j]?=some en) (yq:i≠j) (Gw:X.env.scope.names.lookup cn=some .local) (hle:X.env.scope.names.lookup en=some .local) (lh:autoParam ((dn==("__debug__" : aj))=false) L2.iy) (hd2:autoParam ((en==("__debug__" : aj))=false) L2.iy) (ku:autoParam ((en==("__classdict__" : aj))=false) L2.iy) (hs:autoParam (cp (.Name en p3) (some (.Name cn p2)) p4.line X.env=pure false) L2.f') :
  PS X (.Try st [.ExceptHandler (some (.Name dn p1)) (some en) [.Assign [.Name cn p2] (.Name en p3) p4] p5] [] [] p6) (aMj X C' i j tb):=by
 intro a_ s σ H D I h;refine wpAny_Try_except (Ro (hb a_ s σ H D _ I h) (λf s1 q=>?_) λe s1 q=>?_)
 ·cases f with
  | next=>exact Uq q
  | ret v=>exact q
  | brk=>exact q
  | cont=>exact q
 obtain ⟨H0,s0,I0,q⟩:=q;refine Ro (aF1 (F:=X.xe) jx hf I.ok.frames I0 q) (λ_ s2 q2=>Ro q2 (λ_ s3 q3=>?_) λ_ _ z=>z) λ_ _ z=>z;obtain ⟨a,_,_,rfl,_⟩:=I0.rn q3
 -- the clause is looked at with the exception held
 have vm:({ X with A:=X.A.mark (some (.ref a)),calm:=false,xe:=λ_ _=>False }:Cx).Ok :=
  ⟨I.ok.mod,I.ok.kind,I.ok.glob,I.ok.blt,I.ok.above,I.ok.inj,I.ok.has,I.ok.AU,λz=>Bool.noConfusion (show false=true from z),I.ok.frames,I.ok.DJ,I.ok.EB,I.ok.bs,I.ok.zv,I.ok.nz,I.ok.xy,I.ok.j2,I.ok.zu⟩
 have Oz:∀ {d9:St} {H':Hp} {s':ah},Inv X a_ d9 H' s'->Inv { X with A:=X.A.mark (some (.ref a)),calm:=false,xe:=λ_ _=>False } a_ d9 H' s':=λJ=>⟨vm,J.os,J.bare,J.base,J.loc,J.cell,J.free,J.gm,J.pin,J.ei,J.len⟩
 have ZU:∀ {d9:St} {H':Hp} {s':ah},Inv { X with A:=X.A.mark (some (.ref a)),calm:=false,xe:=λ_ _=>False } a_ d9 H' s'->Inv X a_ d9 H' s':=λJ=>⟨I.ok,J.os,J.bare,J.base,J.loc,J.cell,J.free,J.gm,J.pin,J.ei,J.len⟩
 refine wpAny_handleBy_cons (codeAny_handlers_test ?_) (by intro q; cases q);obtain ⟨a',C,H3,ea,I3,na,nj,⟨C1,bm,eC,GU,FE,_⟩,o,ho,hc⟩:=I0.rn q3;cases ea;cases eC;refine jN (X:={ X with A:=X.A.mark (some (.ref a)),calm:=false,xe:=λ_ _=>False }) (Oz I3) hg hm ?_ lh;obtain ⟨hh,gg,dd,tt,oo⟩:=s3;refine aLb (GU _ I3.j4) (xb _ I3.j4) ho hc FE ?_;refine codeAny_handlers_suite_as (Ro (aH0 (F:=λ_ _=>False) I0 q3) (λ_ s4 q4=>?_) λ_ _ z=>False.elim z);obtain ⟨a',C,H4,ea,I4,na,nj,⟨C1,bm,eC,GU,FE,CZ⟩,o,ho,hc⟩:=I0.rn q4;cases ea;cases eC;have old:∀ b o,s0.heap.get? b=some o->b≠a:=λb o e z=>by rw [z,na] at e; cases e
 have I5:Inv X a_ σ (upd H4 a (A6 C a)) s4:=by
  refine I4.Cu ⟨⟨o,ho,hc⟩,⟨o,ho⟩,λh1 h2 ⟨o1,e1,c1⟩ k=>⟨o1,k o1 e1,c1⟩⟩ nj ?_ ?_ (λy c e=>?_) λp hp=>?_
  ·obtain ⟨m,⟨oL,_,_,w9,_⟩,_⟩:=I0.loc;exact Ne.symm (old _ _ w9)
  ·cases z:X.jg.heap.get? a with
   | none=>rfl
   | some o' =>
    obtain ⟨o2,e⟩:=I0.base.there a o' z (by simp_all);exact absurd rfl (old _ _ e)
  ·obtain ⟨v,oc,tf,_⟩:=I0.cell y c e;exact old _ _ tf
  ·exact old _ _ (I0.pin p hp).1
 refine qZ (i:=j) (v:=.ref a) I5 hN hj (.inl hle) rfl (λs5 I6 _=>?_) (.inr hle);have P1:nc { X with A:=X.A.mark (some (.ref a)),calm:=false,xe:=λ_ _=>False } [.Assign [.Name cn p2] (.Name en p3) p4] (A0 (kW j) (gI i)):=aI (aU hN hi (.inl Gw) (UL hj (.inl hle) hd2 ku) hs (.inr Gw));have jl:j < σ.length:=by rw [I4.len]; exact (Qb.mp hj).1
 refine Ro (P1 a_ s5 _ _ { nx:=λd9 H'=>d9=(σ.set j (some (.ref a))).set i (some (.ref a))/\H'=upd H4 a (A6 C a),rt:=λ_ _=>False } (Oz I6) ⟨.ref a,Yd jl,rfl,rfl⟩) (λfl s6 q6=>?_) λ_ _ z=>False.elim z;cases fl with
 | next =>
  obtain ⟨d9,H',I7,rfl,rfl⟩:=q6;refine aH1 (ZU I7) hN hj hle λs8 I8=>⟨_,_,I8,?_⟩
  have:=CZ a nj;rw [List.set_comm _ _ yq.symm,List.set_set];exact this
 | ret v=>obtain ⟨_,_,_,_,_,z⟩:=q6; exact z.elim
 | brk=>obtain ⟨_,_,_,z⟩:=q6; exact z.elim
 | cont=>obtain ⟨_,_,_,z⟩:=q6; exact z.elim
end
theorem yK {bs:List Bool}:∀ {us:List aa},bG (bs.map V.bl) us->us=bs.map aa.bool:=by
 induction bs with
 | nil=>intro us r; rw [Yh] at r; cases r; rfl
 | cons b bs ih =>
  intro us r;rw [Jb] at r;cases r with
  | cons r1 r2 =>
   have e:_=aa.bool b:=r1;rw [Jb,<- ih r2,e]
theorem W7 {bs:List Bool} {k:Bool} {y:aa} (hy:y∈bs.map aa.bool) (A:bz) (s:ah):SeqAt.EqAt A s y (.bool k) (isBoolOf k y):=by
 obtain ⟨b,_,rfl⟩:=Jc.mp hy;exact SeqAt.EqAt.bool_bool b k
theorem aCS (hK:X.K=K):wd X "list.count" (λx vs H Q=>∃ (a:ae) (bs:List Bool) (k:Bool),x=.ref a/\vs = [.bl k]/\dm K H a (bs.map V.bl)/\Q (.int (bs.count k:Nat)) H):=by
 subst hK;intro a_ s σ H x xs v us Q I rx r h;obtain ⟨a,bs,k,rfl,rfl,ha,q⟩:=h;obtain ⟨u,rfl,e⟩:=eU r;cases e;cases rx;obtain ⟨its,rv,⟨⟨cls,dd,data,sl⟩,n,ho,hc,Em,hd⟩,CS⟩:=I.list ha;simp only at hc hd;subst hc hd;obtain rfl:=yK rv;refine Tg Iv ⟨_,ho,rfl⟩ PySem.F.entry_list_count (PySem.F.args_list_count_2 _ _) (SeqAt.list_countAt a (bs.map aa.bool).toArray n dd sl (.bool k) (isBoolOf k)) ⟨ho,λy hy=>W7 (by simpa using hy) _ _,?_⟩;have e:((bs.map aa.bool).toArray.toList.countP (isBoolOf k))=bs.count k:=by
  rw [Qad,List.countP_map];rfl
 rw [e];exact ⟨.int _,H,I.tok _,⟨_,rfl⟩,q⟩
theorem aCT (hK:X.K=K):wd X "list.index" (λx vs H Q=>∃ (a:ae) (bs:List Bool) (k:Bool) (j:Nat),x=.ref a/\vs = [.bl k]/\dm K H a (bs.map V.bl)/\bs[j]?=some k/\(∀ m,m < j->bs[m]?≠some k)/\Q (.int (j:Nat)) H):=by
 subst hK;intro a_ s σ H x xs v us Q I rx r h;obtain ⟨a,bs,k,j,rfl,rfl,ha,hj,jh,q⟩:=h;obtain ⟨u,rfl,e⟩:=eU r;cases e;cases rx;obtain ⟨its,rv,⟨⟨cls,dd,data,sl⟩,n,ho,hc,Em,hd⟩,CS⟩:=I.list ha;simp only at hc hd;subst hc hd;obtain rfl:=yK rv;have qq:j < bs.length:=(Qb.mp hj).1;have vp:bs.length<=af:=by simp_all
 have val:∀ m (hm:m < (bs.map aa.bool).toArray.size),isBoolOf k (bs.map aa.bool).toArray[m]=decide (bs[m]?=some k):=λm hm=>by
  have Az:m < bs.length:=by simp_all
  have e:(bs.map aa.bool).toArray[m]=aa.bool bs[m]:=by simp
  rw [e,Qc Az];unfold isBoolOf;by_cases z:bs[m]=k
  ·simp [z]
  ·simp [z]
 refine Tg Uk ⟨_,ho,rfl⟩ Ir (Ip _ _) (SeqAt.list_indexAt a (bs.map aa.bool).toArray n dd sl (.bool k) (isBoolOf k) j (by simp_all) (by grind [Rf]) ?_ ?_) ⟨ho,λy hy=>W7 (by simpa using hy) _ _,?_⟩
 ·rw [val,hj]; simp
 ·intro m hm gh;rw [val];exact decide_eq_false (jh m gh)
 ·exact ⟨.int _,H,I.tok _,⟨_,rfl⟩,q⟩
structure wc (X:Cx) (e:ay) (t:TE):Prop where
 go:PE X e t
structure E7 (X:Cx) (es:List ay) (t:TA):Prop where
 go:PA X es t
structure BU (X:Cx) (st:ax) (t:TS):Prop where
 go:PS X st t
structure i6 (X:Cx) (CH:List ax) (t:TS):Prop where
 go:nc X CH t
section
variable {a b:ay} {t:TA} {st:ax} {cC:List ax} {ts us:TS}
theorem gW:E7 X [] lU:=⟨aC⟩
theorem aY (h:wc X e te) (r:E7 X es t) (hs:ao (e::es) X.env=(false,eval e X.env)::ao es X.env):E7 X (e::es) (gJ te t):=⟨aA h.go r.go hs⟩
theorem MX {i j}:wc X (.Constant (.int i) j pos) (tC (.int i)):=⟨aH⟩
theorem lX {i j}:wc X (.Constant (.bool i) j pos) (tC (.bl i)):=⟨jY⟩
theorem bZ {x j}:wc X (.Constant (.str x) j pos) (tC (.str x)):=⟨aJ⟩
theorem tQ {k} (h:E7 X es t):wc X (.Tuple es k pos) (G9 t):=⟨cH h.go⟩
theorem kR (h:E7 X es t):wc X (.List es pos) (G8 t):=⟨eG h.go⟩
theorem UU {op:Operator} (ho:gy X (binaryOp op) r) (ha:wc X a ta) (hb:wc X b tb):wc X (.BinOp a op b pos) (ud r ta tb):=⟨aS ho ha.go hb.go⟩
theorem bI (h:BU X st ts):i6 X [st] ts:=⟨aI h.go⟩
theorem aL (h:BU X st ts) (r:i6 X cC us):i6 X (st::cC) (uI ts us):=⟨aE h.go r.go⟩
theorem bV {x:aj} (hN:X.N.Nodup) (hi:X.N[i]?=some x) (hx:Loc X.env.scope x) (he:wc X e te) (hs:autoParam (cp e (some (.Name x pos')) pos.line X.env=pure false) L2.f') (hf:autoParam (X.fn x=true∨X.env.scope.names.lookup x=some .local) L2.DG) :
  BU X (.Assign [.Name x pos'] e pos) (A0 te (gI i)):=⟨aU hN hi hx he.go hs hf⟩
end
section
variable {Z:List ae} {S:St->Prop} {a b:ay} {d:au}
theorem PE.imp {t t':TE} (h:PE X e t) (q:∀ σ H Q,t' σ H Q->t σ H Q):PE X e t':=λa_ s σ H Q I z=>h a_ s σ H Q I (q σ H Q z)
theorem i6.ex {CH:List ax} {t:TS} {R:TS->Prop} (h:i6 X CH t) (r:R t):∃ t,nc X CH t/\R t:=⟨t,h.go,r⟩
theorem fJ (h:wc X e te):BU X (.Return (some e) pos) (SM te):=⟨aP h.go⟩
end
section
variable {l:ay} {tb:TS}
theorem sR (hp:bc (ar X.prog X.w) X.A X.env X.xe) (hc:X.calm=true) (hl:wc X l tl) (hg:PG X tg g) (hb:i6 X body tb) (hs:∀ x,foldedSetIterable l X.env x=pure x) :
  BU X (.For tg l body [] pos) (G_ (LX X.K tl) g tb):=⟨jH hp hc (cZ hl.go) hg hb.go hs⟩
end
noncomputable def W6 (e:cu):Bool:=match e.key with
 | .str _ _=>true
 | _=>false
def NH (h:ag) (C:ae) (bm:List aa):Prop:=∃ N nm qn bs hdct sn sub ab col dd k0 k1 k2 k3 k5 mN,
  h.get? C=some (excClassObj nm qn C N bs bm hdct sn sub ab col dd k0 k1 k2 k3 k5 "ValueError.__new__")/\h.Ns N mN/\∀ n∈ze,mN n=none
theorem aLc {dd cd sl k0 k1 k2 k3 n k5 c1 d1 es ep s1} (ho:K.lookup C=some ⟨.type "type",dd,.cls cd,sl⟩) (hs:sl.toList = [k0,k1,k2,k3,some (.builtin n),k5]) (hN:K.lookup cd.ns=some ⟨c1,d1,.dict es ep,s1⟩) (q:(n == "ValueError.__new__" && cd.mro==.ref C::bm && !cd.hasDel && (es.toList.all W6 && ze.all (λn=>(es.toList.find? (·.key.isStr n)).isNone)))=true) (X:K.In h):NH h C bm:=by
 simp only [Qt,beq_iff_eq,Zs,Jo,Option.isNone_iff_eq_none] at q;obtain ⟨⟨⟨rfl,hm⟩,FA⟩,hk,hq⟩:=q;obtain ⟨nm,bs,mro,ns,qn,hd,sn,sub,ab,col,del⟩:=cd;dsimp only at hm FA hN;subst hm FA;have DY:sl = #[k0,k1,k2,k3,some (.builtin "ValueError.__new__"),k5]:=by
  obtain ⟨l⟩:=sl;simp only at hs;rw [hs]
 subst DY;refine ⟨ns,nm,qn,bs,hd,sn,sub,ab,col,dd,k0,k1,k2,k3,k5,nsFind es,X _ _ ho,⟨_,es,ep,X _ _ hN,rfl,λe he=>?_,λ_=>rfl⟩,λn hn=>?_⟩
 ·have:=hk e (Array.mem_toList_iff.mpr he);unfold W6 at this;split at this
  ·rename_i a b e; exact ⟨a,b,e⟩
  ·cases this
 ·have:=hq n hn;unfold nsFind findBy;rw [<- Array.find?_toList,this];rfl
noncomputable def Sq (K:Rb) (C:ae) (bm:List aa):Option (PLift (∀ h,K.In h->NH h C bm)):=match e1:K.lookup C with
 | some ⟨.type "type", _, .cls cd, sl⟩ => (match e2 : sl.toList with
   | [_, _, _, _, some (.builtin _), _] => (match e3 : K.lookup cd.ns with
     | some ⟨_,_,.dict _ _,_⟩=>if q:_ then some ⟨λ_ X=>aLc e1 e2 e3 q X⟩ else none
     | _=>none)
   | _=>none)
 | _=>none
noncomputable def qf (K:Rb) (C:ae) (bm:List aa):Bool:=(Sq K C bm).isSome
theorem L0 (X:K.In h) (q:qf K C bm=true):NH h C bm:=((Sq K C bm).get q).down h X
theorem aF4 (q:qf K C kq=true) (h:ag) (X:K.In h):mz h C kq:=by
 obtain ⟨N,nm,qn,bs,hdct,sn,sub,ab,col,dd,k0,k1,k2,k3,k5,mN,h1,h2,h3⟩:=L0 X q;exact ⟨N,nm,qn,bs,hdct,sn,sub,ab,col,dd,k0,k1,k2,k3,k5,mN,h1,h2,h3,.base⟩
theorem iF {D:ae} (qD:qf K D kq=true) (q:qf K C (.ref D::kq)=true) (h:ag) (X:K.In h):mz h C (.ref D::kq):=by
 obtain ⟨N,nm,qn,bs,hdct,sn,sub,ab,col,dd,k0,k1,k2,k3,k5,mN,h1,h2,h3⟩:=L0 X q;obtain ⟨_,_,_,_,_,_,_,_,_,_,_,_,_,_,_,mD,e1,e2,e3⟩:=L0 X qD;exact ⟨N,nm,qn,bs,hdct,sn,sub,ab,col,dd,k0,k1,k2,k3,k5,mN,h1,h2,h3,.own e1 e2 e3 .base⟩
noncomputable def IM (J:It):It :=
 ⟨J.go,λi H v H'=>∃ x H1 p,J.m7 i H x H1/\H1 p=none/\v=.ref p/\H'=upd H1 p (.tup [.int (i:Nat),x]),J.stop⟩
section
variable {e:ae} {t:Nat->ag->Prop}
def aMk (e it:ae) (t:Nat->ag->Prop) (i:Nat) (h:ag):Prop:=(∃ f0 f1 o,pR h e "enumerate" f0 f1 [.ref it,rawInt i,.none,o])/\t i h
theorem aF5 (N:qj P w K J fp it t) (D:e∉fp):qj P w K (IM J) (e::fp) e (aMk e it t) where
 mem:=by simp
 obj:=λi h ⟨⟨_,_,_,q⟩,c⟩ b hb=>by
  rcases Ql.mp hb with rfl | hb
  ·exact ⟨_,q,λv q=>by cases q⟩
  ·exact N.obj i h c b hb
 keep:=λi h h' ⟨⟨_,_,_,q⟩,c⟩ k=>⟨⟨_,_,_,k _ 'b' _ q⟩,N.keep i h h' c λb hb=>k b (by simp [hb])⟩
 next:=by
  intro X hP hw hK A hA i a_ s σ H b Q E I hf ⟨⟨f0,f1,o,he⟩,c⟩ g hQ hE;subst hP hw hK;have p:=Pg.refl I λb hb=>⟨hf b hb,by
   rcases Ql.mp hb with rfl | hb
   ·exact ag.lt_size he
   ·exact N.lt c b hb⟩
  have hT:s.TypeIs (.ref e) "enumerate" := ⟨_,he,rfl⟩
  have hA:A.in1.handled=none:=hA;refine To hT PySem.F.slot_enumerate_next (Tn PySem.F.slot_enumerate_next hT PySem.F.entry_enumerate_next ?_ (PySem.F.args_enumerate_next_1 _));refine Ra (m:=field (.ref e) 2) (Th he rfl (x:=.ref it) rfl (Ra (m:=ak.SmallTypes.nextOf (.ref it)) (lB (N.next X rfl rfl rfl _ hA i a_ _ σ H b _ _ I (λb hb=>hf b (by simp [hb])) c (by cases b <;> exact g) (λu x H1 s1 eb q rx yx t1=>⟨u,rfl,?_⟩) λy s1 eb q=>hE _ _ eb (p.trans q (by simp +contextual))))));replace p:=p.trans q (by simp +contextual);replace he:=q.kp _ _ D he;refine Ra (m:=field (.ref e) 3) (Th he rfl (x:=rawInt i) rfl (Ra (m:=field (.ref e) 4) (Th he rfl (x:=.none) rfl ?_)));refine Ra (m:=mkInt i) (wpAny_mkInt (Ra (m:=setField (.ref e) 3 (rawInt ((i:Int)+1))) (Tc he 'b' λh2 he k2=>?_)));replace p:=p.cell (t':=s1.toks+1) 'b' k2;refine Ra (m:=setField (.ref e) 4 .none) (Tc he 'b' λh3 he k3=>?_);replace p:=p.cell (t':=s1.toks+1) 'b' k3;have fr:=p.inv.fresh;refine Ra (m:=newTuple [.int i s1.toks,u]) (Mm ?_);replace p:=p.pair (x:=.int i) (u:=.int i s1.toks) ⟨s1.toks,rfl⟩ rx;have t2:=N.keep _ _ _ t1 λb hb o q=>ag.get?_push_of_some { cls:=.type "tuple",data:=.seq #[.int i s1.toks,u] } (k3.extBut _ _ (λq=>D (q ▸ hb)) (k2.extBut _ _ (λq=>D (q ▸ hb)) q));have last:∀ {h' f0 f1 o},pR h' e "enumerate" f0 f1 [.ref it,rawInt (i+1:Nat),.none,o]->ag.SameBut e (h3.push { cls:=.type "tuple",data:=.seq #[.int i s1.toks,u] }) h'->Q (some (.ref h3.objs.size)) { s1 with heap:=h',toks:=s1.toks+1 }:=λhe k =>
   hQ _ (.ref _) _ _ eb (p.cell (t':=s1.toks+1) 'b' k) rfl ⟨x,H1,_,yx,fr,rfl,rfl⟩ ⟨⟨_,_,_,he⟩,N.keep _ _ _ t2 λb hb o=>k.extBut _ _ (λq=>D (q ▸ hb))⟩
  refine Ra (m:=ak.SmallTypes.ownedTupleIsFree (.ref e)) (UM (ag.get?_push_of_some _ he) λh4 b c he k4=>?_);cases c with
  | true =>
   simp only [if_true];refine Ra (Ut (Ra (Th he rfl (x:=o) rfl (Ra (Tc he 'b' λh5 he k5=>?_)))));exact Ra (m:=ak.SmallTypes.ownedTupleHandOut (.ref e) (.ref _)) (VW he λh6 f0 f1 he k6=>Ra (Uu (Rc ⟨_,rfl,last he ((k4.trans k5).trans k6)⟩)))
  | false =>
   simp only [Xq,if_false];exact Rc ⟨_,rfl,last he k4⟩
 self:=λ_ _ _ _ _ ⟨⟨_,_,_,hz⟩,_⟩ h=>Raq ⟨_,hz,rfl⟩ Ig (Tn Ig ⟨_,hz,rfl⟩ PySem.F.entry_enumerate_iter (Rc ⟨_,rfl, "enumerate",_,⟨_,hz,rfl⟩,PySem.F.slot_enumerate_next.lookup,h⟩) (PySem.F.args_enumerate_iter_1 _))
 lets:=λX _ _ _ tg u i a_ s s' σ H H' Q E p ⟨⟨f0,f1,o,hz⟩,c⟩ hQ =>
  VU hz λh' f0 b hz k=>hQ _ (p.cell (t':=s'.toks) 'b' k) ⟨⟨_,_,_,hz⟩,N.keep _ _ _ c λb hb o=>k.extBut _ _ (λq=>D (q ▸ hb))⟩
end
theorem aER (a it:ae) (h':ag) :
  Meets (ak.«enumerate.__new__» ⟨[.type "enumerate",.ref a],[]⟩) (λ_ R s=>(∃ o,s.heap.get? a=some o)/\(∀ {prog:bq} {w:bx} {A:bz} {Q:aa->ah->Prop} {E:aa->ah->Prop},Q (.ref it) { s with heap:=h' }->aq (ar prog w) A (pyIter (.ref a)) Q E s) /\
   R (.ok (.ret (.ref h'.objs.size))) { s with heap:=h'.push { cls:=.type "enumerate",data:=.fields #[.none,.bool false,.ref it,rawInt 0,.none,.none] } }) :=
 .of_wp λprog w A R s h=>by
  obtain ⟨hp,g,d,tk,os⟩:=s;obtain ⟨⟨o,ho⟩,hi,h⟩:=h;have Fs:=sub_enumerate;have ho:(ah.heap ⟨hp,g,d,tk,os⟩).get? a=some o:=ho
  wp_walk using AutoSeq1.wpAny_loadPart' ho
  refine wpAny_stack_any λst=>Rc ?_;split
  ·rename_i c _ _ _ _ _;cases (c==aa.type "enumerate")
   ·wp_walk using AutoSeq1.wpAny_loadPart' ho,hi
    exact ⟨_,rfl,h⟩
   ·wp_walk using AutoSeq1.wpAny_loadPart' ho,hi
    exact ⟨_,rfl,h⟩
  ·wp_walk using AutoSeq1.wpAny_loadPart' ho,hi
   exact ⟨_,rfl,h⟩
theorem aH2 {wi:TI} (hg:Gl X "enumerate") (hm:X.mg "enumerate" = none) (he:PN X e wi) (hs:autoParam (ao [e] X.env = [(false,eval e X.env)]) L2.f'):ES X (.Call (.Name "enumerate" p) [e] [] pos) "enumerate" (λσ H R=>wi σ H λJ=>R (IM J)):=by
 intro a_ s σ H R I h;refine Call_ (mT (u:=.type "enumerate") I hg hm 'd' (PyProof.Rows.callWith_type1 ?_ hs rfl));rw [hs];refine Calls.spliced_cons (fc (he a_ s σ H _ I h) λv s1 q9=>Calls.spliced_nil ?_);obtain ⟨a,it,fp,tn,J,H',h',e,ho,g,I',N,t,f,r⟩:=q9;subst e;refine callType_new PySem.F.called_enumerate 'c' (PySem.F.typeCall_enumerate_1 _) (PySem.F.newCall_enumerate_1 _) (λobj=>Io obj _) PySem.F.entry_enumerate_new (aER a it h') ⟨ho,g,?_⟩;have N2:=aF5 (e:=h'.objs.size) N λq=>Jk _ (N.lt t _ q);have t2:=N2.st (h:=h'.push { cls:=.type "enumerate",data:=.fields #[.none,.bool false,.ref it,rawInt 0,.none,.none] }) ⟨⟨.none,false,.none,ag.get?_push_size _ rfl⟩,N.keep _ _ _ t λb _ o q=>ag.get?_push_of_some _ q⟩;have ⟨⟨_,_,_,z⟩,_⟩:=t2;exact ⟨⟨_,z,rfl⟩,_,_,_,_,H',rfl,⟨_,z,rfl⟩,I'.kept (t':=s1.toks) λb o q=>ag.get?_push_of_some _ q,N2,t2,λc hc=>by
  rcases Ql.mp hc with rfl | hc
  ·exact I'.n_ (Qe _) (I'.ei.fresh (Qe _))
  ·exact f c hc,r⟩
theorem aJ6 (h:n<=1000):n<=af:=by rw [Rf]; omega
section
variable {own:Nat} {σ:St}
theorem aH3 (h:vs[i]?=some v):vs.take (i+1)=vs.take i++[v]:=by simp_all [Jw]
theorem aH4 (SH:St->Prop) (hn:n<=1000) (hl:vs.length=n) (jw:SH (h_ own fr σ)) (o7:∀ H',aD H H'->J.stop n H') (Ef:∀ i H',i < n->aD H H'->J.go i H') (hs:∀ i v x σ H1 H2,i < n->vs[i]?=some v->SH σ->aD H H1->J.m7 i H1 x H2->∀ Q:V->St->Hp->Prop,(∀ fi H4,SH fi->aD H1 H4->Q v fi H4)->g x σ H2 λfi H3=>te fi H3 λy H4=>Q y fi H4) (hd:∀ H',aD H H'->Qf H' vs) :
  ki J [] (h_ own fr σ) H (λys _ H=>Qf H ys) g rJ (sj te):=by
 refine jP n (aJ6 hn) SH (λi ys H'=>ys=vs.take i/\aD H H') jw ⟨rfl,aD.refl H⟩ (λi ys H' p=>by rw [p.1,Qs]; omega) (λys H' p=>o7 H' p.2) (λi ys H' hi p=>Ef i H' hi p.2) ?_ (λys H' p=>?_)
 ·rintro i ys d9 x H1 H2 hi sh ⟨rfl,s1⟩ hy hz;have hv:vs[i]?=some vs[i]:=Qc 'a';have h:=hs i vs[i] x d9 H1 H2 hi hv sh s1 hy (λy fi H4=>(vs.take i).length < af/\SH fi/\(vs.take i++[y]=vs.take (i+1)/\aD H H4)) λfi H4 ZJ s4=>⟨hz,ZJ,(aH3 hv).symm,s1.trans s4⟩
  exact h
 ·grind
theorem WZ {a:ae} (SH:St->Prop) (hn:xs.length<=1000) (hl:vs.length=xs.length) (ha:dt K H a xs) (jw:SH (h_ own fr σ)) (hs:∀ (i:Nat) x v σ H1,xs[i]?=some x->vs[i]?=some v->SH σ->aD H H1->∀ Q:V->St->Hp->Prop,(∀ fi H4,SH fi->aD H1 H4->Q v fi H4)->g x σ H1 λfi H2=>te fi H2 λy H4=>Q y fi H4) (hd:∀ H',aD H H'->Qf H' vs) :
  ki (IK K a) [] (h_ own fr σ) H (λys _ H=>Qf H ys) g rJ (sj te):=by
 refine aH4 SH hn hl jw (λH' s=>⟨xs,s.di ha,Qe _⟩) (λi H' hi s=>⟨xs,xs[i],s.di ha,Qc hi⟩) (λi v x σ H1 H2 hi hv sh s y Q k=>?_) hd;obtain ⟨e,y⟩:=y;subst e;exact hs i x v σ _ (y xs (s.di ha)) hv sh s Q k
end
section
variable {st:ax} {cC:List ax} {t u:TS}
end
theorem oW (hK:X.K=K):gy X (bj .NotIn) (DL K true):=by subst hK; exact zY
theorem xO (xs:Array aa):slicePick xs none none (some (-1))=xs.toList.reverse.toArray:=by
 unfold slicePick;have e1:sliceBounds none none (some (-1)) xs.size=((xs.size:Int) - 1,-1,-1):=by rfl
 rw [e1,<- aF0 xs];congr 1;have e2:sliceRange ((xs.size:Int) - 1) (-1) (-1)=(List.range xs.size).map λ(k:Nat)=>((xs.size:Int) - 1+(k:Int)*(-1)).toNat:=by
  unfold sliceRange;rw [if_neg 'c'];have e3:(if (xs.size:Int) - 1 > -1 then ((xs.size:Int) - 1 - -1 - -1 - 1) / (- -1) else 0).toNat=xs.size:=by grind
  show (List.range (if (xs.size:Int) - 1 > -1 then ((xs.size:Int) - 1 - -1 - -1 - 1) / (- -1) else 0).toNat).map _=_;rw [e3];refine Qaf λk _=>?_;congr 1;omega
 rw [e2,Qai];rfl
def aLd (K:Rb) (te ts:TE):TE:=λσ H Q=>te σ H λx H1=>ts σ H1 λy H2=>y=.int (-1)/\∃ a xs,x=.ref a/\dm K H2 a xs/\∀ p,H2 p=none->Q (.ref p) (upd H2 p (.lst xs.reverse))
theorem aH5 {st:ay} (he:PE X e te) (jx:PE X st ts):PE X (.Subscript e (.Slice none none (some st) p2) pos) (aLd X.K te ts):=by
 intro a_ s σ H Q I h;refine Ik (fc (he a_ s σ H _ I h) λv s1 e_=>?_);obtain ⟨x,H1,I1,r1,q1⟩:=e_;refine wpAny_Slice ?_;rw [Ie];refine Rc ?_;show aq _ _ (evalPart none X.env) _ _ s1;rw [Ie];refine Rc ?_;rw [evalPart_some];refine fc (jx a_ s1 σ H1 _ I1 q1) λvst s3 e_=>?_;obtain ⟨y,H3,I3,r3,q3⟩:=e_;obtain ⟨rfl,a,xs,rfl,hx,q⟩:=q3;obtain ⟨tk,rfl⟩:=r3;cases r1;have I4:Inv X a_ σ H3 { s3 with heap:=s3.heap.push { cls:=.type "slice",data:=.fields #[.none,.none,.int (-1) tk] } }:=I3.kept (t':=s3.toks) λb ob q=>ag.get?_push_of_some _ q;obtain ⟨its,r,ht,hz⟩:=I4.list hx;have hlen:=r.length;have hg:aq (ar X.prog X.w) X.A (cq (.ref a) (.ref s3.heap.objs.size)) (EP X a_ σ Q) X.xe { s3 with heap:=s3.heap.push { cls:=.type "slice",data:=.fields #[.none,.none,.int (-1) tk] } }:=by
  refine Ms ht.isList (ag.IsSliceOf.new ..) .none .none (.int (-1) tk) 'c' ?_ (by simp_all);rw [xO];refine ⟨.ref _,_,I4.laid (t':=s3.toks) (o:=.lst xs.reverse) (λb ob q=>ag.get?_push_of_some _ q) (Qe _) ?_,rfl,q _ (I4.ei.fresh (Qe _))⟩;exact ⟨by rw [List.length_reverse]; exact hz,its.reverse,0,r.reverse,ag.get?_push_size _ rfl⟩
 exact tail_any (ops:=[.ref a,.ref s3.heap.objs.size]) ht.isList.typeIs slot_list_getitem.lookup hg (by rfl)
section
variable {S:List ae} {E E':Hp->V->Prop} {σ:St} {t:TA} {tl th:TO}
instance {a:ae} {xs:List V}:Mo (λH v=>v=.ref a/\dt K (Vw S H) a xs):=⟨λe h=>⟨h.1,(Vw.same e).di h.2⟩⟩
end
noncomputable def Lo (e fv:ay) (env:cz) (D:ae):Sem Unit:=do
 let x<-eval fv env
 standAt fv.pos
 let x<-foldedSetIterable fv env x
 let i<-holding [x] (pyIter x)
 let _<-runOwn (.compStart e 1 i (.ref D) env) env
section
variable {it acc:aa} {env:cz}
end
def F3 (r_:TI) (g2:TG) (tb:α->St->Hp->(α->St->Hp->Prop)->Prop) (a:α) (σ:St) (H:Hp) (R:α->St->Hp->Prop):Prop:=r_ σ H λJ2 H3=>ki J2 a σ H3 R g2 rJ tb
theorem aLe {na:Sem aa} {a0:α} {Ok:ae->α->ag->Prop} {tb:α->St->Hp->(α->St->Hp->Prop)->Prop} {r_:TI} (LO:gq Y.prog Y.w Y.A e 1 p_ fv [] bd) (AO:iw Y.prog Y.w Y.A na a0 Ok) (hx:∀ v s',¬ Y.xe v s') (hc:Y.calm=true) (hs:∀ x,foldedSetIterable fv Y.env x=pure x) (hi:PI Y p_ fv r_) (hg:PG Y p_ g2) (hb:lW Y bd Ok tb) :
  lW Y (Lo e fv) Ok (F3 r_ g2 tb):=by
 intro ps s σ H D o a R dn I pl h;refine Ra (fc (hi _ s σ H _ I h) λv s1 h1=>Ra (Tt (Ra (Rae (hs v) (Ra (Rt (fc h1 λGf s2 h2=>?_)))))));obtain ⟨it,fp,tn,J,H2,e,I2,T,Al,f2,hw⟩:=h2;subst e;refine Ra (wpAny_runOwn (Ux (yI (R:=λr s'=>match r with
  | .ok _=>∃ d9 H' a' o',Inv Y ((D,o')::ps) d9 H' s'/\Ok D a' s'.heap/\R a' d9 H'
  | .error _=>False) LO AO hx hc T hg cQ hb dn I2 (AO.gu I I2 pl) Al f2 hw λs' d9 H' a' o' I' ok q=>⟨d9,H',a',o',I',ok,q⟩) λr s5 h5=>?_))
 cases r with
 | ok f=>exact Rc h5
 | error e=>exact False.elim h5
section
variable {wi r_:TI}
end
section
variable {own:Nat} {r_:TI} {σ:St}
end
theorem aES (bs:List Bool) (tr:Nat->Bool) (h:∀ i b,bs[i]?=some b->tr i=b):(List.range bs.length).any tr=bs.any id:=by
 rw [Xb,Xs,Xs];constructor
 ·rintro ⟨i,hi,q⟩;have yr:=Zm.mp hi;rw [h i _ (Qc yr)] at q;exact ⟨_,Zl yr,q⟩
 ·rintro ⟨b,hb,q⟩;obtain ⟨i,hi⟩:=Wu hb;exact ⟨i,Zm.mpr (Qb.mp hi).1,by rw [h i b hi]; exact q⟩
theorem pT (hc:X.calm=true):eQ X (.builtin "any") (λxs H Q=>∃ (p:ae) (bs:List Bool),xs = [.ref p]/\dm X.K H p (bs.map V.bl)/\Q (.bl (bs.any id)) H):=by
 intro a_ s σ H xs us Q I r h;obtain ⟨p,bs,rfl,hx,q⟩:=h;obtain ⟨u,rfl,rx⟩:=eU r;cases rx;obtain ⟨its,rv,pl,hz⟩:=I.list hx;have hl:=rv.length;rw [Qa] at hl;have gh:p < s.heap.objs.size:=by obtain ⟨o,n,e,_⟩:=pl; exact ag.lt_size e
 refine call_any_walk (Uw pl.isList ⟨s.heap.objs.size,_,_,_,_,_,λi=>(bs[i]?).getD false,rfl,cx.list (A:=X.A.in1) (I.ok.hd hc) s.heap.objs.size p (Qy gh) its.toArray,⟨⟨_,ag.get?_push_size _ rfl,rfl,rfl⟩,pl.isList.push _⟩,?_,λh' tk hk=>?_⟩)
 ·intro i v s' Q' E' hP Et;have oy:its[i]?=some v:=by simpa using hP
  have hi:i < bs.length:=by rw [hl]; exact (Qb.mp oy).1
  obtain ⟨w,hw,js⟩:=rv.get (i:=i) (x:=.bl bs[i]) (by rw [Qh,Qc hi]; rfl);rw [hw] at oy;cases oy;cases js;have e:(bs[i]?).getD false=bs[i]:=by rw [Qc hi]; rfl
  rw [<- e];exact Rw Et
 ·have e:(List.range its.toArray.size).any (λi=>(bs[i]?).getD false)=bs.any id:=by
   rw [Jj,<- hl];exact aES bs _ λi b hb=>by rw [hb]; rfl
  rw [e];refine ⟨.bl _,H,I.kept (h':=h') λb o e=>hk b o ?_ (ag.get?_push_of_some _ e),rfl,q⟩;intro z;have z':b=s.heap.objs.size:=by simpa using z
  exact Jk _ (z' ▸ ag.lt_size e)
section
variable [DecidableEq κ]
noncomputable def cP (kvs:List (κ×V)) (k:κ):Option V:=(kvs.find? λkv=>decide (kv.1=k)).map (·.2)
noncomputable def fO (kvs:List (κ×V)) (k:κ) (v:V):List (κ×V) :=
 if (kvs.any λkv=>decide (kv.1=k))=true then kvs.map (λkv=>if kv.1=k then (kv.1,v) else kv) else kvs++[(k,v)]
noncomputable def pU (kvs:List (κ×V)) (k:κ):List (κ×V):=kvs.filter λkv=>decide (kv.1≠k)
theorem aF6 {k:κ}:cP ([]:List (κ×V)) k=none:=rfl
theorem eL {p:κ×V} {r:List (κ×V)} {k:κ} (e:p.1=k):cP (p::r) k=some p.2:=by simp_all [cP,Zo]
theorem eM {p:κ×V} {r:List (κ×V)} {k:κ} (e:¬ p.1=k):cP (p::r) k=cP r k:=by simp_all [cP,Zo]
theorem iG (k:κ):∀ kvs:List (κ×V),(kvs.any λkv=>decide (kv.1=k))=(cP kvs k).isSome
 | []=>rfl
 | p::r=>by
  rw [Ya];by_cases e:p.1=k
  ·simp only [eL e,decide_eq_true e,Qal,Qak]
  ·rw [eM e,decide_eq_false e,Wh]; exact iG k r
theorem WY (k j:κ) (y:V):∀ kvs:List (κ×V),cP (kvs.map λkv=>if kv.1=k then (kv.1,y) else kv) j=(cP kvs j).map λx=>if j=k then y else x
 | []=>rfl
 | p::r=>by
  have ih:=WY k j y r;rw [Jb];by_cases h:p.1=k
  ·rw [if_pos h];by_cases e:p.1=j
   ·rw [eL (p:=(p.1,y)) e,eL e,Xz,if_pos (e.symm.trans h)]
   ·rw [eM (p:=(p.1,y)) e,eM e,ih]
  ·rw [if_neg h];by_cases e:p.1=j
   ·rw [eL (p:=p) e,eL e,Xz,if_neg (λz=>h (e.trans z))]
   ·rw [eM (p:=p) e,eM e,ih]
theorem rK (k j:κ) (y:V):∀ kvs:List (κ×V),cP kvs k=none->cP (kvs++[(k,y)]) j=if j=k then some y else cP kvs j
 | [],_=>by
  by_cases e:k=j
  ·rw [if_pos e.symm]; exact eL (p:=(k,y)) e
  ·rw [if_neg (λz=>e z.symm)]; exact eM (p:=(k,y)) e
 | p::r,hn=>by
  rw [Za];have hk:¬ p.1=k:=λz=>by rw [eL z] at hn; cases hn
  rw [eM hk] at hn;by_cases e:p.1=j
  ·rw [eL e,eL e,if_neg (λz=>hk (e.trans z))]
  ·rw [eM e,eM e,(rK k j y r hn)]
theorem pV (kvs:List (κ×V)) (k j:κ) (y:V):cP (fO kvs k y) j=if j=k then some y else cP kvs j:=by
 unfold fO;by_cases a:(kvs.any λkv=>decide (kv.1=k))=true
 ·rw [if_pos a,WY];rw [iG] at a;by_cases e:j=k
  ·obtain ⟨x,hx⟩:=Yy.mp a;rw [if_pos e,e,hx,Xz,if_pos rfl]
  ·simp_all
 ·rw [if_neg a];refine rK k j y kvs ?_;rw [iG] at a;cases q:cP kvs k with
  | none=>rfl
  | some x=>rw [q] at a; exact (a rfl).elim
theorem eS (kvs:List (κ×V)) (k:κ) (v:V):(fO kvs k v).length<=kvs.length+1:=by
 unfold fO;split
 ·simp
 ·simp
theorem pW {kvs:List (κ×V)} {k:κ} (v:V) (h:cP kvs k=none):fO kvs k v=kvs++[(k,v)]:=by simp_all [fO,iG,if_neg]
theorem mS.g9 {o:Option V} {u:Option aa} (r:mS o u):o.isSome=u.isSome:=by
 cases o with
 | none => cases u with
   | none=>rfl
   | some _=>exact (show False from r).elim
 | some _ => cases u with
   | none=>exact (show False from r).elim
   | some _=>rfl
theorem KV.val {kvs:List (κ×V)} {vs:List (κ×aa)} (r:KV kvs vs) (k:κ):mS (cP kvs k) (valueAt vs k):=by
 unfold KV at r
 induction r with
 | nil=>exact True.intro
 | @cons p q ps qs h t ih =>
  obtain ⟨h1,h2⟩:=h;by_cases e:p.1=k
  ·have e':q.1=k:=h1.symm.trans e;have b:valueAt (q::qs) k=some q.2:=by simp_all [valueAt,Zo]
   rw [eL e,b]; exact h2
  ·simp_all [valueAt,Zo,eM]
theorem KV.any {kvs:List (κ×V)} {vs:List (κ×aa)} (r:KV kvs vs) (k:κ):(kvs.any λkv=>decide (kv.1=k))=vs.any λkv=>decide (kv.1=k):=by
 unfold KV at r
 induction r with
 | nil=>rfl
 | cons h t ih=>rw [Ya,Ya,ih,h.1]
theorem KV.BZ {kvs:List (κ×V)} {vs:List (κ×aa)} (r:KV kvs vs) (k:κ) (ry:bN y u) :
  KV (kvs.map λkv=>if kv.1=k then (kv.1,y) else kv) (vs.map λkv=>if kv.1=k then (kv.1,u) else kv):=by
 unfold KV at r ⊢
 induction r with
 | nil=>exact .nil
 | @cons p q ps qs h t ih =>
  rw [Jb,Jb];refine .cons ?_ ih;obtain ⟨h1,h2⟩:=h;by_cases e:p.1=k
  ·rw [if_pos e,if_pos (h1.symm.trans e)]; exact ⟨h1,ry⟩
  ·rw [if_neg e,if_neg (λz=>e (h1.trans z))]; exact ⟨h1,h2⟩
theorem KV.put {kvs:List (κ×V)} {vs:List (κ×aa)} (r:KV kvs vs) (k:κ) (ry:bN y u):KV (fO kvs k y) (stored vs k u):=by
 unfold fO stored;rw [r.any k];by_cases e:(vs.any λkv=>decide (kv.1=k))=true
 ·rw [if_pos e,if_pos e]; exact r.BZ k ry
 ·rw [if_neg e,if_neg e]; exact cm.snoc r ⟨rfl,ry⟩
theorem KV.drop {kvs:List (κ×V)} {vs:List (κ×aa)} (r:KV kvs vs) (k:κ):KV (pU kvs k) (without vs k):=by
 unfold KV at r ⊢;unfold pU without
 induction r with
 | nil=>exact .nil
 | @cons p q ps qs h t ih =>
  obtain ⟨h1,h2⟩:=h;rw [Jm,Jm];by_cases e:p.1=k
  ·have a:¬ decide (p.1≠k)=true:=by simp [e]
   have b:¬ decide (q.1≠k)=true:=by simp [h1.symm.trans e]
   rw [if_neg a,if_neg b]; exact ih
  ·have e':¬ q.1=k:=λz=>e (h1.trans z);have a:decide (p.1≠k)=true:=by simp [e]
   have b:decide (q.1≠k)=true:=by simp_all
   rw [if_pos a,if_pos b]; exact .cons ⟨h1,h2⟩ ih
theorem KV.keys {kvs:List (κ×V)} {vs:List (κ×aa)} (r:KV kvs vs):kvs.map (·.1)=vs.map (·.1):=by
 unfold KV at r
 induction r with
 | nil=>rfl
 | cons h t ih=>rw [Jb,Jb,ih,h.1]
theorem KV.length {kvs:List (κ×V)} {vs:List (κ×aa)} (r:KV kvs vs):kvs.length=vs.length:=cm.length r
theorem aF7 (kvs:List (κ×V)) (k:κ):(pU kvs k).length<=kvs.length:=Jp _ _
end
theorem mP {k:Key} (r:bN (kV k) u):(bP P w).is k u=true:=by
 cases k with
 | inl i=>obtain ⟨t,e⟩:=(show ∃ t,u=aa.int i t from r); subst e; exact aA4 P w i t
 | inr x=>obtain ⟨t,e⟩:=(show ∃ t,u=aa.str x t from r); subst e; exact bH P w x t
theorem yL:∀ {ks:List Key} {us:List aa},bG (ks.map kV) us->ItemsAre (bP P w) ks us
 | [],_,r=>by rw [Yh] at r; cases r; exact .nil
 | k::ks,_,r=>by
  rw [Jb] at r;cases r with
  | cons h t=>exact .cons (mP h) (yL t)
abbrev KT (H:Hp):List (List Key×V)->List (List Key×ae×aa)->Prop:=cm λp q=>p.1=q.1/\H q.2.1=some (.tup (p.1.map kV))/\bN p.2 q.2.2
theorem KT.val {kvs:List (List Key×V)} {xs:List (List Key×ae×aa)} (r:KT H kvs xs) (k:List Key):mS (cP kvs k) ((atKey xs k).map (·.2)):=by
 induction r with
 | nil=>exact True.intro
 | @cons p q ps qs h t ih =>
  obtain ⟨h1,_,h2⟩:=h;by_cases e:p.1=k
  ·have e':q.1=k:=h1.symm.trans e;have b:atKey (q::qs) k=some q.2:=by simp_all [atKey,Zo]
   rw [eL e,b]; exact h2
  ·simp_all [atKey,Zo,eM]
theorem KT.BZ {kvs:List (List Key×V)} {xs:List (List Key×ae×aa)} (r:KT H kvs xs) (k:List Key) (ry:bN y u) :
  KT H (kvs.map λkv=>if kv.1=k then (kv.1,y) else kv) (xs.map (putAt k u)):=by
 induction r with
 | nil=>exact .nil
 | @cons p q ps qs h t ih =>
  rw [Jb,Jb];refine .cons ?_ ih;obtain ⟨h1,h2,h3⟩:=h;unfold putAt;by_cases e:p.1=k
  ·rw [if_pos e,if_pos (h1.symm.trans e)]; exact ⟨h1,h2,ry⟩
  ·rw [if_neg e,if_neg (λz=>e (h1.trans z))]; exact ⟨h1,h2,h3⟩
theorem KT.put {kvs:List (List Key×V)} {xs:List (List Key×ae×aa)} (r:KT H kvs xs) (k:List Key) {b:ae} (hb:H b=some (.tup (k.map kV))) (ry:bN y u) :
  KT H (fO kvs k y) (storedH xs k b u):=by
 have e:(kvs.any λkv=>decide (kv.1=k))=(atKey xs k).isSome:=by
  rw [iG,(r.val k).g9,Yg]
 unfold fO storedH;rw [e];by_cases q:(atKey xs k).isSome=true
 ·rw [if_pos q,if_pos q]; exact r.BZ k ry
 ·rw [if_neg q,if_neg q]; exact cm.snoc r ⟨rfl,hb,ry⟩
theorem KT.keeps {kvs:List (List Key×V)} {xs:List (List Key×ae×aa)} (r:KT H kvs xs) (ht:∀ b ys,H b=some (.tup ys)->H' b=some (.tup ys)):KT H' kvs xs :=
 cm.Fo r λ_ _ z=>⟨z.1,ht _ _ z.2.1,z.2.2⟩
section
variable {a:ae}
theorem TF {u:HO} (ok:iz P w H h) (e:Rd H a u):bT P w H h a u:=e.ok ok
theorem lE (ok:iz P w H h) (e:Rd H a (.dK kvs)):kvs.length<=af/\(a==br)=false/\∃ vs,KV kvs vs/\h.DictOf (bP P w) a vs :=
 show bT P w H h a (.dK kvs) from TF ok e
theorem LZ (ok:iz P w H h) (e:H a=some (.dK kvs)):kvs.length<=af/\(a==br)=false/\∃ vs,KV kvs vs/\h.DictOf (bP P w) a vs:=lE ok (.inl e)
theorem vA {ks:List Key} (ok:iz P w H h) (e:H a=some (.tup (ks.map kV))):(tupleKind (bP P w)).is h ks a:=by
 obtain ⟨_,its,n,r,e1⟩:=(show bT P w H h a (.tup (ks.map kV)) from ok a _ e)
 exact ⟨_,its.toArray,n,e1,rfl,rfl,by simpa using yL r⟩
theorem yM {kvs:List (List Key×V)} (ok:iz P w H h) (e:Rd H a (.dT kvs)):kvs.length<=af/\(a==br)=false /\
  ∃ xs,KT H kvs xs/\h.DictOfH (tupleKind (bP P w)) a xs:=by
 obtain ⟨z,y,xs,r,o,es,ep,h1,h2,h3,h4,h5⟩:=(show bT P w H h a (.dT kvs) from TF ok e)
 refine ⟨z,y,xs,r,o,es,ep,h1,h2,h3,h4,λx hx=>?_,h5⟩;have all:∀ {l:List (List Key×V)} {m:List (List Key×ae×aa)},KT H l m->∀ x∈m,(tupleKind (bP P w)).is h x.1 x.2.1:=by
  intro l m q
  induction q with
  | nil=>intro x hx; exact nomatch hx
  | @cons p q ps qs hq t ih =>
   intro x hx;rcases Ql.mp hx with e | hx
   ·subst e;exact vA ok (by simp_all)
   ·exact ih x hx
 exact all r x hx
theorem aLf {kvs:List (List Key×V)} (ok:iz P w H h) (e:H a=some (.dT kvs)):kvs.length<=af/\(a==br)=false /\
  ∃ xs,KT H kvs xs/\h.DictOfH (tupleKind (bP P w)) a xs:=yM ok (.inl e)
end
def nI (H:Hp) (a:ae) (y:V) (r:Option V):Prop :=
 (∃ kvs k,Rd H a (.dK kvs)/\y=kV k/\r=cP kvs k)∨∃ kvs k b,Rd H a (.dT kvs)/\y=.ref b/\H b=some (.tup (k.map kV))/\r=cP kvs k
def rM (H:Hp) (a:ae) (y v:V) (H':Hp):Prop :=
 (∃ kvs k,H a=some (.dK kvs)/\y=kV k/\kvs.length < af/\H'=upd H a (.dK (fO kvs k v))) ∨
 ∃ kvs k b,H a=some (.dT kvs)/\y=.ref b/\H b=some (.tup (k.map kV))/\kvs.length < af/\H'=upd H a (.dT (fO kvs k v))
theorem nI.k {a:ae} {k:Key} (e:H a=some (.dK kvs)):nI H a (kV k) (cP kvs k):=.inl ⟨kvs,k,.inl e,rfl,rfl⟩
theorem rM.k {a:ae} {k:Key} (e:H a=some (.dK kvs)) (hl:kvs.length < af):rM H a (kV k) v (upd H a (.dK (fO kvs k v))):=.inl ⟨kvs,k,e,rfl,hl,rfl⟩
section
variable {σ:St} {a:ae} {r:aa} {o:Option V}
theorem Inv.big (I:Inv X a_ σ H s):br < s.heap.objs.size:=by
 have h:ai < s.heap.objs.size:=(I.mod.glob.keeps I.bk).lt;exact Xh 'c' h
theorem aET (hu:A.units+1 < c9) (I:Inv X a_ σ H s) (g:nI H a y (some v)) (ry:bN y u) (h:∀ w' s',Inv X a_ σ H s'->bN v w'->Q w' s') :
  aq (ar X.prog X.w) A (cq (.ref a) u) Q E s:=by
 rcases g with ⟨kvs,k,e,ey,l⟩ | ⟨kvs,k,b,e,ey,eb,l⟩
 ·subst ey;obtain ⟨z,hd,vs,rel,dd⟩:=lE I.ei e;obtain ⟨w',hw,js⟩:=mS.some_of (v:=v) (o:=valueAt vs k) (by rw [l]; exact rel.val k);exact Rav (mP ry) dd.mapOf hw (h w' _ (I.tok _) js)
 ·subst ey;cases (show u=aa.ref b from ry);obtain ⟨z,hd,xs,rel,dd⟩:=yM I.ei e;obtain ⟨w',hw,js⟩:=mS.some_of (v:=v) (o:=(atKey xs k).map (·.2)) (by rw [l]; exact rel.val k);obtain ⟨p,hp,um⟩:=Qo.mp hw;refine wpAny_getItem_heap (Vh hu) (vA I.ei eb) dd hp ?_;rw [um];exact h w' _ (I.tok _) js
theorem aMl (hu:A.units+1 < c9) (I:Inv X a_ σ H s) (g:nI H a y o) (ry:bN y u) (h:∀ s',Inv X a_ σ H s'->Q (.bool o.isSome) s') :
  aq (ar X.prog X.w) A (bj .In u (.ref a)) Q E s:=by
 rcases g with ⟨kvs,k,e,ey,l⟩ | ⟨kvs,k,b,e,ey,eb,l⟩
 ·subst ey;obtain ⟨z,hd,vs,rel,dd⟩:=lE I.ei e;refine wpAny_in_of (mP ry) hd dd.mapOf ?_;rw [<- (rel.val k).g9,<- l];exact h _ (I.tok _)
 ·subst ey;cases (show u=aa.ref b from ry);obtain ⟨z,hd,xs,rel,dd⟩:=yM I.ei e;refine wpAny_in_heap (Vh hu) (vA I.ei eb) hd dd ?_;have q:=(rel.val k).g9;rw [Yg] at q;rw [<- q,<- l];exact h _ (I.tok _)
theorem aH6 (hu:A.units+1 < c9) (I:Inv X a_ σ H s) (g:nI H a y o) (ry:bN y u) (h:∀ s',Inv X a_ σ H s'->Q (.bool (!o.isSome)) s') :
  aq (ar X.prog X.w) A (bj .NotIn u (.ref a)) Q E s:=by
 rcases g with ⟨kvs,k,e,ey,l⟩ | ⟨kvs,k,b,e,ey,eb,l⟩
 ·subst ey;obtain ⟨z,hd,vs,rel,dd⟩:=lE I.ei e;refine wpAny_notIn_of (mP ry) hd dd.mapOf ?_;rw [<- (rel.val k).g9,<- l];exact h _ (I.tok _)
 ·subst ey;cases (show u=aa.ref b from ry);obtain ⟨z,hd,xs,rel,dd⟩:=yM I.ei e;refine wpAny_notIn_heap (Vh hu) (vA I.ei eb) hd dd ?_;have q:=(rel.val k).g9;rw [Yg] at q;rw [<- q,<- l];exact h _ (I.tok _)
theorem pX {ob:HO} (I:Inv X a_ σ H s) (mu:BV (H a)) (hs:ag.SameBut a s.heap h') (he:∃ q,h'.get? a=some q) (new:bT X.prog X.w (upd H a ob) h' a ob) :
  Inv X a_ σ (upd H a ob) { s with heap:=h',toks:=t' } :=
 I.write (x:=a) (e:=a) mu (.inl rfl) (λb q hb z=>(hs.2 b hb).trans z) he new
theorem vB {vs:List (Key×aa)} (z:kvs.length<=af) (hd:(a==br)=false) (rel:KV kvs vs) (dd:h'.DictOf (bP P w) a vs) :
  bT P w H' h' a (.dK kvs):=⟨z,hd,vs,rel,dd⟩
theorem aEU {Q:Unit->ah->Prop} (hu:A.units+1 < c9) (I:Inv X a_ σ H s) (g:rM H a y v H') (ry:bN y u) (rv:bN v r) (h:∀ s',Inv X a_ σ H' s'->Q () s') :
  aq (ar X.prog X.w) A (setItem (.ref a) u r) Q E s:=by
 rcases g with ⟨kvs,k,e,ey,l,eH⟩ | ⟨kvs,k,b,e,ey,eb,l,eH⟩
 ·subst ey eH;obtain ⟨z,hd,vs,rel,dd⟩:=LZ I.ei e;have hz:vs.length<=af:=by rw [<- rel.length]; exact z
  have hl:(fO kvs k v).length<=af:=by grind [eS]
  refine wpAny_setItem_pairs (hsz:=hz) (mP ry) dd λh' oj hs=>h _ ?_;have he:∃ q,h'.get? a=some q:=let ⟨q,_,_,hq,_⟩:=oj; ⟨q,hq⟩
  exact pX I (by rw [e]; exact True.intro) hs he (vB hl hd (rel.put k rv) oj)
 ·subst ey eH;cases (show u=aa.ref b from ry);obtain ⟨z,hd,xs,rel,dd⟩:=aLf I.ei e;have hz:xs.length<=af:=by rw [<- cm.length rel]; exact z
  have hl:(fO kvs k v).length<=af:=by grind [eS]
  refine wpAny_setItem_heap (hsz:=hz) (Vh hu) (vA I.ei eb) dd λh' oj hs=>h _ ?_;obtain ⟨q,es,ep,hq,h2,h3,h4,_,h5⟩:=oj;refine pX I (by rw [e]; exact True.intro) hs ⟨q,hq⟩ ⟨hl,hd,_,(rel.put k eb rv).keeps λc ys ec=>?_,q,es,ep,hq,h2,h3,h4,h5⟩;rw [aG (aKR ec e (λz=>nomatch z))];exact ec
end
section
variable {σ:St} {a:ae} {k:Key}
theorem aLg {more:List aa} (I:Inv X a_ σ H s) (e:H a=some (.dK kvs)) (ry:bN (kV k) u) (l:cP kvs k=some v) (hm:more = []∨∃ x,more = [x]) (h:∀ w' s',Inv X a_ σ (upd H a (.dK (pU kvs k))) s'->bN v w'->Q w' s'):aq (ar X.prog X.w) A (call (.builtin "dict.pop") (.ref a::u::more)) Q E s:=by
 obtain ⟨z,hd,vs,rel,dd⟩:=LZ I.ei e;obtain ⟨w',hw,js⟩:=mS.some_of (v:=v) (o:=valueAt vs k) (by rw [<- l]; exact rel.val k);have hp:(keyPart u).isSome=true:=by
  cases k with
  | inl i=>obtain ⟨t,q⟩:=(show ∃ t,u=aa.int i t from ry); subst q; rfl
  | inr x=>obtain ⟨t,q⟩:=(show ∃ t,u=aa.str x t from ry); subst q; rfl
 have ha:argsOk "dict.pop" ⟨.ref a::u::more,[]⟩:=by
  rcases hm with q | ⟨x,q⟩
  ·subst q; exact PySem.F.args_dict_pop_2 _ _
  ·subst q; exact PySem.F.args_dict_pop_3 _ _ _
 refine My Mh dd.typeIs PySem.F.entry_dict_pop ha (meets_dict_pop_there (bP X.prog X.w) a (mP ry) more hm hp)
  ⟨vs,w',dd,by rw [<- rel.length]; exact z,hw,λh' oj hs=>h w' _ ?_ js⟩
 have he:∃ q,h'.get? a=some q:=let ⟨q,_,_,hq,_⟩:=oj; ⟨q,hq⟩
 exact pX I (by rw [e]; exact True.intro) hs he (vB (Qr (aF7 kvs k) z) hd (rel.drop k) oj)
theorem aLh (I:Inv X a_ σ H s) (e:Rd H a (.dK kvs)) (h:∀ t s',Inv X a_ σ H s'->Q (.int kvs.length t) s'):aq (ar X.prog X.w) A (call (.builtin "len") [.ref a]) Q E s:=by
 obtain ⟨z,hd,vs,rel,dd⟩:=lE I.ei e;refine call_len_dict hd dd (by rw [<- rel.length]; rw [Rf] at z; omega) ?_;rw [<- rel.length];exact h _ _ (I.tok _)
end
def LH (i:ay):Prop:=∀ ov iv,subscripted i false ov iv=operate [ov,iv] (cq ov iv)
theorem VP {env:cz} {slice:ay} {id:String} (hl:typeLookup (.type T) "__getitem__" = pure (some (.builtin id))) (hs:LH slice) (h:aq (ar prog w) A (eval value env) (λo gi=>aq (ar prog w) A (eval slice env) (λi kc=>kc.TypeIs o T/\aq (ar prog w) A (cq o i) Q E kc) E gi) E s) :
  aq (ar prog w) A (eval (.Subscript value slice pos) env) Q E s:=by
 refine Ik (Ro h (λo gi mv=>Ro mv (λi kc BH=>?_) λ_ _ x=>x) λ_ _ x=>x);obtain ⟨hT,BH⟩:=BH;unfold subscriptTail;refine Ra ?_;rw [getitemInPython_of_ne hT.not_modules];refine Ra (Vs hT hl ?_);have fin:aq (ar prog w) A (subscripted slice false o i) (λr An=>aq (ar prog w) A (letTemporaryGo value o r >>= λ_=>pure r) Q E An) E kc:=by
  rw [hs o i];exact wpAny_operating (Ro BH (λr An GV=>Ra (wpAny_letTemporaryGo (Rc GV))) λ_ _ x=>x)
 first
  | exact Rc (Ra fin)
  | exact Ra (Rc (Ra fin))
  | exact Ra fin
theorem aBw {σ:St} {a:ae} {o:Option V} (I:Inv X a_ σ H s) (g:nI H a y o):s.TypeIs (.ref a) "dict" := by
 rcases g with ⟨kvs,k,e,_,_⟩ | ⟨kvs,k,b,e,_,_,_⟩
 ·obtain ⟨_,_,vs,_,dd⟩:=lE I.ei e;exact dd.typeIs
 ·obtain ⟨_,_,xs,_,dd⟩:=yM I.ei e;exact dd.typeIs
def HB (td ty:TE):TE:=λσ H Q=>td σ H λx H1=>ty σ H1 λy H2=>∃ a v,x=.ref a/\nI H2 a y (some v)/\Q v H2
def aMm (ty td:TE):TE:=λσ H Q=>ty σ H λy H1=>td σ H1 λx H2=>∃ a o,x=.ref a/\nI H2 a y o/\Q (.bl o.isSome) H2
def aH7 (ty td:TE):TE:=λσ H Q=>ty σ H λy H1=>td σ H1 λx H2=>∃ a o,x=.ref a/\nI H2 a y o/\Q (.bl (!o.isSome)) H2
def aLi (td ty tv:TE):TS:=λD σ H=>tv σ H λv H1=>td σ H1 λx H2=>ty σ H2 λy H3=>∃ a H4,x=.ref a/\rM H3 a y v H4/\D.nx σ H4
section
variable {o i:ay}
theorem bL (hu:X.A.units+1 < c9) (ho:PE X o td) (hi:PE X i ty) (hs:LH i):PE X (.Subscript o i pos) (HB td ty):=by
 intro a_ s σ H Q I h;refine VP PySem.F.slot_dict_getitem.lookup hs (fc (ho a_ s σ H _ I h) λu s1 ⟨x,H1,I1,rx,q1⟩=>fc (hi a_ s1 σ H1 _ I1 q1) λiv s2 e_=>?_);obtain ⟨y,H2,I2,ry,a,v,ex,g,q2⟩:=e_;subst ex;obtain rfl:u=aa.ref a:=rx;exact ⟨aBw I2 g,aET hu I2 g ry λw' s3 I3 js=>⟨v,H2,I3,js,q2⟩⟩
theorem aJ8 (hu:X.A.units+1 < c9) (hi:PE X i ty) (ho:PE X o td):PC X .In i o (aMm ty td):=by
 intro a_ s σ H Q I h;refine fc (hi a_ s σ H _ I h) λiv s1 ⟨y,H1,I1,ry,q1⟩=>fc (ho a_ s1 σ H1 _ I1 q1) λu s2 e_=>?_;obtain ⟨x,H2,I2,rx,a,ov,ex,g,q2⟩:=e_;subst ex;obtain rfl:u=aa.ref a:=rx;exact aMl hu I2 g ry λs3 I3=>⟨.bl ov.isSome,H2,I3,rfl,q2⟩
theorem oB (hu:X.A.units+1 < c9) (hi:PE X i ty) (ho:PE X o td):PC X .NotIn i o (aH7 ty td):=by
 intro a_ s σ H Q I h;refine fc (hi a_ s σ H _ I h) λiv s1 ⟨y,H1,I1,ry,q1⟩=>fc (ho a_ s1 σ H1 _ I1 q1) λu s2 e_=>?_;obtain ⟨x,H2,I2,rx,a,ov,ex,g,q2⟩:=e_;subst ex;obtain rfl:u=aa.ref a:=rx;exact aH6 hu I2 g ry λs3 I3=>⟨.bl (!ov.isSome),H2,I3,rfl,q2⟩
theorem jQ (hu:X.A.units+1 < c9) (ho:PE X o td) (hi:PE X i ty) (hv:PE X value tv) (hs:cp value (some (.Subscript o i pos')) pos.line X.env=pure false) :
  PS X (.Assign [.Subscript o i pos'] value pos) (aLi td ty tv):=by
 intro a_ s σ H D I h;refine wpAny_Assign_Subscript (fc (hv a_ s σ H _ I h) λr s1 ⟨v,H1,I1,rv,q1⟩=>fc (ho a_ s1 σ H1 _ I1 q1) λu s2 ⟨x,H2,I2,rx,q2⟩=>fc (hi a_ s2 σ H2 _ I2 q2) λiv s3 e_=>?_) hs;obtain ⟨y,H3,I3,ry,a,H4,ex,g,q3⟩:=e_;subst ex;obtain rfl:u=aa.ref a:=rx;exact aEU hu I3 g ry rv λs4 I4=>⟨σ,H4,I4,q3⟩
end
theorem vC (h:ag) (hb:br < h.objs.size):bT P w H (h.push { cls:=.type "dict",data:=.dict #[] }) h.objs.size (.dK []) :=
 ⟨Ji _,beq_eq_false_iff_ne.mpr (Ne.symm (Qy hb)),[],.nil,ag.DictOf.new h⟩
def aJ9:TE:=λ_ H Q=>∀ p,H p=none->Q (.ref p) (upd H p (.dK []))
theorem pY:PE X (.Dict [] [] pos) aJ9:=λa_ s σ H Q I h =>
 wpAny_Dict_empty ⟨.ref s.heap.objs.size,_,I.laid (a:=s.heap.objs.size) (o:=.dK []) (t':=s.toks) (λ_ _ q=>ag.get?_push_of_some _ q) (Qe _) (vC s.heap I.big),rfl,h _ (I.ei.fresh (Qe _))⟩
def NF (H0:Hp) (a:ae):Prop:=∀ o u,H0 a≠some (.f_ o u)
section
variable {σ:St} {a:ae}
theorem Inv.freeze (I:Inv X a_ σ H s) (e:H a=some (.dK kvs)) (ho:s.heap.get? a=some o):Inv X a_ σ (upd H a (.f_ o (.dK kvs))) s:=by
 have m:BV (H a):=by rw [e]; trivial
 have q:bT X.prog X.w H s.heap a (.dK kvs):=I.ei a _ e;exact I.write (x:=a) (e:=a) (t':=s.toks) m (.inl rfl) (λb u _ z=>z) ⟨o,ho⟩ ⟨ho,q⟩
theorem Inv.nf (I:Inv X a_ σ H s) (e:H a=some (.dK kvs)):NF X.u4 a:=λo u z=>by
 have:=I.base.jc a o u z;rw [e] at this; cases this
theorem Inv.Fi (I:Inv X a_ σ H s) (e:H a=some (.f_ o (.dK kvs))) (nf:NF X.u4 a):Inv X a_ σ (upd H a (.dK kvs)) s:=by
 have ne:∀ b,H b=none->b≠a:=λb n z=>by rw [z,e] at n; cases n
 have nt:∀ b xs,H b=some (.tup xs)->b≠a:=λb xs n z=>by rw [z,e] at n; cases n
 have no:∀ b x,H b=some (.own x)->b≠a:=λb xs n z=>by rw [z,e] at n; cases n
 obtain ⟨ho,q⟩:s.heap.get? a=some o/\bT X.prog X.w H s.heap a (.dK kvs):=I.ei a _ e;have un:Un X.fs X.ex X.u4 (upd H a (.dK kvs)) X.jg.heap s.heap:=by
  refine ⟨I.base.keep,I.base.slot,λb ob q n hx=>?_,I.base.there,λb xs q=>?_,λb ob u q=>?_,λb ps q=>?_⟩
  ·have z:=I.base.free b ob q n hx;rw [aG (ne b z)]; exact z
  ·have z:=I.base.jy b xs q;rw [aG (nt b xs z)]; exact z
  ·have z:=I.base.jc b ob u q;have n:b≠a:=λy=>nf ob u (y ▸ q);rw [aG n]; exact z
  ·obtain ⟨m,z⟩:=I.base.jz b ps q;have n:b≠a:=λy=>by rw [y,e] at z; cases z
   exact ⟨m,by rw [aG n]; exact z⟩
 refine ⟨I.ok,I.os,I.bare,un,I.loc,I.cell,?_,λx c h=>?_,λp hp=>?_,λb u h=>?_,I.len⟩
 ·rw [aG (ne _ I.free)]; exact I.free
 ·have z:=I.gm x c h;rw [aG (ne _ z)]; exact z
 ·obtain ⟨p1,p2,p3⟩:=I.pin p hp;exact ⟨p1,by rw [aG (ne _ p2)]; exact p2,p3⟩
 ·by_cases hb:b=a
  ·subst hb;rw [aB] at h;cases h;exact bT.gu q (λ_ _ _ z=>z) (λc z=>by rw [aG (no c _ z)]; exact z) (λc xs z=>by rw [aG (nt c xs z)]; exact z)
  ·rw [aG hb] at h;exact bT.gu (I.ei b u h) (λ_ _ _ z=>z) (λc z=>by rw [aG (no c _ z)]; exact z) (λc xs z=>by rw [aG (nt c xs z)]; exact z)
end
noncomputable def Fc (a:ae) (o:cb) (kvs:List (Key×V)):It :=
 ⟨λi H=>H a=some (.f_ o (.dK kvs))/\i < kvs.length,λi H x H'=>H'=H/\∃ p,kvs[i]?=some p/\x=kV p.1,λi H=>H a=some (.f_ o (.dK kvs))/\i=kvs.length⟩
theorem vD {k:Key} (h:(bP P w).is k u=true):bN (kV k) u:=by
 rcases dJ h with ⟨i,t,rfl,rfl⟩ | ⟨x,t,rfl,rfl⟩
 ·exact ⟨t,rfl⟩
 ·exact ⟨t,rfl⟩
theorem gA {a:ae} {es:Array cu} {vs:List (Key×aa)} (ho:h.get? a=some o) (hd:o.data=.dict es ep) (d:h.DictOf (bP P w) a vs):h.DictAt (bP P w) a vs ep:=by
 obtain ⟨o',ED,EE,q1,q2,q3,r⟩:=d;rw [ho] at q1; cases q1;rw [hd] at q3; cases q3;exact ⟨o,es,ho,q2,hd,r⟩
theorem aEV (a it:ae) (o:cb) (es:Array cu) (ep:Nat) (hd:o.data=.dict es ep) (kvs:List (Key×V)) :
  Turn P w K tg (Fc a o kvs) [it] it (λi h=>h.IsKeyIter it a i kvs.length ep) where
 mem:=by simp
 obj:=λi h st b hb=>by
  have e:b=it:=by simpa using hb
  subst e;obtain ⟨o,e,c,d⟩:=st;exact ⟨o,e,λv z=>by rw [d] at z; cases z⟩
 keep:=λi h h' st k=>st.at λo e=>k it 'b' o e
 item:=by
  intro X hP hw hK hc i a_ s σ H E I hf st hg;subst hP hw hK;obtain ⟨hA,hi⟩:=hg;obtain ⟨ho,hz,hs,vs,kv,dd⟩:s.heap.get? a=some o/\bT X.prog X.w H s.heap a (.dK kvs):=I.ei a _ hA;have hl:kvs.length=vs.length:=kv.length;obtain ⟨f0,f1,f2,f3,f4,f5⟩:=hf it 'b';obtain ⟨⟨k,x⟩,hx⟩:∃ p,vs[i]?=some p:=⟨vs[i]''a',by simp⟩
  rw [hl] at st;refine wpAny_pyNext_dict_item st (gA ho hd dd) hx λkey h' ir vj sb=>?_;have I1:Inv X a_ σ H { s with heap:=h' }:=I.turned (t':=s.toks) (λb o hb e=>(sb.2 b hb).trans e) f0 f1 f3 f4 f5;obtain ⟨o',e',c',d'⟩:=id vj;have hk:kvs[i]?=some (kvs[i]):=Qc hi;have Ed:(kvs[i]).1=k:=by
   have e1:(kvs.map (·.1))[i]?=some (kvs[i]).1:=by rw [Qh,hk]; rfl
   have e2:(vs.map (·.1))[i]?=some k:=by rw [Qh,hx]; rfl
   rw [kv.keys,e2] at e1;exact (Option.some.inj e1).symm
  rw [<- hl] at vj;exact ⟨key,rfl,Hw (s:={ s with heap:=h' }) e' c' d' 'c' ⟨kV k,H,I1,vD ir,⟨rfl,_,hk,by rw [Ed]⟩,vj,λb hb=>(hf b hb).1⟩⟩
 done:=by
  intro X hP hw hK hc i a_ s σ H E I hf st hg;subst hP hw hK;obtain ⟨hA,hi⟩:=hg;obtain ⟨ho,hz,hs,vs,kv,dd⟩:s.heap.get? a=some o/\bT X.prog X.w H s.heap a (.dK kvs):=I.ei a _ hA;have hl:kvs.length=vs.length:=kv.length;obtain ⟨f0,f1,f2,f3,f4,f5⟩:=hf it 'b';rw [hl] at st;exact wpAny_pyNext_dict_end (I.ok.hd hc) st (gA ho hd dd) (by simp_all) λh' eb=>⟨rfl,I.turned (t':=s.toks) (λb o hb e=>eb b o hb e) f0 f1 f3 f4 f5⟩
 self:=λ_ _ _ _ _ st h=>wpAny_pyIter_keyiter st h
def aLj (H0:Hp) (td:TE):TI:=λσ H R=>td σ H λx H1=>∃ a kvs,x=.ref a/\H1 a=some (.dK kvs)/\∀ o,NF H0 a->R (Fc a o kvs) (upd H1 a (.f_ o (.dK kvs)))
theorem VO {d:ay} (hl:PE X d td):PI X tg d (aLj X.u4 td):=by
 intro a_ s σ H R I h;refine fc (hl a_ s σ H _ I h) λv s1 e_=>?_;obtain ⟨x,H1,I1,r1,q1⟩:=e_;obtain ⟨a,kvs,e,hq,q⟩:=q1;subst e;cases r1;obtain ⟨hz,hs,vs,kv,dd⟩:bT X.prog X.w H1 s1.heap a (.dK kvs):=I1.ei a _ hq;obtain ⟨o,es,ep,ho,oe,hd,r⟩:=id dd;refine wpAny_pyIter_dict hs (gA ho hd dd) ?_;have I2:=(I1.freeze hq ho).kept (h':=s1.heap.push { cls:=.type "dict_keyiterator",data:=.fields #[.ref a,.int 0 0,.int vs.length 0,.int ep 0] }) (t':=s1.toks) λb o e=>ag.get?_push_of_some _ e;have nA:a≠s1.heap.objs.size:=Qy (ag.lt_size ho);refine ⟨s1.heap.objs.size,[s1.heap.objs.size],_,_,_,rfl,I2,aEV a _ o es ep hd kvs,?_,λb hb=>?_,q o (I1.nf hq)⟩
 ·refine ⟨_,ag.get?_push_size _ rfl,rfl,?_⟩;rw [kv.length]; rfl
 ·have e:b=s1.heap.objs.size:=by simpa using hb
  subst e;exact I1.n_ (Qe _) (by rw [aG (Ne.symm nA)]; exact I1.ei.fresh (Qe _))
def aLk (H0:Hp) (t:TS):TS:=λD σ H=>t { D with nx:=λd9 H'=>∃ a o kvs,H' a=some (.f_ o (.dK kvs))/\NF H0 a/\D.nx d9 (upd H' a (.dK kvs)) } σ H
theorem VN {st:ax} {t:TS} (h:PS X st t):PS X st (aLk X.u4 t):=by
 intro a_ s σ H D I q;refine fc (h a_ s σ H _ I q) λf s1 z=>?_;cases f with
 | next =>
  obtain ⟨d9,H',I',a,o,kvs,e,nf,k⟩:=z;exact ⟨d9,_,I'.Fi e nf,k⟩
 | brk=>exact z
 | cont=>exact z
 | ret u=>exact z
theorem aF9 {a:ae} {tb:TS} {D:Ends} {σ:St} (Pv:Nat->St->Hp->Prop) (h0:Pv 0 σ H) (hl:∀ i σ H,i<=kvs.length->Pv i σ H->H a=some (.f_ o (.dK kvs))) (hs:∀ i p σ H,kvs[i]?=some p->Pv i σ H->g (kV p.1) σ H λfi H2=>tb { D with nx:=Pv (i+1),ct:=Pv (i+1),bk:=D.nx } fi H2) (hd:∀ σ H,Pv kvs.length σ H->D.nx σ H):Ds (Fc a o kvs) g tb D σ H :=
 zT Pv h0 (λσ H p=>⟨⟨hl _ σ H (Qe _) p,rfl⟩,hd σ H p⟩) λi σ H h p=>⟨⟨hl i σ H (Jx h) p,h⟩,λx H' ⟨e,v,hv,e'⟩=>by
  subst e e';exact hs i v σ H' hv p⟩
def aKa (tk tv:TE):TE:=λσ H Q=>∀ p,H p=none->tk σ (upd H p (.dK [])) λx H1=>tv σ H1 λy H2=>∃ k,x=kV k/\H2 p=some (.dK [])/\Q (.ref p) (upd H2 p (.dK [(k,y)]))
section
variable {ek ev:ay}
theorem aGa (hk:PE X ek tk) (hv:PE X ev tv) (he:autoParam (evalEachOpt [some ek] X.env = [some (eval ek X.env)]) L2.f') (Ek:autoParam (evalEach [ev] X.env = [eval ev X.env]) L2.f'):PE X (.Dict [some ek] [ev] pos) (aKa tk tv):=by
 intro a_ s σ H Q I h;have I0:Inv X a_ σ (upd H s.heap.objs.size (.dK [])) { s with heap:=s.heap.push { cls:=.type "dict",data:=.dict #[] } }:=I.laid (a:=s.heap.objs.size) (o:=.dK []) (t':=s.toks) (λ_ _ q=>ag.get?_push_of_some _ q) (Qe _) (vC s.heap I.big);refine wpAny_Dict_pairs (knd:=bP X.prog X.w) (pairs:=[(eval ek X.env,do let x<-eval ev X.env; standAt pos; pure x)]) (by rfl) 'b' 'b' (evalPairs_cons (fc (hk a_ _ σ _ _ I0 (h s.heap.objs.size (I.ei.fresh (Qe _)))) λkv s1 e_=>?_));obtain ⟨x,H1,I1,r1,q1⟩:=e_;refine Ra (fc (hv a_ _ σ _ _ I1 q1) λvv s2 e_=>?_);obtain ⟨y,H2,I2,r2,q2⟩:=e_;refine Ra (Tt (Rc (evalPairs_nil ?_)));obtain ⟨k,rfl,hp,q⟩:=q2;obtain ⟨hz,hs,vs,μ,dd⟩:bT X.prog X.w H2 s2.heap s.heap.objs.size (.dK []):=I2.ei _ _ hp;have W!:vs = []:=by
  have:=μ.length;exact Wi.mp this.symm
 subst W!;refine ⟨[(k,vv)],⟨mP r1,rfl,trivial⟩,dd,λh' oj sb=>?_⟩;have em:merged ([]:List (Key×aa)) [(k,vv)] = [(k,vv)]:=by rfl
 rw [em] at oj;obtain ⟨o',ED,EE,m9,_⟩:=id oj;have mu:BV (H2 s.heap.objs.size):=by rw [hp]; trivial
 refine ⟨.ref s.heap.objs.size,_,pX (t':=s2.toks+1) I2 mu sb ⟨_,m9⟩ (vB (kvs:=[(k,y)]) (by simp [Rf]) hs (.cons ⟨rfl,r2⟩ .nil) oj),rfl,q⟩
end
def kY (h:ag) (u:aa) (i:Int) (v:aa):Prop:=∃ p k its,u=.ref p/\u7 k h p its/\0<=i/\i < 1000/\its[i.toNat]?=some v
theorem kY.keeps {i:Int} {v:aa}:kY h u i v->(∀ b o,h.get? b=some o->h'.get? b=some o)->kY h' u i v:=λ⟨p,k,its,e,a,q⟩ kp=>⟨p,k,its,e,a.at λo=>kp p o,q⟩
theorem pZ {i:Int} (h0:0<=i) (h1:i.toNat < n):seqIndex? i n=some i.toNat:=by
 unfold seqIndex?;have e:¬ (i < 0):=by omega
 simp only [e,if_false];have e2:(decide (0<=i) && decide (i < (n:Int)))=true:=by simp_all
 rw [if_pos e2]
theorem aH8 {env:cz} {m:aj->Option aa} {v:aa} {i:Int} {t:df} (hk:env.scope.kind=.function) (hv:env.kindOf vn=some .free) (hx:env.kindOf xn=some .local) (hc:env.cells.lookup vn=some c) (hC:s.heap.IsCell c (some u)) (hn:s.heap.Ns env.locals m) (hm:m xn=some (.int i t)) (hI:kY s.heap u i v) (h:Q v s) (d1:(vn==("__debug__" : aj))=false) (d2:(vn==("__classdict__" : aj))=false) (d3:(xn==("__debug__" : aj))=false) :
  aq (ar prog w) A (eval (.Subscript (.Name vn p1) (.Name xn p2) p3) env) Q E s:=by
 refine Ik (Ih (Rai hk hv hc hC ?_ d2) d1);refine Ih (Rad hk hx hn hm ?_) d3;obtain ⟨p,k,its,rfl,hp,i0,i1,e⟩:=hI;have gh:i.toNat < its.size:=(Array.getElem?_eq_some_iff.mp e).1;cases k
 ·exact Uy (x:=v) (ag.IsList.typeIs hp) slot_list_getitem.lookup (wpAny_getItem_list (Q:=λr s'=>r=v/\Q r s') hp 'a' 'a' e ⟨rfl,h⟩)
 ·exact Uy (x:=v) (ag.IsTuple.typeIs hp) slot_tuple_getitem.lookup (getItem_tuple (j:=i.toNat) (Q:=λr s'=>r=v/\Q r s') hp 'a' 'a' (pZ i0 gh) e ⟨rfl,h⟩)
theorem aGb {c':ae} {q nm:aj} {tu v:aa} {i:Int} {t:df} (FR:A.depth < recursionLimit) (xu:s.heap.NoLimit) (hf:s.heap.get? f=some { cls:=.type "function",data:=.func (Uo nm q params (.Subscript (.Name vn p1) (.Name xn p2) p3) scope cl pm (.ref c') tu) }) (ku:s.heap.CodeRec (.ref c') q) (ph:c7 (Uo nm q params (.Subscript (.Name vn p1) (.Name xn p2) p3) scope cl pm (.ref c') tu) ⟨[.int i t],[]⟩=pure [(xn,.int i t)]) (hx:scope.names.lookup xn=some .local) (hv:scope.names.lookup vn=some .free) (KQ:scope.isCoroutine=false) (Ca:scope.isGenerator=false) (hk:scope.kind=.function) (ig:∀ x∈scope.names,x.2≠.cell) (hc:cl.lookup vn=some c) (hC:s.heap.IsCell c (some u)) (hI:kY s.heap u i v) (h:∀ h' tk,(∀ b o,s.heap.get? b=some o->h'.get? b=some o)->Q v { s with heap:=h',toks:=tk }) (d1:(vn==("__debug__" : aj))=false) (d2:(vn==("__classdict__" : aj))=false) (d3:(xn==("__debug__" : aj))=false) :
  aq (ar prog w) A (call (.ref f) [.int i t]) Q E s:=by
 refine Ij (PySem.W.kla_callFunE FR hf rfl KQ Ca rfl ku ?_);rw [ph];refine Rc (Rag ig (λy hy=>by rw [Qi.mp hy]; exact hx) (λmv k_ Gi=>⟨xu.fresh _ Gi,?_⟩) hk);have KC:∀ b o,s.heap.get? b=some o->mv.get? b=some o:=λb o e=>Gi.extBut b o (Qy (ag.lt_size e)) (ag.get?_push_of_some _ e);obtain ⟨oc,tf,En⟩:=hC;refine PySem.W.kla_codeExpr (aH8 (env:=newEnv scope s.heap.objs.size ai cl (q ++ ".<locals>.") (some f) (.ref c') none builtinsNs) (m:=λx=>[(xn,aa.int i t)].reverse.lookup x) (t:=t) hk hv hx hc ⟨oc,KC _ _ tf,En⟩ k_ ?_ (hI.keeps KC) (h mv _ KC) d1 d2 d3);simp [List.lookup]
section
variable {I:ae} {wr:List ae} {Pv:Nat->aa->Prop} {St:Nat->ag->Prop} {kf:Nat->Int} {L:List (ae×cb)}
def LP (prog:bq) (w:bx) (A:bz) (f:ae) (L:List (ae×cb)) (n:Nat) (Pv:Nat->aa->Prop) (kf:Nat->Int):Prop :=
 ∀ i v (s:ah) (Q:aa->ah->Prop) (E:aa->ah->Prop),i < n->Pv i v->(∀ p∈L,s.heap.get? p.1=some p.2) ->
  (∀ h' tk t,(∀ b o,s.heap.get? b=some o->h'.get? b=some o)->Q (.int (kf i) t) { s with heap:=h',toks:=tk })->aq (ar prog w) A (call (.ref f) [v]) Q E s
noncomputable abbrev oz (kf:Nat->Int):Nat->Nat->Bool:=λi j=>decide (kf i < kf j)
theorem aAh (W:cx prog w A.in1 I fp wr n Pv St) (ir:LP prog w A.in1 f L n Pv kf) (S:ae) (AN:S∉fp) (hL:∀ p∈L,p.1∉wr/\p.1≠S) :
  ∀ (k j:Nat) (s:ah) (vb:aa) (t:df) (c:Nat),n - (j+1)=k->j+1<=n->St (j+1) s.heap->Pv (argBest (oz kf) j) vb ->
  s.heap.get? S=some { cls:=.type "list",dict:=none,data:=.seq #[vb,.int (kf (argBest (oz kf) j)) t] c,slots:=#[] }->(∀ p∈L,s.heap.get? p.1=some p.2) ->
  (∀ v h' tk,Pv (argBest (oz kf) (n - 1)) v->(∀ b o,b∉wr->b≠S->s.heap.get? b=some o->h'.get? b=some o)->R (.ok (.ret v)) { s with heap:=h',toks:=tk }) ->
  codeAny (ar prog w) A (.builtin "min.loop" ⟨[.ref I,.ref f,.ref S],[]⟩) R s:=by
 have GJ:S∉wr:=λh=>AN (W.sub _ h);have nk:(toString "min" ++ toString ".loop" : String) = "min.loop" := by decide
 intro k
 induction k with
 | zero =>
  intro j s vb t c hk hj jx K5 hS yt hR;have AG:j+1=n:=by omega
  refine Vc F.entry_min_loop ?_;rw [bz.under_plainId F.plain_min_loop _];refine Ra (Tv hS rfl ?_);refine Ra (Uz (W.done s _ _ (AG ▸ jx) λh' tk kk=>?_));have v_:=kk S _ GJ hS;refine Ra (Ud v_ rfl (Ra (Uu (Rc ?_))));exact hR vb _ _ (by rw [<- AG]; exact K5) λb o hb zp e=>(ag.get?_update_other _ _ (Ne.symm zp)).trans (kk b o hb e)
 | succ k ih =>
  intro j s vb t c hk hj jx K5 hS yt hR;have gh:j+1 < n:=by omega
  refine Vc F.entry_min_loop ?_;rw [bz.under_plainId F.plain_min_loop _];refine Ra (Tv hS rfl ?_);refine Ra (Uz (W.item (j+1) s _ _ gh jx λv h1 OA hP B4 Bn=>?_));refine Ra (Uz (Rt (ir (j+1) v _ _ _ gh hP (λp hp=>Bn _ _ (hL p hp).1 (yt p hp)) λh2 Ak t2 Bm=>?_)));have zr:=Bm S _ (Bn S _ GJ hS);have Ad:St (j+1+1) h2:=W.frame _ _ _ B4 λb _ o e=>Bm b o e;have Oe:CmpOf prog w A.in1 .Lt (λi u=>∃ t,u=.int (kf i) t) (oz kf):=CmpOf.ints_lt kf λi v h=>h;refine Ra (Uz (Rt (Ra (Oe (j+1) (argBest (oz kf) j) _ _ _ _ _ ⟨_,rfl⟩ ⟨_,rfl⟩ (Ra (Rt (Rw ?_)))))));refine Ra (Uu (Rc ?_));have kk:∀ b o,b∉wr->s.heap.get? b=some o->h2.get? b=some o:=λb o hb e=>Bm b o (Bn b o hb e);cases hb:oz kf (j+1) (argBest (oz kf) j) with
  | true =>
   simp only [if_true];refine Ra (Ud zr rfl (Ra (Uu ?_)));rw [nk];have eb:argBest (oz kf) (j+1)=j+1:=by simp only [argBest,hb,if_true]
   refine Rc ⟨Up F.plain_min_loop _,ih (j+1) _ v t2 _ 'a' gh (W.frame _ _ _ Ad λb zo o e=>?_) (by rw [eb]; exact hP) (by rw [eb]; exact ag.get?_update_self _ zr rfl) (λp hp=>?_) λv' h' tk oy Bo=>?_⟩
   ·exact (ag.get?_update_other _ _ (λh:S=b=>AN (by rw [h]; exact zo))).trans e
   ·exact (ag.get?_update_other _ _ (Ne.symm (hL p hp).2)).trans (kk _ _ (hL p hp).1 (yt p hp))
   ·exact hR v' h' tk oy λb o hb zp e=>Bo b o hb zp ((ag.get?_update_other _ _ (Ne.symm zp)).trans (kk b o hb e))
  | false =>
   simp only [Xq,if_false];refine Ra (Uu ?_);rw [nk];have eb:argBest (oz kf) (j+1)=argBest (oz kf) j:=by simp only [argBest,hb,Xq,if_false]
   exact Rc ⟨Up F.plain_min_loop _,ih (j+1) _ vb t c 'a' gh Ad (by rw [eb]; exact K5) (by rw [eb]; exact zr) (λp hp=>kk _ _ (hL p hp).1 (yt p hp)) λv' h' tk oy Bo=>hR v' h' tk oy λb o hb zp e=>Bo b o hb zp (kk b o hb e)⟩
theorem xP (W:cx prog w A.in1 I fp wr n Pv St) (ir:LP prog w A.in1 f L n Pv kf) (S:ae) (AN:S∉fp) (hL:∀ p∈L,p.1∉wr/\p.1≠S) (hn:0 < n) {c:Nat} (jx:St 0 s.heap) (hS:s.heap.get? S=some { cls:=.type "list",dict:=none,data:=.seq #[] c,slots:=#[] }) (yt:∀ p∈L,s.heap.get? p.1=some p.2) (hR:∀ v h' tk,Pv (argBest (oz kf) (n - 1)) v->(∀ b o,b∉wr->b≠S->s.heap.get? b=some o->h'.get? b=some o)->R (.ok (.ret v)) { s with heap:=h',toks:=tk }) :
  codeAny (ar prog w) A (.builtin "min.loop" ⟨[.ref I,.ref f,.ref S],[]⟩) R s:=by
 have GJ:S∉wr:=λh=>AN (W.sub _ h);have nk:(toString "min" ++ toString ".loop" : String) = "min.loop" := by decide
 refine Vc F.entry_min_loop ?_;rw [bz.under_plainId F.plain_min_loop _];refine Ra (Tv hS rfl ?_);refine Ra (Uz (W.item 0 s _ _ hn jx λv h1 OA hP B4 Bn=>?_));refine Ra (Uz (Rt (ir 0 v _ _ _ hn hP (λp hp=>Bn _ _ (hL p hp).1 (yt p hp)) λh2 Ak t2 Bm=>?_)));have zr:=Bm S _ (Bn S _ GJ hS);have Ad:St (0+1) h2:=W.frame _ _ _ B4 λb _ o e=>Bm b o e;refine Ra (Ud zr rfl ?_);rw [nk];have kk:∀ b o,b∉wr->s.heap.get? b=some o->h2.get? b=some o:=λb o hb e=>Bm b o (Bn b o hb e);refine Rc ⟨Up F.plain_min_loop _,aAh W ir S AN hL _ 0 _ v t2 _ rfl hn (W.frame _ _ _ Ad λb zo o e=>?_) hP (ag.get?_update_self _ zr rfl) (λp hp=>?_) λv' h' tk oy Bo=>?_⟩
 ·exact (ag.get?_update_other _ _ (λh:S=b=>AN (by rw [h]; exact zo))).trans e
 ·exact (ag.get?_update_other _ _ (Ne.symm (hL p hp).2)).trans (kk _ _ (hL p hp).1 (yt p hp))
 ·exact hR v' h' tk oy λb o hb zp e=>Bo b o hb zp ((ag.get?_update_other _ _ (Ne.symm zp)).trans (kk b o hb e))
theorem aAi (a k:aa):argsOk "min" ⟨[a],[(aj.ofString "key",k)]⟩:=by rfl
theorem aAj {id:String} {b:ak} {args:List aa} (hk:builtinKind id=none) (hp:plainId id=true) (hb:entryFor table id=some b) (ha:argsOk id ⟨args,kw⟩) (hc:aq (ar prog w) A.in1 (b ⟨args,kw⟩) (λfin s'=>match fin with
   | .done f=>(match (Except.ok f:Result) with | .ok (.ret v)=>Q v s' | .ok _=>False | .error e=>E e s')
   | .again c'=>c'.quiet=true/\codeAny (ar prog w) A c' (λr s'=>match r with | .ok (.ret v)=>Q v s' | .ok _=>False | .error e=>E e s') s') E s) :
  aq (ar prog w) A (call (.builtin id) args kw) Q E s:=by
 refine Ij (Vx hp hb ?_);simp only [checkBuiltinCall,hk];cases NW:Manifest.signature? id with
 | none=>exact Rc hc
 | some sig =>
  simp only [argsOk,NW] at ha;have h2:Bind.checkArgs id sig ⟨args,kw⟩=pure ():=ha;show aq _ A.in1 (Bind.checkArgs id sig ⟨args,kw⟩) _ _ s;rw [h2]; exact Rc hc
theorem aAk {x:aa} (h:aq (ar prog w) A.in1 (pyIter x) (λit kc=>∃ I fp wr n Pv St kf L,it=.ref I/\cx prog w A.in1 I fp wr n Pv St/\St 0 kc.heap/\(∀ b∈fp,b < kc.heap.objs.size)/\0 < n/\LP prog w A.in1 f L n Pv kf /\
   (∀ p∈L,p.1∉wr)/\(∀ p∈L,kc.heap.get? p.1=some p.2) /\
   ∀ v h' tk,Pv (argBest (oz kf) (n - 1)) v->(∀ b o,b∉wr->kc.heap.get? b=some o->h'.get? b=some o)->Q v { kc with heap:=h',toks:=tk }) E s) :
  aq (ar prog w) A (call (.builtin "min") [x] [(aj.ofString "key",.ref f)]) Q E s:=by
 have nk:(toString "min" ++ toString ".loop" : String) = "min.loop" := by decide
 refine aAj F.kind_min F.plain_min F.entry_min (aAi _ _) ?_;refine Ra (Rae (show ak.Builtins.bindParams "min" ["key", "default"] 0 ⟨[],[(aj.ofString "key",.ref f)]⟩=pure [some (.ref f),none] from rfl) (Ra (Rc ?_)));refine Ra (Ro h (λit kc BH=>?_) λ_ _ e=>e);obtain ⟨I,fp,wr,n,Pv,St,kf,L,rfl,W,jx,ox,hn,ir,F!,yt,hQ⟩:=BH;refine Ra (Ry ?_);have AN:kc.heap.objs.size∉fp:=λhm=>Jk _ (ox _ hm);rw [nk];refine Rc ⟨Up F.plain_min_loop _,xP W ir kc.heap.objs.size AN (λp hp=>⟨F! p hp,Qy (ag.lt_size (yt p hp))⟩) hn (W.frame _ _ _ jx λb _ o e=>ag.get?_push_of_some _ e) (ag.get?_push_size _ rfl) (λp hp=>ag.get?_push_of_some _ (yt p hp)) λv h' tk hP hk=>?_⟩;exact hQ v h' tk hP λb o y? e=>hk b o y? (Qy (ag.lt_size e)) (ag.get?_push_of_some _ e)
end
structure Lm (K:Rb) (mg:aj->Option aa) (base:ag) (c P:ae):Prop where
 hd:Vy K c P=true
 gP:ai≠P
 bu:base.BuiltinsAt mg P
theorem oX {p0:Pos} {c cv:aa}:∀ {l:List aa},TriplesOk l->codeAmong pos (l++[rawInt p0.line,rawInt p0.col,c])=some cv->codeAmong pos l=some cv∨cv=c
 | [],_,e=>by
  simp only [Yp,rawInt,codeAmong] at e;split at e
  ·exact .inr (Option.some.inj e).symm
  ·cases e
 | .int a t::.int b u::x::r,h,e=>by
  simp only [Za,codeAmong] at e ⊢;split
  ·rename_i hc;rw [if_pos hc] at e;exact .inl e
  ·rename_i hc;rw [if_neg hc] at e;exact oX (show TriplesOk r from h) e
section
variable {σ:St} {P c':ae} {q:aj} {ps:Array aa}
theorem Inv.grown {p0:Pos} (I:Inv X a_ σ H s) (hT:H P=some (.tab q)) (hx:ag.ExtBut P s.heap h') (Eg:s.heap.objs.size<=c') (De:h'.CodeRec (.ref c') q) (E!:s.heap.get? P=some (Ti ps)) (K4:h'.get? P=some (Ti (ps++#[rawInt p0.line,rawInt p0.col,.ref c']))) :
  Inv X a_ σ (upd H c' (.own P)) { s with heap:=h',toks:=t' }:=by
 have hf:H c'=none:=I.ei.fresh Eg;have hn:∀ b,H b=none->b≠P:=λb n z=>by rw [z,hT] at n; cases n
 have hc:∀ b u,H b=some u->b≠c':=λb u n z=>by rw [z,hf] at n; cases n
 have gh:∀ b o,s.heap.get? b=some o->b≠c':=λb o e=>Qy (Qn (ag.lt_size e) Eg);obtain ⟨c2,oc,vs,tq,ec,tf,En,hv⟩:=De;cases ec;refine I.un ⟨λb o e n _ _=>hx b o (hn b n) e,λb o e n _ _=>⟨o.slots,hx b o (hn b n) e⟩,λb o e n _=>by rw [aG (gh b o e)]; exact n,λb o e _=>?_,λb xs e=>by rw [aG (hc b _ e)]; exact e,λb o u e=>by rw [aG (hc b _ e)]; exact e,λb ps e=>⟨#[],by rw [aG (hc b _ e),e]; simp⟩⟩ ?_
 ·by_cases hb:b=P
  ·simp_all
  ·exact ⟨o,hx b o hb e⟩
 ·intro b u e;by_cases hb:b=c'
  ·subst hb;rw [aB] at e; cases e;exact ⟨oc,tf⟩
  ·rw [aG hb] at e;by_cases GG:b=P
   ·subst GG;rw [hT] at e; cases e;obtain ⟨ps0,e0,tr,r⟩:∃ ps:Array aa,s.heap.get? b=some { cls:=.none,data:=.fields ps }/\TriplesOk ps.toList/\∀ (pos:Pos) (cv:aa),codeAmong pos ps.toList=some cv->∃ (c:ae) (o:cb) (vs:Array aa) (t:df),cv=.ref c/\H c=some (.own b)/\s.heap.get? c=some o/\o.data=.fields vs/\(vs[1]?:Option aa)=some (.str q t):=I.ei b _ hT;rw [E!] at e0;cases e0;have el:(ps++#[rawInt p0.line,rawInt p0.col,aa.ref c']).toList=ps.toList++[rawInt p0.line,rawInt p0.col,.ref c']:=by simp
    refine ⟨_,K4,by rw [el]; exact TriplesOk_snoc _ _ _ _ tr,λpos cv z=>?_⟩;rw [el] at z;rcases oX tr z with z | rfl
    ·obtain ⟨c3,o3,Y5,t3,r1,r2,r3,r4⟩:=r pos cv z;have n3:c3≠b:=λy=>by rw [y,hT] at r2; cases r2
     exact ⟨c3,o3,Y5,t3,r1,by rw [aG (hc _ _ r2)]; exact r2,hx _ _ n3 r3,r4⟩
    ·exact ⟨c',oc,vs,tq,rfl,aB,tf,En,hv⟩
   ·refine (I.ei b u e).gu (λd v hd z=>hx d v ?_ z) (λd z=>by rw [aG (hc _ _ z)]; exact z) λd xs z=>by rw [aG (hc _ _ z)]; exact z
    rcases hd with rfl | hd
    ·exact GG
    ·intro z;rw [z,hT] at hd; cases hd
theorem aGd {body:ay} (I:Inv X a_ σ H s) (Z:Lm X.K X.mg X.base c P) (ua:X.env.code=.ref c) (hT:H P=some (.tab q)) (hq:X.env.qual ++ "<lambda>" = q) (Cj:defaultsOf params X.env=([],[])) (tm:closureFor scope X.env=pure cl) (h:∀ f c' tu pm s' H',Inv X a_ σ H' s'->aD H H'->(∀ b o,b≠P->s.heap.get? b=some o->s'.heap.get? b=some o) ->
   s'.heap.get? f=some { cls:=.type "function",data:=.func (Uo "<lambda>" q params body scope cl pm (.ref c') tu) }->s'.heap.CodeRec (.ref c') q->Q (.ref f) s') :
  aq (ar X.prog X.w) X.A (eval (.Lambda params body scope pos) X.env) Q E s:=by
 obtain ⟨ps,hP,tr,r⟩:∃ ps:Array aa,s.heap.get? P=some { cls:=.none,data:=.fields ps }/\TriplesOk ps.toList/\∀ (pos:Pos) (cv:aa),codeAmong pos ps.toList=some cv->∃ (c:ae) (o:cb) (vs:Array aa) (t:df),cv=.ref c/\H c=some (.own P)/\s.heap.get? c=some o/\o.data=.fields vs/\(vs[1]?:Option aa)=some (.str q t):=I.ei P _ hT;have hg:s.heap.Ns ai X.mg:=I.mod.glob.keeps I.bk;have C:Vm s.heap c P:=Ml I.j4 Z.hd;have hb:s.heap.BuiltinsAt X.mg P:=by
  obtain ⟨bm,o,e1,e2,e3,e4,e5,e6⟩:=Z.bu;exact ⟨bm,o,e1,e2,e3,e4,I.bk _ _ e5,e6⟩
 refine PySem.W.kla_eval Cj ?_;rw [hq];cases hf:codeAmong pos ps.toList with
 | none =>
  refine PySem.W.kla_makeFunction tm I.ok.glob hg ua C hP tr hf Z.gP hb λc' tu h' tk hx Eg gh De K4=>?_;have I1:Inv X a_ σ (upd H c' (.own P)) { s with heap:=by omega}:=I.grown hT hx Eg De hP K4;have I2:=I1.kept (h':=h'.push (PySem.W.kla_obj "<lambda>" q params body scope cl ((X.mg "__name__").getD .none) c' tu)) (t':=tk) λb o e=>ag.get?_push_of_some _ e;refine h _ c' tu _ _ _ I2 (aD.new (I.ei.fresh Eg)) (λb o GG e=>ag.get?_push_of_some _ (hx b o GG e)) (ag.get?_push_size _ rfl) ?_;obtain ⟨c2,oc,vs,tq,ec,tf,r⟩:=De;exact ⟨c2,oc,vs,tq,ec,ag.get?_push_of_some _ tf,r⟩
 | some cv =>
  obtain ⟨c',o,vs,t,rfl,r2,r3,r4,r5⟩:=r pos cv hf;refine PySem.W.kla_makeFunctionHit tm I.ok.glob hg ua C hP tr hf hb λtu h' tk kk hsz=>?_;have I2:=I.kept (h':=h'.push { cls:=.type "function",data:=.func (Uo "<lambda>" q params body scope cl ((X.mg "__name__").getD .none) (.ref c') tu) }) (t':=tk) λb o e=>ag.get?_push_of_some _ (kk b o e);exact h _ c' tu _ _ _ I2 (aD.refl H) (λb o _ e=>ag.get?_push_of_some _ (kk b o e)) (ag.get?_push_size _ rfl) ⟨c',o,vs,t,rfl,ag.get?_push_of_some _ (kk _ _ r3),r4,r5⟩
end
theorem oY (num:Nat->Int):∀ k,∀ l,l < argBest (oz num) k->num (argBest (oz num) k) < num l
 | 0=>λl hl=>by simp [argBest] at hl
 | k+1=>λl hl=>by
  have h2:=(argBest_lt num k).2;simp only [argBest] at hl ⊢;by_cases hc:num (k+1) < num (argBest (oz num) k)
  ·grind
  ·rw [if_neg (show ¬ oz num (k+1) (argBest (oz num) k)=true from λz=>hc (of_decide_eq_true z))] at hl ⊢;exact oY num k l hl
def HA (K:Rb) (H:Hp) (x:V) (ns:LIn):Prop:=∃ a,x=.ref a/\∃ k,jv k K H a (ns.map V.int)
def Hz (K:Rb) (H:Hp) (u:V) (n k:Int):Prop:=0<=n/\n < 1000/\∃ a i xs,u=.ref a/\jv i K H a xs/\xs[n.toNat]?=some (.int k)
theorem aKb (hh:A.handled=none) (k:Sk) (I a:ae) (gw:a≠I) (its:Array aa):cx prog w A I [I,a] [I] its.size (λi v=>its[i]?=some v) (λi h=>IL k h I a i/\u7 k h a its):=by
 cases k
 ·exact cx.list hh I a gw its
 ·exact cx.tuple hh I a gw its
def aH9 (K:Rb) (P:ae) (q:aj) (iv:Nat) (te:TE):TE:=λσ H Q=>te σ H λx H1=>∃ (ns:LIn) (kf:Int->Int) (u:V),HA K H1 x ns/\0 < ns.length/\H1 P=some (.tab q)/\σ[iv]?=some (some u)/\(∀ n∈ns,Hz K H1 u n (kf n)) /\
 ∀ (j:Nat) (m:Int) (H2:Hp),aD H1 H2->ns[j]?=some m->(∀ n∈ns,kf m<=kf n)->(∀ (l:Nat) (n:Int),l < j->ns[l]?=some n->kf m < kf n)->Q (.int m) H2
section
variable {σ:St}
theorem aCU {x:V} (hh:A.handled=none) (I:Inv X a_ σ H s) (hx:HA X.K H x ns) (r:bN x u) (h:∀ (It:ae) fp (Pv:Nat->aa->Prop) St s2,cx X.prog X.w A It fp [It] ns.length Pv St->(∀ i v,Pv i v->∃ n t,ns[i]?=some n/\v=.int n t)->St 0 s2.heap->(∀ b∈fp,b < s2.heap.objs.size)->s.heap.objs.size<=It ->
   (∀ b o,s.heap.get? b=some o->s2.heap.get? b=some o)->(∃ h2,s2={ s with heap:=h2 })->Q (.ref It) s2):aq (ar X.prog X.w) A (pyIter u) Q E s:=by
 obtain ⟨a,rfl,hx⟩:=hx;cases r;obtain ⟨c,hx⟩:=hx;obtain ⟨its,rv,ht⟩:=I.u9 hx;have hl:=rv.length;rw [Qa] at hl;have gh:a < s.heap.objs.size:=by obtain ⟨o,e,_⟩:=ht; exact ag.lt_size e
 have W0:=aKb (prog:=X.prog) (w:=X.w) (A:=A) hh c s.heap.objs.size a (Qy gh) its.toArray;rw [show its.toArray.size=ns.length by rw [Jj,hl]] at W0;refine Hv ht (h s.heap.objs.size [s.heap.objs.size,a] _ _ { s with heap:=s.heap.push (Bp c a) } W0 (λi v e=>?_) ⟨⟨_,ag.get?_push_size _ rfl,rfl,rfl⟩,ht.at λo e=>ag.get?_push_of_some _ e⟩ (λb hb=>?_) (Qe _) (λb o e=>ag.get?_push_of_some _ e) ⟨_,rfl⟩)
 ·have e':its[i]?=some v:=by simpa using e
  obtain ⟨hi,_⟩:=Qb.mp e';obtain ⟨w',ew,js⟩:=rv.get (i:=i) (x:=.int (ns[i]''a')) 'b';rw [e'] at ew; cases ew;obtain ⟨t,rfl⟩:=js;exact ⟨_,t,Qc (show i < ns.length by omega),rfl⟩
 ·show b < (s.heap.push _).objs.size;rw [ag.size_push];simp only [Ql,Qv,or_false] at hb;rcases hb with rfl | rfl
  ·exact Yl _
  ·exact Yf gh
theorem VM {u:V} {uv:aa} {n k:Int} (I:Inv X a_ σ H s) (hk:Hz X.K H u n k) (r:bN u uv):∃ t,kY s.heap uv n (.int k t):=by
 obtain ⟨h0,h1,a,i,xs,rfl,hx,he⟩:=hk;cases r;obtain ⟨its,rv,p⟩:=I.u9 hx;obtain ⟨w',ew,t,rfl⟩:=rv.get he;exact ⟨t,a,i,its.toArray,rfl,p,h0,h1,by simpa using ew⟩
theorem kY.obj {i:Int} {v:aa}:kY h u i v->∃ p o,u=.ref p/\h.get? p=some o/\∀ h':ag,h'.get? p=some o->kY h' u i v:=λ⟨p,k,its,e,⟨o,ho,r⟩,q⟩=>⟨p,o,e,ho,λh' e'=>⟨p,k,its,e,⟨o,e',r⟩,q⟩⟩
theorem aEW {Fq NQ:Pos} {P:ae} {q:aj} (iv:Nat) (hc:X.calm=true) (hr:dj 1 X.A) (hg:Gl X "min") (hm:X.mg "min" = none) (Z:Lm X.K X.mg X.base c P) (ua:X.env.code=.ref c) (hq:X.env.qual ++ "<lambda>" = q) (he:PE X e te) (hN:X.N[iv]?=some vn) (uo:X.env.kindOf vn=some .cell) (Cj:autoParam (defaultsOf params X.env=([],[])) L2.f') (tm:autoParam (fM X.env scope.names []=(match X.env.cells.lookup vn with | some c=>[(vn,c)] | none=>[])) L2.f') (KG:autoParam (∀ y∈scope.names,y.2=.free->y.1=vn) L2.DF) (ph:∀ (cl:List (aj×ae)) (pm fe tu:aa) (i:Int) (t:df),c7 (Uo "<lambda>" q params (.Subscript (.Name vn p1) (.Name xn p2) p3) scope cl pm fe tu) ⟨[.int i t],[]⟩=pure [(xn,.int i t)]:=by intro _ _ _ _ _ _; rfl) (hx:autoParam (scope.names.lookup xn=some .local) L2.f') (hv:autoParam (scope.names.lookup vn=some .free) L2.f') (KQ:autoParam (scope.isCoroutine=false) L2.f') (Ca:autoParam (scope.isGenerator=false) L2.f') (hk:autoParam (scope.kind=.function) L2.f') (ig:autoParam (∀ x∈scope.names,x.2≠.cell) L2.DF) (d1:autoParam ((vn==("__debug__" : aj))=false) L2.iy) (d2:autoParam ((vn==("__classdict__" : aj))=false) L2.iy) (d3:autoParam ((xn==("__debug__" : aj))=false) L2.iy) (Ko:autoParam (ao [e] X.env = [(false,eval e X.env)]) L2.f') :
  PE X (.Call (.Name "min" p) [e] [⟨some "key",.Lambda params (.Subscript (.Name vn p1) (.Name xn p2) p3) scope NQ,Fq⟩] pos) (aH9 X.K P q iv te):=by
 intro a_ s σ H Q I h;refine Tb (mT (u:=.builtin "min") I hg hm 'd' ?_);have g!:PA X [e] (gJ te lU):=aA he aC Ko;refine callWith_kw (fc (g! pos a_ s σ H (λvs H1=>match vs with
   | [x] => ∃ (ns : LIn) (kf : Int -> Int) (u : V), HA X.K H1 x ns /\ 0 < ns.length /\ H1 P = some (.tab q) /\ σ[iv]? = some (some u) /\ (∀ n ∈ ns, Hz X.K H1 u n (kf n)) /\
       ∀ (j:Nat) (m:Int) (H2:Hp),aD H1 H2->ns[j]?=some m->(∀ n∈ns,kf m<=kf n)->(∀ (l:Nat) (n:Int),l < j->ns[l]?=some n->kf m < kf n)->Q (.int m) H2
   | _=>False) I h) λus s1 q9=>?_) (by rw [Ko]; rfl) (by rw [Ko]; rfl)
 obtain ⟨vs,H1,I1,r1,q1⟩:=q9;obtain ⟨x,rfl⟩:∃ x,vs = [x]:=by
  split at q1
  ·exact ⟨_,rfl⟩
  ·exact q1.elim
 ·replace q1:=q1;obtain ⟨ns,kf,u,hit,B8,hT,hu,FU,k⟩:=q1;obtain ⟨xv,rfl,rx⟩:=eU r1
  -- the cell of the name
  obtain ⟨m1,aah,Ec⟩:=id I1.loc;obtain ⟨uv,ru,lk⟩:=Ec iv vn u hN hu (.inr (.inl uo));obtain ⟨cc,BC,G?⟩:∃ cc,X.env.cells.lookup vn=some cc/\s1.heap.IsCell cc (some uv):=by
   rcases lk with ⟨z,_⟩ | ⟨_,z⟩
   ·simp_all
   ·exact z
  have Of:closureFor scope X.env=pure [(vn,cc)]:=by
   rw [UN λy hy z=>⟨cc,by rw [KG y hy z]; exact BC⟩,tm,BC]
  refine kws_cons (aGd I1 Z ua hT hq Cj Of λf c' tu pm s2 H2 I2 sm kk hf De=>kws_nil ?_);have Oa:HA X.K H2 x ns:=by
   obtain ⟨a,rfl,i,z⟩:=hit;exact ⟨a,rfl,i,z.same sm⟩
  have yh:∀ n∈ns,Hz X.K H2 u n (kf n):=λn hn=>by
   obtain ⟨h0,h1,a,i,xs,rfl,z,y⟩:=FU n hn;exact ⟨h0,h1,a,i,xs,rfl,z.same sm,y⟩
  -- what stays through the loop
  obtain ⟨fo,Z!,hf⟩:∃ fo:cb,fo={ cls:=.type "function",data:=.func (Uo "<lambda>" q params (.Subscript (.Name vn p1) (.Name xn p2) p3) scope [(vn,cc)] pm (.ref c') tu) }/\s2.heap.get? f=some fo:=⟨_,rfl,hf⟩
  obtain ⟨c2,oc,cvs,tq,ec,tf,En,PU⟩:=De;cases ec;obtain ⟨JL,Fw,Od⟩:s2.heap.IsCell cc (some uv):=by
   obtain ⟨o,ho,hd⟩:=G?;have nP:cc≠P:=λz=>by rw [z] at BC; have:=I1.gm _ _ BC; rw [hT] at this; cases this
   exact ⟨o,kk _ _ nP ho,hd⟩
  obtain ⟨mc,⟨oL,W?,X!,w9,x!,rL⟩,xu⟩:=I2.nolimit;have n0:ns[0]?=some (ns[0]):=Qc B8;obtain ⟨t0,υ⟩:=VM I2 (yh _ (Qd n0)) ru;obtain ⟨pu,ou,eu,Ks,_⟩:=υ.obj;refine aAk (f:=f) (aCU (A:=X.A.in1) (I2.ok.hd hc) I2 Oa rx λIt fp Pv St s3 W QU jx ox Q9 C6 e_=>?_);obtain ⟨h3,e3⟩:=e_;subst e3;refine ⟨It,fp,[It],ns.length,Pv,St,λi=>kf (ns.getD i 0),[(f,fo),(c',oc),(cc,JL),(cStatics,oL),(pu,ou)],rfl,W,jx,ox,B8,?_,?_,?_,λv h' tk hP Bo=>?_⟩
  ·intro i v s4 Q4 E4 hi D? hL D!;obtain ⟨n,t,hn,rfl⟩:=QU i v D?;have eg:ns.getD i 0=n:=by rw [Zu,hn]; rfl
   obtain ⟨tk,ρ⟩:=VM I2 (yh _ (Qd hn)) ru;have τ:kY s4.heap uv n (.int (kf n) tk):=by
    obtain ⟨p',o',e',m9,hh⟩:=ρ.obj;rw [eu] at e'; cases e';rw [Ks] at m9; cases m9;exact hh _ (hL (pu,ou) 'b')
   have rm:X.A.in1.depth < recursionLimit:=(dj.in1 hr).depth;refine aGb (cl:=[(vn,cc)]) (c:=cc) rm ⟨mc,⟨oL,W?,X!,hL (cStatics,oL) 'b',x!,rL⟩,xu⟩ (by rw [<- Z!]; exact hL (f,fo) 'b') ⟨c',oc,cvs,tq,rfl,hL (c',oc) 'b',En,PU⟩ (ph _ _ _ _ _ _) hx hv KQ Ca hk ig 'b' ⟨JL,hL (cc,JL) 'b',Od⟩ τ (λh5 Y_ k5=>?_) d1 d2 d3;have:=D! h5 Y_ tk k5;dsimp only at this;rw [eg] at this;exact this
  ·intro pr oq hz;have gh:∀ b o,s2.heap.get? b=some o->b≠It:=λb o e=>Qy (Qn (ag.lt_size e) Q9);simp only [Qi] at hz;simp only [Ql,Qv,or_false] at oq;rcases oq with rfl | rfl | rfl | rfl | rfl
   ·exact gh _ _ hf hz
   ·exact gh _ _ tf hz
   ·exact gh _ _ Fw hz
   ·exact gh _ _ w9 hz
   ·exact gh _ _ Ks hz
  ·intro pr oq;simp only [Ql,Qv,or_false] at oq;rcases oq with rfl | rfl | rfl | rfl | rfl
   ·exact C6 _ _ hf
   ·exact C6 _ _ tf
   ·exact C6 _ _ Fw
   ·exact C6 _ _ w9
   ·exact C6 _ _ Ks
  ·obtain ⟨n,t,hn,rfl⟩:=QU _ v hP;have I3:Inv X a_ σ H2 { s2 with heap:=h',toks:=tk }:=I2.kept λb o e=>Bo b o (by simp; exact Qy (Qn (ag.lt_size e) Q9)) (C6 b o e);have b1:=argBest_lt (λi=>kf (ns.getD i 0)) (ns.length - 1);have b2:=oY (λi=>kf (ns.getD i 0)) (ns.length - 1);have nu:∀ i y,ns[i]?=some y->ns.getD i 0=y:=λi y e=>by rw [Zu,e]; rfl
   refine ⟨.int n,H2,I3,⟨t,rfl⟩,k _ n H2 sm hn (λy hy=>?_) (λl y hl hy=>?_)⟩
   ·obtain ⟨i,hi⟩:=Jr.mp hy;have:=b1.2 i (by grind);have e2:=nu _ _ hi;rw [<- (nu _ _ hn),<- e2]; exact this
   ·have:=b2 l hl;have e2:=nu _ _ hy;rw [<- (nu _ _ hn),<- e2]; exact this
end
def TC (ts:List (ae×aj)) (H:Hp):Prop:=(∀ b,H b=none∨(∃ o xs,H b=some (.f_ o (.lst xs)))∨∃ q,H b=some (.tab q)/\(b,q)∈ts)/\∀ p∈ts,H p.1=some (.tab p.2)
theorem vE {P:ae} (C:Vm h c P) (e:h.get? P=some (Ti #[])):isCodeTable h P:=(C.tab e).isCodeTable
theorem aEX {mb:aj->Option aa} {k:Nat} {fa a:ae} {x:aj} {gi:ah} {vs:List aa} {ts:List (ae×aj)} (KX:K.In gi.heap) (k_:gi.heap.Ns ai mg) (hb:gi.heap.Ns builtinsNs mb) (KS:∀ x:aj,x ≠ "__name__" -> mb x=az x) (xu:gi.heap.NoLimit) (N8:∃ mm,gi.heap.Ns br mm) (hg:gi.gens = #[]) (GA:∃ bm ob,mg "__builtins__" = some (.ref bm)/\bm≠builtinsNs/\gi.heap.get? bm=some ob/\ob.cls=.type "module" /\ ob.dict=some builtinsNs/\ob.data=.plain) (CV:∀ p∈ts,gi.heap.get? p.1=some (Ti #[])/\K.lookup p.1=none/\∃ c,Vm gi.heap c p.1) (lg:∀ b q q',(b,q)∈ts->(b,q')∈ts->q=q') (ha:gi.heap.get? a=some { cls:=.type "list",data:=.seq vs.toArray }) (hi:IntsAre vs ns) (hl:ns.length<=af) (hr:dj k callerA) (F:∀ base:ag,K.In base->base.Ns ai mg->(∀ p∈ts,base.BuiltinsAt mg p.1)->c_ P w K mg base CX k fa fd [x] sp) (ph:∀ (s:ah) (u:aa),BindsTo s fd ⟨[u],[]⟩ [(x,u)]) (i9:∀ H:Hp,TC ts H->dm K H a (ns.map V.int)->sp [.ref a] H (λv H'=>v=.bl true/\∀ p∈ts,H' p.1=some (.tab p.2)) λ_ _ _=>False) (K_:∀ H e s',CX [] H gi (λ_ _ _=>False) e s'->False) :
  codeAny (ar P w) callerA (.call (.ref fa) ⟨[.ref a],[]⟩) (λr s'=>r=.ok (.ret (.bool true))/\OldK gi.heap s'.heap/\s'.os=gi.os/\AllBare s'.gens) gi:=by
 have rv:=yH hi;have tb:∀ {b q o},(b,q)∈ts->gi.heap.get? b=some o->o=Ti #[]:=λhm e=>Option.some.inj (e.symm.trans (CV _ hm).1);have na:∀ {q},(a,q)∉ts:=λhm=>nomatch congrArg cb.cls (tb hm ha);obtain ⟨H,h1,h2,h3⟩:∃ H:Hp,(∀ b u,H b=some u->(b=a/\K.lookup a=none/\u=.f_ { cls:=.type "list",data:=.seq vs.toArray } (.lst (ns.map V.int)))∨∃ q,(b,q)∈ts/\u=.tab q)/\(∀ b q,(b,q)∈ts->H b=some (.tab q))/\dm K H a (ns.map V.int):=by
  classical
  refine ⟨λb=>if b=a/\K.lookup a=none then some (.f_ { cls:=.type "list",data:=.seq vs.toArray } (.lst (ns.map V.int))) else if h:∃ q,(b,q)∈ts then some (.tab h.choose) else none,λb u e=>?_,λb q hm=>?_,?_⟩
  ·dsimp only at e;split at e
   ·rename_i h;exact .inl ⟨h.1,h.2,(Option.some.inj e).symm⟩
   ·split at e
    ·rename_i h;exact .inr ⟨_,h.choose_spec,(Option.some.inj e).symm⟩
    ·cases e
  ·have h:∃ q,(b,q)∈ts:=⟨q,hm⟩
   dsimp only;rw [if_neg λz=>na (z.1 ▸ hm),dif_pos h,lg b _ _ h.choose_spec hm]
  ·cases hk:K.lookup a with
   | none=>exact .inl (.inr ⟨_,if_pos ⟨rfl,rfl⟩⟩)
   | some o =>
    have e:=KX a o hk;rw [ha] at e;cases e;exact .inr ⟨_,vs.toArray,_,hk,rfl,rfl,rfl,by rw [Jj,hi.length]; exact hl,by simpa using rv⟩
 have ei:iz P w H gi.heap:=λb u e=>by
  rcases h1 b u e with ⟨rfl,_,rfl⟩ | ⟨q,hm,rfl⟩
  ·exact ⟨ha,by rw [Qa]; exact hl,vs,_,rv,ha⟩
  ·exact ⟨#[],(CV _ hm).1,trivial,λpos cv z=>by simp [codeAmong] at z⟩
 -- what stands in the base
 have base_of:∀ {b:ae} {o:cb},gi.heap.get? b=some o->(b=a->K.lookup a≠none)->o≠Ti #[]->(xI gi.heap H).get? b=some o:=λ{b o} e n1 n2=>X7 e (by
  cases q:H b with
  | none=>rfl
  | some u =>
   rcases h1 b u q with ⟨e1,e2,_⟩ | ⟨q,hm,_⟩
   ·exact absurd e2 (n1 e1)
   ·exact absurd (tb hm e) n2)
 have DM:∀ {b:ae} {m:aj->Option aa},gi.heap.Ns b m->(xI gi.heap H).Ns b m:=λ{b m} ⟨o,es,ep,e,d,r⟩=>⟨o,es,ep,base_of e (λz=>by rw [z,ha] at e; cases e; cases d) (λz=>by rw [z] at d; cases d),d,r⟩
 have Q7:K.In (xI gi.heap H):=λb o e=>X7 (KX b o e) (by
  cases q:H b with
  | none=>rfl
  | some u =>
   rcases h1 b u q with ⟨e1,e2,_⟩ | ⟨q,hm,_⟩
   ·rw [<- e1,e] at e2; cases e2
   ·have e2:=(CV _ hm).2.1;rw [e] at e2; cases e2)
 have La:∀ p∈ts,(xI gi.heap H).BuiltinsAt mg p.1:=λp hp=>by
  obtain ⟨bm,ob,b1,b2,b3,b4,b5,b6⟩:=GA;refine ⟨bm,ob,b1,b2,λz=>?_,λz=>?_,base_of b3 (λz=>by rw [z,ha] at b3; cases b3; cases b6) (λz=>by rw [z] at b6; cases b6),b4,b5,b6⟩
  ·obtain ⟨o,es,ep,e,d,r⟩:=k_;rw [<- z,b3] at e; cases e;rw [b6] at d; cases d
  ·have e2:=tb hp (z ▸ b3);rw [e2] at b6; cases b6
 have hM:Mod K mg (xI gi.heap H):=⟨Q7,DM k_,⟨mb,DM hb,KS⟩,let ⟨mc,h1,h2⟩:=xu; ⟨mc,DM h1,h2⟩,let ⟨mm,h1⟩:=N8; ⟨mm,DM h1⟩⟩
 have e0:rj P w K mg (xI gi.heap H) callerA [] gi H:=⟨rfl,hM,λb o e=>aHA e,Wo (aEG _ _),trivial,λb hb=>absurd (show b∈([]:List ae) from hb) 'b',ei,.of_eq hg⟩
 refine Ux ((F _ Q7 (DM k_) La).run callerA [] gi H ⟨[.ref a],[]⟩ [.ref a] [.ref a] _ _ hr e0 (ph gi (.ref a)) (.cons rfl .nil) (i9 H ⟨λb=>?_,λp hp=>h2 _ _ hp⟩ h3)) λr s' h=>?_
 ·cases q:H b with
  | none=>exact .inl rfl
  | some u =>
   rcases h1 b u q with ⟨_,_,rfl⟩ | ⟨q',hm,rfl⟩
   ·exact .inr (.inl ⟨_,_,rfl⟩)
   ·exact .inr (.inr ⟨q',rfl,hm⟩)
 cases r with
 | error e=>exact (K_ H e s' h).elim
 | ok fl =>
  cases fl with
  | next=>exact False.elim h
  | brk=>exact False.elim h
  | cont=>exact False.elim h
  | ret u =>
   obtain ⟨v,H',os,bare,un,Fv,r',q,qt⟩:=h;have q':v=.bl true:=q;subst q';obtain rfl:u=aa.bool true:=r';have keep:∀ b o,(∀ q,(b,q)∉ts)->gi.heap.get? b=some o->s'.heap.get? b=some o:=λb o hb e=>by
    cases q:H b with
    | none=>exact un.keep b o e q (by intro z; exact absurd (show b∈([]:List ae) from z) 'b') 'b'
    | some u =>
     rcases h1 b u q with ⟨rfl,_,rfl⟩ | ⟨q',hm,_⟩
     ·rw [ha] at e; cases e;exact (Fv b _ (un.jc b _ _ q)).1
     ·exact absurd hm (hb q')
   have grown:∀ b o q,(b,q)∈ts->gi.heap.get? b=some o->isCodeTable gi.heap b/\o=Ti #[]/\∃ ps,s'.heap.get? b=some (Ti ps):=λb o q hm e=>by
    obtain ⟨z1,z2,c,z3⟩:=CV _ hm;obtain ⟨ps,CY,_⟩:bT P w H' s'.heap b (.tab q):=Fv b _ (qt _ hm);exact ⟨vE z3 z1,tb hm e,ps,CY⟩
   refine ⟨rfl,⟨λb o e=>?_,λb o e=>?_⟩,os,bare⟩
   ·by_cases hb:∃ q,(b,q)∈ts
    ·obtain ⟨q,hm⟩:=hb;obtain ⟨ht,rfl,ps,hP⟩:=grown b o q hm e;exact .inr (.inl ⟨ht,rfl,#[],ps,rfl,by rw [Array.empty_append]; exact hP⟩)
    ·exact .inl (keep b o (λq z=>hb ⟨q,z⟩) e)
   ·by_cases hb:∃ q,(b,q)∈ts
    ·obtain ⟨q,hm⟩:=hb;obtain ⟨_,_,ps,hP⟩:=grown b o q hm e;exact ⟨_,hP⟩
    ·exact ⟨o,keep b o (λq z=>hb ⟨q,z⟩) e⟩
theorem aGe {l:Ic} {k:Nat} {q:bq} {d:DefRec} {K:Params->Rb} {CX:bx->xj} {sp:bx->Sp} {x:aj} {ts:List (ae×aj)} (hn:l.most=some n) (Gr:n<=af) (El:d.params.defaults = []) (hr:dj k callerA) (hq:importsNone q=true) (hY:∀ (w:bx) (h:ag),YP w h->(K w.params).In h) (CV:∀ (w:bx) (h:ag),YP w h->∀ p∈ts,h.get? p.1=some (Ti #[])/\(K w.params).lookup p.1=none/\∃ c,Vm h c p.1) (lg:∀ b q q',(b,q)∈ts->(b,q')∈ts->q=q') (F:∀ (w:bx) (mg:aj->Option aa) (fa:ae) (h:ag),(K w.params).In h->h.Ns ai mg->mg d.name=some (.ref fa) ->
   ∃ fd:bh,(∀ (s:ah) (u:aa),BindsTo s fd ⟨[u],[]⟩ [(x,u)]) /\
    ∀ base:ag,(K w.params).In base->base.Ns ai mg->(∀ p∈ts,base.BuiltinsAt mg p.1)->c_ l.prog w (K w.params) mg base (CX w) k fa fd [x] (sp w)) (i9:∀ (w:bx) (H:Hp) (a:ae) (ns:LIn),ns.length<=n->TC ts H->dm (K w.params) H a (ns.map V.int)->sp w [.ref a] H (λv H'=>v=.bl true/\∀ p∈ts,H' p.1=some (.tab p.2)) λ_ _ _=>False) (K_:∀ (w:bx) (H:Hp) (s:ah) (e:aa) (s':ah),CX w [] H s (λ_ _ _=>False) e s'->False) :
  Rac q loose XP YP l.row.toRowW d [] (λf vs=>Mv f vs):=by
 refine YM.p8 hn El λw jg gi mg mb fa o pm cd doc a vs ns G Y ho hd ku AA B9 hints hlen hg=>?_;have KX:=hY w _ Y;obtain ⟨fd,hb,hF⟩:=F w mg fa _ KX G.T.g AA;exact aEX KX G.T.g G.T.b G.T.builtins G.T.nolimit (let ⟨mm,h1,_⟩:=(G.T.seer hq).mods; ⟨mm,h1⟩) hg G.T.bmain (CV w _ Y) lg B9 hints (Qr hlen Gr) hr hF hb (λH hO hS=>i9 w H a ns hlen hO hS) λH e s'=>K_ w H gi e s'
theorem qk.ZT {x:aj} {st:ax} {k:Nat} (F:qk K x qual st f fd) (hc:fd.code=.ref c) (S:b_ N ps (aF st)) (len:∀ vs H Q E,sp vs H Q E->vs.length=ps.length) (iu:∀ (A:bz) (outer:List cz) (s:ah) (H:Hp) (vs:List V) (Q:VK) (E:XK),dj k (A.deeper (envOfC qual (aF st) s.heap.objs.size f (.ref c)))->sp vs H Q E ->
   ∃ t,nc (cB d_ P w K mg base N qual (aF st) f (.ref c) A outer s H E).gf (dQ st) t/\t { nx:=λ_ H'=>Q .fk H',rt:=Q } (start N vs) H):c_ P w K mg base d_ (k+1) f fd ps sp:=by
 obtain ⟨oc,od,kV,doc,pm,an,fe,ct,sv,rfl,lk,ku⟩:=F.ex;have e:fe=.ref c:=hc;subst e;refine LR lk ku S len λA outer s H vs Q E hr i9=>?_;obtain ⟨t,h,q⟩:=iu A outer s H vs Q E hr i9;exact ⟨t,h.gf,q⟩
noncomputable abbrev aMn (K:Rb) (k1 k2:Sk) (a b:ae):It:=IM (IH K k1 k2 a b)
theorem aCV (k1 k2:Sk) {a b:ay} {ta:TA} {p':Pos} (hg:Gl X "enumerate") (hm:X.mg "enumerate" = none) (AH:Gl X "zip") (vq:X.mg "zip" = none) (ha:PA X [a,b] ta) (hs:autoParam (ao [a,b] X.env = [(false,eval a X.env),(false,eval b X.env)]) L2.f') (ug:autoParam (ao [b] X.env = [(false,eval b X.env)]) L2.f') (b?:autoParam (ao [ay.Call (.Name "zip" p') [a,b] [] pos'] X.env = [(false,eval (.Call (.Name "zip" p') [a,b] [] pos') X.env)]) L2.f') :
  PI X tg (.Call (.Name "enumerate" p) [.Call (.Name "zip" p') [a,b] [] pos'] [] pos) (λσ H R=>G6 X.K k1 k2 ta σ H λJ=>R (IM J)):=TL (aH2 hg hm (MI k1 k2 AH vq ha hs ug).pn b?).pn
theorem aBx {a b:ae} {tb:TS} {D:Ends} {σ:St} (Pv:Nat->St->Hp->Prop) (heq:xs.length=ys.length) (h0:Pv 0 σ H) (hl:∀ i σ H,i<=xs.length->Pv i σ H->jv k1 K H a xs/\jv k2 K H b ys) (hs:∀ i x y p q σ H,xs[i]?=some x->ys[i]?=some y->Pv i σ H->H p=none->H q=none->q≠p->g (.ref q) σ (upd (upd H p (.tup [x,y])) q (.tup [.int (i:Nat),.ref p])) λfi H2=>tb { D with nx:=Pv (i+1),ct:=Pv (i+1),bk:=D.nx } fi H2) (hd:∀ σ H,Pv xs.length σ H->D.nx σ H):Ds (aMn K k1 k2 a b) g tb D σ H :=
 zT Pv h0 (λσ H p=>⟨.inl ⟨xs,(hl _ σ H (Qe _) p).1,Qe _⟩,hd σ H p⟩) λi σ H h p=>by
  obtain ⟨q1,q2⟩:=hl i σ H (Jx h) p;refine ⟨MH q1 q2 h (heq ▸ h),λv H' q9=>?_⟩;obtain ⟨_,_,q,⟨x,y,p1,hx,hy,n1,e,e1⟩,n2,e2,e3⟩:=q9;subst e e1 e2 e3;have ne:q≠p1:=λz=>by rw [z,aB] at n2; cases n2
  exact hs i x y p1 q σ H (hx.2 xs q1) (hy.2 ys q2) p n1 (by rwa [aG ne] at n2) ne
end L2
namespace L2
open PySem
section
variable {γ δ ε ζ η θ ι:Type}
end
end L2
namespace L2
open PySem PySem.Spec PyProof.Rows
section
variable {own:Nat} {σ:St}
end
section
variable {a:ae}
end
section
variable {S:ae} {es:Array (Int×aa)} {t:SetTable}
end
open PySem.AutoSeq1 (wpAny_loadPart')
theorem xQ (l:ae) (items:Array aa) (n:Nat) (dd:Option ae) (sl:Array (Option aa)) (u:df) :
  Meets (ak.«tuple.__mul__» ⟨[.ref l,.int 1 u],[]⟩) (λ_ R s=>s.heap.get? l=some { cls:=.type "tuple",dict:=dd,data:=.seq items n,slots:=sl }/\R (.ok (.ret (aa.ref l))) s) :=
 .of_wp λprog w A R s h=>by
  obtain ⟨hp,g,d,tk,os⟩:=s;obtain ⟨hl,h⟩:=h;have f1:=AutoSeq1.idx_int;have f2:=AutoSeq1.sub_tuple_tuple
  wp_walk using Rn hl
  exact ⟨_,rfl,h⟩
theorem vF (l:ae) (items:Array aa) (n:Nat) (dd:Option ae) (sl:Array (Option aa)) (u:df) (gw:items.isEmpty=false) :
  Meets (ak.«tuple.__mul__» ⟨[.ref l,.int 0 u],[]⟩) (λ_ R s=>s.heap.get? l=some { cls:=.type "tuple",dict:=dd,data:=.seq items n,slots:=sl }/\R (.ok (.ret (aa.ref s.heap.objs.size))) { s with heap:=s.heap.push { cls:=aa.type "tuple",data:=Data.seq #[] } }) :=
 .of_wp λprog w A R s h=>by
  obtain ⟨hp,g,d,tk,os⟩:=s;obtain ⟨hl,h⟩:=h;have f1:=AutoSeq1.idx_int;have f2:=AutoSeq1.sub_tuple_tuple
  wp_walk using Rn hl
  exact ⟨_,rfl,h⟩
theorem tI (l:ae) (items:Array aa) (n:Nat) (dd:Option ae) (sl:Array (Option aa)) (u:df) (gw:items.isEmpty=true) :
  Meets (ak.«tuple.__mul__» ⟨[.ref l,.int 0 u],[]⟩) (λ_ R s=>s.heap.get? l=some { cls:=.type "tuple",dict:=dd,data:=.seq items n,slots:=sl }/\R (.ok (.ret (aa.ref l))) s) :=
 .of_wp λprog w A R s h=>by
  obtain ⟨hp,g,d,tk,os⟩:=s;obtain ⟨hl,h⟩:=h;have f1:=AutoSeq1.idx_int;have f2:=AutoSeq1.sub_tuple_tuple
  wp_walk using Rn hl
  exact ⟨_,rfl,h⟩
def aLl (K:Rb):R2:=λx y H Q=>∃ a,∃ k:Nat,∃ xs,x=.ref a/\y=.int k/\dt K H a xs/\k<=1000/\xs.length<=1000/\∀ p H',aD H H'->dt K H' p (List.replicate k xs).flatten->Q (.ref p) H'
theorem aIa (hK:X.K=K):gy X (binaryOp .Mult) (aLl K):=by
 intro a_ s σ H x y v u Q I rx ry h;obtain ⟨a,k,xs,rfl,rfl,ha,h2,hz,q⟩:=h;by_cases h1:1 < k
 ·exact aHV hK a_ s σ H _ _ v u Q I rx ry ⟨a,k,xs,rfl,rfl,ha,by omega,by omega,hz,q⟩
 subst hK;cases rx;obtain ⟨t,rfl⟩:=ry;obtain ⟨its,r,⟨⟨cls,dd,data,sl⟩,ho,hc,n,hd⟩,CS⟩:=I.tuple ha;simp only at hc hd;subst hc hd;refine Mn (T := "tuple") (U := "int") 'c' ⟨_,ho,rfl⟩ (λs'=>Il s' k t) lD Mg Us pS PySem.F.slot_int_index.lookup
  (Tg Us (Il s k t) Mc (Iu _ _) (nH k t a its.toArray n dd sl) ⟨ho,rfl,⟨_,ho,rfl⟩,?_⟩)
 rcases (show k=0∨k=1 by omega) with rfl | rfl
 ·by_cases hx:its = []
  ·subst hx;cases r;exact Tg PySem.F.slot_tuple_mul ⟨_,ho,rfl⟩ Tz (Tw _ _) (tI a _ n dd sl t rfl) ⟨ho,.ref a,H,I,rfl,q a H (aD.refl H) ha⟩
  ·have gw:its.toArray.isEmpty=false:=by simp_all
   refine Tg PySem.F.slot_tuple_mul ⟨_,ho,rfl⟩ Tz (Tw _ _) (vF a its.toArray n dd sl t gw) ⟨ho,.ref _,_,I.laid (t':=s.toks) (o:=.tup []) (λb ob q=>ag.get?_push_of_some _ q) (Qe _) ?_,rfl,q _ _ (aD.new (I.ei.fresh (Qe _))) (dt.of aB)⟩;exact ⟨Ji _,[],0,.nil,ag.get?_push_size _ rfl⟩
 ·exact Tg PySem.F.slot_tuple_mul ⟨_,ho,rfl⟩ Tz (Tw _ _) (xQ a its.toArray n dd sl t) ⟨ho,.ref a,H,I,rfl,q a H (aD.refl H) (by simp_all)⟩
section
variable {own:Nat} {σ:St}
end
def Bg (P:α->V->V->Hp->(α->Hp->Prop)->Prop) (tk tv:TE) (ys:α) (σ:St) (H:Hp) (R:α->St->Hp->Prop):Prop:=tk σ H λx H4=>tv σ H4 λy H5=>P ys x y H5 λa H=>R a σ H
noncomputable def Ln (kx vx:ay) (env:cz) (D:ae):Sem Unit:=do
 let kv<-eval kx env
 let vv<-holding [kv] (eval vx env)
 standAt { kx.pos with endLine:=vx.pos.endLine,endCol:=vx.pos.endCol }
 holding [kv,vv] (dictSet D kv vv)
section
variable {a0:α} {Ok:ae->α->ag->Prop}
theorem aLm:gq P w A (.DictComp kx vx [⟨tg,iter,ifs,0⟩] scope pos) 0 tg iter ifs (Ln kx vx) where
 CF:=λ_ _ _=>⟨rfl,rfl⟩
 turn:=λit D env=>compTurn_dict kx vx tg iter ifs scope pos it D env
 start:=Mz
theorem S_ {p:α->V->V->Hp->(α->Hp->Prop)->Prop} (AO:iw Y.prog Y.w Y.A newDict a0 Ok) (hk:PE Y kx tk) (he:PE Y vx tv) (st:∀ {D:ae} {a:α} {s:ah} {H:Hp} {x y:V} {kv vv:aa} {R:α->Hp->Prop},iz Y.prog Y.w H s.heap->Ok D a s.heap->bN x kv->bN y vv->p a x y H R->aq (ar Y.prog Y.w) Y.A (dictSet D kv vv) (λ_ s'=>∃ h' tk a',s'={ s with heap:=h',toks:=tk }/\ag.SameBut D s.heap h'/\Ok D a' h'/\R a' H) Y.xe s) :
  lW Y (Ln kx vx) Ok (Bg p tk tv):=by
 intro ps s σ H D o ys R dn I pl h;refine Ra (fc (hk _ s σ H _ I h) λkv s1 hx=>?_);obtain ⟨xv,H1,I1,r1,q1⟩:=hx;refine Ra (Rt (fc (he _ s1 σ H1 _ I1 q1) λvv s2 hx=>?_));obtain ⟨yv,H2,I2,r2,q2⟩:=hx;refine Ra (Tt (Rt (fc (st I2.ei (AO.gu I I2 pl) r1 r2 q2) λ_ s3 hx=>?_)));obtain ⟨h',tk,a',rfl,sb,ok,r⟩:=hx;obtain ⟨o',I'⟩:=dn.put (t:=tk) AO I2 sb ok;exact ⟨σ,H2,a',o',I',ok,r⟩
end
def Dx (ys:List (Key×V)) (x y:V) (H:Hp) (R:List (Key×V)->Hp->Prop):Prop:=∃ k,x=kV k/\ys.length < af/\R (fO ys k y) H
def OkK (P:bq) (w:bx) (D:ae) (ys:List (Key×V)) (h:ag):Prop:=ys.length<=af/\∃ its,KV ys its/\h.DictOf (bP P w) D its
noncomputable def aLn:cb:={ cls:=.type "dict",dict:=none,data:=.dict #[] }
theorem EM:iw P w A newDict [] (OkK P w) where
 new:=⟨aLn,λv z=>(by cases z),rfl,λh D e=>⟨Ji _,[],.nil,⟨_,#[],0,e,⟨rfl,rfl,rfl⟩,rfl,λ_ he=>(by simp_all),Pairs.nil,Wy⟩⟩,λh=>Ry h⟩
 keep:=λ⟨hl,its,v,d⟩ k=>⟨hl,its,v,d.at k⟩
 obj:=λ⟨_,_,_,o,es,ep,h1,h2,h3,_⟩=>⟨o,h1,λv z=>by rw [h3] at z; cases z⟩
def aKc (own:Nat) (fr:List Nat) (wi:TI) (g:TG) (tt:TT) (tk tv:TE):TE:=λσ H Q=>wi σ H λJ H1=>ki J [] (h_ own fr σ) H1 (λys _ H=>∀ p,H p=none->Q (.ref p) (upd H p (.dK ys))) g tt (Bg Dx tk tv)
section
variable {wi:TI}
theorem aGg (S:fz X scope z own fr ff) (hc:X.calm=true) (hi:PI X tg iter wi) (hg:∀ C s0 H0 fp,PG (bW X scope z (own++ff) C s0 H0 fp) tg g) (ht:∀ C s0 H0 fp,PF (bW X scope z (own++ff) C s0 H0 fp) ifs tt)
  (hk:∀ C s0 H0 fp,PE (bW X scope z (own++ff) C s0 H0 fp) kx tk) (he:∀ C s0 H0 fp,PE (bW X scope z (own++ff) C s0 H0 fp) vx tv) (hs:autoParam (∀ x,foldedSetIterable iter X.env x=pure x) L2.y_) :
  PE X (.DictComp kx vx [⟨tg,iter,ifs,0⟩] scope pos) (aKc own.length fr wi g tt tk tv) :=
 uT S rfl aLm EM hc (Rar ..) hi hg ht (λC s0 H0 fp=>S_ EM (hk C s0 H0 fp) (he C s0 H0 fp) λ{D a s H x y kv vv R} _ ⟨hl,its,v,d⟩ r1 r2 ⟨k,ek,lt,q⟩=>by
  subst ek;have qc:=v.length;exact Rak (knd:=bP X.prog X.w) (mP r1) d (λAS xo xm=>⟨AS,_,_,rfl,xm,⟨Qr (eS _ _ _) lt,_,v.put k r2,xo⟩,q⟩) (by simp_all)) hs
  λ⟨hl,its,v,d⟩ hn hm q=>⟨.dK _,⟨hl,hm,its,v,d⟩,q _ hn⟩
end
def ZE (t:TE):TE:=λσ H Q=>∃ P:V->Hp->Prop,t σ H P/\∀ x H1,P x H1->Q x H1
def aKd (H0:Hp) (t:TE):TE:=λσ H Q=>t σ H λx H'=>∃ a o kvs,H' a=some (.f_ o (.dK kvs))/\NF H0 a/\Q x (upd H' a (.dK kvs))
def UE (own:Nat) (fr:List Nat) (td:TE) (g:TG) (tt:TT) (te:TE):TE:=λσ H Q=>td σ H λx H1=>∃ a kvs,x=.ref a/\H1 a=some (.dK kvs)/\∀ o:cb,ki (Fc a o kvs) [] (h_ own fr σ) (upd H1 a (.f_ o (.dK kvs))) (λys _ H=>∀ p,H p=none->Q (.ref p) (upd (upd H p (.lst ys)) a (.dK kvs))) g tt (sj te)
section
variable {d:ay} {t:TE}
theorem S9 (h:PE X e t):PE X e (ZE t):=by
 intro a_ s σ H Q I q;obtain ⟨P,h1,h2⟩:=q;refine fc (h a_ s σ H P I h1) λv s1 hx=>?_;obtain ⟨x,H1,I1,r1,q1⟩:=hx;exact ⟨x,H1,I1,r1,h2 _ _ q1⟩
theorem VL (h:PE X e t):PE X e (aKd X.u4 t):=by
 intro a_ s σ H Q I q;refine fc (h a_ s σ H _ I q) λv s1 hx=>?_;obtain ⟨x,H1,I1,r1,a,o,kvs,ea,nf,k⟩:=hx;exact ⟨x,_,I1.Fi ea nf,r1,k⟩
theorem vG (S:fz X scope z own fr ff) (hc:X.calm=true) (hi:PE X d td) (hg:∀ C s0 H0 fp,PG (bW X scope z (own++ff) C s0 H0 fp) tg g) (ht:∀ C s0 H0 fp,PF (bW X scope z (own++ff) C s0 H0 fp) ifs tt)
  (he:∀ C s0 H0 fp,PE (bW X scope z (own++ff) C s0 H0 fp) elt te) (hs:autoParam (∀ x,foldedSetIterable d X.env x=pure x) L2.y_) :
  PE X (.ListComp elt [⟨tg,d,ifs,0⟩] scope pos) (UE own.length fr td g tt te):=by
 intro a_ s σ H Q I h;refine VL (cM S hc (VO (S9 hi)) hg ht he hs) a_ s σ H Q I ⟨_,h,λx H1 q=>?_⟩;obtain ⟨a,kvs,ex,hx,k⟩:=q;refine ⟨a,kvs,ex,hx,λo nf=>?_⟩;obtain ⟨W,w0,wk⟩:=k o;refine ⟨W,w0,λi m ys d9 H' w=>?_⟩;rcases wk i m ys d9 H' w with ⟨st,q⟩ | z
 ·refine .inl ⟨st,λp hp=>⟨a,o,kvs,?_,nf,q p hp⟩⟩;rw [aG (λz=>by rw [<- z,st.1] at hp; cases hp)];exact st.1
 ·exact .inr z
end
theorem yN {a:ae} {own:Nat} {σ:St} {Q:Hp->List V->Prop} (SH:St->Prop) (Pv:Nat->List V->Hp->Prop) (hn:kvs.length<=af) (jw:SH (h_ own fr σ)) (h0:Pv 0 [] H) (hlen:∀ i ys H,Pv i ys H->ys.length<=i) (hl:∀ i ys H,Pv i ys H->H a=some (.f_ o (.dK kvs))) (hs:∀ i ys σ p H,kvs[i]?=some p->SH σ->Pv i ys H->ys.length < af->g (kV p.1) σ H λfi H2=>tt fi H2 λb H3=>if b=true then te fi H3 λy H4=>ys.length < af/\SH fi/\Pv (i+1) (ys++[y]) H4 else SH fi/\Pv (i+1) ys H3) (hd:∀ ys H,Pv kvs.length ys H->Q H ys) :
  ki (Fc a o kvs) [] (h_ own fr σ) H (λys _ H=>Q H ys) g tt (sj te):=by
 refine jP kvs.length hn SH Pv jw h0 hlen (λys H p=>⟨hl _ _ _ p,rfl⟩) (λi ys H hi p=>⟨hl _ _ _ p,hi⟩) (λi ys σ x H H' hi sh p y hz=>?_) hd;obtain ⟨rfl,v,hv,rfl⟩:=y;exact hs i ys σ v _ hv sh p hz
theorem aEY {a:ae} {own:Nat} {σ:St} {Q:Hp->List (Key×V)->Prop} (SH:St->Prop) (Pv:Nat->List (Key×V)->Hp->Prop) (hn:xs.length<=af) (jw:SH (h_ own fr σ)) (h0:Pv 0 [] H) (hlen:∀ i ys H,Pv i ys H->ys.length<=i) (hl:∀ i ys H,Pv i ys H->dt K H a xs) (hs:∀ i ys σ x H,xs[i]?=some x->SH σ->Pv i ys H->ys.length < af->g x σ H λfi H2=>tt fi H2 λb H3=>if b=true then tk fi H3 λx H4=>tv fi H4 λy H5=>∃ k,x=kV k/\ys.length < af/\SH fi/\Pv (i+1) (fO ys k y) H5 else SH fi/\Pv (i+1) ys H3) (hd:∀ ys H,Pv xs.length ys H->Q H ys) :
  ki (IK K a) [] (h_ own fr σ) H (λys _ H=>Q H ys) g tt (Bg Dx tk tv) :=
 VR xs.length SH Pv jw h0 (λys H p=>⟨xs,hl _ _ _ p,Qe _⟩) (λi ys H hi p=>⟨xs,xs[i],hl _ _ _ p,Qc hi⟩) (λi ys σ x H H' hi sh p y=>by
  obtain ⟨e,y⟩:=y;subst e;exact hs i ys σ x _ (y xs (hl _ _ _ p)) sh p (by grind)) hd
section
variable {es:Array cu}
end
section
variable {σ:St} {a:ae}
end
section
variable {ek ev:ay}
end
abbrev KE:=List Key×ae×V
section
variable {wi:TI}
end
section
variable {d:ay} {t:TE}
end
section
variable {v:ae} {es:Array cu}
end
section
variable {o:ay}
end
section
variable {a:ae}
end
section
variable {wi:TI} {U:LIn}
end
section
variable {d:ay}
end
theorem yO:∀ {ps:List aj} {us:List aa},bG (ps.map V.str) us->∃ l:List (aj×df),us=strValues l/\l.map (·.1)=ps
 | [],us,h=>by cases h; exact ⟨[],rfl,rfl⟩
 | p::ps,us,h=>by
  cases h with
  | cons r t =>
   obtain ⟨k,rfl⟩:=r;obtain ⟨l,rfl,rfl⟩:=yO t;exact ⟨(p,k)::l,rfl,rfl⟩
theorem yP:∀ (l:List (aj×df)),bG ((l.map (·.1)).map V.str) (strValues l)
 | []=>.nil
 | p::l=>.cons ⟨p.2,rfl⟩ (yP l)
theorem oC (hK:X.K=K):wd X "str.join" (λx vs H Q=>∃ (sep:aj) (a:ae) (ps:List aj),x=.str sep/\vs = [.ref a]/\dm K H a (ps.map V.str)/\JoinOk sep ps=true/\Q (.str (sep.join ps)) H):=by
 subst hK;intro a_ s σ H x xs v us Q I rx r h;obtain ⟨sep,a,ps,rfl,rfl,ha,hj,q⟩:=h;obtain ⟨u,rfl,e⟩:=eU r;cases e;obtain ⟨tk,rfl⟩:=rx;obtain ⟨its,rv,pl,hz⟩:=I.list ha;obtain ⟨l,rfl,hl⟩:=yO rv;refine SC.join pl.isList hl hj λt' k=>⟨.str _,H,I.tok _,⟨_,rfl⟩,?_⟩
 rw [show Txt.join sep ps=sep.join ps from StrLaws.glued_eq_join sep ps];exact q
theorem WX:wd X "str.split" (λx vs H Q=>∃ (t y:aj),x=.str t/\vs = [.str y]/\(y.length==0)=false/\t.length+2<=af/\∀ p,H p=none->Q (.ref p) (upd H p (.lst ((Txt.split t y).map V.str)))):=by
 intro a_ s σ H x xs v us Q I rx r h;obtain ⟨t,y,rfl,rfl,hy,ht,q⟩:=h;obtain ⟨u,rfl,e⟩:=eU r;obtain ⟨tk,rfl⟩:=rx;obtain ⟨Ak,rfl⟩:=e;have fin:∀ (l:List (aj×df)) (k:Nat),l.map (·.1)=Txt.split t y->l.length<=af->EP X a_ σ Q (.ref s.heap.objs.size) { s with heap:=s.heap.push { cls:=.type "list",data:=.seq (strValues l).toArray },toks:=k }:=λl k e hl =>
  ⟨.ref s.heap.objs.size,_,I.laid (t':=k) (o:=.lst ((Txt.split t y).map V.str)) (λb ob q=>ag.get?_push_of_some _ q) (Qe _) ⟨by rw [<- e,Qa,Qa]; exact hl,strValues l,0,by rw [<- e]; exact yP l,ag.get?_push_size _ rfl⟩,rfl,q _ (I.ei.fresh (Qe _))⟩
 have one:∀ k,Txt.split t y = [t]->EP X a_ σ Q (.ref s.heap.objs.size) { s with heap:=s.heap.push { cls:=.type "list",data:=.seq #[.str t tk] },toks:=k }:=λk e=>fin [(t,tk)] k e.symm (by rw [Rf]; simp);by_cases h1:(decide (t.length < y.length) || decide (ak.Str.strKind t < ak.Str.strKind y))=true
 ·have e:Txt.split t y = [t]:=if_pos h1;exact Tg Ua (Vr _ _ _) Vg (Ve _ _) (meets_str_split_cannot_occur t y tk Ak h1) (one s.toks e)
 ·rw [Bool.not_eq_true] at h1;by_cases h2:(ak.Str.occurrences t y 0 t.length (t.length+1)).isEmpty=true
  ·have e:Txt.split t y = [t]:=by unfold Txt.split; rw [h1,h2]; rfl
   exact Tg Ua (Vr _ _ _) Vg (Ve _ _) (meets_str_split_not_found t y tk Ak h1 hy h2) (one s.toks e)
  ·rw [Bool.not_eq_true] at h2;have e:Txt.split t y=ak.Str.partsBetween t (ak.Str.occurrences t y 0 t.length (t.length+1)) y.length:=by unfold Txt.split; rw [h1,h2]; rfl
   have hn:(ak.Str.partsBetween t (ak.Str.occurrences t y 0 t.length (t.length+1)) y.length).length<=af:=by grind [length_partsBetween,StrLaws.occ_length_le_len]
   refine Tg Ua (Vr _ _ _) Vg (Ve _ _) (meets_str_split_sep t y tk Ak h1 hy h2 'a' hn) ?_;rw [strsFrom_eq];exact fin (numbered s.toks _) _ ((numbered_texts _ _).trans e.symm) (by rw [<- Qa (f:=(·.1)),numbered_texts]; exact hn)
theorem aEZ:eQ X (.type "int") (λxs H Q=>∃ (x:aj) (n:Int),xs = [.str x]/\intText? x=some n/\x.length<=640/\Q (.int n) H):=by
 intro a_ s σ H xs us Q I r h;obtain ⟨x,n,rfl,hn,hl,q⟩:=h;obtain ⟨u,rfl,e⟩:=eU r;obtain ⟨tk,rfl⟩:=e;exact PySem.W.KIN.call_text hn hl ⟨.int n,H,I.tok _,⟨_,rfl⟩,q⟩
def aMo (te:TE):TE:=λσ H Q=>te σ H λx H1=>∃ i:Int,x=.int i/\i.natAbs.log2 < 1920/\Q (.str (toString i)) H1
theorem vH (he:PE X e te):PE X (.FormattedValue e (-1) none pos) (aMo te):=by
 intro a_ s σ H Q I h;refine wpAny_FormattedValue_plain (fc (he a_ s σ H _ I h) λv s1 h1=>?_);obtain ⟨x,H1,I1,r,i,rfl,hi,q⟩:=h1;obtain ⟨tk,rfl⟩:=r;exact wpAny_formatField_int hi ⟨.str _,H1,I1.tok _,⟨_,rfl⟩,q⟩
theorem aKe (he:PE X e te):PE X (.JoinedStr [e] pos) te:=by assumption
theorem VJ (y:aj):aj.empty++y=y:=by
 cases y with
 | mk c=>exact congrArg aj.mk Array.empty_append
def ZF (ta tb tc:TE):TE:=λσ H Q=>ta σ H λx H1=>∃ y:aj,x=.str y/\y.length<=af/\tb σ H1 λx2 H2=>∃ z:aj,x2=.str z/\(y++z).length<=af/\tc σ H2 λx3 H3=>∃ u:aj,x3=.str u/\(y++z++u).length<=af/\Q (.str (y++z++u)) H3
theorem UD {a b c:ay} (ha:PE X a ta) (hb:PE X b tb) (hc:PE X c tc):PE X (.JoinedStr [a,b,c] pos) (ZF ta tb tc):=by
 intro a_ s σ H Q I h;refine wpAny_JoinedStr ?_;refine fc (ha a_ s σ H _ I h) λv s1 h1=>?_;obtain ⟨x,H1,I1,r1,y,rfl,hy,h⟩:=h1;obtain ⟨tk,rfl⟩:=r1;refine ⟨y,tk,rfl,by rw [VJ]; exact hy,?_⟩;refine fc (hb a_ s1 σ H1 _ I1 h) λv s2 h2=>?_;obtain ⟨x,H2,I2,r2,z,rfl,hz,h⟩:=h2;obtain ⟨Ak,rfl⟩:=r2;rw [VJ];refine ⟨z,Ak,rfl,hz,?_⟩;refine fc (hc a_ s2 σ H2 _ I2 h) λv s3 h3=>?_;obtain ⟨x,H3,I3,r3,w,rfl,hw,q⟩:=h3;obtain ⟨ZA,rfl⟩:=r3;exact ⟨w,ZA,rfl,hw,hw,.str _,H3,I3.tok _,⟨_,rfl⟩,q⟩
noncomputable def Nv (x:aj):It where
 go:=λi _=>i < x.cps.size
 m7:=λi H v H'=>H'=H/\∃ c,x.cps[i]?=some c/\v=.str ⟨#[c]⟩
 stop:=λi _=>i=x.cps.size
def Lv (tl:TE):TI:=λσ H R=>tl σ H λx H1=>∃ z:aj,x=.str z/\z.cps.all (· < 128)=true/\R (Nv z) H1
theorem aGj (it:ae) (x:aj) (t:df):Turn P w K tg (Nv x) [it] it (λi h=>h.IsStrIter it "str_ascii_iterator" x t i) where
 mem:=by simp
 obj:=λi h st b hb=>by
  have e:b=it:=by simpa using hb
  subst e;obtain ⟨o,e,c,d⟩:=st;exact ⟨o,e,λv z=>by rw [d] at z; cases z⟩
 keep:=λi h h' st k=>let ⟨o,ho,r⟩:=st; ⟨o,k it 'b' o ho,r⟩
 item:=by
  intro X hP hw hK hc i a_ s σ H E I hf st hg;subst hP hw hK;obtain ⟨f0,f1,f2,f3,f4,f5⟩:=hf it 'b';refine (cx.strAscii (prog:=X.prog) (w:=X.w) (I.ok.hd hc) it x t).item i s _ _ hg st λv h' tk hv vj kp=>?_;obtain ⟨c,u,hc,rfl⟩:=hv;refine ⟨_,rfl,?_⟩;have I1:Inv X a_ σ H { s with heap:=h',toks:=tk }:=I.turned (t':=tk) (λb o hb e=>kp b o (by simpa using hb) e) f0 f1 f3 f4 f5;unfold letOwnedTupleGo;cases tg <;> exact Rc ⟨.str ⟨#[c]⟩,H,I1,⟨_,rfl⟩,⟨rfl,c,hc,rfl⟩,vj,λb hb=>(hf b hb).1⟩
 done:=by
  intro X hP hw hK hc i a_ s σ H E I hf st hg;subst hP hw hK;obtain ⟨f0,f1,f2,f3,f4,f5⟩:=hf it 'b';have e:i=x.cps.size:=hg;subst e;exact (cx.strAscii (prog:=X.prog) (w:=X.w) (I.ok.hd hc) it x t).done s _ _ st λh' tk kp=>⟨rfl,I.turned (t':=tk) (λb o hb e=>kp b o (by simpa using hb) e) f0 f1 f3 f4 f5⟩
 self:=λ_ _ _ _ _ st h=>wpAny_pyIter_striter_ascii st h
theorem UC {l:ay} (hl:PE X l tl):PI X tg l (Lv tl):=by
 intro a_ s σ H R I h;refine fc (hl a_ s σ H _ I h) λv s1 e_=>?_;obtain ⟨x,H1,I1,r1,z,rfl,ha,q⟩:=e_;obtain ⟨tk,rfl⟩:=r1;refine wpAny_pyIter_ascii ha ⟨s1.heap.objs.size,[s1.heap.objs.size],_,_,H1,rfl,I1.kept (t':=s1.toks) λb o e=>ag.get?_push_of_some _ e,aGj _ z tk,⟨_,ag.get?_push_size _ rfl,rfl,rfl⟩,λb hb=>?_,q⟩;have e:b=s1.heap.objs.size:=by simpa using hb
 subst e;exact I1.n_ (Qe _) (I1.ei.fresh (Qe _))
theorem aCW {I:ae} {wr:List ae} {P:Nat->aa->Prop} {St:Nat->ag->Prop} (W:cx prog w A I fp wr (n+1) P St):cx prog w A I fp wr n (λi=>P (i+1)) (λi=>St (i+1)) :=
 ⟨W.sub,λi=>W.frame (i+1),λi s Q E hi st hQ=>W.item (i+1) s Q E (Nat.succ_lt_succ hi) st hQ,λs Q E st hQ=>W.done s Q E st hQ,λi=>W.self (i+1)⟩
def aLo (K:Rb) (t:y9):TG:=λv σ H Q=>∃ a x xs,v=.ref a/\dm K H a (x::xs)/\∀ p,H p=none->t [x,.ref p] σ (upd H p (.lst xs)) Q
theorem aIb {a b:ay} {k:Nat} {t:y9} (hc:X.calm=true) (h:Dw X [a,b] t) (he:autoParam ((assignEach [a,.Starred b p1] X.env) = [(false,assign a X.env),(true,assign b X.env)]) L2.f') (Ek:autoParam ((assignEach [a,b] X.env) = [(false,assign a X.env),(false,assign b X.env)]) L2.f') :
  PG X (.Tuple [a,.Starred b p1] k pos) (aLo X.K t):=by
 intro a_ s σ H v u Q I r hw;obtain ⟨ad,x,xs,rfl,hq,hw⟩:=hw;cases r;obtain ⟨its,rv,pl,hz⟩:=I.list hq;cases rv with
 | @cons _ u0 _ us r0 rv =>
 have hL:s.heap.IsList ad (u0::us).toArray:=pl.isList;have gh:ad < s.heap.objs.size:=by obtain ⟨o,ho,_⟩:=hL; exact ag.lt_size ho
 have gw:ad≠s.heap.objs.size:=Qy gh;have W:=cx.list (prog:=X.prog) (w:=X.w) (A:=X.A) (I.ok.hd hc) s.heap.objs.size ad gw (u0::us).toArray;have W1:=cx.list (prog:=X.prog) (w:=X.w) (A:=X.A.in1) (by have:=I.ok.hd hc; simpa using this) s.heap.objs.size ad gw (u0::us).toArray;rw [show (u0::us).toArray.size=us.length+1 by simp] at W W1;rw [show assign (.Tuple [a,.Starred b p1] k pos) X.env (.ref ad)=(do standAt pos; unpack (.ref ad) (assignEach [a,.Starred b p1] X.env)) from rfl,he];refine Ra (Tt ?_);unfold unpack;refine Ra (Rt ?_);show aq _ _ (unpackItems (.ref ad) 2 (some 1)) _ _ s;unfold unpackItems;refine Ra ?_;unfold notIterableAtAll;refine Ra (Vs hL.typeIs PySem.F.slot_list_iter.lookup (Rc ?_));simp only [Xq,if_false];refine Ra (Rt (Uw hL (Ra (Rt ?_))));show aq _ _ (pyNext (.ref s.heap.objs.size) >>= _) _ _ _;have jx:(s.heap.push { cls:=.type "list_iterator",data:=.fields #[.ref ad,.int 0 0] }).IsListIter s.heap.objs.size ad 0/\(s.heap.push { cls:=.type "list_iterator",data:=.fields #[.ref ad,.int 0 0] }).IsList ad (u0::us).toArray:=⟨⟨_,ag.get?_push_size _ rfl,rfl,rfl⟩,hL.push _⟩
 refine Ra (W.item 0 _ _ _ (Nat.succ_pos _) jx λv h1 OA hv CJ ξ=>?_);have ev:v=u0:=by simp_all
 subst ev;refine Ra (Rt ?_);show aq _ _ (pure []) _ _ _;refine Rc (Rc ?_);show aq _ _ (if ([v]:List aa).length < 1 then _ else _) _ _ _;rw [if_neg 'b'];refine Ra (Rt (wpAny_collect_iter (A:=X.A) (T := "list_iterator") (.inr (.inr (.inl rfl))) (aCW W1).toS (λ_ _ st=>let ⟨⟨o,ho,tm,_⟩,_⟩:=st; ⟨o,ho,tm⟩) CJ ?_ 'b' ?_ ?_))
 ·intro b hb;rcases Ql.mp hb with rfl | hb
  ·obtain ⟨⟨o,ho,_⟩,_⟩:=CJ;exact ag.lt_size ho
  ·rw [Qi.mp hb];obtain ⟨_,o,ho,_⟩:=CJ;exact ag.lt_size ho
 ·intro s' acc hm ha;have ea:acc.toList=us:=by
   refine List.ext_getElem? λj=>?_;have hs:acc.toList.length=us.length:=by rw [Array.length_toList]; exact ha.1
   by_cases hj:j < us.length
   ·have PQ:j < acc.size:=by rw [ha.1]; exact hj
    have h2:=ha.2 j acc[j] (Array.getElem?_eq_getElem PQ);rw [Array.getElem?_toList,Array.getElem?_eq_getElem PQ];simpa using h2.symm
   ·simp_all
  rw [ea,if_neg 'a'];have hzu:us.length<=af:=by have:=rv.length; rw [Jl] at hz; omega
  have nb:∀ b o,s.heap.get? b=some o->b∉[s.heap.objs.size]:=λb o e z=>Jk _ (by have:=ag.lt_size e; rw [Qi.mp z] at this; exact this);have kp:∀ b o,s.heap.get? b=some o->s'.heap.get? b=some o:=λb o e=>hm.heap b o (nb b o e) (ξ b o (nb b o e) (ag.get?_push_of_some _ e));have es:s'={ s with heap:=s'.heap,toks:=s'.toks }:=by
   have g1:=hm.gens;have g2:=hm.drawn;have g3:=hm.os;cases s';simp only at g1 g2 g3;subst g1 g2 g3;rfl
  have I1:Inv X a_ σ H s':=by rw [es]; exact I.kept (t':=s'.toks) kp
  have et:us.take (us.length - (2 - 1 - 1))=us:=by simp
  have ed:us.drop (us.length - (2 - 1 - 1)) = []:=List.drop_eq_nil_of_le 'a';rw [et,ed];refine Ra (Ry ?_ (by assumption));refine Rc ?_;have I2:Inv X a_ σ (upd H s'.heap.objs.size (.lst xs)) { s' with heap:=s'.heap.push { cls:=.type "list",data:=.seq us.toArray } }:=I1.laid (t':=s'.toks) (λb ob q=>ag.get?_push_of_some _ q) (Qe _) ⟨by rw [Jl] at hz; omega,us,0,rv,ag.get?_push_size _ rfl⟩;have:=h a_ _ σ _ [x,.ref s'.heap.objs.size] [v,.ref s'.heap.objs.size] Q I2 (.cons r0 (.cons rfl .nil)) (hw _ (I1.ei.fresh (Qe _)));rw [Ek] at this;exact this
 ·have:=rv.length;rw [Jl] at hz;omega
def aMp:V->Option Int->Option Int->Hp->VK->Prop:=λx lo hi H Q=>∃ t:aj,x=.str t/\t.length<=af/\Q (.str (Txt.slice t lo hi)) H
theorem UB:Dv X aMp:=by
 intro a_ s σ H x v vl vu lo hi sl Q I rx hs pl pu h;obtain ⟨t,rfl,hl,q⟩:=h;obtain ⟨tk,rfl⟩:=rx;refine ⟨"str",_,PySem.F.slot_str_getitem.lookup,Vr _ _ _,?_⟩;have fin:∀ lo hi,Q (.str (Txt.slice t lo hi)) H->(Txt.slice t lo hi).length<=af/\∀ t' k,EP X a_ σ Q (.str (Txt.slice t lo hi) t') { s with toks:=k }:=λlo hi q =>
  ⟨Qr (Txt.slice_le t _ _) hl,λt' k=>⟨.str _,H,I.tok _,⟨_,rfl⟩,q⟩⟩
 cases pl with
 | none => cases pu with
   | none=>exact Uv (l:=none) (u:=none) (st:=none) hs rfl (Vt (fin none none q))
   | int j uj=>exact Uv (l:=none) (u:=some (j,uj)) (st:=none) hs rfl (Vt (fin none (some j) q))
 | int i ui => cases pu with
   | none=>exact Uv (l:=some (i,ui)) (u:=none) (st:=none) hs rfl (Vt (fin (some i) none q))
   | int j uj=>exact Uv (l:=some (i,ui)) (u:=some (j,uj)) (st:=none) hs rfl (Vt (fin (some i) (some j) q))
theorem aGm {j:Int} (h:(n:Int)<=j):ak.Str.strSliceIndices none (some j) 1 n=ak.Str.strSliceIndices none (some (n:Int)) 1 n:=by
 have h0:¬ j < 0:=by omega
 have h1:¬ ((n:Int) < 0):=by omega
 have h2:(1:Int) > 0:=by decide
 simp only [ak.Str.strSliceIndices,h0,h1,h2,if_false,if_true,Int.min_eq_right h,Int.min_self]
theorem WW (x:aj) {j:Int} (h:0<=j):(Txt.slice x none (some j)).cps.toList=x.cps.toList.take j.toNat:=by
 by_cases hj:j<=x.cps.toList.length
 ·rw [beq_iff_eq.mp (RaH ⟨h,hj⟩)];simp
 ·have hl:x.length=x.cps.toList.length:=by simp [aj.length]
  have e2:Txt.slice x none (some j)=Txt.slice x none (some (x.length:Int)):=by
   unfold Txt.slice;rw [aGm 'a']
  rw [e2,beq_iff_eq.mp (RaH ⟨by omega,by omega⟩)];rw [Jf (i:=j.toNat) 'a'];rw [Jf (by simp [aj.length])];rfl
theorem vI (x:aj) {i:Int} (h:0<=i):(Txt.slice x (some i) none).cps.toList=x.cps.toList.drop i.toNat:=by
 have hl:x.length=x.cps.toList.length:=by rfl
 by_cases hj:i<=x.length
 ·rw [slice_from_eq h hj rfl];rw [Jf];rw [Xa];omega
 ·rw [slice_beyond 'a',Ye 'a'];rfl
theorem aIc:gy X (binaryOp .Mult) (λx y H Q=>∃ (t:aj) (n:Int),x=.str t/\y=.int n/\MulOk t n/\Q (.str (Txt.mul t n)) H):=by
 intro a_ s σ H x y v u Q I rx ry h;obtain ⟨t,n,rfl,rfl,hm,q⟩:=h;obtain ⟨tk,rfl⟩:=rx;obtain ⟨Ak,rfl⟩:=ry;exact SB.mul hm λt' k=>⟨.str _,H,I.tok _,⟨_,rfl⟩,q⟩
def EL (S:ae) (H H':Hp):Prop:=∀ b o,b≠S->H b=some o->H' b=some o
def Np (H:Hp) (xs ys zs:List V):Prop:=∀ (j:Nat) (z:V),zs[j]?=some z->∃ q x y,z=.ref q/\xs[j]?=some x/\ys[j]?=some y/\H q=some (.tup [x,y])
theorem EL.sq {k:Sk} {S l:ae} (e:EL S H H') (n:l≠S) (h:jv k K H l xs):jv k K H' l xs:=by
 cases k
 ·rcases h with (h | ⟨o,h⟩) | h
  ·exact .inl (.inl (e _ _ n h))
  ·exact .inl (.inr ⟨o,e _ _ n h⟩)
  ·exact .inr h
 ·rcases h with (h | ⟨o,h⟩) | h
  ·exact .inl (.inl (e _ _ n h))
  ·exact .inl (.inr ⟨o,e _ _ n h⟩)
  ·exact .inr h
section
variable {σ:St} {S:ae}
structure LsOk (J:It) (n:Nat) (S:ae) (L:Hp->List V->Prop):Prop where
 go:∀ H zs,L H zs->J.at (decide (zs.length < n)) zs.length H
 m7:∀ H zs x H',L H zs->H S=some (.lst zs)->J.m7 zs.length H x H'->L (upd H' S (.lst (zs++[x]))) (zs++[x])
theorem aAl (A:bz) (hA:A.handled=none) (N:qj X.prog X.w X.K J fp it tn) (nS:S∉fp) {res:aa} (hz:n<=af) {L:Hp->List V->Prop} (ok:LsOk J n S L) :
  ∀ (k:Nat) (s:ah) (H:Hp) (zs:List V),n - zs.length=k->zs.length<=n->Inv X a_ σ H s->(∀ c∈fp,mV X a_ H c)->tn zs.length s.heap->H S=some (.lst zs)->L H zs ->
  (∀ s' H' DE,Inv X a_ σ H' s'->H' S=some (.lst DE)->DE.length=n->L H' DE->R (.ok (.ret res)) s') ->
  codeAny (ar X.prog X.w) A (.builtin "list.extend.loop" ⟨[.ref S,.ref it,res],[]⟩) R s:=by
 have hA:A.in1.handled=none:=hA;intro k
 induction k using Nat.strongRecOn with
 | _ k ih =>
  intro s H zs hk hi I hf st hS hl hR;refine Vc F.entry_extend_loop ?_;rw [bz.under_plainId F.plain_extend_loop _];refine Ra ?_;unfold pyNext;refine Ra (Mq (N.next X rfl rfl rfl _ hA _ a_ s σ H _ _ _ I hf st (ok.go H zs hl) (λu x H1 s1 hb p r y t=>Rc ?_) λe s1 hb p ⟨o,h1,h2⟩=>Ra (Ras (T := "StopIteration") (b:=true) ⟨o,h1,h2⟩ isSubtype_stop (Rc (Rc (hR _ H zs p.inv hS (by simp at hb; omega) hl))))));have gh:zs.length < n:=by simpa using hb
  have Di:H1 S=some (.lst zs):=p.same I _ _ hS;obtain ⟨zz,ν,nn,rr,w_,e⟩:=p.inv.xp Di;have I4:=p.inv.vc (t':=s1.toks) (its':=ν++[u]) (f:=(·.push u)) (ys:=zs++[x]) Di e 'b' (rr.append (.cons r .nil)) (by simp; omega);refine Ra (Ud e rfl (Rc ⟨Up F.plain_extend_loop _,ih (n - (zs++[x]).length) (by simp; omega) _ _ _ rfl (by simp; omega) I4 (λc hc=>⟨by rw [aG (λq:c=S=>nS (q ▸ hc))]; exact (p.fo c hc).1.1,(p.fo c hc).1.2⟩) ?_ aB (ok.m7 H zs x H1 hl hS y) hR⟩) (by rw [Jj,<- w_]; omega) (by grind));rw [Qg];exact N.keep _ _ _ t λc hc o q=>(ag.get?_update_other _ _ (λq:S=c=>nS (q.symm ▸ hc))).trans q
end
theorem aCX:typeLookup (.type "zip") "__len__" = pure none:=by rw [Mj,Vu]; kernel_rfl
theorem aBA:typeLookup (.type "zip") "__length_hint__" = pure none:=by rw [Mj,Vu]; kernel_rfl
def S8 (K:Rb) (J:It) (H1:Hp) (Q:V->Hp->Prop):Prop:=∃ n,n<=af/\∀ S,H1 S=none->(∀ k a xs,jv k K H1 a xs->a≠S)->∃ L:Hp->List V->Prop,LsOk J n S L/\(∀ H2,EL S H1 H2->H2 S=some (.lst [])->L H2 [])/\∀ H2 zs,H2 S=some (.lst zs)->zs.length=n->L H2 zs->Q (.ref S) H2
def VI (K:Rb) (wi:TI):TE:=λσ H Q=>wi σ H λJ H1=>S8 K J H1 Q
theorem aE0 {wi:TI} (hc:X.calm=true) (qr:Gl X "list") (Gs:X.mg "list" = none) (he:ES X e "zip" wi) (hs:autoParam (ao [e] X.env = [(false,eval e X.env)]) L2.f'):PE X (.Call (.Name "list" p) [e] [] pos) (VI X.K wi):=by
 intro a_ s σ H Q I h;refine Tb (mT (u:=.type "list") I qr Gs 'd' ?_ 'c' 'c');refine PyProof.Rows.callWith_type1 ?_ hs rfl;rw [hs];refine Calls.spliced_cons (fc (he a_ s σ H _ I h) λv s5 q9=>Calls.spliced_nil ?_);obtain ⟨z,fp,tn,J,H1,e,hT,I2,N,st,ox,n,Az,q⟩:=q9;subst e;obtain ⟨L,ok,l0,q⟩:=q s5.heap.objs.size I2.fresh λk a xs h=>I2.Cv h (I2.n_ (Qe _) I2.fresh);have hsz:=N.lt st;refine callType_codes (Q₁:=λobj gi=>obj=.ref s5.heap.objs.size/\gi={ s5 with heap:=s5.heap.push { cls:=.type "list",data:=.seq #[] } }) F.called_list (F.typeCall_list_1 _) F.entry_list_init
  (code_list_new _ ⟨rfl,rfl⟩) λobj gi mv=>?_
 obtain ⟨rfl,rfl⟩:=mv;have nS:s5.heap.objs.size∉fp:=λc=>Jk _ (hsz _ c);have hS:(s5.heap.push { cls:=.type "list",data:=.seq #[] }).get? s5.heap.objs.size=some { cls:=.type "list",data:=.seq #[] }:=ag.get?_push_size _ rfl;refine ⟨⟨_,hS,rfl⟩,F.args_list_init_2 _ _,?_⟩;refine Ra ?_;unfold ak.List.listItems;refine Ra (Tv hS rfl (Rc (Ra (Ud hS rfl ?_))));have I7:=(I2.Fp (t':=s5.toks) (ys:=[]) (its:=[]) .nil (Ji _)).vc (t':=s5.toks) (f:=λ_=>#[]) (its':=[]) (ys:=[]) aB hS rfl .nil (Ji _);have GO:=ag.get?_update_self (cb.mapSeq (λ_=>(#[]:Array aa))) hS rfl;have up:∀ c o,c≠s5.heap.objs.size->s5.heap.get? c=some o->((s5.heap.push { cls:=.type "list",data:=.seq #[] }).update s5.heap.objs.size (cb.mapSeq (λ_=>(#[]:Array aa)))).get? c=some o:=λc o n e=>(ag.get?_update_other _ _ (Ne.symm n)).trans (ag.get?_push_of_some _ e);refine Ra (Uu ?_);generalize (s5.heap.push { cls:=.type "list",data:=.seq #[] }).update s5.heap.objs.size (cb.mapSeq (λ_=>(#[]:Array aa)))=h7 at I7 GO up;have Pa:s5.heap.objs.size≠z:=λe=>nS (e ▸ N.mem);have Dg:({ s5 with heap:=h7 }:ah).TypeIs (.ref z) "zip" := let ⟨o,e,c⟩:=hT; ⟨o,up _ _ (Ne.symm Pa) e,c⟩
 unfold ak.List.listExtendWith;refine Ra (Vq Dg ?_);have h1:ak.List.listSameRef (.ref s5.heap.objs.size) (.ref z)=false:=by simp [ak.List.listSameRef,Pa]
 have h2:(aa.type "zip" == aa.type "list")=false:=by decide
 have h3:(aa.type "zip" == aa.type "tuple")=false:=by decide
 simp only [h1,h2,h3,Bool.or_false,Xq,if_false];have key:∀ (H':Hp) (h':ag),Inv X a_ σ H' { s5 with heap:=h' }->(∀ c,c≠s5.heap.objs.size->H' c=H1 c)->(∀ c o,c≠s5.heap.objs.size->h7.get? c=some o->h'.get? c=some o)->H' s5.heap.objs.size=some (.lst []) ->
   codeAny (ar X.prog X.w) X.A.in1 (.builtin "list.extend.loop" ⟨[.ref s5.heap.objs.size,.ref z,.none],[]⟩) (wants (λr kc=>r=aa.none/\EP X a_ σ Q (aa.ref s5.heap.objs.size) kc) X.xe) { s5 with heap:=h' }:=λH' h' I' b' k' v_ =>
  aAl X.A.in1 (I2.ok.hd hc) N nS Az ok _ _ H' [] rfl (Ji _) I' (λc hc=>⟨by rw [b' c λq=>nS (q ▸ hc)]; exact (ox c hc).1,(ox c hc).2⟩) (N.keep _ _ _ st λc hc o e=>k' c o (λq=>nS (q ▸ hc)) (up c o (λq=>nS (q ▸ hc)) e)) v_ (l0 _ (λc o n e=>(b' c n).trans e) v_) λs' H2 zs I8 GN l! g?=>⟨rfl,.ref s5.heap.objs.size,H2,I8,rfl,q H2 zs GN l! g?⟩
 refine Ra (N.self _ 0 _ _ _ (N.keep _ _ _ st λc hc o e=>up c o (λq=>nS (q ▸ hc)) e) (Ra (Rt ?_)));unfold ak.List.listLengthHint;refine Ra (Vs Dg aCX ?_);refine Ra (Vs Dg aBA (Rc ?_));refine Mi (λ_=>?_) (λ_=>Rc ⟨Up F.plain_extend_loop _,key _ h7 I7 (λc n=>by rw [aG n,aG n]) (λ_ _ _ e=>e) aB⟩);refine Ra (Ut (Ra (Ra (Ud GO rfl ?_))));have I8:=I7.vc (t':=s5.toks) (f:=(·.push .none)) (its':=[.none]) (ys:=[.fk]) aB GO rfl (.cons rfl .nil) 'c';have GN:=ag.get?_update_self (cb.mapSeq (·.push aa.none)) GO rfl;refine Ud (hz:=by decide) GN rfl ?_;exact Rc ⟨Up F.plain_extend_loop _,key _ _ (I8.vc (t':=s5.toks) (f:=(·.pop)) (its':=[]) (ys:=[]) aB GN rfl .nil (Ji _)) (λc n=>by rw [aG n,aG n,aG n,aG n]) (λc o n e=>(ag.get?_update_other _ _ (Ne.symm n)).trans ((ag.get?_update_other _ _ (Ne.symm n)).trans e)) aB⟩
theorem aId {a b:ae} {Q:V->Hp->Prop} (hA:jv k1 K H1 a xs) (hB:jv k2 K H1 b ys) (hm:min xs.length ys.length<=af) (h:∀ p zs H2,aD H1 H2->H1 p=none->H2 p=some (.lst zs)->zs.length=min xs.length ys.length->Np H2 xs ys zs->Q (.ref p) H2):S8 K (IH K k1 k2 a b) H1 Q:=by
 refine ⟨_,hm,λS hS ne=>⟨λH zs=>EL S H1 H/\Np H xs ys zs,⟨λH zs ⟨l,_⟩=>?_,λH zs x H' ⟨l,q⟩ hs=>?_⟩,λH2 l _=>⟨l,λj z hz=>by simp at hz⟩,λH2 zs e hl ⟨l,q⟩=>h S zs H2 (λc o e=>l c o (λz=>by rw [z,hS] at e; cases e) e) hS e hl q⟩⟩
 ·have qa:=l.sq (ne _ _ _ hA) hA;have qb:=l.sq (ne _ _ _ hB) hB;by_cases c:zs.length < min xs.length ys.length
  ·rw [decide_eq_true c]; exact MH qa qb 'a' 'a'
  ·rw [decide_eq_false c];by_cases d:xs.length<=zs.length
   ·exact .inl ⟨xs,qa,d⟩
   ·exact .inr ⟨⟨xs,xs[zs.length],qa,Qc 'a'⟩,ys,qb,by omega⟩
 ·rintro ⟨u,v,p,hu,hv,hp,rfl,rfl⟩;have b4:EL S H (upd (upd H p (.tup [u,v])) S (.lst (zs++[.ref p]))):=λc o n e=>by rw [aG n,aG (gZ e hp)]; exact e
  refine ⟨λc o n e=>b4 c o n (l c o n e),λj z hz=>?_⟩;rcases Nat.lt_or_ge j zs.length with hj | hj
  ·rw [Qq hj] at hz;obtain ⟨c,x,y,g1,g2,g3,g4⟩:=q j z hz;exact ⟨c,x,y,g1,g2,g3,b4 _ _ (λe=>by rw [e,hs] at g4; cases g4) g4⟩
  ·rw [Qx hj] at hz;have e:j=zs.length:=by grind
   subst e;exact ⟨p,u,v,by simpa using hz.symm,hu.2 xs (l.sq (ne _ _ _ hA) hA),hv.2 ys (l.sq (ne _ _ _ hB) hB),by rw [aG (λe=>by rw [e,hs] at hp; cases hp)]; exact aB⟩
theorem aCY (k1 k2:Sk) {a b:ay} {ta:TA} {NI:Pos} (hc:X.calm=true) (qr:Gl X "list") (Gs:X.mg "list" = none) (hg:Gl X "zip") (hm:X.mg "zip" = none) (ha:PA X [a,b] ta) (hs:autoParam (ao [a,b] X.env = [(false,eval a X.env),(false,eval b X.env)]) L2.f') (ug:autoParam (ao [b] X.env = [(false,eval b X.env)]) L2.f') :
  PE X (.Call (.Name "list" p2) [.Call (.Name "zip" p) [a,b] [] pos] [] NI) (VI X.K (G6 X.K k1 k2 ta)):=aE0 hc qr Gs (MI k1 k2 hg hm ha hs ug)
section
variable {σ:St}
end
end L2
namespace L2
open PySem PySem.Spec PyProof.Rows PyProof.V
def ME:List (TE×TE)->St->Hp->(List (V×V)->Hp->Prop)->Prop
 | [],_,H,Q=>Q [] H
 | (tk,tv)::r,σ,H,Q=>tk σ H λx H1=>tv σ H1 λy H2=>ME r σ H2 λps H3=>Q ((x,y)::ps) H3
abbrev VV:List (V×V)->List (aa×aa)->Prop:=cm λp q=>bN p.1 q.1/\bN p.2 q.2
def IA (X:Cx) (pos:Pos) (keys:List (Option ay)) (values:List ay) (za:List (TE×TE)):Prop :=
 ∀ (a_:List (ae×cb)) (s:ah) (σ:St) (H:Hp) (Q:List (V×V)->Hp->Prop),Inv X a_ σ H s->ME za σ H Q ->
  aq (ar X.prog X.w) X.A (evalPairs (pairTrees keys values X.env pos)) (λvs s'=>∃ ps H',Inv X a_ σ H' s'/\VV ps vs/\Q ps H') X.xe s
theorem aIe:IA X pos [] [] []:=λa_ s σ H Q I h=>pairTrees_nil_walk ⟨[],H,I,.nil,h⟩
theorem vJ {k v:ay} {ks:List (Option ay)} {vs:List ay} {za:List (TE×TE)} (hk:PE X k tk) (hv:PE X v tv) (hr:IA X pos ks vs za) :
  IA X pos (some k::ks) (v::vs) ((tk,tv)::za):=λa_ s σ H Q I h =>
 pairTrees_cons_walk (fc (hk a_ s σ H _ I h) λu s1 ⟨x,H1,I1,rx,q1⟩=>fc (hv a_ s1 σ H1 _ I1 q1) λw2 s2 ⟨y,H2,I2,ry,q2⟩ =>
  fc (hr a_ s2 σ H2 _ I2 q2) λws s3 ⟨ps,H3,I3,rel,q3⟩=>⟨(x,y)::ps,H3,I3,.cons ⟨rx,ry⟩ rel,q3⟩)
noncomputable def vK (kvs more:List (Key×V)):List (Key×V):=more.foldl (λacc kv=>fO acc kv.1 kv.2) kvs
theorem KV.merge:∀ {more:List (Key×V)} {rs:List (Key×aa)} {kvs:List (Key×V)} {vs:List (Key×aa)},KV more rs->KV kvs vs->KV (vK kvs more) (merged vs rs):=by
 intro more rs kvs vs r;unfold KV at r
 induction r generalizing kvs vs with
 | nil=>intro q; exact q
 | @cons p q ps qs h t ih =>
  intro r0;have e:KV (fO kvs p.1 p.2) (stored vs q.1 q.2):=by
   have:=r0.put p.1 h.2;rw [<- h.1]; exact this
  exact ih e
theorem oZ:∀ (more kvs:List (Key×V)),(vK kvs more).length<=kvs.length+more.length
 | [],kvs=>by show kvs.length<=kvs.length+0; omega
 | p::r,kvs=>by
  have h1:=oZ r (fO kvs p.1 p.2);have h2:=eS kvs p.1 p.2;show (vK (fO kvs p.1 p.2) r).length<=_;rw [Jl]; omega
theorem vL:∀ {kvs:List (Key×V)} {ws:List (aa×aa)},VV (kvs.map λkv=>(kV kv.1,kv.2)) ws->∃ rs,Carries (bP P w) ws rs/\KV kvs rs
 | [],_,r=>by rw [Yh] at r; cases r; exact ⟨[],True.intro,.nil⟩
 | p::kvs,_,r=>by
  rw [Jb] at r;cases r with
  | @cons a b as bs h t =>
   obtain ⟨rs,c,q⟩:=vL t;obtain ⟨b1,b2⟩:=b;exact ⟨(p.1,b2)::rs,⟨mP h.1,rfl,c⟩,.cons ⟨rfl,h.2⟩ q⟩
def aLp (za:List (TE×TE)):TE:=λσ H Q=>∀ p,H p=none->ME za σ (upd H p (.dK [])) λps H2=>H2 p=some (.dK [])/\∃ kvs:List (Key×V),ps=kvs.map (λkv=>(kV kv.1,kv.2))/\kvs.length<=15/\Q (.ref p) (upd H2 p (.dK (vK [] kvs)))
theorem aIf {keys:List (Option ay)} {values:List ay} {za:List (TE×TE)} (h:IA X pos keys values za) (Cp:keys.all (·.isSome)=true) (hl:keys.length=values.length) (h0:keys≠[]) (M!:keys.length<=15):PE X (.Dict keys values pos) (aLp za):=by
 intro a_ s σ H Q I q;have I1:=I.laid (a:=s.heap.objs.size) (o:=.dK []) (h':=s.heap.push { cls:=.type "dict",data:=.dict #[] }) (t':=s.toks) (λ_ _ q=>ag.get?_push_of_some _ q) (Qe _) (vC s.heap I.big);refine wpAny_Dict_walk (knd:=bP X.prog X.w) Cp hl h0 M! (fc (h a_ _ σ _ _ I1 (q _ (I.ei.fresh (Qe s.heap.objs.size)))) λws s2 q9=>?_);obtain ⟨ps,H2,I2,rel,e,kvs,ep,lk,q2⟩:=q9;subst ep;obtain ⟨rs,c,rk⟩:=vL (P:=X.prog) (w:=X.w) rel;obtain ⟨z,hd,vs0,r0,dd⟩:=LZ I2.ei e;cases r0;refine ⟨rs,c,dd,λh' oj hs=>⟨.ref s.heap.objs.size,_,?_,rfl,q2⟩⟩;have hz:(vK [] kvs).length<=af:=by grind [oZ,List.length_nil,Rf]
 have he:∃ q,h'.get? s.heap.objs.size=some q:=let ⟨q,_,_,hq,_⟩:=oj; ⟨q,hq⟩
 exact pX I2 (by rw [e]; exact True.intro) hs he (vB hz hd (rk.merge .nil) oj)
structure M1 (X:Cx) (o:ay) (m:aj) (apos:Pos) (e:ay) (gv:Pos):Prop where
 base:attributeBase o m X.env (eval o X.env)=eval o X.env
 kh:((cj gv (ao [e] X.env)).all (λx=>!x.1) && (dg gv (cy [] X.env)).all (λx=>x.1.isSome)
  && decide (([e]:List ay).length+([]:List c8).length+(if ([]:List c8).isEmpty then 0 else 1) < 30))=true
 line:(apos.endLine==gv.line)=true
 trees:cj gv (ao [e] X.env) = [(false,eval e X.env)]
def YI (H:Hp) (a:ae):Prop:=(∃ kvs,Rd H a (.dK kvs))∨∃ kvs,Rd H a (.dT kvs)
theorem aKg {σ:St} {a:ae} (I:Inv X a_ σ H s) (d:YI H a) :
  s.TypeIs (.ref a) "dict" /\ (∀ b,aa.ref a=.ref b->∃ ob,s.heap.get? b=some ob/\ob.dict=none)/\(a==br)=false:=by
 rcases d with ⟨kvs,e⟩ | ⟨kvs,e⟩
 ·obtain ⟨_,hd,vs,_,dd⟩:=lE I.ei e;refine ⟨dd.typeIs,λb q=>?_,hd⟩;cases q;obtain ⟨ob,_,_,h1,h2,_⟩:=dd;exact ⟨ob,h1,h2.2.1⟩
 ·obtain ⟨_,hd,xs,_,dd⟩:=yM I.ei e;refine ⟨dd.typeIs,λb q=>?_,hd⟩;cases q;obtain ⟨ob,_,_,h1,h2,_⟩:=dd;exact ⟨ob,h1,h2.2.1⟩
section
variable {σ:St} {a:ae} {d:V} {r:aa} {o:Option V}
end
def aKh (td ty:TE):TE:=λσ H Q=>td σ H λx H1=>∃ a,x=.ref a/\YI H1 a/\ty σ H1 λy H2=>∃ kvs k v,H2 a=some (.dK kvs)/\y=kV k/\cP kvs k=some v/\Q v (upd H2 a (.dK (pU kvs k)))
section
variable {o f:ay} {tx:TE}
theorem vM (ho:PE X o td) (he:PE X e ty) (m:M1 X o "pop" apos e gv):PE X (.Call (.Attribute o "pop" apos) [e] [] gv) (aKh td ty):=by
 intro a_ s σ H Q I h;refine wpAny_Call_method m.base m.kh m.line Tj Mh PySem.F.type_dict_pop (fc (ho a_ s σ H _ I h) λu s1 q9=>?_);obtain ⟨x,H1,I1,rx,a,ex,d,q1⟩:=q9;subst ex;obtain rfl:u=aa.ref a:=rx;obtain ⟨t1,t2,_⟩:=aKg I1 d;refine ⟨t1,t2,?_⟩;rw [m.trees];refine Calls.callWith_builtin rfl (Calls.evalArgs_plain (Calls.spliced_cons (fc (he a_ s1 σ H1 _ I1 q1) λiv s2 q9=>Calls.spliced_nil ?_)));obtain ⟨y,H2,I2,ry,kvs,k,v,ea,ey,l,q2⟩:=q9;subst ey;exact aLg I2 ea ry l (.inl rfl) λw' s3 I3 js=>⟨v,_,I3,js,q2⟩
end
section
variable {σ:St} {a:ae}
theorem aGo (I:Inv X a_ σ H s) (e:Rd H a (.dK kvs)) (h:∀ p s',H p=none->Inv X a_ σ (upd H p (.dK kvs)) s'->Q (.ref p) s'):aq (ar X.prog X.w) A (call (.type "dict") [.ref a]) Q E s:=by
 obtain ⟨z,hd,vs,rel,dd⟩:=lE I.ei e;refine kt_call_dict hd dd (by rw [<- rel.length]; exact z) λh' oj hs=>h _ _ (I.ei.fresh (Qe _)) (I.laid (a:=s.heap.objs.size) (o:=.dK kvs) (t':=s.toks) (λb q hq=>?_) (Qe _) (vB z (beq_eq_false_iff_ne.mpr (Ne.symm (Qy I.big))) rel oj));exact (hs.2 b (Qy (ag.lt_size hq))).trans (ag.get?_push_of_some _ hq)
end
theorem lF:eQ X (.builtin "len") (λxs H Q=>∃ a kvs,xs = [V.ref a]/\H a=some (.dK kvs)/\Q (.int kvs.length) H):=by
 intro a_ s σ H xs us Q I r h;obtain ⟨a,kvs,rfl,ha,q⟩:=h;obtain ⟨u,rfl,ru⟩:=eU r;cases ru;exact aLh I (.inl ha) λt s' I'=>⟨.int kvs.length,H,I',⟨t,rfl⟩,q⟩
end L2
namespace L2
open PySem PySem.Spec PyProof.Rows PySem.W
noncomputable def o5 (p d:ae):HO:=.ext λh=>h.IsValuesView p d
theorem aLq {p:ae} (v:h.IsValuesView p d):bT P w H h p (o5 p d) :=
 ⟨v,let ⟨o,ho,_⟩:=v; ⟨o,ho⟩,λh1 h2 ⟨o,ho,r⟩ k=>⟨o,k o ho,r⟩⟩
theorem oE:wd X "dict.values" (λx vs H Q=>∃ (a:ae) (kvs:List (Key×V)),x=.ref a/\vs = []/\Rd H a (.dK kvs)/\∀ p,H p=none->Q (.ref p) (upd H p (o5 p a))):=by
 intro a_ s σ H x vs v us Q I rx rv h;obtain ⟨a,kvs,rfl,rfl,e,q⟩:=h;cases rx;cases rv;obtain ⟨z,hd,xs,rel,dd⟩:=lE I.ei e;refine My Tx dd.typeIs PySem.F.entry_dict_values (PySem.F.args_dict_values_1 _) (meets_dict_values (bP X.prog X.w) a hd) ⟨⟨_,dd⟩,?_⟩;have I2:Inv X a_ σ (upd H s.heap.objs.size (o5 s.heap.objs.size a)) { s with heap:=s.heap.push { cls:=.type "dict_values",data:=.fields #[.ref a] } } :=
  I.laid (t':=s.toks) (λb o e=>ag.get?_push_of_some _ e) (Qe _) (aLq ⟨_,ag.get?_push_size _ rfl,rfl,rfl⟩)
 exact ⟨.ref s.heap.objs.size,_,I2,rfl,q _ (I.ei.fresh (Qe s.heap.objs.size))⟩
theorem HP {vs:List (Key×aa)} (r:KV kvs vs) {q:Key×aa} (h:vs[i]?=some q):∃ p,kvs[i]?=some p/\p.1=q.1/\bN p.2 q.2:=by
 unfold KV at r
 induction r generalizing i with
 | nil=>simp at h
 | cons h1 _ ih =>
  cases i with
  | zero=>simp only [List.getElem?_cons_zero,Option.some.injEq] at h ⊢; subst h; exact ⟨_,rfl,h1⟩
  | succ j=>simp only [List.getElem?_cons_succ] at h ⊢; exact ih h
theorem aC0 {vs:List (Key×aa)} (r:KV kvs vs) {acc:Array aa} (h:ItemsOf (λi v=>∃ k,vs[i]?=some (k,v)) acc vs.length):bG (kvs.map (·.2)) acc.toList:=by
 refine tP (by rw [Qa,show acc.toList.length=vs.length from (Array.length_toList).trans h.1]; exact r.length) λj x u hx hu=>?_;obtain ⟨k,hk⟩:=h.2 j u (by simp_all);obtain ⟨p,hp,_,rp⟩:=HP r hk;rw [Qh,hp] at hx;cases hx;exact rp
theorem vN {vs:List (Key×aa)} (r:KV kvs vs) {acc:Array aa} (h:ItemsOf (λi v=>∃ k x,vs[i]?=some (k,x)/\(bP P w).is k v=true) acc vs.length):bG (kvs.map λkv=>kV kv.1) acc.toList:=by
 refine tP (by rw [Qa,show acc.toList.length=vs.length from (Array.length_toList).trans h.1]; exact r.length) λj x u hx hu=>?_;obtain ⟨k,y,hk,hi⟩:=h.2 j u (by simp_all);obtain ⟨p,hp,ek,_⟩:=HP r hk;rw [Qh,hp] at hx;cases hx;show bN (kV p.1) u;rw [ek];exact vD hi
theorem qA (hc:X.calm=true):eQ X (.type "list") (λxs H Q=>∃ (a:ae) (kvs:List (Key×V)),xs = [.ref a]/\Rd H a (.dK kvs)/\∀ p,H p=none->Q (.ref p) (upd H p (.lst (kvs.map λkv=>kV kv.1)))):=by
 intro a_ s σ H xs us Q I r h;obtain ⟨a,kvs,rfl,e,q⟩:=h;obtain ⟨u,rfl,ru⟩:=eU r;cases ru;obtain ⟨z,hd,vs,rel,dd⟩:=lE I.ei e;obtain ⟨ep,da⟩:=dd.dictAt;exact kdl_call (kdl_dict (prog:=X.prog) (w:=X.w) (knd:=bP X.prog X.w) (kvs:=vs) (ep:=ep) hd) (I.ok.hd hc) da (by rw [<- rel.length]; exact z) λh' tk acc c' kp hl hi=>⟨.ref s.heap.objs.size,_,I.laid (t':=tk) kp (Qe _) (show bT X.prog X.w _ h' _ (.lst _) from ⟨by rw [Qa]; exact z,acc.toList,c',vN rel hi,hl⟩),rfl,q _ (I.ei.fresh (Qe _))⟩
theorem nJ (hc:X.calm=true):eQ X (.builtin "sorted") (λxs H Q=>∃ (a:ae) (kvs:List (Key×V)) (ns:LIn),xs = [.ref a]/\Rd H a (.dK kvs)/\(kvs.map λkv=>kV kv.1)=ns.map V.int/\ns.length < 64 /\
  ∀ (p:ae) (ms:LIn),H p=none->ms.Perm ns->ms.Pairwise (·<=·)->Q (.ref p) (upd H p (.lst (ms.map V.int)))):=by
 intro a_ s σ H xs us Q I r h;obtain ⟨a,kvs,ns,rfl,e,ek,R7,q⟩:=h;obtain ⟨u,rfl,ru⟩:=eU r;cases ru;obtain ⟨z,hd,vs,rel,dd⟩:=lE I.ei e;obtain ⟨ep,da⟩:=dd.dictAt;refine aEP R7 (λQ' Et=>?_) λh1 h' tk out Ar k1 k2 pl hi hp ho=>?_
 ·refine kdu_collect (kdl_dict (prog:=X.prog) (w:=X.w) (knd:=bP X.prog X.w) (kvs:=vs) (ep:=ep) hd) (I.ok.hd hc) da (by rw [<- rel.length]; exact z) λh' tk acc kp hi=>?_;have hv:=vN rel hi;rw [ek] at hv;exact Et h' tk _ kp (by simpa using pG hv)
 ·have I1:Inv X a_ σ H { s with heap:=h1,toks:=tk }:=I.kept k1;obtain ⟨n,e'⟩:=pl;have I2:Inv X a_ σ (upd H h1.objs.size (.lst (Ar.map V.int))) { s with heap:=h',toks:=tk } :=
   I1.laid (t':=tk) k2 (Qe _) (show bT X.prog X.w _ _ _ (.lst _) from ⟨by rw [Qa,hp.length_eq,Rf]; omega,out.toList,n,yH hi,by simpa using e'⟩)
  exact ⟨.ref h1.objs.size,_,I2,rfl,q _ Ar (I1.ei.fresh (Qe _)) hp ho⟩
theorem aAn:eQ X (.type "dict") (λxs H Q=>∃ (a:ae) (kvs:List (Key×V)),xs = [.ref a]/\Rd H a (.dK kvs)/\∀ p,H p=none->Q (.ref p) (upd H p (.dK kvs))):=by
 intro a_ s σ H xs us Q I r h;obtain ⟨a,kvs,rfl,e,q⟩:=h;obtain ⟨u,rfl,ru⟩:=eU r;cases ru;exact aGo I e λp s' hp I'=>⟨.ref p,_,I',rfl,q p hp⟩
theorem nK {v : ae} {kvs : List (Key × aa)} (hn : kvs.length <= af) : MeetsIn prog w (ak.«tuple.__new__» ⟨[.type "tuple", .ref v], []⟩) (λA R s => A.handled = none /\ s.heap.IsValuesView v d /\ s.heap.DictAt (bP prog w) d kvs ep /\ ∀ (h' : ag) tk (acc : Array aa), (∀ b o', s.heap.get? b = some o' -> h'.get? b = some o') -> ItemsOf (λi v => ∃ k, kvs[i]? = some (k, v)) acc kvs.length ->
        R (.ok (.ret (.ref h'.objs.size))) { s with heap:=h'.push { cls:=.type "tuple",data:=.seq acc.toList.toArray },toks:=tk }) :=
  .of_wp λA R s h=>by
   obtain ⟨hp,g,dd,tk,os⟩:=s; obtain ⟨hh,hv,da,h⟩:=h;have Fs:=sub_tuple_self;have YO:=init_tuple_lookup;have Gu:=madeHere_tuple;have hT:ah.TypeIs ⟨hp,g,dd,tk,os⟩ (.ref v) "dict_values" := hv.typeIs;obtain ⟨ov,PJ,PU,Gy⟩:=id hv
   wp_walk using Rn PJ,Vq hT,kdu_collect (A:=A.in1) (s:=⟨hp,g,dd,tk,os⟩) (kdl_values (prog:=prog) (w:=w) (knd:=bP prog w) (kvs:=kvs) (ep:=ep)) hh ⟨hv,da⟩ hn
   intro h' ZC acc hk hi;show aq _ _ (ak.Tuple.tupleExact acc.toList.toArray >>= λv=>ret v) _ _ _;unfold ak.Tuple.tupleExact;refine Ra (Ry ?_ (by show acc.toList.toArray.size<=af; rw [Array.toArray_toList,hi.1]; exact hn));exact Rc ⟨_,rfl,h h' ZC acc hk hi⟩
theorem mQ (hc:X.calm=true):eQ X (.type "tuple") (λxs H Q=>∃ (v a:ae) (kvs:List (Key×V)),xs = [.ref v]/\H v=some (o5 v a)/\Rd H a (.dK kvs)/\∀ p,H p=none->Q (.ref p) (upd H p (.tup (kvs.map (·.2))))):=by
 intro a_ s σ H xs us Q I r h;obtain ⟨v,a,kvs,rfl,ev,e,q⟩:=h;obtain ⟨u,rfl,ru⟩:=eU r;cases ru;obtain ⟨z,hd,vs,rel,dd⟩:=lE I.ei e;obtain ⟨ep,da⟩:=dd.dictAt;have hv:s.heap.IsValuesView v a:=(show bT X.prog X.w H s.heap v (o5 v a) from I.ei v _ ev).1;refine callType_newIn PySem.F.called_tuple 'c' (PySem.F.typeCall_tuple_1 _) (PySem.F.newCall_tuple_1 _) (λobj=>Io obj _) PySem.F.entry_tuple_new
  (nK (v:=v) (d:=a) (kvs:=vs) (ep:=ep) (by rw [<- rel.length]; exact z)) ⟨I.ok.hd hc,hv,da,λh' tk acc kp hi=>⟨⟨_,ag.get?_push_size _ rfl,rfl⟩,?_⟩⟩
 have I1:Inv X a_ σ H { s with heap:=by omega}:=I.kept kp;have I2:Inv X a_ σ (upd H h'.objs.size (.tup (kvs.map (·.2)))) { s with heap:=h'.push { cls:=.type "tuple",data:=.seq acc.toList.toArray },toks:=tk } :=
  I1.laid (t':=tk) (λb o e=>ag.get?_push_of_some _ e) (Qe _) (show bT X.prog X.w _ _ _ (.tup _) from ⟨by rw [Qa]; exact z,acc.toList,0,aC0 rel hi,ag.get?_push_size _ rfl⟩)
 exact ⟨.ref h'.objs.size,_,I2,rfl,q _ (I1.ei.fresh (Qe _))⟩
end L2
namespace L2
open PySem PySem.Spec PyProof.Rows
noncomputable def IJ (a:ae) (o:cb) (kvs:List (Key×V)):It :=
 ⟨λi H=>H a=some (.f_ o (.dK kvs))/\i < kvs.length,λi H x H'=>H'=H/\∃ p,kvs[i]?=some p/\x=p.2,λi H=>H a=some (.f_ o (.dK kvs))/\i=kvs.length⟩
theorem aE1 (a it:ae) (o:cb) (es:Array cu) (ep:Nat) (hd:o.data=.dict es ep) (kvs:List (Key×V)) :
  Turn P w K tg (IJ a o kvs) [it] it (λi h=>h.IsValIter it a i kvs.length ep) where
 mem:=by simp
 obj:=λi h st b hb=>by
  have e:b=it:=by simpa using hb
  subst e;obtain ⟨o,e,c,d⟩:=st;exact ⟨o,e,λv z=>by rw [d] at z; cases z⟩
 keep:=λi h h' st k=>st.at λo e=>k it 'b' o e
 item:=by
  intro X hP hw hK hc i a_ s σ H E I hf st hg;subst hP hw hK;obtain ⟨hA,hi⟩:=hg;obtain ⟨ho,hz,hs,vs,kv,dd⟩:s.heap.get? a=some o/\bT X.prog X.w H s.heap a (.dK kvs):=I.ei a _ hA;have hl:kvs.length=vs.length:=kv.length;obtain ⟨f0,f1,f2,f3,f4,f5⟩:=hf it 'b';obtain ⟨⟨k,x⟩,hx⟩:∃ p,vs[i]?=some p:=⟨vs[i]''a',by simp⟩
  rw [hl] at st;refine wpAny_pyNext_values_item st (gA ho hd dd) hx λh' vj sb=>?_;have I1:Inv X a_ σ H { s with heap:=h' }:=I.turned (t':=s.toks) (λb o hb e=>(sb.2 b hb).trans e) f0 f1 f3 f4 f5;obtain ⟨o',e',c',d'⟩:=id vj;obtain ⟨p,hp,_,rp⟩:=HP kv hx;rw [<- hl] at vj;exact ⟨x,rfl,Hw (s:={ s with heap:=h' }) e' c' d' 'c' ⟨p.2,H,I1,rp,⟨rfl,_,hp,rfl⟩,vj,λb hb=>(hf b hb).1⟩⟩
 done:=by
  intro X hP hw hK hc i a_ s σ H E I hf st hg;subst hP hw hK;obtain ⟨hA,hi⟩:=hg;obtain ⟨ho,hz,hs,vs,kv,dd⟩:s.heap.get? a=some o/\bT X.prog X.w H s.heap a (.dK kvs):=I.ei a _ hA;have hl:kvs.length=vs.length:=kv.length;obtain ⟨f0,f1,f2,f3,f4,f5⟩:=hf it 'b';rw [hl] at st;exact wpAny_pyNext_values_end (I.ok.hd hc) st (gA ho hd dd) (by simp_all) λh' eb=>⟨rfl,I.turned (t':=s.toks) (λb o hb e=>eb b o hb e) f0 f1 f3 f4 f5⟩
 self:=λ_ _ _ _ _ st h=>wpAny_pyIter_valiter st h
def aLr (H0:Hp) (td:TE):TI:=λσ H R=>td σ H λx H1=>∃ v a kvs,x=.ref v/\H1 v=some (o5 v a)/\H1 a=some (.dK kvs)/\∀ o,NF H0 a->R (IJ a o kvs) (upd H1 a (.f_ o (.dK kvs)))
theorem aIg {d:ay} (hl:PE X d td):PI X tg d (aLr X.u4 td):=by
 intro a_ s σ H R I h;refine fc (hl a_ s σ H _ I h) λv s1 e_=>?_;obtain ⟨x,H1,I1,r1,q1⟩:=e_;obtain ⟨vw,a,kvs,e,hv,hq,q⟩:=q1;subst e;cases r1;have Kk:s1.heap.IsValuesView vw a:=(show bT X.prog X.w H1 s1.heap vw (o5 vw a) from I1.ei vw _ hv).1;obtain ⟨hz,hs,vs,kv,dd⟩:bT X.prog X.w H1 s1.heap a (.dK kvs):=I1.ei a _ hq;obtain ⟨o,es,ep,ho,oe,hd,r⟩:=id dd;refine wpAny_pyIter_values Kk (gA ho hd dd) ?_;have I2:=(I1.freeze hq ho).kept (h':=s1.heap.push { cls:=.type "dict_valueiterator",data:=.fields #[.ref a,.int 0 0,.int vs.length 0,.int ep 0] }) (t':=s1.toks) λb o e=>ag.get?_push_of_some _ e;have nA:a≠s1.heap.objs.size:=Qy (ag.lt_size ho);refine ⟨s1.heap.objs.size,[s1.heap.objs.size],_,_,_,rfl,I2,aE1 a _ o es ep hd kvs,?_,λb hb=>?_,q o (I1.nf hq)⟩
 ·refine ⟨_,ag.get?_push_size _ rfl,rfl,?_⟩;rw [kv.length]; rfl
 ·have e:b=s1.heap.objs.size:=by simpa using hb
  subst e;exact I1.n_ (Qe _) (by rw [aG (Ne.symm nA)]; exact I1.ei.fresh (Qe _))
def aKi (own:Nat) (fr:List Nat) (td:TE) (g:TG) (tt:TT) (te:TE):TE:=λσ H Q=>td σ H λx H1=>∃ v a kvs,x=.ref v/\H1 v=some (o5 v a)/\H1 a=some (.dK kvs)/\∀ o:cb,ki (IJ a o kvs) [] (h_ own fr σ) (upd H1 a (.f_ o (.dK kvs))) (λys _ H=>∀ p,H p=none->Q (.ref p) (upd (upd H p (.lst ys)) a (.dK kvs))) g tt (sj te)
section
variable {d:ay} {t:TE}
theorem XY (S:fz X scope z own fr ff) (hc:X.calm=true) (hi:PE X d td) (hg:∀ C s0 H0 fp,PG (bW X scope z (own++ff) C s0 H0 fp) tg g) (ht:∀ C s0 H0 fp,PF (bW X scope z (own++ff) C s0 H0 fp) ifs tt)
  (he:∀ C s0 H0 fp,PE (bW X scope z (own++ff) C s0 H0 fp) elt te) (hs:autoParam (∀ x,foldedSetIterable d X.env x=pure x) L2.y_) :
  PE X (.ListComp elt [⟨tg,d,ifs,0⟩] scope pos) (aKi own.length fr td g tt te):=by
 intro a_ s σ H Q I h;refine VL (cM S hc (aIg (S9 hi)) hg ht he hs) a_ s σ H Q I ⟨_,h,λx H1 q=>?_⟩;obtain ⟨v,a,kvs,ex,hv,hx,k⟩:=q;refine ⟨v,a,kvs,ex,hv,hx,λo nf=>?_⟩;obtain ⟨W,w0,wk⟩:=k o;refine ⟨W,w0,λi m ys d9 H' w=>?_⟩;rcases wk i m ys d9 H' w with ⟨st,q⟩ | z
 ·refine .inl ⟨st,λp hp=>⟨a,o,kvs,?_,nf,q p hp⟩⟩;rw [aG (λz=>by rw [<- z,st.1] at hp; cases hp)];exact st.1
 ·exact .inr z
end
theorem yQ {a:ae} {own:Nat} {σ:St} {Q:Hp->List V->Prop} (SH:St->Prop) (Pv:Nat->List V->Hp->Prop) (hn:kvs.length<=af) (jw:SH (h_ own fr σ)) (h0:Pv 0 [] H) (hlen:∀ i ys H,Pv i ys H->ys.length<=i) (hl:∀ i ys H,Pv i ys H->H a=some (.f_ o (.dK kvs))) (hs:∀ i ys σ p H,kvs[i]?=some p->SH σ->Pv i ys H->ys.length < af->g p.2 σ H λfi H2=>tt fi H2 λb H3=>if b=true then te fi H3 λy H4=>ys.length < af/\SH fi/\Pv (i+1) (ys++[y]) H4 else SH fi/\Pv (i+1) ys H3) (hd:∀ ys H,Pv kvs.length ys H->Q H ys) :
  ki (IJ a o kvs) [] (h_ own fr σ) H (λys _ H=>Q H ys) g tt (sj te):=by
 refine jP kvs.length hn SH Pv jw h0 hlen (λys H p=>⟨hl _ _ _ p,rfl⟩) (λi ys H hi p=>⟨hl _ _ _ p,hi⟩) (λi ys σ x H H' hi sh p y hz=>?_) hd;obtain ⟨rfl,v,hv,rfl⟩:=y;exact hs i ys σ v _ hv sh p hz
section
variable {d:ay}
end
section
variable {k:Nat} {ks:List aj} {E:XK} {x:aj} {o:ay} {Z_:List c8} {tk:TA}
end
section
variable {k:Nat} {E:XK} {x:aj} {t:TA}
def aKj (FS:ae->Sp->Prop) (E:XK) (tv:TE) (t:TA):TE:=λσ H Q=>tv σ H λv H1=>∃ f sp,v=.ref f/\FS f sp/\t σ H1 λvs H2=>sp vs H2 Q E
theorem aGp {FS:ae->Sp->Prop} (hF:∀ f sp,FS f sp->∃ fd,c_ X.prog X.w X.K X.mg X.base CX k f fd ps sp/\dU X.K fd ps []/\Ri X.K (.ref f)=true) (hr:dj k X.A) (hx:jI CX X E) (hv:PE X (.Name x p) tv) (ha:PA X (e::es) t) (he:autoParam (ao (e::es) X.env=(false,eval e X.env)::ao es X.env) L2.f') (ke:autoParam ((cj pos (ao es X.env)).any (·.1)=false) L2.f') :
  PE X (.Call (.Name x p) (e::es) [] pos) (aKj FS E tv t):=by
 intro a_ s σ H Q I h;refine Tb (fc (hv a_ s σ H _ I h) λu s1 e_=>?_);obtain ⟨v,H1,I1,rv,f,sp,rfl,C9,q⟩:=e_;obtain rfl:u=aa.ref f:=rv;obtain ⟨fd,F,hb,hk⟩:=hF f sp C9;refine Uj (h₀:=X.base) I.ok.mod.zg hk (fc (ha pos a_ s1 σ H1 _ I1 q) λus s2 ⟨vs,H2,I2,r,q2⟩=>⟨I2.j4,?_⟩) he ke;exact uP F hr hb .nil hx I2 r (by simp_all)
structure BD (P:bq) (w:bx) (K:Rb) (d:ae) (kvs:List (Key×aa)):Prop where
 at_:∀ h:ag,K.In h->h.DictOf (bP P w) d kvs
 ns:(d==br)=false
variable {kvs:List (Key×aa)} {i:ay}
def aLs (kvs:List (Key×aa)) (ty:TE):TE:=λσ H Q=>ty σ H λy H1=>∃ (k:Key) (f:ae),y=kV k/\valueAt kvs k=some (.ref f)/\Q (.ref f) H1
theorem aIh (B:BD X.prog X.w X.K d kvs) (hg:Gl X x) (hm:X.mg x=some (.ref d)) (hi:PE X i ty) (hs:LH i) (lh:autoParam ((x==("__debug__" : aj))=false) L2.iy):PE X (.Subscript (.Name x p) i pos) (aLs kvs ty):=by
 intro a_ s σ H Q I h;refine VP PySem.F.slot_dict_getitem.lookup hs (jN I hg hm (fc (hi a_ s σ H _ I h) λiv s2 e_=>?_) lh);obtain ⟨y,H2,I2,ry,k,f,ey,l,q2⟩:=e_;subst ey;have dd:=B.at_ _ I2.j4;exact ⟨dd.typeIs,Rav (mP ry) dd.mapOf l ⟨.ref f,H2,I2.tok _,rfl,q2⟩⟩
def aMq (kvs:List (Key×aa)) (ty:TE):TE:=λσ H Q=>ty σ H λy H1=>∃ k:Key,y=kV k/\Q (.bl (valueAt kvs k).isSome) H1
theorem aKk (B:BD X.prog X.w X.K d kvs) (hg:Gl X x) (hm:X.mg x=some (.ref d)) (hi:PE X i ty) (lh:autoParam ((x==("__debug__" : aj))=false) L2.iy):PC X .In i (.Name x p) (aMq kvs ty):=by
 intro a_ s σ H Q I h;refine fc (hi a_ s σ H _ I h) λiv s1 e_=>?_;obtain ⟨y,H1,I1,ry,k,ey,q⟩:=e_;subst ey;refine jN I1 hg hm ?_ lh;exact wpAny_in_of (mP ry) B.ns (B.at_ _ I1.j4).mapOf ⟨.bl (valueAt kvs k).isSome,H1,I1.tok _,rfl,q⟩
end
section
variable {it:aa} {D:ae} {env:cz}
theorem vO:compTurn (.DictComp kx vx [⟨tg,iter,[],0⟩,⟨p_,fv,[],0⟩] scope pos) 0 it (.ref D) env=(standAt iter.pos >>= λ_=>pyNext it >>= λr=>match r with
   | none=>pure (.done .next)
   | some v=>letOwnedTupleGo tg it v >>= λ_=>assign tg env v >>= λ_ =>
    (eval fv env >>= λx=>standAt fv.pos >>= λ_=>foldedSetIterable fv env x >>= λx=>holding [x] (pyIter x) >>= λi =>
     runOwn (.compStart (.DictComp kx vx [⟨tg,iter,[],0⟩,⟨p_,fv,[],0⟩] scope pos) 1 i (.ref D) env) env >>= λ_ =>
     again (.compLoop (.DictComp kx vx [⟨tg,iter,[],0⟩,⟨p_,fv,[],0⟩] scope pos) 0 it (.ref D) env))):=by rfl
theorem lY {acc:aa}
  (h0:codeAny (ar prog w) A (.compLoop (.DictComp kx vx [⟨tg,iter,[],0⟩,⟨p_,fv,[],0⟩] scope pos) 1 it acc env) R s)
  (h:aq (ar prog w) A (pyIter it) (λDU s'=>codeAny (ar prog w) A (.compLoop (.DictComp kx vx [⟨tg,iter,[],0⟩,⟨p_,fv,[],0⟩] scope pos) 1 DU acc env) R s')
   (notedBy (ar prog w) A env λx s'=>R (.error x) s') s) :
  codeAny (ar prog w) A (.compStart (.DictComp kx vx [⟨tg,iter,[],0⟩,⟨p_,fv,[],0⟩] scope pos) 1 it acc env) R s:=by
 refine codeAny_of_tree ?_;refine wpAny_notedAt ?_;unfold compStart;refine Ra (wpAny_askSetting (wpAny_ite ?_));split
 ·first
   | exact Ra (Rc (Rc (And.intro rfl h0)))
   | exact Rc (And.intro rfl h0)
 ·first
   | exact Ra (Ut (Ra (Tt (Ra (Ro h (λDU s' h'=>Rc (And.intro rfl h')) λ_ _ x=>x)))))
   | (refine Ra (Ut ?_); show aq _ _ (standAt fv.pos >>= _) _ _ s; exact Ra (Tt (Ra (Ro h (λDU s' h'=>Rc (And.intro rfl h')) λ_ _ x=>x))))
theorem aIi:gq prog w A (.DictComp kx vx [⟨tg,iter,[],0⟩,⟨p_,fv,[],0⟩] scope pos) 0 tg iter [] (Lo (.DictComp kx vx [⟨tg,iter,[],0⟩,⟨p_,fv,[],0⟩] scope pos) fv) where
 CF:=λ_ _ _=>⟨rfl,rfl⟩
 turn:=λit D env=>by
  rw [vO];refine congrArg (standAt iter.pos >>= ·) (funext λ_=>congrArg (pyNext it >>= ·) (funext λr=>?_));cases r with
  | none=>rfl
  | some v =>
   refine congrArg (letOwnedTupleGo tg it v >>= ·) (funext λ_=>congrArg (assign tg env v >>= ·) (funext λ_=>?_));simp only [Yw,pure_bind,if_true,Lo,bind_assoc]
 start:=Mz
theorem aIj:gq prog w A (.DictComp kx vx [⟨tg,iter,[],0⟩,⟨p_,fv,[],0⟩] scope pos) 1 p_ fv [] (Ln kx vx) where
 CF:=λ_ _ _=>⟨rfl,rfl⟩
 turn:=λ_ _ _=>rfl
 start:=lY
end
def aIk (own:Nat) (fr:List Nat) (wi:TI) (g:TG) (r_:TI) (g2:TG) (tk tv:TE):TE:=λσ H Q=>wi σ H λJ H1=>ki J [] (h_ own fr σ) H1 (λys _ H=>∀ p,H p=none->Q (.ref p) (upd H p (.dK ys))) g rJ (F3 r_ g2 (Bg Dx tk tv))
section
variable {wi r_:TI}
theorem aE2 (S:fz X scope z own fr ff) (hc:X.calm=true) (hi:PI X tg iter wi) (hg:∀ C s0 H0 fp,PG (bW X scope z (own++ff) C s0 H0 fp) tg g) (r!:∀ C s0 H0 fp,PI (bW X scope z (own++ff) C s0 H0 fp) p_ fv r_) (AH:∀ C s0 H0 fp,PG (bW X scope z (own++ff) C s0 H0 fp) p_ g2)
  (hk:∀ C s0 H0 fp,PE (bW X scope z (own++ff) C s0 H0 fp) kx tk) (he:∀ C s0 H0 fp,PE (bW X scope z (own++ff) C s0 H0 fp) vx tv) (hs:autoParam (∀ x,foldedSetIterable iter X.env x=pure x) L2.y_) (ug:∀ C s0 H0 fp x,foldedSetIterable fv (bW X scope z (own++ff) C s0 H0 fp).env x=pure x:=by intro _ _ _ _ _; rfl) :
  PE X (.DictComp kx vx [⟨tg,iter,[],0⟩,⟨p_,fv,[],0⟩] scope pos) (aIk own.length fr wi g r_ g2 tk tv) :=
 uT S rfl aIi EM hc (Rar ..) hi hg (λ_ _ _ _=>cQ) (λC s0 H0 fp=>aLe aIj EM (λ_ _ z=>z) hc (ug C s0 H0 fp) (r! C s0 H0 fp) (AH C s0 H0 fp) (S_ EM (hk C s0 H0 fp) (he C s0 H0 fp) λ{D a s H x y kv vv R} _ ⟨hl,its,v,d⟩ r1 r2 ⟨k,ek,lt,q⟩=>by
  subst ek;have qc:=v.length;exact Rak (knd:=bP X.prog X.w) (mP r1) d (λAS xo xm=>⟨AS,_,_,rfl,xm,⟨Qr (eS _ _ _) lt,_,v.put k r2,xo⟩,q⟩) (by simp_all))) hs
  λ⟨hl,its,v,d⟩ hn hm q=>⟨.dK _,⟨hl,hm,its,v,d⟩,q _ hn⟩
end
section
variable {own:Nat} {r_:TI} {σ:St} {Q:Hp->List (Key×V)->Prop}
theorem aBC {a:ae} (Pv:Nat->List (Key×V)->St->Hp->Prop) (h0:Pv 0 [] (h_ own fr σ) H) (hl:∀ i ys σ H,Pv i ys σ H->dm K H a xs) (hs:∀ i x ys σ H,xs[i]?=some x->Pv i ys σ H->g x σ H λfi H2=>F3 r_ g2 (Bg Dx tk tv) ys fi H2 (Pv (i+1))) (hd:∀ ys σ H,Pv xs.length ys σ H->Q H ys):ki (A2 K a) [] (h_ own fr σ) H (λys _ H=>Q H ys) g rJ (F3 r_ g2 (Bg Dx tk tv)):=by
 refine ⟨λi m ys d9 H=>m=xs.length - i/\i<=xs.length/\Pv i ys d9 H,⟨xs.length,by simp,Ji _,h0⟩,?_⟩;rintro i m ys d9 H ⟨rfl,hi,p⟩;have q:=hl _ _ _ _ p;by_cases gh:i < xs.length
 ·refine .inr ⟨⟨xs,xs[i],q,Qc gh⟩,Pv (i+1),λF1 fi H2 p'=>⟨xs.length - (i+1),by omega,rfl,gh,p'⟩,λx H' y=>?_⟩;obtain ⟨e,y⟩:=y;subst e;exact hs i x ys d9 _ (y xs q) p
 ·have e:i=xs.length:=by omega
  subst e;exact .inl ⟨⟨xs,q,Qe _⟩,hd _ _ _ p⟩
theorem aAo {b:ae} {ys:List (Key×V)} {fi:St} {H3:Hp} {N:List (Key×V)->St->Hp->Prop} (Pw:Nat->List (Key×V)->St->Hp->Prop) (h0:Pw 0 ys fi H3) (hl:∀ j ys σ H,Pw j ys σ H->dt K H b zs) (hs:∀ j z ys σ H,zs[j]?=some z->Pw j ys σ H->g2 z σ H λIY H5=>tk IY H5 λkx H6=>tv IY H6 λy H7=>∃ k,kx=kV k/\ys.length < af/\Pw (j+1) (fO ys k y) IY H7) (hd:∀ ys σ H,Pw zs.length ys σ H->N ys σ H) :
  ki (IK K b) ys fi H3 N g2 rJ (Bg Dx tk tv):=by
 refine ⟨λj m ys σ H=>m=zs.length - j/\j<=zs.length/\Pw j ys σ H,⟨zs.length,by simp,Ji _,h0⟩,?_⟩;rintro j m ys σ H ⟨rfl,hj,p⟩;have q:=hl _ _ _ _ p;by_cases gh:j < zs.length
 ·refine .inr ⟨⟨zs,zs[j],q,Qc gh⟩,Pw (j+1),λF1 fi H2 p'=>⟨zs.length - (j+1),by omega,rfl,gh,p'⟩,λx H' y=>?_⟩;obtain ⟨e,y⟩:=y;subst e;exact hs j x ys σ _ (y zs q) p
 ·have e:j=zs.length:=by omega
  subst e;exact .inl ⟨⟨zs,q,Qe _⟩,hd _ _ _ p⟩
end
end L2
namespace L2
open PySem PySem.Spec PyProof.Rows PySem.W
noncomputable def BS (p d:ae):HO:=.ext λh=>h.IsItemsView p d
theorem aGq:wd X "dict.items" (λx vs H Q=>∃ (a:ae) (kvs:List (Key×V)),x=.ref a/\vs = []/\Rd H a (.dK kvs)/\∀ p,H p=none->Q (.ref p) (upd H p (BS p a))):=by
 intro a_ s σ H x vs v us Q I rx rv h;obtain ⟨a,kvs,rfl,rfl,e,q⟩:=h;cases rx;cases rv;obtain ⟨z,hd,xs,rel,dd⟩:=lE I.ei e;refine My Iw dd.typeIs PySem.F.entry_dict_items (PySem.F.args_dict_items_1 _) (meets_dict_items (bP X.prog X.w) a hd) ⟨⟨_,dd⟩,?_⟩;have I2:Inv X a_ σ (upd H s.heap.objs.size (BS s.heap.objs.size a)) { s with heap:=s.heap.push { cls:=.type "dict_items",data:=.fields #[.ref a] } } :=
  I.laid (t':=s.toks) (λb o e=>ag.get?_push_of_some _ e) (Qe _) ⟨⟨_,ag.get?_push_size _ rfl,rfl,rfl⟩,⟨_,ag.get?_push_size _ rfl⟩,λh1 h2 ⟨o,ho,r⟩ k=>⟨o,k o ho,r⟩⟩
 exact ⟨.ref s.heap.objs.size,_,I2,rfl,q _ (I.ei.fresh (Qe s.heap.objs.size))⟩
noncomputable def Nw (a:ae) (o:cb) (kvs:List (Key×V)):It :=
 ⟨λi H=>H a=some (.f_ o (.dK kvs))/\i < kvs.length,λi H x H'=>∃ p q,H p=none/\x=.ref p/\kvs[i]?=some q/\H'=upd H p (.tup [kV q.1,q.2]),λi H=>H a=some (.f_ o (.dK kvs))/\i=kvs.length⟩
theorem aC1 {x1} (a it:ae) (o:cb) (ds:Array cu) (ep:Nat) (hd:o.data=.dict ds ep) (kvs:List (Key×V)) :
  Turn P w K (.Tuple es x1 pos) (Nw a o kvs) [it] it (λi h=>∃ ok ov,IsItemIter h it a i kvs.length ep ok ov) where
 mem:=by simp
 obj:=λi h st b hb=>by
  have e:b=it:=by simpa using hb
  subst e;obtain ⟨ok,ov,e⟩:=st;exact ⟨_,e,λv z=>by cases z⟩
 keep:=λi h h' st k=>by
  obtain ⟨ok,ov,e⟩:=st;exact ⟨ok,ov,k it 'b' _ e⟩
 item:=by
  intro X hP hw hK hc i a_ s σ H E I hf st hg;subst hP hw hK;obtain ⟨ok,ov,st⟩:=st;obtain ⟨hA,hi⟩:=hg;obtain ⟨ho,hz,hs,vs,kv,dd⟩:s.heap.get? a=some o/\bT X.prog X.w H s.heap a (.dK kvs):=I.ei a _ hA;have hl:kvs.length=vs.length:=kv.length;obtain ⟨⟨k,x⟩,hx⟩:∃ p,vs[i]?=some p:=⟨vs[i]''a',by simp⟩
  rw [hl] at st;refine wpAny_pyNext_items_item st (gA ho hd dd) hx λkey h' ir he hT hsz kp=>⟨_,rfl,wpAny_letOwnedTupleGo_items he λh2 Ek OO=>?_⟩
  have Te:s.heap.objs.size≠it:=Nat.ne_of_gt (ag.lt_size st);have GI:h2.get? s.heap.objs.size=some { cls:=.type "tuple",data:=.seq #[key,x] }:=OO.extBut _ _ Te hT;obtain ⟨p,hp,ek,rp⟩:=HP kv hx;have rk:bN (kV p.1) key:=by
   have Y!:p.1=k:=ek;rw [Y!]; exact vD ir
  obtain ⟨f0,f1,f2,f3,f4,f5⟩:=hf it 'b';obtain ⟨u,hu,fu⟩:∃ u,h2.get? it=some u/\u.isFreed=false:=⟨_,Ek,rfl⟩
  have I2:=I.turned (h':=s.heap.update it λ_=>u) (t':=s.toks) (λc o n e=>(ag.get?_update_other _ _ (Ne.symm n)).trans e) f0 f1 f3 f4 f5;have I3:=I2.laid (a:=s.heap.objs.size) (h':=h2) (t':=s.toks) (λc v e=>by
   by_cases n:c=it
   ·subst n;rw [ag.get?_update_self _ st fu] at e;exact hu.trans e
   ·rw [ag.get?_update_other _ _ (Ne.symm n)] at e;exact OO.extBut _ _ n (kp c v n e)) 'b' (show bT X.prog X.w _ _ _ (.tup [kV p.1,p.2]) from ⟨by show 2<=af; rw [Rf]; decide,[key,x],0,.cons rk (.cons rp .nil),GI⟩)
  refine ⟨.ref s.heap.objs.size,_,I3,rfl,⟨s.heap.objs.size,p,I.fresh,rfl,hp,rfl⟩,⟨_,_,by rw [hl]; exact Ek⟩,λc j8=>?_⟩;have ec:c=it:=by simpa using j8
  rw [ec,aG (Ne.symm Te)];exact (hf it 'b').1
 done:=by
  intro X hP hw hK hc i a_ s σ H E I hf st hg;subst hP hw hK;obtain ⟨ok,ov,st⟩:=st;obtain ⟨hA,hi⟩:=hg;obtain ⟨ho,hz,hs,vs,kv,dd⟩:s.heap.get? a=some o/\bT X.prog X.w H s.heap a (.dK kvs):=I.ei a _ hA;have hl:kvs.length=vs.length:=kv.length;obtain ⟨f0,f1,f2,f3,f4,f5⟩:=hf it 'b';rw [hl] at st;exact wpAny_pyNext_items_end (I.ok.hd hc) st (gA ho hd dd) (by simp_all) λh' eb=>⟨rfl,I.turned (t':=s.toks) (λb o hb e=>eb b o hb e) f0 f1 f3 f4 f5⟩
 self:=λ_ _ _ _ _ st h=>by
  obtain ⟨ok,ov,st⟩:=st;exact kcp_self st h
section
variable {x1:Nat}
def aKl (H0:Hp) (td:TE):TI:=λσ H R=>td σ H λx H1=>∃ v a kvs,x=.ref v/\H1 v=some (BS v a)/\H1 a=some (.dK kvs)/\∀ o,NF H0 a->R (Nw a o kvs) (upd H1 a (.f_ o (.dK kvs)))
theorem aGr {d:ay} (hl:PE X d td):PI X (.Tuple es x1 Fh) d (aKl X.u4 td):=by
 intro a_ s σ H R I h;refine fc (hl a_ s σ H _ I h) λv s1 e_=>?_;obtain ⟨x,H1,I1,r1,q1⟩:=e_;obtain ⟨vw,a,kvs,e,hv,hq,q⟩:=q1;subst e;cases r1;have Kk:s1.heap.IsItemsView vw a:=(show bT X.prog X.w H1 s1.heap vw (BS vw a) from I1.ei vw _ hv).1;obtain ⟨hz,hs,vs,kv,dd⟩:bT X.prog X.w H1 s1.heap a (.dK kvs):=I1.ei a _ hq;obtain ⟨o,es,ep,ho,oe,hd,r⟩:=id dd;refine wpAny_pyIter_items Kk (gA ho hd dd) ?_;have I2:=(I1.freeze hq ho).kept (h':=s1.heap.push { cls:=.type "dict_itemiterator",data:=.fields #[.none,.bool false,.ref a,.int 0 0,.int vs.length 0,.int ep 0,.none,.none] }) (t':=s1.toks) λb o e=>ag.get?_push_of_some _ e;have nA:a≠s1.heap.objs.size:=Qy (ag.lt_size ho);refine ⟨s1.heap.objs.size,[s1.heap.objs.size],_,_,_,rfl,I2,aC1 a _ o es ep hd kvs,?_,λb hb=>?_,q o (I1.nf hq)⟩
 ·exact ⟨.none,.none,by rw [kv.length]; exact ag.get?_push_size _ rfl⟩
 ·have e:b=s1.heap.objs.size:=by simpa using hb
  subst e;exact I1.n_ (Qe _) (by rw [aG (Ne.symm nA)]; exact I1.ei.fresh (Qe _))
end
theorem aC2 {a:ae} {own:Nat} {σ:St} {Q:Hp->List V->Prop} (SH:St->Prop) (Pv:Nat->List V->Hp->Prop) (hn:kvs.length<=af) (jw:SH (h_ own fr σ)) (h0:Pv 0 [] H) (hlen:∀ i ys H,Pv i ys H->ys.length<=i) (hl:∀ i ys H,Pv i ys H->H a=some (.f_ o (.dK kvs))) (hs:∀ i ys σ p b H,kvs[i]?=some p->SH σ->Pv i ys H->ys.length < af->H b=none->g (.ref b) σ (upd H b (.tup [kV p.1,p.2])) λfi H2=>tt fi H2 λb H3=>if b=true then te fi H3 λy H4=>ys.length < af/\SH fi/\Pv (i+1) (ys++[y]) H4 else SH fi/\Pv (i+1) ys H3) (hd:∀ ys H,Pv kvs.length ys H->Q H ys) :
  ki (Nw a o kvs) [] (h_ own fr σ) H (λys _ H=>Q H ys) g tt (sj te):=by
 refine jP kvs.length hn SH Pv jw h0 hlen (λys H p=>⟨hl _ _ _ p,rfl⟩) (λi ys H hi p=>⟨hl _ _ _ p,hi⟩) (λi ys σ x H H' hi sh p y hz=>?_) hd;obtain ⟨b,v,hb,rfl,hv,rfl⟩:=y;exact hs i ys σ v b _ hv sh p hz hb
end L2
namespace L2
open PySem PySem.Spec PyProof.Rows
structure Fn (K:Rb) (mg:aj->Option aa) (x:aj) (st:ax) (ps:List aj) (f:ae) (fd:bh):Prop where
 fn:qk K x x st f fd
 ue:mg x=some (.ref f)
 kp:Ri K (.ref f)=true
 bd:dU K fd ps []
theorem fU {x:aj} {st:ax} {k:Nat} {t:TA} (G:Fn X.K X.mg x st ps f fd) (ok:c_ X.prog X.w X.K X.mg X.base d_ k f fd ps sp) (hr:dj k X.A) (hg:Gl X x) (ha:PA X (e::es) t) (lh:autoParam ((x==("__debug__" : aj))=false) L2.iy) (he:autoParam (ao (e::es) X.env=(false,eval e X.env)::ao es X.env) L2.f') (ke:autoParam ((cj pos (ao es X.env)).any (·.1)=false) L2.f') :
  PE X (.Call (.Name x p) (e::es) [] pos) (yB sp [] E0 t):=aHN ok hr hg G.ue G.kp G.bd .nil hX ha lh he ke
structure FF (P:bq) (w:bx) (K:Rb) (mg:aj->Option aa) (base:ag) (CX:xj) (k:Nat) (x:aj) (st:ax) (ps:List aj) (sp:Sp) where
 f:ae
 fd:bh
 g:Fn K mg x st ps f fd
 o:c_ P w K mg base CX k f fd ps sp
theorem bF {x:aj} {st:ax} {k:Nat} {t:TA} (G:FF X.prog X.w X.K X.mg X.base d_ k x st ps sp) (hr:dj k X.A) (hg:Gl X x) (ha:PA X (e::es) t) (lh:autoParam ((x==("__debug__" : aj))=false) L2.iy) (he:autoParam (ao (e::es) X.env=(false,eval e X.env)::ao es X.env) L2.f') (ke:autoParam ((cj pos (ao es X.env)).any (·.1)=false) L2.f') :
  PE X (.Call (.Name x p) (e::es) [] pos) (yB sp [] E0 t):=fU G.g G.o hr hg ha lh he ke
structure Bl (mg:aj->Option aa):Prop where
 isinstance:mg "isinstance" = none
 int:mg "int" = none
 bool:mg "bool" = none
 tuple:mg "tuple" = none
 list:mg "list" = none
 len:mg "len" = none
 all:mg "all" = none
 zip:mg "zip" = none
 range:mg "range" = none
 sorted:mg "sorted" = none
 set:mg "set" = none
 sum:mg "sum" = none
 repr:mg "repr" = none
 enumerate:mg "enumerate" = none
 min:mg "min" = none
 any:mg "any" = none
 dict:mg "dict" = none
 ve:mg "ValueError" = none
 str:mg "str" = none
 max:mg "max" = none
 j_:∃ t,mg "MOST_HANDS" = some (.int 6 t)
 x_:∃ t,mg "MOST_WORKS" = some (.int 12 t)
 N?:∃ t,mg "FIGURES" = some (.str "0123456789" t)
 NP:∃ t,mg "MOST_FIGURES" = some (.int 6 t)
 mw:∃ t,mg "MOST_WEIGHT" = some (.int 99 t)
theorem nL:az "isinstance" = some (.builtin "isinstance"):=by decide +kernel
theorem E3:az "int" = some (.type "int"):=by rfl
theorem aKm:az "bool" = some (.type "bool"):=by rfl
theorem gB:az "tuple" = some (.type "tuple"):=by rfl
theorem MT:az "list" = some (.type "list"):=by rfl
theorem cO:az "len" = some (.builtin "len"):=by decide +kernel
theorem sS:az "all" = some (.builtin "all"):=by decide +kernel
theorem aIl:az "range" = some (.type "range"):=by rfl
theorem XX:az "sorted" = some (.builtin "sorted"):=by decide
theorem S7:az "sum" = some (.builtin "sum"):=by decide
end L2
namespace Ab
open PySem L2
noncomputable def top (i:Nat):ax:=PySem.Challenge.pw_ablehands_k54_desk_refuses.main.body.getD i (.Pass ⟨0,0,0,0⟩)
noncomputable abbrev lZ:ax:=top 16
noncomputable abbrev Hy:ax:=top 76
noncomputable abbrev vP:ax:=top 77
noncomputable abbrev jD:ax:=top 82
noncomputable abbrev vQ:ax:=top 26
noncomputable abbrev tR:ax:=top 38
noncomputable abbrev tS:ax:=top 39
noncomputable abbrev vR:ax:=top 42
noncomputable abbrev tT:ax:=top 43
noncomputable abbrev oF:ax:=top 45
noncomputable abbrev E2:ax:=top 46
noncomputable abbrev lG:ax:=top 47
noncomputable abbrev jR:ax:=top 48
noncomputable abbrev rN:ax:=top 50
noncomputable abbrev qB:ax:=top 54
noncomputable abbrev HN:ax:=top 55
noncomputable abbrev MW:ax:=top 57
noncomputable abbrev vS:ax:=top 58
noncomputable abbrev vT:ax:=top 59
noncomputable abbrev MS:ax:=top 60
noncomputable abbrev oG:ax:=top 61
noncomputable abbrev oH:ax:=top 62
noncomputable abbrev qC:ax:=top 63
noncomputable abbrev rO:ax:=top 64
noncomputable abbrev rP:ax:=top 65
noncomputable abbrev vU:ax:=top 67
noncomputable abbrev tU:ax:=top 78
noncomputable abbrev nM:ax:=top 79
noncomputable abbrev qF:ax:=top 80
noncomputable abbrev vV:ax:=top 81
noncomputable abbrev E1:ax:=top 83
noncomputable abbrev EZ:ax:=top 84
noncomputable abbrev HM:ax:=top 85
noncomputable abbrev fV:ax:=top 36
noncomputable def gC (s:ax):List ax:=match s with
 | .ClassDef _ _ _ b _ _ _ _ _ _ _=>b
 | _=>[]
noncomputable abbrev S5:ax:=top 68
noncomputable abbrev yR:ax:=(gC S5).getD 0 (.Pass ⟨0,0,0,0⟩)
noncomputable abbrev xR:ax:=(gC S5).getD 1 (.Pass ⟨0,0,0,0⟩)
noncomputable abbrev yS:ax:=(gC fV).getD 0 (.Pass ⟨0,0,0,0⟩)
noncomputable abbrev sT:ax:=(gC fV).getD 1 (.Pass ⟨0,0,0,0⟩)
noncomputable abbrev nN:ax:=(gC fV).getD 2 (.Pass ⟨0,0,0,0⟩)
noncomputable abbrev nO:ax:=(gC fV).getD 3 (.Pass ⟨0,0,0,0⟩)
noncomputable abbrev Du:ax:=(gC fV).getD 4 (.Pass ⟨0,0,0,0⟩)
noncomputable abbrev yT:ax:=(gC fV).getD 5 (.Pass ⟨0,0,0,0⟩)
noncomputable abbrev yU:ax:=(gC fV).getD 6 (.Pass ⟨0,0,0,0⟩)
noncomputable abbrev vo:ax:=(gC fV).getD 7 (.Pass ⟨0,0,0,0⟩)
noncomputable abbrev EY:ax:=(gC fV).getD 9 (.Pass ⟨0,0,0,0⟩)
noncomputable abbrev rQ:ax:=(gC fV).getD 10 (.Pass ⟨0,0,0,0⟩)
noncomputable abbrev vW:ax:=(gC fV).getD 12 (.Pass ⟨0,0,0,0⟩)
noncomputable abbrev pI:ax:=top 17
noncomputable abbrev pJ:ax:=top 18
noncomputable abbrev vX:ax:=top 19
noncomputable abbrev HL:ax:=top 20
noncomputable abbrev MR:ax:=top 21
noncomputable abbrev MQ:ax:=top 22
noncomputable abbrev kF:ax:=top 24
noncomputable abbrev MP:ax:=top 25
noncomputable abbrev lH:ax:=top 28
noncomputable abbrev nQ:ax:=top 29
noncomputable abbrev vY:ax:=top 30
noncomputable abbrev lI:ax:=top 31
noncomputable abbrev qG:ax:=top 35
noncomputable abbrev HK:ax:=top 70
noncomputable abbrev nR:ax:=top 71
noncomputable abbrev vZ:ax:=top 72
noncomputable abbrev EW:ax:=top 73
noncomputable abbrev wA:ax:=top 74
noncomputable abbrev HJ:ax:=top 75
noncomputable abbrev Lu:ax:=top 86
noncomputable def gX:au->Bool
 | .int _=>true
 | _=>false
noncomputable def eN:au->Bool
 | .int i=>decide (1<=i) && decide (i<=6)
 | _=>false
noncomputable def gH (j_:Int):Int->List au->Bool
 | _,[]=>true
 | last,.int i::r=>decide (last < i) && decide (i < j_) && gH j_ i r
 | _,_::_=>false
noncomputable def cA (j_:Int):au->Bool
 | .tuple ds=>!ds.isEmpty && gH j_ (-1) ds
 | _=>false
noncomputable def aKo:au->au->Bool
 | .int h,.tuple ws=>decide (1<=h) && decide (h<=6) && decide (ws.length<=12) && ws.all (cA h)
 | _,_=>false
noncomputable def fF:au->Bool
 | .tuple [dh,dw]=>aKo dh dw
 | _=>false
def mB (K:Rb):Sp:=λvs H Q _=>∃ x d,vs = [x]/\Den K H d x/\Q (.bl (gX d)) H
theorem aIm:b_ ["thing"] ["thing"] (aF lZ):=.of
theorem nU (G:Fn K mg "is_whole" lZ ["thing"] f fd) (B:Bl mg):c_ P w K mg base d_ 1 f fd ["thing"] (mB K):=by
 refine G.fn.oK aIm λfe A outer s H vs Q E hr h=>?_
 ·obtain ⟨x,d,rfl,hd,k⟩:=h;refine ⟨_,aI (aP (lR (aK aAb rfl B.isinstance nL (aA (pv 0) (aA (iX (v:=.ty "int") rfl B.int E3 rfl) aC)))
   (kX (aJI (aK xK rfl B.isinstance nL (aA (pv 0) (aA (iX (v:=.ty "bool") rfl B.bool aKm rfl) aC))))))),?_⟩
  dsimp only [cB,Cx.gf];refine ⟨_,rfl,x,mR d,rfl,hd.kd,_,rfl,eP (λc=>?_) (λc=>?_)⟩
  ·refine ⟨_,rfl,x,mR d,rfl,hd.kd,_,rfl,?_⟩;have e:(!decide (mR d=Kd.bl))=gX d:=by
    cases d <;> first | rfl | (exfalso; simp [mR] at c)
   rw [e];exact k
  ·have e:false=gX d:=by
    cases d <;> first | rfl | (exfalso; simp [mR] at c)
   rw [e];exact k
def tV (K:Rb):Sp:=λvs H Q _=>∃ x d,vs = [x]/\Den K H d x/\Q (.bl (eN d)) H
theorem aIn:b_ ["thing"] ["thing"] (aF pI):=.of
theorem XW (G:Fn K mg "are_hands" pI ["thing"] f fd) (B:Bl mg) (W:Fn K mg "is_whole" lZ ["thing"] fW Ex):c_ P w K mg base d_ 2 f fd ["thing"] (tV K):=by
 have GW:c_ P w K mg base d_ 1 fW Ex ["thing"] (mB K):=nU W B;obtain ⟨t6,h6⟩:=B.j_;refine G.fn.oK aIn λfe A outer s H vs Q E hr h=>?_
 ·obtain ⟨x,d,rfl,hd,k⟩:=h;refine ⟨_,aI (aP (lR (fU W GW hr rfl (aA (pv 0) aC))
   (kX (X5 uJ uJ aH (pv 0) (iW (v:=.int 6) rfl h6 ⟨t6,rfl⟩))))),?_⟩
  refine ⟨_,rfl,x,d,rfl,hd,_,rfl,eP (λc=>?_) (λc=>?_)⟩
  ·obtain ⟨i,rfl⟩:∃ i,d=.int i:=by cases d <;> first | exact ⟨_,rfl⟩ | (exfalso; simp [gX] at c)
   obtain rfl:=cU.mp hd;refine ⟨_,rfl,_,_,rfl,rfl,_,rfl,eP (λc1=>?_) (λc1=>?_)⟩
   ·refine ⟨_,_,rfl,rfl,?_⟩;have e:decide (i<=6)=eN (.int i):=by
     show _=(decide (1<=i) && decide (i<=6));rw [c1,Jt]
    show Q (.bl (decide (i<=6))) H;rw [e]; exact k
   ·simp_all [eN,decide,Xu]
  ·have e:false=eN d:=by cases d <;> first | rfl | (exfalso; simp [gX] at c)
   rw [e]; exact k
theorem jJ (h l i:Int) (r:List au):gH h l (.int i::r)=(decide (l < i) && decide (i < h) && gH h i r):=by rfl
theorem wB (h l:Int) (d:au) (r:List au) (n:gX d=false):gH h l (d::r)=false:=by
 cases d <;> first | rfl | (simp [gX] at n)
def tW (K:Rb):Sp:=λvs H Q _=>∃ n x d,vs = [.int n,x]/\Den K H d x/\Q (.bl (cA n d)) H
theorem tX:b_ ["hands", "thing", "last", "hand"] ["hands", "thing"] (aF pJ):=.of
theorem XU (G:Fn K mg "is_work" pJ ["hands", "thing"] f fd) (B:Bl mg) (W:Fn K mg "is_whole" lZ ["thing"] fW Ex):c_ P w K mg base d_ 2 f fd ["hands", "thing"] (tW K):=by
 have GW:c_ P w K mg base d_ 1 fW Ex ["thing"] (mB K):=nU W B;refine G.fn.oK tX λfe A outer s H vs Q E hr h=>?_
 ·obtain ⟨n,x,d,rfl,hd,k⟩:=h;refine ⟨_,aE (bQ (PW.pt (fP (cV (cD (aK eJ rfl B.isinstance nL (aA (pv 1) (aA (iX (v:=.ty "tuple") rfl B.tuple gB rfl) aC)))))
    (eA (aO cY (aK aR rfl B.len cO (aA (pv 1) aC)) aH ft)))) (aI (aP jY)) aW)
   (aE (aU (i:=2) tX.nd rfl eh (LV MO aH))
   (aE (jH bc.never rfl (hG (pv 1)) (aM (i:=3) tX.nd rfl eh)
    (aE (bQ (PW.pt (fP (cV (cD (fU W GW hr rfl (aA (pv 3) aC)))) (fP (aO uJ (pv 3) (pv 2) ft) (eA (aO LU (pv 3) (pv 0) ft))))) (aI (aP jY)) aW)
    (aI (aU (i:=2) tX.nd rfl eh (pv 3)))))
   (aI (aP jY)))),?_⟩
  dsimp only [cB,Cx.gf];refine ⟨_,rfl,x,mR d,rfl,hd.kd,_,rfl,eP (λc=>?_) (λc=>?_)⟩
  ·-- not a tuple
   refine iE ?_;have e:false=cA n d:=by
    cases d <;> first | rfl | (exfalso; simp [mR] at c)
   rw [e]; exact k
  ·obtain ⟨ds,rfl⟩:∃ ds,d=.tuple ds:=by cases d <;> first | exact ⟨_,rfl⟩ | (exfalso; simp [mR] at c)
   obtain ⟨a,xs,rfl,ha,ur⟩:=cJ.mp hd;have hl:=aT ur;refine ⟨_,rfl,a,xs,rfl,.inr ha,rfl,_,rfl,eP (λc2=>?_) (λc2=>?_)⟩
   ·have e:false=cA n (.tuple ds):=by
     have e1:ds = []:=by simp_all
     rw [e1]; rfl
    rw [e]; exact k
   ·have gw:ds≠[]:=by simp_all
    have e0:cA n (.tuple ds)=gH n (-1) ds:=by
     cases ds with
     | nil=>exact absurd rfl gw
     | cons _ _=>rfl
    rw [e0] at k;refine ⟨_,rfl,?_⟩;refine ⟨_,rfl,a,rfl,⟨xs,ha⟩,gR .t (K:=K) (a:=a) (xs:=xs) (λi σ H2=>∃ (last:Int) (v:Option V),σ = [some (.int n),some (.ref a),some (.int last),v]/\H2=H/\gH n (-1) ds=gH n last (ds.drop i))
     ⟨-1,none,rfl,rfl,rfl⟩ (λi σ H2 _ ⟨_,_,_,e,_⟩=>by rw [e]; exact ha) ?_ ?_⟩
    ·rintro i y σ H2 hi ⟨last,v,rfl,rfl,jt⟩;obtain ⟨dy,v!,vd⟩:=iR ur hi;have pe:ds.drop i=dy::ds.drop (i+1):=by
      obtain ⟨gh,e⟩:=Qb.mp v!;rw [Zw gh,e]
     rw [pe] at jt;refine ⟨_,rfl,y,dy,rfl,vd,_,rfl,eP (λc3=>?_) (λc3=>?_)⟩
     ·refine iE ?_;have e:false=gH n (-1) ds:=by simp_all [wB]
      rw [e]; exact k
     ·obtain ⟨j,rfl⟩:∃ j,dy=.int j:=by cases dy <;> first | exact ⟨_,rfl⟩ | (exfalso; simp [gX] at c3)
      obtain rfl:=cU.mp vd;rw [jJ] at jt;refine ⟨_,rfl,_,rfl,_,_,rfl,rfl,_,rfl,eP (λc4=>?_) (λc4=>?_)⟩
      ·refine iE ?_;have EI:j<=last:=of_decide_eq_true c4;have e:false=gH n (-1) ds:=by rw [jt,decide_eq_false (by simp_all)]; rfl
       rw [e]; exact k
      ·have EI:¬ j<=last:=λz=>c4 (decide_eq_true z);refine ⟨_,rfl,_,rfl,_,_,rfl,rfl,_,rfl,eP (λc5=>?_) (λc5=>?_)⟩
       ·have c5':n<=j:=of_decide_eq_true c5;have e:false=gH n (-1) ds:=by rw [jt,decide_eq_false (by omega:¬ j < n),Zx]; rfl
        rw [e]; exact k
       ·have c5':¬ n<=j:=λz=>c5 (decide_eq_true z);refine ⟨_,rfl,j,some (.int j),rfl,rfl,?_⟩;rw [jt,decide_eq_true (by simp_all),decide_eq_true (by simp_all)];rfl
    ·rintro σ H2 ⟨last,v,rfl,rfl,jt⟩;have e:true=gH n (-1) ds:=by
      rw [jt,hl,List.drop_length];rfl
     rw [e]; exact k
theorem aIo {σ:St} {A B:Hp->Prop} (h:A H):rJ σ H λb H3=>if b=true then A H3 else B H3:=by assumption
theorem bX {x:V} {σ:St} {A B:St->Hp->Prop} (h:A (σ.set i (some x)) H):gI i x σ H λfi H2=>rJ fi H2 λb H3=>if b=true then A fi H3 else B fi H3:=by assumption
def VH (K:Rb):Sp:=λvs H Q _=>∃ x d,vs = [x]/\Den K H d x/\∀ H',aD H H'->Q (.bl (fF d)) H'
theorem MV:b_ ["thing", "hands", "works"] ["thing"] (aF vX):=.of
theorem aGs {Sh Sg:bh} (G:Fn K mg "is_book" vX ["thing"] f fd) (B:Bl mg) (W:Fn K mg "is_whole" lZ ["thing"] fW Ex) (GH:Fn K mg "are_hands" pI ["thing"] fH Sh) (GK:Fn K mg "is_work" pJ ["hands", "thing"] fK Sg):c_ P w K mg base d_ 3 f fd ["thing"] (VH K):=by
 have OH:c_ P w K mg base d_ 2 fH Sh ["thing"] (tV K):=XW GH B W;have OK:c_ P w K mg base d_ 2 fK Sg ["hands", "thing"] (tW K):=XU GK B W;obtain ⟨JB,oi⟩:=B.x_;refine G.fn.oK MV λfe A outer s H vs Q E hr h=>?_
 ·obtain ⟨x,d,rfl,hd,k⟩:=h;refine ⟨_,aE (bQ (PW.pt (fP (cV (cD (aK eJ rfl B.isinstance nL (aA (pv 0) (aA (iX (v:=.ty "tuple") rfl B.tuple gB rfl) aC)))))
    (eA (aO iB (aK aR rfl B.len cO (aA (pv 0) aC)) aH ft)))) (aI (aP jY)) aW)
   (aE (pB (pv 0) (lS rfl (bD (aM (i:=1) MV.nd rfl (Or.inr rfl)) (bD (aM (i:=2) MV.nd rfl eh) eT))))
   (aE (bQ (cV (cD (fU GH OH hr rfl (aA (pv 1) aC)))) (aI (aP jY)) aW)
   (aE (bQ (PW.pt (fP (cV (cD (aK eJ rfl B.isinstance nL (aA (pv 2) (aA (iX (v:=.ty "tuple") rfl B.tuple gB rfl) aC)))))
    (eA (aO oV (aK aR rfl B.len cO (aA (pv 2) aC)) (iW (v:=.int 12) rfl oi ⟨JB,rfl⟩) ft)))) (aI (aP jY)) aW)
   (aI (aP (aK (jB rfl) rfl B.all sS (aA
    (cM (own:=["work"]) (fr:=[1]) (ff:=["hands"]) (aX (aF vX) ["thing", "hands", "works"] rfl rfl 'd') rfl (hG (pv 2))
     (λ_ _ _ _=>aM (i:=0) (show (["work", "hands"]:List aj).Nodup by decide +kernel) rfl eh) (λ_ _ _ _=>cQ) (λ_ _ _ _=>fU GK OK hr rfl (aA (pv 1) (aA (pv 0) aC)))) aC))))))),?_⟩
  dsimp only [cB,Cx.gf];refine ⟨_,rfl,x,mR d,rfl,hd.kd,_,rfl,eP (λc=>?_) (λc=>?_)⟩
  ·refine iE ?_;have e:false=fF d:=by
    cases d <;> first | rfl | (exfalso; simp [mR] at c)
   rw [e]; exact k H (aD.refl H)
  ·obtain ⟨ds,rfl⟩:∃ ds,d=.tuple ds:=by cases d <;> first | exact ⟨_,rfl⟩ | (exfalso; simp [mR] at c)
   obtain ⟨a,xs,rfl,ha,ur⟩:=cJ.mp hd;have hl:=aT ur;refine ⟨_,rfl,a,xs,rfl,.inr ha,rfl,_,rfl,eP (λc2=>?_) (λc2=>?_)⟩
   ·have e:false=fF (.tuple ds):=by
     match ds,hl,c2 with
     | [],_,_=>rfl
     | [_],_,_=>rfl
     | [_,_],hl,c2=>exfalso; rw [hl] at c2; simp at c2
     | _::_::_::_,_,_=>rfl
    rw [e]; exact k H (aD.refl H)
   ·obtain ⟨dh,dw,rfl⟩:∃ dh dw,ds = [dh,dw]:=by
     match ds,hl,c2 with
     | [],hl,c2=>exfalso; rw [hl] at c2; simp at c2
     | [_],hl,c2=>exfalso; rw [hl] at c2; simp at c2
     | [p,q],_,_=>exact ⟨p,q,rfl⟩
     | p::q::r::t,hl,c2=>exfalso; apply c2; rw [hl]; simp; omega
    obtain ⟨xh,r1,rfl,hh,h2⟩:=aQ.mp ur;obtain ⟨xw,r2,rfl,hw,h3⟩:=aQ.mp h2;obtain rfl:=bB.mp h3
    -- hands,works=thing
    refine ⟨_,rfl,a,_,rfl,ha,rfl,_,_,rfl,_,_,rfl,rfl,?_⟩
    -- are_hands(hands)
    refine ⟨_,rfl,xh,dh,rfl,hh,_,rfl,eP (λc3=>?_) (λc3=>?_)⟩
    ·have e:false=fF (.tuple [dh,dw]):=by
      have EJ:eN dh=false:=by simpa using c3
      cases dh with
      | int n =>
       cases dw with
       | tuple ws =>
        have c4:(decide (1<=n) && decide (n<=6))=false:=EJ;show _=(decide (1<=n) && decide (n<=6) && decide (ws.length<=12) && ws.all (cA n));rw [c4]; rfl
       | _=>rfl
      | _=>rfl
     rw [e]; exact k H (aD.refl H)
    ·obtain ⟨n,rfl,hn⟩:∃ n,dh=.int n/\(decide (1<=n) && decide (n<=6))=true:=by
      cases dh <;> first | exact ⟨_,rfl,by simpa [eN] using c3⟩ | (exfalso; simp [eN] at c3)
     obtain rfl:=cU.mp hh;refine ⟨_,rfl,xw,mR dw,rfl,hw.kd,_,rfl,eP (λc5=>?_) (λc5=>?_)⟩
     ·refine iE ?_;have e:false=fF (.tuple [.int n,dw]):=by
       cases dw <;> first | rfl | (exfalso; simp [mR] at c5)
      rw [e]; exact k H (aD.refl H)
     ·obtain ⟨ws,rfl⟩:∃ ws,dw=.tuple ws:=by cases dw <;> first | exact ⟨_,rfl⟩ | (exfalso; simp [mR] at c5)
      obtain ⟨b,ys,rfl,hb,j5⟩:=cJ.mp hw;have C4:=aT j5;have eB:fF (.tuple [.int n,.tuple ws])=(decide (ws.length<=12) && ws.all (cA n)):=by
       show (decide (1<=n) && decide (n<=6) && decide (ws.length<=12) && ws.all (cA n))=_;rw [hn,Jt]
      rw [eB] at k;refine ⟨_,rfl,b,ys,rfl,.inr hb,_,_,rfl,rfl,_,rfl,eP (λc6=>?_) (λc6=>?_)⟩
      ·have c6':(12:Int) < ys.length:=of_decide_eq_true c6;have e:false=(decide (ws.length<=12) && ws.all (cA n)):=by rw [decide_eq_false (by grind)]; rfl
       rw [e]; exact k H (aD.refl H)
      ·have c6':¬ (12:Int) < ys.length:=λz=>c6 (decide_eq_true z);have e1:decide (ws.length<=12)=true:=by grind
       rw [e1,Jt] at k;refine ⟨_,rfl,b,rfl,⟨ys,hb⟩,kB (K:=K) (a:=b) (xs:=ys) (λσ=>∃ v,σ = [v,some (.int n)]) (λi zs H2=>H2=H/\zs=((ws.take i).map (cA n)).map V.bl) ?_ ⟨none,rfl⟩ ⟨rfl,rfl⟩ ?_ ?_ ?_ ?_⟩
       ·grind [Rf]
       ·rintro i zs H2 ⟨_,rfl⟩;rw [Qa,Qa,Qs]; omega
       ·grind
       ·rintro i zs σ x H2 hx ⟨v,rfl⟩ ⟨rfl,rfl⟩ hz;obtain ⟨dx,KL,vd⟩:=iR j5 hx;refine bX ⟨_,rfl,_,rfl,n,x,dx,rfl,vd,hz,⟨some x,rfl⟩,rfl,?_⟩;rw [Jw,KL];simp
       ·rintro zs H2 ⟨rfl,rfl⟩ p hp;refine ⟨p,_,rfl,dm.of aB,?_⟩;have e2:((ws.take ys.length).map (cA n)).all id=ws.all (cA n):=by simp_all
        rw [e2];exact k _ (aD.new hp)
noncomputable def cR (l:LIn):au:=.tuple (l.map .int)
noncomputable def gM (n:Int) (ws:List (LIn)):au:=.tuple [.int n,.tuple (ws.map cR)]
noncomputable def yV (hs:LIn):au:=.tuple (hs.map .int)
noncomputable def iH:au->LIn->Bool
 | .int i,l=>l.any (·==i)
 | _,_=>false
noncomputable def sU (ws:List (LIn)):au->Bool
 | .tuple hs=>decide (hs.length=ws.length) && (hs.zip ws).all λp=>iH p.1 p.2
 | _=>false
theorem iS (l:LIn):(l.map V.int).all pQ=true:=by
 rw [Ws];exact Jo.mpr λ_ _=>rfl
theorem V_ (i:Int) (l:LIn):uf (.int i) (l.map V.int)=l.any (·==i):=by
 unfold uf;rw [Yu];rfl
theorem iI {n:Int} {x:V} (h:Den K H (gM n ws) x):∃ a b ys,x=.ref a/\dt K H a [.int n,.ref b]/\dt K H b ys/\bC K H (ws.map cR) ys:=by
 obtain ⟨a,xs,rfl,ha,ur⟩:=cJ.mp h;obtain ⟨xh,r1,rfl,hh,h2⟩:=aQ.mp ur;obtain ⟨xw,r2,rfl,hw,h3⟩:=aQ.mp h2;obtain rfl:=bB.mp h3;obtain rfl:=cU.mp hh;obtain ⟨b,ys,rfl,hb,sx⟩:=cJ.mp hw;exact ⟨a,b,ys,rfl,ha,hb,sx⟩
theorem aV {n:Int} (h:fF (gM n ws)=true):1<=n/\n<=6/\ws.length<=12/\∀ l∈ws,cA n (cR l)=true:=by
 have h':(decide (1<=n) && decide (n<=6) && decide ((ws.map cR).length<=12) && (ws.map cR).all (cA n))=true:=h;simp only [Qt,decide_eq_true_eq,Qa,Jo] at h';exact ⟨h'.1.1.1,h'.1.1.2,h'.1.2,λl hl=>h'.2 _ (Jc.mpr ⟨l,hl,rfl⟩)⟩
theorem oI {k:Nat} {t:y9} (hK:X.K=K) (hc:X.calm=true) (h:Dw X es t) (hn:autoParam ((assignEach es X.env).length=n) L2.f') (jx:autoParam ((assignEach es X.env).findIdx? (·.1)=none) L2.f'):PG X (.Tuple es k pos) (SV K n t):=by
 subst hK;exact lS hc h hn jx
theorem iT (hK:X.K=K):gy X (bj .In) (DL K false):=by subst hK; exact rG
theorem xS (hK:X.K=K):eQ X (.builtin "len") (λxs H Q=>∃ p ys,xs = [.ref p]/\(dm K H p ys∨dt K H p ys)/\Q (.int ys.length) H):=by subst hK; exact aR
theorem wC (hK:X.K=K):eQ X (.type "tuple") (λxs H Q=>∃ p ys,xs = [.ref p]/\((dm K H p ys/\∀ l,H l=none->Q (.ref l) (upd H l (.tup ys)))∨(dt K H p ys/\Q (.ref p) H))):=by subst hK; exact gK
theorem aC8 (hK:X.K=K):wd X "tuple.count" (λx vs H Q=>∃ (a:ae) (ns:LIn) (n:Int),x=.ref a/\vs = [.int n]/\dt K H a (ns.map V.int)/\Q (.int (ns.count n:Nat)) H):=by subst hK; exact aEO
section
structure Pr (K:Rb) (mg:aj->Option aa) (fW fH fK fB uw fD wa fL:ae) (dW dH dK dB uy dD wb dL:bh):Prop where
 W:Fn K mg "is_whole" lZ ["thing"] fW dW
 H:Fn K mg "are_hands" pI ["thing"] fH dH
 Kw:Fn K mg "is_work" pJ ["hands", "thing"] fK dK
 B:Fn K mg "is_book" vX ["thing"] fB dB
 NB:Fn K mg "need_book" MR ["book"] uw uy
 D:Fn K mg "is_deal" HL ["book", "thing"] fD dD
 ND:Fn K mg "need_deal" MQ ["book", "deal"] wa wb
 C:∃ f d,Fn K mg "counted" kF ["hands", "deal"] f d
 L:Fn K mg "loads" MP ["book", "deal"] fL dL
variable {dK:bh}
def MU (K:Rb):Sp:=λvs H Q _=>∃ x d,vs = [x]/\Den K H d x/\fF d=true/\∀ H',aD H H'->Q .fk H'
theorem aIp:b_ ["book"] ["book"] (aF MR):=.of
theorem XT (B:Bl mg) (R:Pr K mg fW fH fK fB uw fD wa fL dW dH dK dB uy dD wb dL):c_ P w K mg base d_ 4 uw uy ["book"] (MU K):=by
 have OB:c_ P w K mg base d_ 3 fB dB ["thing"] (VH K):=aGs R.B B R.W R.H R.Kw;refine R.NB.fn.oK aIp λfe A outer s H vs Q E hr h=>?_
 ·obtain ⟨x,d,rfl,hd,hb,k⟩:=h;refine ⟨_,aI (bQ (cV (cD (fU R.B OB hr rfl (aA (pv 0) aC)))) cW aW),_,rfl,x,d,rfl,hd,λH' hs=>⟨_,rfl,?_⟩⟩;rw [hb];exact iQ (k H' hs)
def V' (K:Rb):Sp:=λvs H Q _=>∃ x y n ws d,vs = [x,y]/\Den K H (gM n ws) x/\fF (gM n ws)=true/\Den K H d y/\∀ H',aD H H'->Q (.bl (sU ws d)) H'
theorem V9:b_ ["book", "thing", "works"] ["book", "thing"] (aF HL):=.of
theorem aGt (B:Bl mg) (R:Pr K mg fW fH fK fB uw fD wa fL dW dH dK dB uy dD wb dL):c_ P w K mg base d_ 5 fD dD ["book", "thing"] (V' K):=by
 have ON:c_ P w K mg base d_ 4 uw uy ["book"] (MU K):=XT B R;have OW:c_ P w K mg base d_ 1 fW dW ["thing"] (mB K):=nU R.W B;refine R.D.fn.oK V9 λfe A outer s H vs Q E hr h=>?_
 ·obtain ⟨x,y,n,ws,d,rfl,hx,hb,hd,k⟩:=h;have Bs:dj 1 _:=hr.mono 'c';refine ⟨_,aE (bY (fU R.NB ON hr rfl (aA (pv 0) aC)))
   (aE (aU (i:=2) V9.nd rfl eh (bM dN (pv 0) aH gb))
   (aE (bQ (PW.pt (fP (cV (cD (aK eJ rfl B.isinstance nL (aA (pv 1) (aA (iX (v:=.ty "tuple") rfl B.tuple gB rfl) aC)))))
    (eA (aO iB (aK aR rfl B.len cO (aA (pv 1) aC)) (aK aR rfl B.len cO (aA (pv 2) aC)) ft)))) (aI (aP jY)) aW)
   (aI (aP (aK (jB rfl) rfl B.all sS (aA
    (cM (own:=["hand", "able"]) (fr:=[]) (ff:=[]) (aX (aF HL) ["book", "thing", "works"] rfl rfl 'd') rfl (aJ1 .t .t rfl B.zip (aA (pv 1) (aA (pv 2) aC)))
     (λ_ _ _ _=>oI (K:=K) (n:=2) rfl rfl (bD (aM (i:=0) (show (["hand", "able"]:List aj).Nodup by decide +kernel) rfl eh) (bD (aM (i:=1) (show (["hand", "able"]:List aj).Nodup by decide +kernel) rfl eh) eT)))
     (λ_ _ _ _=>cQ) (λ_ _ _ _=>lR (fU R.W OW Bs rfl (aA (pv 0) aC)) (kX (cL (iT (K:=K) rfl) (pv 0) (pv 1) (by rfl))))) aC)))))),?_⟩
  dsimp only [cB,Cx.gf];refine ⟨_,rfl,x,gM n ws,rfl,hx,hb,λH1 s1=>?_⟩;have Eo:=s1.den _ _ hd;obtain ⟨a,b,ys,rfl,ha,zq,sx⟩:=iI (s1.den _ _ hx);have C4:=aT sx;rw [Qa] at C4;refine ⟨_,rfl,a,_,1,.ref b,rfl,rfl,ha,rfl,_,rfl,y,mR d,rfl,Eo.kd,_,rfl,?_⟩;refine eP (λc=>?_) (λc=>?_)
  ·refine iE ?_;have e:false=sU ws d:=by
    cases d <;> first | rfl | (exfalso; simp [mR] at c)
   rw [e]; exact k H1 s1
  ·obtain ⟨hs,rfl⟩:∃ hs,d=.tuple hs:=by cases d <;> first | exact ⟨_,rfl⟩ | (exfalso; simp [mR] at c)
   obtain ⟨a2,xs,rfl,KU,zh⟩:=cJ.mp Eo;have hlx:=aT zh;refine ⟨_,rfl,a2,xs,rfl,.inr KU,_,rfl,b,ys,rfl,.inr zq,rfl,_,rfl,eP (λc2=>?_) (λc2=>?_)⟩
   ·have e:false=sU ws (.tuple hs):=by
     show _=(decide (hs.length=ws.length) && (hs.zip ws).all λp=>iH p.1 p.2);rw [decide_eq_false]
     ·rfl
     ·grind
    rw [e]; exact k H1 s1
   ·have heq:xs.length=ys.length:=by grind
    have e0:sU ws (.tuple hs)=(hs.zip ws).all λp=>iH p.1 p.2:=by
     show (decide (hs.length=ws.length) && _)=_;rw [decide_eq_true (by simp_all),Jt]
    rw [e0] at k;obtain ⟨_,_,oi,_⟩:=aV hb;refine ⟨_,rfl,_,rfl,a2,b,xs,ys,rfl,KU,zq,aFZ (K:=K) (k1:=.t) (k2:=.t) (a:=a2) (b:=b) (xs:=xs) (ys:=ys) (λσ=>∃ u v,σ = [u,v]) (λi zs H2=>aD H1 H2/\zs=(((hs.zip ws).take i).map λp=>iH p.1 p.2).map V.bl) ?_ heq ⟨none,none,rfl⟩ ⟨aD.refl H1,rfl⟩ ?_ ?_ ?_ ?_⟩
    ·grind [Rf]
    ·rintro i zs H2 ⟨_,rfl⟩;rw [Qa,Qa,Qs]; omega
    ·rintro i zs H2 ⟨s2,_⟩;exact ⟨s2.di KU,s2.di zq⟩
    ·rintro i zs σ u v p H2 hu hv ⟨u0,v0,rfl⟩ ⟨s2,rfl⟩ hp hz;obtain ⟨du,v?,FL⟩:=iR zh hu;obtain ⟨dv,Gy,Cs⟩:=iR sx hv;rw [Qh] at Gy;obtain ⟨l,hl,rfl⟩:∃ l,ws[i]?=some l/\cR l=dv:=by simp_all
     have s3:aD H1 (upd H2 p (.tup [u,v])):=s2.trans (aD.new hp);have aac:(hs.zip ws)[i]?=some (du,l):=by rw [Jh]; exact ⟨v?,hl⟩
     have Bd:(((hs.zip ws).take (i+1)).map λp=>iH p.1 p.2).map V.bl=(((hs.zip ws).take i).map λp=>iH p.1 p.2).map V.bl++[V.bl (iH du l)]:=by simp_all [Jw]
     refine ⟨p,_,rfl,dt.of aB,rfl,_,_,rfl,_,_,rfl,rfl,aIo ?_⟩;refine ⟨_,rfl,u,du,rfl,s3.den _ _ FL,_,rfl,eP (λc3=>?_) (λc3=>?_)⟩
     ·obtain ⟨j,rfl⟩:∃ j,du=.int j:=by cases du <;> first | exact ⟨_,rfl⟩ | (exfalso; simp [gX] at c3)
      obtain rfl:=cU.mp FL;obtain ⟨av,rfl,A!⟩:=bK.mp Cs;refine ⟨_,rfl,_,rfl,av,_,rfl,.inr (s3.di A!),rfl,iS l,hz,⟨_,_,rfl⟩,s3,?_⟩;rw [Bd];rw [V_];rfl
     ·have e:iH du l=false:=by cases du <;> first | rfl | (exfalso; simp [gX] at c3)
      refine ⟨hz,⟨_,_,rfl⟩,s3,?_⟩;rw [Bd,e]
    ·rintro zs H2 ⟨s2,rfl⟩ p hp;refine ⟨p,_,rfl,dm.of aB,?_⟩;have e2:(((hs.zip ws).take xs.length).map λp=>iH p.1 p.2).all id=(hs.zip ws).all λp=>iH p.1 p.2:=by simp_all [Jf,Zh,Ws]
     rw [e2];exact k _ (s1.trans (s2.trans (aD.new hp)))
end
noncomputable def cT (n:Int) (hs:LIn):LIn:=(fN n.toNat).map λh=>((hs.count h:Nat):Int)
noncomputable def pK (n:Int) (hs:LIn):Int:=fQ ((cT n hs).map λl=>l*(l+1) / 2)
theorem wD (h:i < n):(fN n)[i]?=some (i:Int):=by
 unfold fN;rw [Qh,Qae h];rfl
theorem fX (n:Nat):(fN n).length=n:=by simp [fN,Qa,List.length_range]
theorem kG {o:ay} {t:TA} {id:String} {r:V->List V->Hp->VK->Prop} (hK:X.K=K) (pa:PlainAttrs T) (slot:Slot T name id) (CU:typeOf (.builtin id)=pure (.type "method_descriptor")) (hm:wd X id r) (ho:PE X o to) (ha:PA X (e::es) t) (pj:autoParam (attributeBase o name X.env (eval o X.env)=eval o X.env) L2.f') (Cf:autoParam (((cj gv (ao (e::es) X.env)).all (λx=>!x.1) && (dg gv (cy [] X.env)).all (λx=>x.1.isSome)
   && decide ((e::es).length+([]:List c8).length+(if ([]:List c8).isEmpty then 0 else 1) < 30))=true) L2.f') (o_:autoParam ((apos.endLine==gv.line)=true) L2.f') (hs:autoParam (ao (e::es) X.env=(false,eval e X.env)::ao es X.env) L2.f') (yg:autoParam ((cj gv (ao es X.env)).any (·.1)=false) L2.f') :
  PE X (.Call (.Attribute o name apos) (e::es) [] gv) (F5 K T r to t):=by
 subst hK;exact kN pa slot CU hm ho ha pj Cf o_ hs yg
section
variable {dK:bh}
def rR (K:Rb) (H:Hp) (x y:V) (n:Int) (ws:List (LIn)) (hs:LIn):Prop:=Den K H (gM n ws) x/\fF (gM n ws)=true/\Den K H (yV hs) y/\sU ws (yV hs)=true
theorem rR.same {x:V} {n:Int} (g:rR K H x y n ws hs) (e:aD H H'):rR K H' x y n ws hs:=⟨e.den _ _ g.1,g.2.1,e.den _ _ g.2.2.1,g.2.2.2⟩
theorem rR.len {x:V} {n:Int} (g:rR K H x y n ws hs):hs.length<=12/\1<=n/\n<=6:=by
 obtain ⟨h1,h2,h3,_⟩:=aV g.2.1;have h:(decide ((hs.map au.int).length=ws.length) && ((hs.map au.int).zip ws).all λp=>iH p.1 p.2)=true:=g.2.2.2;simp only [Qt,decide_eq_true_eq,Qa] at h;omega
def V8 (K:Rb):Sp:=λvs H Q _=>∃ x y n ws hs,vs = [x,y]/\rR K H x y n ws hs/\∀ H',aD H H'->Q .fk H'
theorem aIq:b_ ["book", "deal"] ["book", "deal"] (aF MQ):=.of
theorem aGu (B:Bl mg) (R:Pr K mg fW fH fK fB uw fD wa fL dW dH dK dB uy dD wb dL):c_ P w K mg base d_ 6 wa wb ["book", "deal"] (V8 K):=by
 have OD:c_ P w K mg base d_ 5 fD dD ["book", "thing"] (V' K):=aGt B R;refine R.ND.fn.oK aIq λfe A outer s H vs Q E hr h=>?_
 ·obtain ⟨x,y,n,ws,hs,rfl,⟨g1,g2,g3,g4⟩,k⟩:=h;refine ⟨_,aI (bQ (cV (cD (fU R.D OD hr rfl (aA (pv 0) (aA (pv 1) aC))))) cW aW),_,rfl,_,rfl,x,y,n,ws,yV hs,rfl,g1,g2,g3,λH' hs=>⟨_,rfl,?_⟩⟩;rw [g4];exact iQ (k H' hs)
def oJ (K:Rb):Sp:=λvs H Q _=>∃ (n:Int) (b:ae) (hs:LIn),vs = [.int n,.ref b]/\dt K H b (hs.map V.int)/\0<=n/\n<=6/\∀ p H',aD H H'->H' p=some (.tup ((cT n hs).map V.int))->Q (.ref p) H'
theorem aE4:b_ ["hands", "deal"] ["hands", "deal"] (aF kF):=.of
theorem pL (G:Fn K mg "counted" kF ["hands", "deal"] f fd) (B:Bl mg):c_ P w K mg base d_ 1 f fd ["hands", "deal"] (oJ K):=by
 refine G.fn.oK aE4 λfe A outer s H vs Q E hr h=>?_
 ·obtain ⟨n,c,hs,rfl,hc,ju,ie,k⟩:=h;refine ⟨_,aI (aP (aZ gK rfl B.tuple gB (aA
    (cM (own:=["hand"]) (fr:=[1]) (ff:=["deal"]) (aX (aF kF) ["hands", "deal"] rfl rfl 'd') rfl (hV rfl B.range (aA (pv 0) aC))
     (λ_ _ _ _=>aM (i:=0) (show (["hand", "deal"]:List aj).Nodup by decide +kernel) rfl eh) (λ_ _ _ _=>cQ)
     (λ_ _ _ _=>kG (K:=K) rfl PySem.F.plainAttrs_tuple Iq PySem.F.type_tuple_count (aC8 (K:=K) rfl) (pv 1) (aA (pv 0) aC))) aC))),?_⟩
  dsimp only [cB,Cx.gf];refine ⟨_,rfl,n,rfl,by omega,by omega,kC (lo:=0) (n:=n.toNat) (λσ=>∃ v,σ = [v,some (.ref c)]) (λi zs H2=>H2=H/\zs=(((fN n.toNat).take i).map λh=>((hs.count h:Nat):Int)).map V.int) ?_ ⟨none,rfl⟩ ⟨rfl,rfl⟩ ?_ ?_ ?_⟩
  ·grind [Rf]
  ·grind
  ·rintro i zs σ H2 hi ⟨v,rfl⟩ ⟨rfl,rfl⟩ hz;refine bX ⟨_,rfl,.inr (.inl ⟨rfl,_,hc⟩),_,rfl,c,hs,_,rfl,rfl,hc,hz,⟨_,rfl⟩,rfl,?_⟩;rw [Jw,wD hi];simp
  ·rintro zs H2 ⟨rfl,rfl⟩ p hp;refine ⟨p,_,rfl,.inl ⟨dm.of aB,λl hl=>k l _ ((aD.new hp).trans (aD.new hl)) ?_⟩⟩;rw [aB,Jf (by simp [fX,Qe])];rfl
def V7 (K:Rb):Sp:=λvs H Q _=>∃ x y n ws hs,vs = [x,y]/\rR K H x y n ws hs/\∀ p H',aD H H'->H' p=some (.tup ((cT n hs).map V.int))->Q (.ref p) H'
theorem aIr:b_ ["book", "deal"] ["book", "deal"] (aF MP):=.of
theorem aGv (B:Bl mg) (R:Pr K mg fW fH fK fB uw fD wa fL dW dH dK dB uy dD wb dL):c_ P w K mg base d_ 7 fL dL ["book", "deal"] (V7 K):=by
 have ON:c_ P w K mg base d_ 6 wa wb ["book", "deal"] (V8 K):=aGu B R;obtain ⟨fC,dC,GC⟩:=R.C;have OC:c_ P w K mg base d_ 1 fC dC ["hands", "deal"] (oJ K):=pL GC B;refine R.L.fn.oK aIr λfe A outer s H vs Q E hr h=>?_
 ·obtain ⟨x,y,n,ws,hs,rfl,g,k⟩:=h;have r1:dj 1 _:=hr.mono 'c';refine ⟨_,aE (bY (fU R.ND ON hr rfl (aA (pv 0) (aA (pv 1) aC))))
   (aI (aP (fU GC OC r1 rfl (aA (bM dN (pv 0) aH gb) (aA (pv 1) aC))))),?_⟩
  dsimp only [cB,Cx.gf];refine ⟨_,rfl,_,rfl,x,y,n,ws,hs,rfl,g,λH1 s1=>?_⟩;have g1:=g.same s1;obtain ⟨hl,ju,ie⟩:=g.len;obtain ⟨a,b,ys,rfl,ha,zq,sx⟩:=iI g1.1;obtain ⟨c,rfl,hc⟩:=bK.mp g1.2.2.1;exact ⟨_,rfl,a,_,0,.int n,rfl,rfl,ha,rfl,_,rfl,n,c,hs,rfl,hc,by omega,ie,λp H2 s2 hp=>k p H2 (s1.trans s2) hp⟩
theorem iY (n:Int) (hs:LIn):(cT n hs).length=n.toNat:=by simp [cT,Qa,fX]
theorem iJ {n:Int} {l:Int} (h:l∈cT n hs):0<=l/\l<=hs.length:=by
 unfold cT at h;obtain ⟨i,_,rfl⟩:=Jc.mp h;have:=List.count_le_length (a:=i) (l:=hs);omega
end
end Ab
namespace L2
open PySem PySem.Spec PyProof.Rows
def LN (i j:Int):Prop:=i.natAbs < 2^4000/\j.natAbs < 2^4000
theorem V6 {i:Int} (h:i.natAbs < 2^4000):ak.Int.intBits i<=2^20:=by
 unfold ak.Int.intBits;split
 ·simp
 ·rename_i hz;have hz':i≠0:=by simpa using hz
  have h3:i.natAbs.log2 < 4000:=by simp_all [Qam]
  have:(2:Nat)^20=1048576:=by decide
  omega
theorem LN.ok {i j:Int} (h:LN i j):IntMulOk i j:=IntMulOk.of_bits (V6 h.1) (V6 h.2)
theorem V5:gy X (binaryOp .Mult) (rI LN λi j=>.int (i*j)):=CP λ_ _ _ _ _ _ _ hc q=>mul_int q hc.ok
def aLt (i j:Int):Prop:=0 < j/\j.natAbs < 2^4000
theorem wE:gy X (binaryOp .FloorDiv) (rI aLt λi j=>.int (i / j)):=CP λi j _ _ _ _ _ hc q=>by
 have h1:(0:Int) < j:=hc.1;refine floordiv_int 'a' (by rw [Yr i 'a']; exact q) (.inl (PyProof.noPylong_of_log2 ?_));have h3:j.natAbs.log2 < 4000:=(Qam 'a').mpr hc.2;omega
end L2
namespace Ab
open PySem L2
def fg (t:ae) (H H':Hp):Prop:=∀ b o,b≠t->H b=some o->H' b=some o
theorem fg.refl (t:ae) (H:Hp):fg t H H:=λ_ _ _ h=>h
theorem fg.trans (a:fg t H H1) (b:fg t H1 H2):fg t H H2:=λc o n h=>b c o n (a c o n h)
theorem fg.of (a:aD H H'):fg t H H':=λc o _ h=>a c o h
theorem fg.at {u:HO}:fg t H (upd H t u):=λc o n h=>by rw [aG n]; exact h
theorem fg.ZL {a:ae} (e:fg t H H') (n:a≠t) (h:Rd H a (.lst xs)):Rd H' a (.lst xs):=by
 rcases h with h | ⟨o,h⟩
 ·exact .inl (e a _ n h)
 ·exact .inr ⟨o,e a _ n h⟩
theorem fg.di {a:ae} (e:fg t H H') (ht:H t=some (.lst ys)) (h:dt K H a xs):dt K H' a xs:=by
 rcases h with (h | ⟨o,h⟩) | h
 ·exact .inl (.inl (e a _ (λz=>by rw [z,ht] at h; cases h) h))
 ·exact .inl (.inr ⟨o,e a _ (λz=>by rw [z,ht] at h; cases h) h⟩)
 ·exact .inr h
theorem fg.iq {a:ae} (e:fg t H H') (n:a≠t) (h:dm K H a xs):dm K H' a xs:=by
 rcases h with h | h
 ·exact .inl (e.ZL n h)
 ·exact .inr h
mutual
noncomputable def iK:au->Bool
 | .dict _=>false
 | .list _=>false
 | .tuple ds=>iL ds
 | _=>true
noncomputable def iL:List au->Bool
 | []=>true
 | d::ds=>iK d && iL ds
end
mutual
theorem fg.den (e:fg t H H') (ht:H t=some (.lst ys)):∀ (d:au) (v:V),iK d=true->Den K H d v->Den K H' d v
 | .none,v,_,h=>by unfold Den at h ⊢; exact h
 | .bool b,v,_,h=>by unfold Den at h ⊢; exact h
 | .int i,v,_,h=>by unfold Den at h ⊢; exact h
 | .str x,v,_,h=>by unfold Den at h ⊢; exact h
 | .list ds,v,n,h=>by unfold iK at n; cases n
 | .tuple ds,v,n,h=>by unfold iK at n; unfold Den at h ⊢; obtain ⟨a,xs,h1,h2,h3⟩:=h; exact ⟨a,xs,h1,e.di ht h2,fg.fh e ht ds xs n h3⟩
 | .dict kvs,v,n,h=>by unfold iK at n; cases n
theorem fg.fh (e:fg t H H') (ht:H t=some (.lst ys)):∀ (ds:List au) (xs:List V),iL ds=true->bC K H ds xs->bC K H' ds xs
 | [],xs,_,h=>by unfold bC at h ⊢; exact h
 | d::ds,xs,n,h=>by
  unfold iL at n; rw [Qt] at n;unfold bC at h ⊢; obtain ⟨x,r,h1,h2,h3⟩:=h; exact ⟨x,r,h1,fg.den e ht d x n.1 h2,fg.fh e ht ds r n.2 h3⟩
end
theorem kS (f:α->au) (h:∀ x,iK (f x)=true):∀ l:List α,iL (l.map f)=true
 | []=>by unfold List.map iL; rfl
 | x::r=>by rw [Jb]; unfold iL; rw [h x,kS f h r]; rfl
theorem aC9 (i:Int):iK (.int i)=true:=by rfl
theorem sV (l:LIn):iK (cR l)=true:=by unfold cR iK; exact kS _ aC9 l
def ik (K:Rb) (H:Hp) (t a:ae) (ns:LIn) (N:Nat):Prop:=(∃ p q:Int,0<=p/\p<=N/\H t=some (.lst [.ref a,.int p,.int q]))/\dm K H a (ns.map V.int)
section
variable {a:ae} {N M:Nat}
theorem ik.same (h:ik K H t a ns N) (e:aD H H'):ik K H' t a ns N:=by
 obtain ⟨⟨p,q,h1,h0,h2⟩,h3⟩:=h;exact ⟨⟨p,q,h1,h0,e t _ h2⟩,e.iq h3⟩
theorem ik.more (h:ik K H t a ns N) (e:N<=M):ik K H t a ns M:=by
 obtain ⟨⟨p,q,h1,h0,h2⟩,h3⟩:=h;exact ⟨⟨p,q,h1,by omega,h2⟩,h3⟩
theorem ik.ne (h:ik K H t a ns N) {b:ae} (hb:H b=none):b≠t:=by
 obtain ⟨⟨p,q,h1,h0,h2⟩,h3⟩:=h;intro z;rw [z,h2] at hb;cases hb
end
theorem aDa {a:ae} {r:List V} (h:ns.map V.int=.ref a::r):False:=by
 cases ns with
 | nil=>cases h
 | cons _ _=>rw [Jb] at h; cases h
theorem kH {a:ae} {p q:Int} {u:HO} (h2:H t=some (.lst [.ref a,.int p,.int q])) (h:dm K H a (ns.map V.int)):dm K (upd H t u) a (ns.map V.int):=by
 rcases h with (h | ⟨o,h⟩) | h
 ·have n:a≠t:=λz=>by
   rw [z,h2] at h;injection h with h;injection h with h;exact aDa h.symm
  exact .inl (.inl (by rw [aG n]; exact h))
 ·have n:a≠t:=λz=>by
   rw [z,h2] at h;cases h
  exact .inl (.inr ⟨o,by rw [aG n]; exact h⟩)
 ·exact .inr h
theorem aBN (ns:LIn):fT (.list (ns.map .int))=true:=by
 unfold fT
 induction ns with
 | nil=>unfold List.map jO; rfl
 | cons n r ih=>rw [Jb]; unfold jO; rw [ih]; unfold fT; rfl
theorem wF (f:α->au) (h:∀ x,(f x).canLay0=true):∀ l:List α,au.canLayAll0 (l.map f)=true
 | []=>by unfold List.map au.canLayAll0; rfl
 | x::r=>by rw [Jb]; unfold au.canLayAll0; rw [h x,wF f h r]; rfl
theorem rS {k:Nat} (f:α->au) (h:∀ x,(f x).depth<=k):∀ l:List α,au.depthAll (l.map f)<=k
 | []=>by unfold List.map au.depthAll; exact Ji _
 | x::r=>by rw [Jb]; unfold au.depthAll; exact Nat.max_le.mpr ⟨h x,rS f h r⟩
theorem aDb (i:Int):(au.int i).canLay0=true:=by rfl
theorem aE5 (i:Int):(au.int i).depth<=0:=by simp [au.depth,Qe]
theorem aAx (ns:LIn):(au.tuple (ns.map .int)).canLay0=true:=by unfold au.canLay0; exact wF _ aDb ns
theorem aBO (ns:LIn):(au.tuple (ns.map .int)).depth<=1:=by unfold au.depth; exact Nat.succ_le_succ (rS _ aE5 ns)
theorem yW {d:au} (h1:d.canLay0=true) (h2:d.depth<=64):SeqAt.shaped d=true:=by simp_all [SeqAt.shaped,decide_eq_true]
theorem qH (ns:LIn):SeqAt.shaped (.tuple (ns.map .int))=true:=yW (aAx ns) (Qr (aBO ns) 'c')
theorem qI (ns:LIn):fT (.tuple (ns.map .int))=true:=by
 have h:=aBN ns;unfold fT at h ⊢;exact h
theorem _root_.L2.dj.F2 {k:Nat} (r:dj k A):A.units+64 < c9:=by have:=r.un; omega
def V4:Sp:=λvs H Q _=>∃ c a:Int,vs = [.int c,.int a]/\0<=a/\a<=1000000/\∀ r,Q (.int r) H
theorem tY:b_ ["cell", "at", "one", "two", "three"] ["cell", "at"] (aF HK):=.of
theorem aGx (G:Fn K mg "_law_e_whirl" HK ["cell", "at"] f fd):c_ P w K mg base d_ 1 f fd ["cell", "at"] V4:=by
 refine G.fn.oK tY λfe A outer s H vs Q E hr h=>?_
 ·obtain ⟨c,a,rfl,a0,a1,k⟩:=h;refine ⟨_,(aE (bQ (aO LU (pv 0) (aS aJQ aH aH) ft)
   (aI (aP (pv 0)))
   aW)
  (aE (aU (i:=2) tY.nd rfl eh (aS mW (aS eD (aS eD (aS iA (aS mW (pv 0) aH) aH) (aS iA (pv 1) aH)) aH) aH))
  (aE (aU (i:=3) tY.nd rfl eh (aS mW (aS eD (aS eD (aS eD (aS iA (pv 2) (pv 2)) (aS iA (aS iA aH (pv 1)) (pv 1))) (aS iA aH (pv 2))) aH) aH))
  (aE (aU (i:=4) tY.nd rfl eh (aS mW (aS eD (aS eD (aS eD (aS iA (pv 3) (pv 3)) (aS iA aH (pv 3))) (pv 2)) (aS iA aH (pv 1))) aH))
  (aI (aP (aS eD (aS iA (pv 3) aH) (pv 4)))))))),?_⟩
  refine ⟨_,rfl,_,_,rfl,rfl,⟨by decide,by decide,by decide⟩,_,_,rfl,rfl,_,rfl,eP (λc1=>?_) (λc1=>?_)⟩
  ·exact ⟨_,rfl,k _⟩
  ·refine ⟨_,rfl,_,_,rfl,rfl,(show (0:Int) < _ by decide),_,_,rfl,rfl,.inr ⟨by decide,by decide⟩,_,rfl,_,_,rfl,rfl,.inr ⟨by decide,by decide⟩,_,_,rfl,rfl,_,_,rfl,rfl,_,_,rfl,rfl,(show (0:Int) < _ by decide),?_⟩;generalize hf:((c % 2147483423*40013+a*15073+83) % 2147483399:Int)=f1;have b1:0<=f1/\f1 < 2147483399:=by rw [<- hf]; exact ⟨Zp _ 'c',Zn _ 'c'⟩
   refine ⟨_,rfl,_,rfl,_,_,rfl,rfl,.inl ⟨by omega,by omega⟩,_,rfl,_,_,rfl,rfl,.inl ⟨by decide,by decide⟩,_,rfl,_,_,rfl,rfl,.inr ⟨by omega,by omega⟩,_,_,rfl,rfl,_,rfl,_,_,rfl,rfl,.inl ⟨by decide,by decide⟩,_,_,rfl,rfl,_,_,rfl,rfl,_,_,rfl,rfl,(show (0:Int) < _ by decide),?_⟩;generalize hg:((f1*f1+521*a*a+11*f1+7) % 2147483353:Int)=f2;have b2:0<=f2/\f2 < 2147483353:=by rw [<- hg]; exact ⟨Zp _ 'c',Zn _ 'c'⟩
   exact ⟨_,rfl,_,rfl,_,_,rfl,rfl,.inl ⟨by omega,by omega⟩,_,rfl,_,_,rfl,rfl,.inl ⟨by decide,by decide⟩,_,_,rfl,rfl,_,rfl,_,_,rfl,rfl,_,rfl,_,_,rfl,rfl,.inl ⟨by decide,by decide⟩,_,_,rfl,rfl,_,_,rfl,rfl,(show (0:Int) < _ by decide),_,rfl,_,_,rfl,rfl,.inr ⟨by decide,by decide⟩,_,rfl,_,_,rfl,rfl,k _⟩
def oM (K:Rb):Sp:=λvs H Q _=>∃ (t a:ae) (ns:LIn) (N:Nat) (m:Int),vs = [.ref t,.int m]/\ik K H t a ns N/\N<=900000/\0 < m/\m.natAbs < 2^4000/\∀ r H',0<=r->r < m->fg t H H'->ik K H' t a ns (N+1)->Q (.int r) H'
theorem oN:b_ ["jar", "many", "at", "cell", "found"] ["jar", "many"] (aF nR):=.of
theorem aGy {fS:ae} {Lc:bh} (G:Fn K mg "_law_e_scoop" nR ["jar", "many"] f fd) (B:Bl mg) (Dy:Fn K mg "_law_e_whirl" HK ["cell", "at"] fS Lc):c_ P w K mg base d_ 2 f fd ["jar", "many"] (oM K):=by
 have OWh:c_ P w K mg base d_ 1 fS Lc ["cell", "at"] V4:=aGx Dy;refine G.fn.oK oN λfe A outer s H vs Q E hr h=>?_
 ·obtain ⟨t,a,ns,N,m,rfl,⟨⟨p,q,hp,hpN,ht⟩,k_⟩,hN,qp,vq,k⟩:=h;have r1:dj 1 _:=hr;refine ⟨_,(aE (bQ (aO xZ (bM bU (pv 0) aH gb) (pv 1) ft)
   (aE (aU (i:=2) oN.nd rfl eh (bM bU (pv 0) aH gb))
  (aE (aU (i:=3) oN.nd rfl eh (aS eD (aS iA aH (pv 2)) aH))
  (aE (bQ (aO xZ (pv 2) (aK aR rfl B.len cO (aA (bM bU (pv 0) aH gb) aC)) ft)
   (aI (aU (i:=3) oN.nd rfl eh (bM bU (bM bU (pv 0) aH gb) (pv 2) su)))
   (aI (bQ (aO oV (aK aR rfl B.len cO (aA (bM bU (pv 0) aH gb) aC)) aH ft)
   (aI (aU (i:=3) oN.nd rfl eh (aS eD (aS mW (bM bU (bM bU (pv 0) aH gb) (aS mW (aS eD (aS iA aH (pv 2)) aH) (aK aR rfl B.len cO (aA (bM bU (pv 0) aH gb) aC))) (λ_ _=>rfl)) aH) (aS iA (pv 2) aH))))
   aW)))
  (aE (pB (aS eD (pv 2) aH) (MD (pv 0) aH uR))
  (aI (pB (fU Dy OWh r1 rfl (aA (pv 3) (aA (pv 2) aC))) (MD (pv 0) aH uR)))))))
   aW)
  (aE (aU (i:=4) oN.nd rfl eh (aS mW (bM bU (pv 0) aH gb) (pv 1)))
  (aE (pB (aS wE (bM bU (pv 0) aH gb) (pv 1)) (MD (pv 0) aH uR))
  (aI (aP (pv 4)))))),?_⟩
  dsimp only [cB,Cx.gf];have last:∀ (p1 r:Int) (H':Hp),0<=p1->p1<=N+1->fg t H H'->H' t=some (.lst [.ref a,.int p1,.int r])->dm K H' a (ns.map V.int)->Q (.int (r % m)) (upd H' t (.lst [.ref a,.int p1,.int (r / m)])):=λp1 r H' h0 h1 b' h2 h3 =>
   k _ _ (Zp _ 'a') (Zn _ qp) (b'.trans fg.at) ⟨⟨p1,r / m,h0,by omega,aB⟩,kH h2 h3⟩
  refine ⟨_,rfl,t,_,2,.int q,rfl,rfl,dm.of ht,rfl,_,rfl,_,_,rfl,rfl,_,rfl,eP (λc1=>?_) (λc1=>?_)⟩
  ·refine ⟨_,rfl,t,_,1,.int p,rfl,rfl,dm.of ht,rfl,_,rfl,_,_,rfl,rfl,.inl ⟨by decide,by decide⟩,_,_,rfl,rfl,?_⟩;refine ⟨_,rfl,_,rfl,t,_,0,.ref a,rfl,rfl,dm.of ht,rfl,a,_,rfl,.inl k_,_,_,rfl,rfl,_,rfl,eP (λc2=>?_) (λc2=>?_)⟩
   ·have Ll:p < ((ns.map V.int).length:Int):=of_decide_eq_true c2;rw [Qa] at Ll;have gh:p.toNat < ns.length:=by omega
    have nu:lj (ns.map V.int) p=some (.int (ns[p.toNat])):=by
     have h1:(ns.map V.int)[p.toNat]?=some (.int (ns[p.toNat])):=by simp
     have h2:=fG h1;rwa [Zk hp] at h2
    refine ⟨_,rfl,t,_,0,.ref a,rfl,rfl,dm.of ht,rfl,_,rfl,a,_,_,_,rfl,rfl,k_,nu,_,rfl,_,_,rfl,rfl,_,rfl,t,_,_,1,rfl,rfl,ht,rfl,?_⟩;refine ⟨_,rfl,_,rfl,_,_,rfl,hp,by omega,λr=>⟨_,rfl,t,_,_,2,rfl,rfl,aB,rfl,_,rfl,t,_,2,.int r,rfl,rfl,dm.of aB,rfl,_,rfl,_,_,rfl,rfl,qp,?_⟩⟩;exact ⟨_,rfl,t,_,2,.int r,rfl,rfl,dm.of aB,rfl,_,rfl,_,_,rfl,rfl,⟨qp,vq⟩,_,rfl,t,_,_,2,rfl,rfl,aB,rfl,_,rfl,last (p+1) r _ 'a' 'a' (fg.at.trans fg.at) aB (kH (p:=p+1) (q:=q) aB (kH ht k_))⟩
   ·refine ⟨_,rfl,t,_,0,.ref a,rfl,rfl,dm.of ht,rfl,a,_,rfl,.inl k_,_,_,rfl,rfl,_,rfl,eP (λc3=>?_) (λc3=>?_)⟩
    ·have B8:0 < ns.length:=by simp_all
     have gh:((7*p+3) % (ns.length:Int)).toNat < ns.length:=by simp_all [Zp,Zn]
     have nu:lj (ns.map V.int) ((7*p+3) % ((ns.map V.int).length:Int))=some (.int (ns[((7*p+3) % (ns.length:Int)).toNat])):=by
      have h1:(ns.map V.int)[((7*p+3) % (ns.length:Int)).toNat]?=some (.int (ns[((7*p+3) % (ns.length:Int)).toNat])):=by simp
      have h2:=fG h1;rw [Qa];rwa [Zk (Zp _ 'a')] at h2
     refine ⟨_,rfl,t,_,0,.ref a,rfl,rfl,dm.of ht,rfl,_,rfl,_,_,rfl,rfl,.inl ⟨by decide,by decide⟩,_,_,rfl,rfl,_,rfl,t,_,0,.ref a,rfl,rfl,dm.of ht,rfl,a,_,rfl,.inl k_,_,_,rfl,rfl,(show (0:Int) < ((ns.map V.int).length:Int) by rw [Qa]; omega),a,_,_,_,rfl,rfl,k_,nu,_,_,rfl,rfl,(show (0:Int) < _ by decide),_,rfl,_,_,rfl,rfl,.inr ⟨by decide,by decide⟩,_,_,rfl,rfl,_,rfl,_,_,rfl,rfl,_,rfl,t,_,_,1,rfl,rfl,ht,rfl,?_⟩;refine ⟨_,rfl,_,rfl,_,_,rfl,hp,by omega,λr=>⟨_,rfl,t,_,_,2,rfl,rfl,aB,rfl,_,rfl,t,_,2,.int r,rfl,rfl,dm.of aB,rfl,_,rfl,_,_,rfl,rfl,qp,?_⟩⟩;exact ⟨_,rfl,t,_,2,.int r,rfl,rfl,dm.of aB,rfl,_,rfl,_,_,rfl,rfl,⟨qp,vq⟩,_,rfl,t,_,_,2,rfl,rfl,aB,rfl,_,rfl,last (p+1) r _ 'a' 'a' (fg.at.trans fg.at) aB (kH (p:=p+1) (q:=q) aB (kH ht k_))⟩
    ·show _;refine ⟨_,rfl,_,_,rfl,rfl,_,rfl,t,_,_,1,rfl,rfl,ht,rfl,_,rfl,_,rfl,_,_,rfl,hp,by omega,λr=>⟨_,rfl,t,_,_,2,rfl,rfl,aB,rfl,?_⟩⟩;refine ⟨_,rfl,t,_,2,.int r,rfl,rfl,dm.of aB,rfl,_,rfl,_,_,rfl,rfl,qp,_,rfl,t,_,2,.int r,rfl,rfl,dm.of aB,rfl,_,rfl,_,_,rfl,rfl,⟨qp,vq⟩,_,rfl,t,_,_,2,rfl,rfl,aB,rfl,?_⟩;exact ⟨_,rfl,last (p+1) r _ 'a' 'a' (fg.at.trans fg.at) aB (kH (p:=p+1) (q:=q) aB (kH ht k_))⟩
  ·show _;refine ⟨_,rfl,t,_,2,.int q,rfl,rfl,dm.of ht,rfl,_,rfl,_,_,rfl,rfl,qp,_,rfl,t,_,2,.int q,rfl,rfl,dm.of ht,rfl,_,rfl,_,_,rfl,rfl,⟨qp,vq⟩,_,rfl,t,_,_,2,rfl,rfl,ht,rfl,?_⟩;exact ⟨_,rfl,last p q _ hp 'a' (fg.refl _ _) ht k_⟩
theorem XS (n:Int):∀ (l:LIn) (last:Int),(∀ x∈l,last < x)->l.Pairwise (· < ·)->(∀ x∈l,x < n)->gH n last (l.map .int)=true
 | [],_,_,_,_=>rfl
 | x::r,last,h1,h2,h3=>by
  rw [Jb,jJ];have BI:=Yb.mp h2;rw [decide_eq_true (h1 x (Qk ..)),decide_eq_true (h3 x (Qk ..)),XS n r x BI.1 BI.2 (λy hy=>h3 y (Qj _ hy))];rfl
theorem mC {n:Int} (h0:l≠[]) (h1:∀ x∈l,0<=x/\x < n) (h2:l.Pairwise (· < ·)):cA n (cR l)=true:=by
 have e:cA n (cR l)=(!(l.map au.int).isEmpty && gH n (-1) (l.map .int)):=rfl;rw [e,XS n l (-1) (λx hx=>by have:=(h1 x hx).1; omega) h2 (λx hx=>(h1 x hx).2)];cases l with
 | nil=>exact absurd rfl h0
 | cons _ _=>rfl
theorem sW (n:Int):∀ (l:LIn) (last:Int),gH n last (l.map .int)=true->l.Pairwise (· < ·)/\∀ x∈l,last < x/\x < n
 | [],_,_=>⟨.nil,λ_ h=>by cases h⟩
 | x::r,last,h=>by
  rw [Jb,jJ,Qt,Qt] at h;obtain ⟨⟨h1,h2⟩,h3⟩:=h;have h1:=of_decide_eq_true h1;have h2:=of_decide_eq_true h2;obtain ⟨i1,i2⟩:=sW n r x h3;refine ⟨Yb.mpr ⟨λy hy=>(i2 y hy).1,i1⟩,λy hy=>?_⟩;rcases Ql.mp hy with rfl | hy
  ·exact ⟨h1,h2⟩
  ·exact ⟨by have:=(i2 y hy).1; omega,(i2 y hy).2⟩
theorem bO {n:Int} (h:cA n (cR l)=true):l≠[]/\(∀ x∈l,0<=x/\x < n)/\l.Pairwise (· < ·):=by
 have e:(!(l.map au.int).isEmpty && gH n (-1) (l.map .int))=true:=h;rw [Qt] at e;obtain ⟨h1,h2⟩:=sW n l (-1) e.2;refine ⟨λz=>by rw [z] at e; simp at e,λx hx=>⟨by have:=(h2 x hx).1; omega,(h2 x hx).2⟩,h1⟩
theorem wG {n:Int}:∀ (l:LIn) (lo:Int),lo<=n->(∀ x∈l,lo<=x/\x < n)->l.Pairwise (· < ·)->(l.length:Int)<=n - lo
 | [],lo,h,_,_=>by simp; omega
 | x::r,lo,h,h1,h2=>by
  have BI:=Yb.mp h2;have hx:=h1 x (Qk ..);have:=wG r (x+1) 'a' (λy hy=>⟨by have:=BI.1 y hy; omega,(h1 y (Qj _ hy)).2⟩) BI.2;rw [Jl];omega
theorem kI {n:Int} (hn:0<=n) (h1:∀ x∈l,0<=x/\x < n) (h2:l.Pairwise (· < ·)):(l.length:Int)<=n:=by
 have:=wG l 0 hn h1 h2;omega
theorem Bh (x:V) : [x].length<=af:=by simp [Rf]
theorem om (x y:V) : [x,y].length<=af:=by simp [Rf]
theorem cK (h:n<=1000):n<=af:=by rw [Rf]; omega
theorem iZ {n:Int} (h1:1<=n) (h2:n<=6) (h3:ws.length<=12) (h4:∀ l∈ws,cA n (cR l)=true):fF (gM n ws)=true:=by
 show (decide (1<=n) && decide (n<=6) && decide ((ws.map cR).length<=12) && (ws.map cR).all (cA n))=true;rw [decide_eq_true h1,decide_eq_true h2,Qa,decide_eq_true h3,Jt,Jt,Jt,Jo];intro d hd;obtain ⟨l,hl,rfl⟩:=Jc.mp hd;exact h4 l hl
def HI (K:Rb):Sp:=λvs H Q _=>∃ (t a:ae) (ns:LIn) (N:Nat) (n:Int),vs = [.ref t,.int n]/\ik K H t a ns N/\N<=800000/\1<=n/\n<=6/\∀ l p H',cA n (cR l)=true->fg t H H'->ik K H' t a ns (N+8)->dt K H' p (l.map V.int)->Q (.ref p) H'
theorem HH:b_ ["jar", "hands", "often", "some"] ["jar", "hands"] (aF vZ):=.of
set_option maxHeartbeats 1000000 in
theorem aIs (G:Fn K mg "_law_e_able" vZ ["jar", "hands"] f fd) (B:Bl mg) (ny:FF P w K mg base d_ 2 "_law_e_scoop" nR ["jar", "many"] (oM K)):c_ P w K mg base d_ 3 f fd ["jar", "hands"] (HI K):=by
 refine G.fn.oK HH λfe A outer s H vs Q E hr h=>?_
 ·obtain ⟨t,a,ns,N,n,rfl,hJ,hN,ju,ie,k⟩:=h;have r2:dj 2 _:=hr;refine ⟨_,(aE (aU (i:=2) HH.nd rfl (Or.inr rfl) (aS eD aH (bF ny r2 rfl (aA (pv 0) (aA aH aC)))))
  (aE (aU (i:=3) HH.nd rfl eh (aZ gK rfl B.tuple gB (aA (cM (own:=["hand"]) (fr:=[0,2]) (ff:=["jar", "often"]) (aX (aF vZ) ["jar", "hands", "often", "some"] rfl rfl 'd') rfl (hV rfl B.range (aA (pv 1) aC))
    (λ_ _ _ _=>(aM (i:=0) (show (["hand", "jar", "often"]:List aj).Nodup by decide +kernel) rfl eh)) (λ_ _ _ _=>nE (aO cY (bF ny r2 rfl (aA (pv 1) (aA (pv 2) aC))) aH ft))
    (λ_ _ _ _=>(pv 0))) aC)))
  (aE (bQ (aO (MJ hr.F2) (pv 3) (cH aC) ft)
   (aI (aU (i:=3) HH.nd rfl eh (cH (aA (bF ny r2 rfl (aA (pv 0) (aA (pv 1) aC))) aC))))
   aW)
  (aI (aP (pv 3)))))),?_⟩
  dsimp only [cB,Cx.gf];refine ⟨_,rfl,t,a,ns,N,3,rfl,hJ,by omega,by decide,by decide,λr H1 Sa AS b1 J1=>⟨_,_,rfl,rfl,_,rfl,n,rfl,by omega,by omega,kC (lo:=0) (n:=n.toNat) (λσ=>∃ v,σ = [v,some (.ref t),some (.int (2+r))]) (λi zs H2=>∃ l:LIn,zs=l.map V.int/\l.Pairwise (· < ·)/\(∀ x∈l,0<=x/\x < i)/\fg t H H2/\ik K H2 t a ns (N+1+i)) (cK 'a') ⟨none,rfl⟩ ⟨[],rfl,.nil,λ_ h=>(Qv h).elim,b1,J1⟩ ?_ ?_ ?_⟩⟩
  ·rintro i zs H2 ⟨l,rfl,hp,hb,_⟩;rw [Qa];have:=kI (n:=(i:Int)) 'a' hb hp;omega
  ·rintro i zs σ H2 hi ⟨v,rfl⟩ ⟨l,rfl,hp,hb,b2,J2⟩ hz;refine ⟨_,rfl,_,rfl,t,a,ns,N+1+i,2+r,rfl,J2,by omega,by omega,by omega,λr3 H3 R_ L! b3 J3=>⟨rfl,_,rfl,eP (λc1=>?_) (λc1=>?_)⟩⟩
   ·refine ⟨_,rfl,hz,⟨_,rfl⟩,l++[0+(i:Int)],by rw [Qm]; rfl,Zg.mpr ⟨hp,by simp,λx hx y hy=>?_⟩,λx hx=>?_,b2.trans b3,J3⟩
    ·simp_all
    ·grind
   ·exact ⟨⟨_,rfl⟩,l,rfl,hp,λx hx=>by have:=hb x hx; omega,b2.trans b3,J3⟩
  ·rintro zs H2 ⟨l,rfl,hp,hb,b2,J2⟩ z hz;refine ⟨z,_,rfl,.inl ⟨dm.of aB,λq hq=>?_⟩⟩;have s3:=(aD.new (o:=.lst (l.map V.int)) hz).trans (aD.new (o:=.tup (l.map V.int)) hq);have e3:upd (upd H2 z (.lst (l.map V.int))) q (.tup (l.map V.int)) q=some (.tup (l.map V.int)):=aB;generalize upd (upd H2 z (.lst (l.map V.int))) q (.tup (l.map V.int))=H3 at s3 e3 ⊢;refine ⟨_,rfl,cK (Ji _),λz2 Kf=>?_⟩;have s4:=aD.new (o:=.tup []) Kf;refine ⟨.tuple (l.map .int),.tuple (([]:LIn).map .int),bK.mpr ⟨q,rfl,s4.di (dt.of e3)⟩,bK.mpr ⟨z2,rfl,dt.of aB⟩,qI _,qI _,qH _,qH _,_,rfl,?_⟩;have J4:=(J2.same s3).same s4;have b4:=b2.trans (fg.of (s3.trans s4));have e4:=s4 _ _ e3;generalize upd H3 z2 (.tup [])=H4 at s4 J4 b4 e4 ⊢;refine eP (λc1=>?_) (λc1=>?_)
   ·refine ⟨_,rfl,_,rfl,t,a,ns,_,n,rfl,J4,by omega,by omega,by omega,λr5 H5 R9 R8 b5 J5=>⟨Bh _,λp Gp=>⟨_,rfl,k [r5] p _ (mC 'b' (λx hx=>?_) 'b') (b4.trans (b5.trans (fg.of (aD.new Gp)))) ((J5.same (aD.new Gp)).more 'a') (dt.of aB)⟩⟩⟩;rw [Qi.mp hx];exact ⟨R9,R8⟩
   ·refine ⟨_,rfl,k l q _ (mC (λz=>?_) (λx hx=>by have:=hb x hx; omega) hp) b4 (J4.more 'a') (dt.of e4)⟩;rw [z] at c1;exact c1 'd'
end Ab
namespace Ab
def lJ (ws:List (LIn)) (hs:LIn) (g:Int) (w:Nat) (t:Int):Prop:=hs[w]?=some g/\∃ l,ws[w]?=some l/\t∈l/\t≠g
def RL (ws:List (LIn)) (hs:LIn):Nat->Int->Int->Prop
 | 0,h,x=>h=x
 | k+1,h,x=>h=x∨∃ w o,lJ ws hs h w o/\RL ws hs k o x
def mF (ws:List (LIn)) (hs:LIn):Int->List (Nat×Int×Int)->Int->Prop
 | h,[],x=>h=x
 | h,s::r,x=>s.2.1=h/\lJ ws hs h s.1 s.2.2/\mF ws hs s.2.2 r x
theorem oO:∀ (n:Nat) (l:LIn),l.Nodup->(∀ x∈l,0<=x/\x < (n:Int))->l.length<=n
 | 0,[],_,_=>Qe _
 | 0,x::_,_,h=>by have:=h x (.head _); omega
 | n+1,l,hn,h=>by
  by_cases hm:(n:Int)∈l
  ·have h1:=oO n (l.erase (n:Int)) (hn.erase _) λx hx=>by grind
   rw [List.length_erase_of_mem hm] at h1;omega
  ·have h1:=oO n l hn λx hx=>by
    have h3:=h x hx;have:x≠(n:Int):=λz=>hm (z ▸ hx);omega
   omega
end Ab
namespace L2
open PySem
theorem aD.wr {a:ae} {u:HO} (e:aD H H') (h:H a=none):aD H (upd H' a u):=λb o q=>by
 rw [aG (λz=>by rw [z,h] at q; cases q)];exact e b o q
end L2
namespace Ab
open PySem L2
theorem wH {h:Int}:iH (.int h) l=true↔h∈l:=by
 show (l.any (·==h))=true↔_;rw [Xs];constructor
 ·simp
 ·simp
theorem fY (h:sU ws (yV hs)=true):hs.length=ws.length/\∀ (j:Nat) (h:Int) (l:LIn),hs[j]?=some h->ws[j]?=some l->h∈l:=by
 have h':(decide ((hs.map au.int).length=ws.length) && ((hs.map au.int).zip ws).all λp=>iH p.1 p.2)=true:=h;rw [Qa,Qt,Jo] at h';refine ⟨of_decide_eq_true h'.1,λj h l hj hl=>wH.mp (h'.2 (.int h,l) (Qd (i:=j) ?_))⟩;rw [Jh];exact ⟨by rw [Qh,hj]; rfl,hl⟩
theorem Nj (h1:hs.length=ws.length) (h2:∀ (j:Nat) (h:Int) (l:LIn),hs[j]?=some h->ws[j]?=some l->h∈l):sU ws (yV hs)=true:=by
 show (decide ((hs.map au.int).length=ws.length) && ((hs.map au.int).zip ws).all λp=>iH p.1 p.2)=true;rw [Qa,decide_eq_true h1,Jt,Jo];rintro ⟨d,l⟩ hm;obtain ⟨j,hj⟩:=Jr.mp hm;rw [Jh] at hj;obtain ⟨zl,Ee⟩:=hj;have zl:(hs.map au.int)[j]?=some d:=zl;have Ee:ws[j]?=some l:=Ee;rw [Qh] at zl;cases q:hs[j]? with
 | none=>rw [q] at zl; cases zl
 | some h =>
  rw [q] at zl;obtain rfl:au.int h=d:=Option.some.inj zl;exact wH.mpr (h2 j h l q Ee)
theorem rR.hand {x:V} {n:Int} (g:rR K H x y n ws hs) {h:Int} (e:hs[i]?=some h):0<=h/\h < n:=by
 obtain ⟨_,_,_,hw⟩:=aV g.2.1;obtain ⟨hl,hd⟩:=fY g.2.2.2;have hi:i < ws.length:=by rw [<- hl]; exact (Qb.mp e).1
 have hm:=hd i h ws[i] e (Qc hi);exact (bO (hw _ (Zl hi))).2.1 h hm
theorem tZ {xs:LIn} (h:(xs.map V.int)[i]?=some v):∃ a,xs[i]?=some a/\v=.int a:=by
 rw [Qh] at h;cases q:xs[i]? with
 | none=>rw [q] at h; cases h
 | some a=>rw [q] at h; exact ⟨a,rfl,(Option.some.inj h).symm⟩
theorem aDc {n:Int} (h:j < n.toNat):(cT n hs)[j]?=some ((hs.count (j:Int):Nat):Int):=by simp_all [cT,Qh,wD]
def tJ (E:Nat->Int->Prop) (r:List (Key×V)):Prop:=(∀ k v,cP r k=some v->∃ (w:Nat) (t:Int),k=.inl t/\v=.int (w:Nat)/\E w t)/\∀ w t,E w t->(cP r (.inl t)).isSome=true
theorem tJ.nil {E:Nat->Int->Prop} (h:∀ w t,¬ E w t):tJ E []:=⟨λk v e=>(by simp_all [aF6]),λw t e=>(h w t e).elim⟩
theorem tJ.put {E:Nat->Int->Prop} {r:List (Key×V)} (h:tJ E r) (w:Nat) (t:Int):tJ (λw' t'=>E w' t'∨(w'=w/\t'=t)) (fO r (.inl t) (.int (w:Nat))):=by
 refine ⟨λk v e=>?_,λw' t' e=>?_⟩
 ·rw [pV] at e;by_cases hk:k=Sum.inl t
  ·rw [if_pos hk] at e;exact ⟨w,t,hk,(Option.some.inj e).symm,.inr ⟨rfl,rfl⟩⟩
  ·rw [if_neg hk] at e;obtain ⟨w',t',h1,h2,h3⟩:=h.1 k v e;exact ⟨w',t',h1,h2,.inl h3⟩
 ·rw [pV];by_cases hk:(Sum.inl t':Key)=Sum.inl t
  ·rw [if_pos hk]; rfl
  ·rw [if_neg hk];rcases e with e | ⟨_,e⟩
   ·exact h.2 w' t' e
   ·simp_all
theorem tJ.congr {E E':Nat->Int->Prop} {r:List (Key×V)} (h:tJ E r) (e:∀ w t,E w t↔E' w t):tJ E' r:=⟨λk v q=>let ⟨w,t,a,b,c⟩:=h.1 k v q; ⟨w,t,a,b,(e w t).mp c⟩,λw t q=>h.2 w t ((e w t).mpr q)⟩
structure Rows (H:Hp) (rp:ae) (qs:List ae) (rs:List (List (Key×V))):Prop where
 lst:H rp=some (.lst (qs.map V.ref))
 len:qs.length=rs.length
 nd:qs.Nodup
 row:∀ (g:Nat) q r,qs[g]?=some q->rs[g]?=some r->H q=some (.dK r)
theorem Rows.same {rp:ae} {qs:List ae} {rs:List (List (Key×V))} (h:Rows H rp qs rs) (s:aD H H'):Rows H' rp qs rs:=⟨s _ _ h.lst,h.len,h.nd,λg q r a b=>s _ _ (h.row g q r a b)⟩
theorem Rows.put {rp:ae} {qs:List ae} {rs:List (List (Key×V))} (h:Rows H rp qs rs) {g:Nat} {r r':List (Key×V)} (hq:qs[g]?=some q) (hr:rs[g]?=some r):Rows (upd H q (.dK r')) rp qs (rs.set g r'):=by
 have nq:rp≠q:=λz=>by have:=h.lst; rw [z,(h.row g q r hq hr)] at this; cases this
 refine ⟨by rw [aG nq]; exact h.lst,by rw [Yn]; exact h.len,h.nd,λg2 q2 r2 h1 h2=>?_⟩;rw [Zt] at h2;by_cases e:g=g2
 ·subst e;rw [if_pos rfl] at h2;rw [hq] at h1;cases h1;by_cases hl:g < rs.length
  ·simp_all [if_pos,aB]
  ·simp_all
 ·rw [if_neg e] at h2;have n2:q2≠q:=λz=>by
   subst z;have gh:g < qs.length:=(Qb.mp hq).1;exact e ((Wc gh h.nd).mp (hq.trans h1.symm))
  rw [aG n2];exact h.row g2 q2 r2 h1 h2
def EV (E:Int->Nat->Int->Prop) (rs:List (List (Key×V))) (m:Nat):Prop:=∀ (g:Nat) r,rs[g]?=some r->tJ (E g) r/\r.length<=m
def rT (K:Rb):Sp:=λvs H Q _=>∃ x y n ws hs,vs = [x,y]/\rR K H x y n ws hs/\∀ rp H' qs rs,aD H H'->H rp=none->(∀ q∈qs,H q=none)->Rows H' rp qs rs->rs.length=n.toNat->EV (lJ ws hs) rs 100->Q (.ref rp) H'
theorem jV:b_ ["book", "deal", "rows", "work", "giver", "able", "taker"] ["book", "deal"] (aF lH):=.of
theorem wI (G:Fn K mg "handing" lH ["book", "deal"] f fd) (B:Bl mg):c_ P w K mg base d_ 1 f fd ["book", "deal"] (rT K):=by
 refine G.fn.oK jV λfe A outer s H vs Q E hr h=>?_
 ·obtain ⟨x,y,n,ws,hs,rfl,g,k⟩:=h;refine ⟨_,(aE (hU (i:=2) (own:=["hand"]) (fr:=[]) (ff:=[]) (aX (aF lH) ["book", "deal", "rows", "work", "giver", "able", "taker"] rfl rfl 'd') rfl jV.nd rfl rfl rfl (hV rfl B.range (aA (bM dN (pv 0) aH gb) aC))
    (λ_ _ _ _=>(aM (i:=0) (show (["hand"]:List aj).Nodup by decide +kernel) rfl eh)) (λ_ _ _ _=>cQ)
    (λ_ _ _ _=>pY))
   (aE (jH bc.never rfl (aCV .t .t rfl B.enumerate rfl B.zip (aA (pv 1) (aA (bM dN (pv 0) aH gb) aC))) (lS rfl (bD (aM (i:=3) jV.nd rfl eh) (bD (lS rfl (bD (aM (i:=4) jV.nd rfl eh) (bD (aM (i:=5) jV.nd rfl eh) eT))) eT)))
    (aI (jH bc.never rfl (hG (pv 5)) (aM (i:=6) jV.nd rfl eh)
     (aI (bQ (aO iB (pv 6) (pv 4) ft)
      (aI (jQ (dS hr) (bM bU (pv 2) (pv 4) su) (pv 6) (pv 3) rfl))
      aW)))))
   (aI (aP (pv 2))))),?_⟩
  dsimp only [cB,Cx.gf];obtain ⟨Fx,ju,ie⟩:=g.len;obtain ⟨a,b,ys,rfl,ha,zq,sx⟩:=iI g.1;obtain ⟨c0,rfl,KR⟩:=bK.mp g.2.2.1;obtain ⟨uu,hdg⟩:=fY g.2.2.2;obtain ⟨_,_,gz,j5⟩:=aV g.2.1;have C4:=aT sx;rw [Qa] at C4;refine ⟨_,rfl,a,_,0,.int n,rfl,rfl,ha,rfl,n,rfl,by omega,by omega,kC (lo:=0) (n:=n.toNat) (λσ=>∃ v,σ = [v]) (λi zs H2=>∃ qs:List ae,zs=qs.map V.ref/\qs.length=i/\aD H H2/\qs.Nodup/\∀ q∈qs,H q=none/\H2 q=some (.dK [])) ?_ ⟨none,rfl⟩ ⟨[],rfl,rfl,aD.refl H,Wy,λ_ h=>(Qv h).elim⟩ ?_ ?_ ?_⟩
  ·grind [Rf]
  ·simp_all
  ·rintro i zs σ H2 hi ⟨v,rfl⟩ ⟨qs,rfl,hq,s2,nd,Ay⟩ hz;refine bX ?_;intro p hp;refine ⟨hz,⟨_,rfl⟩,qs++[p],by rw [Qm]; rfl,by rw [Qg,hq]; rfl,s2.trans (aD.new hp),?_,λq Bt=>?_⟩
   ·rw [Zr];refine ⟨nd,by simp,λx hx y hy e=>?_⟩;rw [Qi.mp hy] at e;have:=(Ay x hx).2;rw [e,hp] at this; cases this
   ·rcases Qp.mp Bt with h | h
    ·exact ⟨(Ay q h).1,(aD.new hp) _ _ (Ay q h).2⟩
    ·rw [Qi.mp h];exact ⟨s2.free hp,aB⟩
  ·rintro zs H2 ⟨qs,rfl,hq,s2,nd,Ay⟩ rp uh;have s3:=s2.trans (aD.new (o:=.lst (qs.map V.ref)) uh);have NX:H rp=none:=s2.free uh;have R3:Rows (upd H2 rp (.lst (qs.map V.ref))) rp qs (List.replicate n.toNat []):=⟨aB,by rw [Xn]; exact hq,nd,λg q r h1 h2=>by
    have er:r = []:=by
     rw [Zj] at h2;split at h2
     ·exact (Option.some.inj h2).symm
     ·cases h2
    rw [er];exact (aD.new uh) _ _ (Ay q (Qd h1)).2⟩
   generalize upd H2 rp (.lst (qs.map V.ref))=H3 at s3 R3 ⊢;have h6:∀ l∈ws,l.length<=6:=λl hl=>by
    obtain ⟨_,w2,w3⟩:=bO (j5 l hl);have:=kI 'a' w2 w3;omega
   refine ⟨_,rfl,_,rfl,a,_,1,.ref b,rfl,rfl,s3.di ha,rfl,c0,b,_,_,rfl,s3.di KR,s3.di zq,aBx (K:=K) (k1:=.t) (k2:=.t) (a:=c0) (b:=b) (xs:=hs.map V.int) (ys:=ys)
    (λi σ H4=>(∃ v3 v4 v5 v6,σ = [some (.ref a),some (.ref c0),some (.ref rp),v3,v4,v5,v6])/\aD H H4/\∃ rs,Rows H4 rp qs rs/\rs.length=n.toNat/\EV (λg w t=>w < i/\lJ ws hs g w t) rs (6*i))
    (by simp_all) ⟨⟨_,_,_,_,rfl⟩,s3,_,R3,Xn,λg r hr=>?_⟩ (λ_ σ H4 _ ⟨_,s4,_⟩=>⟨s4.di KR,s4.di zq⟩) ?_ ?_⟩
   ·have er:r = []:=by
     rw [Zj] at hr;split at hr
     ·exact (Option.some.inj hr).symm
     ·cases hr
    rw [er];exact ⟨tJ.nil λw t h=>by omega,Ji _⟩
   ·rintro i u v p q σ H4 hu hv ⟨⟨v3,v4,v5,v6,rfl⟩,s4,rs,R4,KA,E4⟩ hp hq gw;obtain ⟨h,hh,rfl⟩:=tZ hu;obtain ⟨dv,Gy,Cs⟩:=iR sx hv;rw [Qh] at Gy;obtain ⟨l,hl,rfl⟩:∃ l,ws[i]?=some l/\cR l=dv:=by simp_all
    obtain ⟨aw,rfl,PX⟩:=bK.mp Cs;obtain ⟨hh0,hh1⟩:=g.hand hh;have Eb:=h6 l (Qd hl);have aak:i < 12:=by grind
    have sp:=aD.new (o:=.tup [.int h,.ref aw]) hp;have e!:upd H4 p (.tup [.int h,.ref aw]) q=none:=by rw [aG gw]; exact hq
    have sq:=aD.new (o:=.tup [.int (i:Nat),.ref p]) e!;have ep:upd (upd H4 p (.tup [.int h,.ref aw])) q (.tup [.int (i:Nat),.ref p]) p=some (.tup [.int h,.ref aw]):=sq _ _ aB;have eq:upd (upd H4 p (.tup [.int h,.ref aw])) q (.tup [.int (i:Nat),.ref p]) q=some (.tup [.int (i:Nat),.ref p]):=aB;have s5:=s4.trans (sp.trans sq);have R5:=R4.same (sp.trans sq);generalize upd (upd H4 p (.tup [.int h,.ref aw])) q (.tup [.int (i:Nat),.ref p])=H5 at ep eq s5 R5 ⊢;refine ⟨q,_,rfl,dt.of eq,rfl,_,_,rfl,_,_,rfl,p,_,rfl,dt.of ep,rfl,_,_,rfl,_,_,rfl,rfl,rfl,?_⟩;have qr:h.toNat < qs.length:=by grind
    obtain ⟨qh,Gj⟩:∃ qh,qs[h.toNat]?=some qh:=⟨_,Qc qr⟩
    have j9:((h.toNat:Nat):Int)=h:=by omega
    refine ⟨_,rfl,aw,rfl,⟨_,s5.di PX⟩,gR .t (K:=K) (a:=aw) (xs:=l.map V.int) (λj σ H6=>(∃ v6,σ = [some (.ref a),some (.ref c0),some (.ref rp),some (.int (i:Nat)),some (.int h),some (.ref aw),v6])/\aD H H6/\∃ rs,Rows H6 rp qs rs/\rs.length=n.toNat/\EV (λg w t=>(w < i/\lJ ws hs g w t)∨(w=i/\g=h/\t∈l.take j/\t≠h)) rs (6*i+j))
     ⟨⟨_,rfl⟩,s5,rs,R5,KA,λg r hr=>⟨(E4 g r hr).1.congr λw t=>⟨.inl,λz=>z.elim id λz=>by rw [Wz] at z; exact (Qv z.2.2.1).elim⟩,(E4 g r hr).2⟩⟩ (λ_ σ H6 _ ⟨_,s6,_⟩=>s6.di PX) ?_ ?_⟩
    ·rintro j tv σ H6 Θ ⟨⟨v6,rfl⟩,s6,rs,R6,Af,E6⟩;obtain ⟨t,ht,rfl⟩:=tZ Θ;have hj:j < l.length:=(Qb.mp ht).1;have pk:l.take (j+1)=l.take j++[t]:=by rw [Jw,ht]; rfl
     refine ⟨_,rfl,_,rfl,rfl,_,rfl,eP (λc=>?_) (λc=>?_)⟩
     ·have Km:t≠h:=λz=>by rw [z] at c; simp at c
      obtain ⟨r,hr⟩:∃ r,rs[h.toNat]?=some r:=⟨_,Qc (by simp_all)⟩
      have nu:lj (qs.map V.ref) h=some (.ref qh):=by
       have:=fG (xs:=qs.map V.ref) (j:=h.toNat) (v:=.ref qh) (by rw [Qh,Gj]; rfl);rwa [j9] at this
      have wy:=(E6 _ _ hr).2;have d?:H qh=none:=(Ay qh (Qd Gj)).1;refine ⟨_,rfl,_,rfl,_,rfl,rp,_,h,_,rfl,rfl,dm.of R6.lst,nu,_,rfl,qh,_,rfl,rM.k (k:=.inl t) (R6.row _ _ _ Gj hr) (by grind [Rf]),⟨_,rfl⟩,s6.wr d?,rs.set h.toNat (fO r (.inl t) (.int (i:Nat))),R6.put Gj hr,by rw [Yn]; exact Af,λg2 r2 jt=>?_⟩;rw [Zt] at jt;by_cases eg:h.toNat=g2
      ·rw [if_pos eg,if_pos (by simp_all)] at jt;cases jt;have Y?:((g2:Nat):Int)=h:=by omega
       refine ⟨((E6 _ _ hr).1.put i t).congr λw t'=>?_,Qr (eS _ _ _) 'a'⟩;rw [j9,Y?,pk];constructor
       ·rintro ((z | ⟨z1,z2,z3,z4⟩) | ⟨z1,z2⟩)
        ·exact .inl z
        ·exact .inr ⟨z1,z2,Jy _ z3,z4⟩
        ·exact .inr ⟨z1,rfl,by rw [z2]; simp,by rw [z2]; exact Km⟩
       ·rintro (z | ⟨z1,z2,z3,z4⟩)
        ·exact .inl (.inl z)
        ·rcases Qp.mp z3 with z3 | z3
         ·exact .inl (.inr ⟨z1,z2,z3,z4⟩)
         ·exact .inr ⟨z1,Qi.mp z3⟩
      ·rw [if_neg eg] at jt;refine ⟨(E6 _ _ jt).1.congr λw t'=>?_,Qr (E6 _ _ jt).2 'a'⟩;have ng:¬ ((g2:Nat):Int)=h:=by omega
       constructor
       ·rintro (z | ⟨_,z2,_⟩)
        ·exact .inl z
        ·exact absurd z2 ng
       ·rintro (z | ⟨_,z2,_⟩)
        ·exact .inl z
        ·exact absurd z2 ng
     ·have Km:t=h:=by simpa using c
      refine ⟨⟨_,rfl⟩,s6,rs,R6,Af,λg2 r2 jt=>⟨(E6 _ _ jt).1.congr λw t'=>?_,Qr (E6 _ _ jt).2 'a'⟩⟩;rw [pk];constructor
      ·rintro (z | ⟨z1,z2,z3,z4⟩)
       ·exact .inl z
       ·exact .inr ⟨z1,z2,Jy _ z3,z4⟩
      ·rintro (z | ⟨z1,z2,z3,z4⟩)
       ·exact .inl z
       ·rcases Qp.mp z3 with z3 | z3
        ·exact .inr ⟨z1,z2,z3,z4⟩
        ·exact absurd ((Qi.mp z3).trans Km) z4
    ·rintro σ H6 ⟨⟨v6,rfl⟩,s6,rs,R6,Af,E6⟩;refine ⟨⟨_,_,_,_,rfl⟩,s6,rs,R6,Af,λg2 r2 jt=>⟨(E6 _ _ jt).1.congr λw t'=>?_,Qr (E6 _ _ jt).2 (by grind)⟩⟩;rw [Qa,Qu];constructor
     ·rintro (⟨z1,z2⟩ | ⟨z1,z2,z3,z4⟩)
      ·grind
      ·subst z1;exact ⟨by omega,by rw [hh,z2],l,hl,z3,by rw [z2]; exact z4⟩
     ·rintro ⟨z1,z2⟩;by_cases hw:w < i
      ·exact .inl ⟨hw,z2⟩
      ·have ew:w=i:=by omega
       subst ew;obtain ⟨z3,l',z4,z5,z6⟩:=z2;rw [hh] at z3;rw [hl] at z4;cases z4;have ez:h=g2:=Option.some.inj z3;exact .inr ⟨rfl,ez.symm,z5,by rw [ez]; exact z6⟩
   ·rintro σ H4 ⟨⟨v3,v4,v5,v6,rfl⟩,s4,rs,R4,KA,E4⟩;refine ⟨_,rfl,k rp H4 qs rs s4 NX (λq hq=>(Ay q hq).1) R4 KA λg r hr=>⟨(E4 g r hr).1.congr λw t=>⟨λz=>z.2,λz=>⟨?_,z⟩⟩,Qr (E4 g r hr).2 (by grind)⟩⟩;rw [Qa];exact (Qb.mp z.1).1
def Tp (H H':Hp):Prop:=∀ p xs,H p=some (.tup xs)->H' p=some (.tup xs)
theorem Tp.of (s:aD H H'):Tp H H':=λ_ _ h=>s _ _ h
theorem Tp.upd {a:ae} {u:HO} (h:∀ xs,H a≠some (.tup xs)):Tp H (upd H a u):=λp xs e=>by
 have ne:p≠a:=λz=>h xs (by rw [<- z]; exact e);rw [aG ne]; exact e
theorem uA {fs:List (Key×V)} {os:LIn} (h:fs.map (·.1)=os.map Sum.inl) (t:Int):(cP fs (.inl t)).isSome=decide (t∈os):=by
 rw [<- iG];have:(fs.any λkv=>decide (kv.1=Sum.inl t))=((fs.map (·.1)).any λk=>decide (k=Sum.inl t)):=by rw [Yu]; rfl
 rw [this,h,Yu,Xb];simp
structure Tree (ws:List (LIn)) (hs:LIn) (n first:Int) (H:Hp) (fs:List (Key×V)) (os:LIn):Prop where
 keys:fs.map (·.1)=os.map Sum.inl
 nd:os.Nodup
 so:∀ o∈os,0<=o/\o < n
 head:os[0]?=some first
 v0:cP fs (.inl first)=some .fk
 par:∀ (j:Nat) (t:Int),0 < j->os[j]?=some t->∃ (p:ae) (w:Nat) (g:Int) (i:Nat),cP fs (.inl t)=some (.ref p)/\H p=some (.tup [.int (w:Nat),.int g,.int t])/\lJ ws hs g w t/\i < j/\os[i]?=some g
section
variable {n first:Int} {fs:List (Key×V)} {os:LIn}
theorem Tree.tp (T:Tree ws hs n first H fs os) (e:Tp H H'):Tree ws hs n first H' fs os :=
 ⟨T.keys,T.nd,T.so,T.head,T.v0,λj t h0 h1=>let ⟨p,w,g,i,a,b,c⟩:=T.par j t h0 h1; ⟨p,w,g,i,a,e _ _ b,c⟩⟩
theorem Tree.len (T:Tree ws hs n first H fs os):os.length<=n.toNat:=oO _ _ T.nd λx hx=>by have:=T.so x hx; omega
theorem Tree.FI (T:Tree ws hs n first H fs os):fs.length=os.length:=by
 have:=congrArg Qac T.keys;rwa [Qa,Qa] at this
theorem Tree.one (h0:0<=first) (h1:first < n):Tree ws hs n first H [(.inl first,.fk)] [first] :=
 ⟨rfl,by simp,λo ho=>by rw [Qi.mp ho]; exact ⟨h0,h1⟩,rfl,eL rfl,λj t h2 h3=>by
  cases j with
  | zero=>omega
  | succ j=>simp at h3⟩
theorem Tree.grow (T:Tree ws hs n first H fs os) {p:ae} {w:Nat} {g t:Int} (hp:H p=some (.tup [.int (w:Nat),.int g,.int t])) (e:lJ ws hs g w t) (hi:os[i]?=some g) (ht:t∉os) (r0:0<=t) (r1:t < n) :
  Tree ws hs n first H (fs++[(.inl t,.ref p)]) (os++[t]):=by
 have hv:cP fs (.inl t)=none:=by
  have:=uA T.keys t;rw [decide_eq_false ht] at this;cases q:cP fs (.inl t) with
  | none=>rfl
  | some v=>rw [q] at this; cases this
 have gh:i < os.length:=(Qb.mp hi).1;have val:∀ j:Key,cP (fs++[(.inl t,.ref p)]) j=if j=.inl t then some (.ref p) else cP fs j:=λj=>rK _ _ _ _ hv
 have hf:first∈os:=Qd T.head;refine ⟨by rw [Qm,Qm,T.keys]; rfl,?_,λo ho=>?_,?_,?_,λj t' h0 h1=>?_⟩
 ·rw [Zr];exact ⟨T.nd,by simp,λx hx y hy z=>ht (by rw [<- Qi.mp hy,<- z]; exact hx)⟩
 ·rcases Qp.mp ho with h | h
  ·exact T.so o h
  ·rw [Qi.mp h]; exact ⟨r0,r1⟩
 ·rw [Qq 'a']; exact T.head
 ·rw [val,if_neg (λz=>ht (by have:first=t:=(by simpa using z); rw [<- this]; exact hf))];exact T.v0
 ·by_cases hj:j < os.length
  ·rw [Qq hj] at h1;obtain ⟨p',w',g',i',a,b,c,d,e'⟩:=T.par j t' h0 h1;have ne:(Sum.inl t':Key)≠Sum.inl t:=λz=>ht (by have:t'=t:=(by simpa using z); rw [<- this]; exact Qd h1);exact ⟨p',w',g',i',by rw [val,if_neg ne]; exact a,b,c,d,by rw [Qq 'a']; exact e'⟩
  ·have ej:j=os.length:=by grind
   subst ej;rw [Qx (Qe _),Xv] at h1;have et:t'=t:=by simpa using h1.symm
   subst et;exact ⟨p,w,g,i,by rw [val,if_pos rfl],hp,e,gh,by rw [Qq gh]; exact hi⟩
end
def aKp (ws:List (LIn)) (hs os:LIn):Prop:=∀ g∈os,∀ w t,lJ ws hs g w t->t∈os
def rV (K:Rb):Sp:=λvs H Q _=>∃ rp first qs rs n ws hs,vs = [.ref rp,.int first]/\Rows H rp qs rs/\rs.length=n.toNat/\EV (lJ ws hs) rs 100/\(∀ g w t,lJ ws hs g w t->0<=t/\t < n)/\n<=7/\0<=first/\first < n /\
 ∀ fd H' fs os,aD H H'->H fd=none->H' fd=some (.dK fs)->Tree ws hs n first H' fs os->aKp ws hs os->Q (.ref fd) H'
theorem lK:b_ ["rows", "first", "found", "waiting", "giver", "taker"] ["rows", "first"] (aF nQ):=.of
theorem aN {t u:TS} {D:Ends} {σ:St} (h:∀ u',u'=u->uI t u' D σ H):uI t u D σ H:=h u rfl
theorem bJ {u:TS} {D:Ends} {σ:St} (h:te σ H λv H1=>u D (σ.set i (some v)) H1):uI (A0 te (gI i)) u D σ H:=h
theorem yX {u:TS} {D:Ends} {σ:St} (h:te σ H λ_ H1=>u D σ H1):uI (LY te) u D σ H:=h
theorem dO {t u:TS} {D:Ends} {σ:St} (h:t { D with nx:=u D } σ H):uI t u D σ H:=h
def O0 (H:Hp) (ws:List (LIn)) (hs:LIn) (n first:Int) (rp ky wt:ae) (m:Nat) (σ:St) (H3:Hp):Prop:=∃ (v4 v5:Option V) (mm:Nat) (fs:List (Key×V)) (os:LIn),σ = [some (.ref rp),some (.int first),some (.ref ky),some (.ref wt),v4,v5]/\m=n.toNat - mm/\aD H H3/\H3 ky=some (.dK fs)/\H3 wt=some (.lst ((os.drop mm).map V.int))/\Tree ws hs n first H3 fs os/\mm<=os.length/\∀ (i:Nat) (g:Int),i < mm->os[i]?=some g->∀ w t,lJ ws hs g w t->t∈os
theorem wJ (G:Fn K mg "reached" nQ ["rows", "first"] f fd) (B:Bl mg):c_ P w K mg base d_ 1 f fd ["rows", "first"] (rV K):=by
 refine G.fn.oK lK λfe A outer s H vs Q E hr h=>?_
 ·obtain ⟨rp,first,qs,rs,n,ws,hs,rfl,R,ot,ER,pd,ie,u!,t?,k⟩:=h;refine ⟨_,(aE (aU (i:=2) lK.nd rfl eh (aGa (pv 1) rA))
   (aE (aU (i:=3) lK.nd rfl eh (eG (aA (pv 1) aC)))
   (aE (pP bc.never (uL (pv 3) (λ_=>rfl))
    (aE (aU (i:=4) lK.nd rfl eh (kN Rk PySem.F.slot_list_pop PySem.F.type_list_pop aFR (pv 3) (aA aH aC)))
    (aI (VN (jH bc.never rfl (VO (bM bU (pv 0) (pv 4) su)) (aM (i:=5) lK.nd rfl eh)
     (aI (bQ (rB (oB (dS hr) (pv 5) (pv 2)) (by rfl))
      (aE (jQ (dS hr) (pv 2) (pv 5) (cH (aA (bL (dS hr) (bM bU (pv 0) (pv 4) su) (pv 5) su) (aA (pv 4) (aA (pv 5) aC)))) rfl)
      (aI (bY (kN Rk Rp Rq eI (pv 3) (aA (pv 5) aC)))))
      aW)))))))
   (aI (aP (pv 2)))))),?_⟩
  dsimp only [cB,Cx.gf];refine aN λu hu=>bJ λky Ag=>?_;refine ⟨_,rfl,.inl first,rfl,aB,?_⟩;rw [kM];have s1:=aD.new (o:=.dK [(.inl first,.fk)]) Ag;have e1:upd H ky (.dK [(.inl first,.fk)]) ky=some (.dK [(.inl first,.fk)]):=aB;generalize upd H ky (.dK [(.inl first,.fk)])=H1 at s1 e1 ⊢;subst hu;refine aN λu hu=>bJ ⟨_,rfl,Bh _,λwt mn=>?_⟩;have B3:H wt=none:=s1.free mn;have JW:ky≠wt:=λz=>by rw [z,mn] at e1; cases e1
  have s2:=s1.trans (aD.new (o:=.lst [.int first]) mn);have e2:=(aD.new (o:=.lst [.int first]) mn) _ _ e1;have w2:upd H1 wt (.lst [.int first]) wt=some (.lst [.int first]):=aB;generalize upd H1 wt (.lst [.int first])=H2 at s2 e2 w2 ⊢
  -- the while
  subst hu;refine aN λu hu=>dO ⟨O0 H ws hs n first rp ky wt,
   ⟨n.toNat - 0,none,none,0,_,[first],rfl,rfl,s2,e2,w2,Tree.one u! t?,Ji _,λi g hi=>absurd hi (Nat.not_lt_zero _)⟩,?_⟩
  rintro m σ H3 ⟨v4,v5,mm,fs,os,rfl,rfl,s3,e3,w3,T3,hmm,O2⟩;refine ⟨_,rfl,!((os.drop mm).map V.int).isEmpty,.inl ⟨_,dm.of w3,rfl⟩,?_⟩;by_cases Cg:mm < os.length
  ·-- a turn
   have gw:(os.drop mm)≠[]:=by simp_all
   have hb:(!((os.drop mm).map V.int).isEmpty)=true:=by
    cases q:os.drop mm with
    | nil=>exact absurd q gw
    | cons _ _=>rfl
   rw [hb];refine iE ?_;have pe:os.drop mm=os[mm]::os.drop (mm+1):=Zw Cg;have KD:os[mm]?=some (os[mm]):=Qc Cg;generalize os[mm]=g at pe KD;obtain ⟨PR,hg1⟩:=T3.so g (Qd KD);have YN:=T3.len;obtain ⟨N,hN⟩:∃ N:St->Hp->Prop,N=λd9 H'=>∃ m',m' < n.toNat - mm/\O0 H ws hs n first rp ky wt m' d9 H':=⟨_,rfl⟩
   refine ⟨N,λd9 H' z=>by rwa [hN] at z,?_⟩;clear hu;refine aN λu hu=>bJ ?_;refine ⟨_,rfl,.inl ⟨rfl,_,dm.of w3⟩,?_⟩;have Po:((os.drop mm).map V.int)[0]?=some (.int g):=by rw [pe]; rfl
   have Aw:0 < ((os.drop mm).map V.int).length:=(Qb.mp Po).1;refine ⟨wt,_,0,0,.int g,rfl,rfl,w3,by decide,by decide,pZ (i:=0) 'c' Aw,Po,?_⟩;have u?:((os.drop mm).map V.int).eraseIdx 0=(os.drop (mm+1)).map V.int:=by rw [pe]; rfl
   rw [u?];have s4:=s3.wr (u:=.lst ((os.drop (mm+1)).map V.int)) B3;have e4:upd H3 wt (.lst ((os.drop (mm+1)).map V.int)) ky=some (.dK fs):=by rw [aG JW]; exact e3
   have w4:upd H3 wt (.lst ((os.drop (mm+1)).map V.int)) wt=some (.lst ((os.drop (mm+1)).map V.int)):=aB;have T4:=T3.tp (Tp.upd (a:=wt) (u:=.lst ((os.drop (mm+1)).map V.int)) λxs z=>by rw [w3] at z; cases z);generalize upd H3 wt (.lst ((os.drop (mm+1)).map V.int))=H4 at s4 e4 w4 T4 ⊢
   -- the row
   have qr:g.toNat < qs.length:=by rw [R.len,ot]; omega
   have j9:((g.toNat:Nat):Int)=g:=by omega
   obtain ⟨qg,Pz⟩:∃ q,qs[g.toNat]?=some q:=⟨_,Qc qr⟩
   obtain ⟨r,hr⟩:∃ r,rs[g.toNat]?=some r:=⟨_,Qc (by simp_all)⟩
   have nu:lj (qs.map V.ref) g=some (.ref qg):=by
    have:=fG (xs:=qs.map V.ref) (j:=g.toNat) (v:=.ref qg) (by rw [Qh,Pz]; rfl);rwa [j9] at this
   have o6:=R.row _ _ _ Pz hr;have Bb:=s4 _ _ o6;obtain ⟨K3,hRl⟩:=ER _ _ hr;rw [j9] at K3;have JP:qg≠ky:=λz=>by rw [z,Ag] at o6; cases o6
   have JO:qg≠wt:=λz=>by rw [z,B3] at o6; cases o6
   have ZY:rp≠qg:=λz=>by have:=R.lst; rw [z,o6] at this; cases this
   subst hu;refine ⟨_,rfl,_,rfl,rp,_,g,_,rfl,rfl,dm.of (R.same s4).lst,nu,qg,r,rfl,Bb,λo nf=>?_⟩;have z5:upd H4 qg (.f_ o (.dK r)) qg=some (.f_ o (.dK r)):=aB;have b5:fg qg H (upd H4 qg (.f_ o (.dK r))):=λb u nb hb=>by rw [aG nb]; exact s4 _ _ hb
   have e5:upd H4 qg (.f_ o (.dK r)) ky=some (.dK fs):=by rw [aG (Ne.symm JP)]; exact e4
   have w5:upd H4 qg (.f_ o (.dK r)) wt=some (.lst ((os.drop (mm+1)).map V.int)):=by rw [aG (Ne.symm JO)]; exact w4
   have T5:=T4.tp (Tp.upd (a:=qg) (u:=.f_ o (.dK r)) λxs z=>by rw [Bb] at z; cases z);generalize upd H4 qg (.f_ o (.dK r))=H5 at z5 b5 e5 w5 T5 ⊢;refine aF9 (a:=qg) (o:=o) (kvs:=r) (λj σ H6=>∃ (v5:Option V) (fs:List (Key×V)) (os:LIn),σ = [some (.ref rp),some (.int first),some (.ref ky),some (.ref wt),some (.int g),v5]/\H6 qg=some (.f_ o (.dK r))/\fg qg H H6/\H6 ky=some (.dK fs)/\H6 wt=some (.lst ((os.drop (mm+1)).map V.int))/\Tree ws hs n first H6 fs os/\mm+1<=os.length/\os[mm]?=some g /\
     (∀ (i:Nat) (g:Int),i < mm->os[i]?=some g->∀ w t,lJ ws hs g w t->t∈os)/\∀ (i:Nat) k v t,i < j->r[i]?=some (k,v)->k=.inl t->t∈os)
    ⟨v5,fs,os,rfl,z5,b5,e5,w5,T5,Cg,KD,O2,λi k v t hi=>absurd hi (Nat.not_lt_zero _)⟩ (λj σ H6 _ ⟨_,_,_,_,h,_⟩=>h) ?_ ?_
   ·rintro j ⟨key,val⟩ σ H6 hj ⟨v5,fs,os,rfl,z6,b6,e6,w6,T6,Eb,Ei,JK,Lk⟩
    -- the key is a hand,its value a work
    obtain ⟨aaa,xr⟩:∃ v,cP r key=some v:=by
     have:(cP r key).isSome=true:=by
      rw [<- iG,Xs];exact ⟨_,Qd hj,by simp⟩
     cases q:cP r key with
     | none=>rw [q] at this; cases this
     | some v=>exact ⟨v,rfl⟩
    obtain ⟨wk,t,rfl,rfl,hE⟩:=K3.1 _ _ xr;obtain ⟨yo,Ψ⟩:=pd _ _ _ hE;dsimp only [kV];have dn:∀ (CO:LIn),t∈CO->(∀ x∈os,x∈CO)->∀ (i:Nat) k v t',i < j+1->r[i]?=some (k,v)->k=.inl t'->t'∈CO:=λCO h1 h2 i k v t' hi hk he=>by
     by_cases yq:i < j
     ·exact h2 _ (Lk i k v t' yq hk he)
     ·grind
    refine ⟨_,rfl,_,rfl,ky,_,rfl,nI.k (k:=.inl t) e6,_,rfl,?_⟩;rw [uA T6.keys];by_cases Bq:t∈os
    ·rw [decide_eq_true Bq];exact iQ ⟨_,fs,os,rfl,z6,b6,e6,w6,T6,Eb,Ei,JK,dn os Bq λ_ h=>h⟩
    ·rw [decide_eq_false Bq];refine iE (aN λu hu=>dO ?_);have C?:H6 rp=some (.lst (qs.map V.ref)):=b6 _ _ ZY R.lst;refine ⟨_,rfl,_,rfl,rp,_,g,_,rfl,rfl,dm.of C?,nu,_,rfl,qg,.int (wk:Nat),rfl,.inl ⟨r,.inl t,.inr ⟨o,z6⟩,rfl,xr.symm⟩,_,rfl,_,rfl,cK (show 3<=1000 by decide),λp hp=>?_⟩;have sp:=aD.new (o:=.tup [.int (wk:Nat),.int g,.int t]) hp;have ep:upd H6 p (.tup [.int (wk:Nat),.int g,.int t]) p=_:=aB;have b7:fg qg H (upd H6 p (.tup [.int (wk:Nat),.int g,.int t])):=b6.trans (fg.of sp);have z7:=sp _ _ z6;have e7:=sp _ _ e6;have w7:=sp _ _ w6;have T7:=T6.tp (Tp.of sp);generalize upd H6 p (.tup [.int (wk:Nat),.int g,.int t])=H7 at sp ep b7 z7 e7 w7 T7 ⊢;have hv:cP fs (.inl t)=none:=by
      have:=uA T7.keys t;rw [decide_eq_false Bq] at this;cases q:cP fs (.inl t) with
      | none=>rfl
      | some v=>rw [q] at this; cases this
     have T7l:=T7.len;have T7f:=T7.FI;have T8:=T7.grow ep hE Ei Bq yo Ψ;have B6:fO fs (.inl t) (.ref p)=fs++[(.inl t,.ref p)]:=pW _ hv;refine ⟨_,rfl,_,rfl,ky,_,rfl,rM.k (k:=.inl t) e7 (by grind [Rf]),?_⟩;rw [B6];have b8:fg qg H (upd H7 ky (.dK (fs++[(.inl t,.ref p)]))):=λb u nb hb=>by
      rw [aG (λz=>by rw [z,Ag] at hb; cases hb)];exact b7 b u nb hb
     have z8:upd H7 ky (.dK (fs++[(.inl t,.ref p)])) qg=some (.f_ o (.dK r)):=by rw [aG JP]; exact z7
     have e8:upd H7 ky (.dK (fs++[(.inl t,.ref p)])) ky=_:=aB;have w8:upd H7 ky (.dK (fs++[(.inl t,.ref p)])) wt=some (.lst ((os.drop (mm+1)).map V.int)):=by rw [aG (Ne.symm JW)]; exact w7
     have X9:=T8.tp (Tp.upd (a:=ky) (u:=.dK (fs++[(.inl t,.ref p)])) λxs z=>by rw [e7] at z; cases z);generalize upd H7 ky (.dK (fs++[(.inl t,.ref p)]))=H8 at b8 z8 e8 w8 X9 ⊢;subst hu;refine ⟨_,rfl,.inl ⟨rfl,_,dm.of w8⟩,_,rfl,wt,_,.int t,rfl,rfl,w8,by rw [Qa,Xa,Rf]; omega,?_⟩;have w!:(os.drop (mm+1)).map V.int++[V.int t]=((os++[t]).drop (mm+1)).map V.int:=by
      rw [List.drop_append_of_le_length Eb,Qm]; rfl
     rw [w!];refine ⟨_,_,os++[t],rfl,by rw [aG JO]; exact z8,λb u nb hb=>?_,by rw [aG JW]; exact e8,aB,X9.tp (Tp.upd λxs z=>by rw [w8] at z; cases z),by rw [Qg]; omega,by rw [Qq 'a']; exact Ei,λi g' hi AI w t' e'=>?_,dn _ 'b' λx hx=>Jy _ hx⟩
     ·rw [aG (λz=>by rw [z,B3] at hb; cases hb)];exact b8 b u nb hb
     ·grind
   ·rintro σ H6 ⟨v5,fs,os,rfl,z6,b6,e6,w6,T6,Eb,Ei,JK,Lk⟩;refine ⟨qg,o,r,z6,nf,?_⟩;have hole:=T6.len;have s7:aD H (upd H6 qg (.dK r)):=λb u hb=>by
     by_cases PV:b=qg
     ·simp_all [aB]
     ·rw [aG PV]; exact b6 b u PV hb
    show N _ _;rw [hN];refine ⟨n.toNat - (mm+1),by omega,_,_,mm+1,fs,os,rfl,rfl,s7,by rw [aG (Ne.symm JP)]; exact e6,by rw [aG (Ne.symm JO)]; exact w6,T6.tp (Tp.upd λxs z=>by rw [z6] at z; cases z),Eb,λi g' hi AI w t e=>?_⟩;by_cases q!:i < mm
    ·exact JK i g' q! AI w t e
    ·have:i=mm:=by omega
     subst this;rw [Ei] at AI;cases AI;have hs:=K3.2 w t e;rw [<- iG,Xs] at hs;obtain ⟨⟨k,v⟩,hk,he⟩:=hs;obtain ⟨j,hj⟩:=Jr.mp hk;exact Lk j k v t (Qb.mp hj).1 hj (by simpa using he)
  ·have hlen:mm=os.length:=by omega
   have hb:(!((os.drop mm).map V.int).isEmpty)=false:=by simp_all
   rw [hb];subst hu;refine iQ ⟨_,rfl,k ky H3 fs os s3 Ag e3 T3 λg hg w t e=>?_⟩;obtain ⟨i,hi⟩:=Jr.mp hg;exact O2 i g (by grind) hi w t e
structure fq (H:Hp) (ps:List ae) (ss:List (Nat×Int×Int)):Prop where
 len:ps.length=ss.length
 at_:∀ (i:Nat) p s,ps[i]?=some p->ss[i]?=some s->H p=some (.tup [.int (s.1:Nat),.int s.2.1,.int s.2.2])
theorem fq.nil:fq H [] []:=⟨rfl,λi p s h=>by simp at h⟩
theorem fq.cons {ps:List ae} (h:fq H ps ss) {p:ae} {w:Nat} {g t:Int} (hp:H p=some (.tup [.int (w:Nat),.int g,.int t])):fq H (p::ps) ((w,g,t)::ss):=by
 refine ⟨by rw [Jl,Jl,h.len],λi p' s h1 h2=>?_⟩;cases i with
 | zero =>
  have e1:p=p':=by simpa using h1
  have e2:(w,g,t)=s:=by simpa using h2
  subst e1 e2;exact hp
 | succ i=>exact h.at_ i p' s (by assumption) (by assumption)
theorem fq.tp {ps:List ae} (h:fq H ps ss) (e:Tp H H'):fq H' ps ss:=⟨h.len,λi p s a b=>e _ _ (h.at_ i p s a b)⟩
def Ni (K:Rb):Sp:=λvs H Q _=>∃ my last fs os first n ws hs jl,vs = [.ref my,.int last]/\H my=some (.dK fs)/\Tree ws hs n first H fs os/\n<=7/\os[jl]?=some last /\
 ∀ p H' ps ss,aD H H'->H p=none->H' p=some (.lst (ps.map V.ref))->fq H' ps ss->mF ws hs first ss last->(first::ss.map (·.2.2)).Nodup->(∀ s∈ss,s.2.2∈os)->(0 < jl->ss≠[])->Q (.ref p) H'
theorem uB:b_ ["found", "last", "some", "step"] ["found", "last"] (aF vY):=.of
def Oy (H : Hp) (ws : List (LIn)) (hs : LIn) (my sm : ae) (last : Int) (jl : Nat) (os : LIn) (fs : List (Key × V)) (m : Nat) (σ : St) (H2 : Hp) : Prop := ∃ (j : Nat) (t : Int) (v : V) (vk : List ae) (ss : List (Nat × Int × Int)), m = j /\ σ = [some (.ref my), some (.int last), some (.ref sm), some v] /\ os[j]? = some t /\ cP fs (.inl t) = some v /\ aD H H2 /\ H2 sm = some (.lst (vk.map V.ref)) /\ fq H2 vk.reverse ss /\ mF ws hs t ss last /\ (t :: ss.map (·.2.2)).Nodup /\
        (∀ x∈ss.map (·.2.2),∃ i:Nat,j < i/\os[i]?=some x)/\vk.length+j<=jl/\(j < jl->ss≠[])
theorem XR (G:Fn K mg "way_to" vY ["found", "last"] f fd) (B:Bl mg):c_ P w K mg base d_ 1 f fd ["found", "last"] (Ni K):=by
 refine G.fn.oK uB λfe A outer s H vs Q E hr h=>?_
 ·obtain ⟨my,last,fs,os,first,n,ws,hs,jl,rfl,KJ,T,ie,qq,k⟩:=h;refine ⟨_,(aE (aU (i:=2) uB.nd rfl eh (eG aC))
   (aE (aU (i:=3) uB.nd rfl eh (bL (dS hr) (pv 0) (pv 1) su))
   (aE (pP bc.never (rB (aHC (pv 3)))
    (aE (bY (kN Rk Rp Rq eI (pv 2) (aA (pv 3) aC)))
    (aI (aU (i:=3) uB.nd rfl eh (bL (dS hr) (pv 0) (bM dN (pv 3) aH gb) (λ_ _=>rfl))))))
   (aI (aP (aH5 (pv 2) (LV MO aH))))))),?_⟩
  dsimp only [cB,Cx.gf];have N4:n.toNat < af:=by grind [Rf]
  refine aN λu hu=>bJ ⟨cK (show 0<=1000 by decide),λsm Br=>?_⟩;have s1:=aD.new (o:=.lst []) Br;have e1:upd H sm (.lst []) sm=some (.lst []):=aB;generalize upd H sm (.lst [])=H1 at s1 e1 ⊢
  -- what stands at a found hand
  have vals:∀ (j:Nat) (t:Int),os[j]?=some t->∃ v,cP fs (.inl t)=some v/\((j=0/\v=.fk)∨∃ p w g i,0 < j/\v=.ref p/\H p=some (.tup [.int (w:Nat),.int g,.int t])/\lJ ws hs g w t/\i < j/\os[i]?=some g):=λj t ht=>by
   by_cases hj:j=0
   ·subst hj;rw [T.head] at ht;cases ht;exact ⟨_,T.v0,.inl ⟨rfl,rfl⟩⟩
   ·obtain ⟨p,w,g,i,a,b,c,d,e⟩:=T.par j t 'a' ht;exact ⟨_,a,.inr ⟨p,w,g,i,by omega,rfl,b,c,d,e⟩⟩
  obtain ⟨v0,Pu,_⟩:=vals jl last qq;subst hu;refine aN λu hu=>bJ ⟨_,rfl,_,rfl,my,v0,rfl,.inl ⟨fs,.inl last,.inl (s1 _ _ KJ),rfl,Pu.symm⟩,?_⟩;subst hu;refine aN λu hu=>dO ⟨Oy H ws hs my sm last jl os fs,
   ⟨jl,jl,last,v0,[],[],rfl,rfl,qq,Pu,s1,e1,fq.nil,rfl,by simp,λx h=>by simp at h,by simp,λh=>by omega⟩,?_⟩
  rintro j σ H2 ⟨_,t,v,vk,ss,rfl,rfl,hj,hv,s2,e2,S2,P2,N2,I2,L2',L3⟩;have p!:jl < os.length:=(Qb.mp qq).1;obtain ⟨v',zj,cs⟩:=vals j t hj;rw [hv] at zj;cases zj;rcases cs with ⟨rfl,rfl⟩ | ⟨p,w,g,i,hj0,rfl,hp,hE,yq,hg⟩
  ·refine ⟨_,rfl,_,rfl,iQ ?_⟩;rw [T.head] at hj;cases hj;dsimp only;subst hu;refine ⟨_,rfl,_,rfl,rfl,sm,_,rfl,dm.of e2,λp hp=>?_⟩;have s3:=aD.new (o:=.lst (vk.map V.ref).reverse) hp;refine k p _ vk.reverse ss (s2.trans s3) (s2.free hp) (by simp [aB,List.map_reverse]) (S2.tp (Tp.of s3)) P2 N2 (λx hx=>?_) L3;obtain ⟨i,_,hi⟩:=I2 _ (Jc.mpr ⟨x,hx,rfl⟩);exact Qd hi
  ·refine ⟨_,rfl,_,rfl,iE ?_⟩;obtain ⟨vg,Pp,_⟩:=vals i g hg;obtain ⟨N,hN⟩:∃ N:St->Hp->Prop,N=λd9 H'=>∃ m',m' < j/\Oy H ws hs my sm last jl os fs m' d9 H':=⟨_,rfl⟩
   refine ⟨N,λd9 H' z=>by rwa [hN] at z,?_⟩;clear hu;have hsz:(vk.map V.ref).length < af:=by
    rw [Qa];exact Xo (Qr (Qr (Nat.le_add_right _ _) L2') (Qr (Jx p!) T.len)) N4
   refine aN λu hu=>yX ⟨_,rfl,.inl ⟨rfl,_,dm.of e2⟩,_,rfl,sm,_,.ref p,rfl,rfl,e2,hsz,?_⟩;have s3:aD H (upd H2 sm (.lst (vk.map V.ref++[.ref p]))):=s2.wr Br;have e3:upd H2 sm (.lst (vk.map V.ref++[.ref p])) sm=_:=aB;have S3:=S2.tp (Tp.upd (a:=sm) (u:=.lst (vk.map V.ref++[.ref p])) λxs z=>by rw [e2] at z; cases z);generalize upd H2 sm (.lst (vk.map V.ref++[.ref p]))=H3 at s3 e3 S3 ⊢;have Bv:=s3 _ _ hp;subst hu;refine ⟨_,rfl,_,rfl,p,_,1,.int g,rfl,rfl,dt.of Bv,rfl,my,vg,rfl,.inl ⟨fs,.inl g,.inl (s3 _ _ KJ),rfl,Pp.symm⟩,?_⟩;show N _ _;rw [hN];refine ⟨i,yq,i,g,vg,vk++[p],(w,g,t)::ss,rfl,rfl,hg,Pp,s3,by rw [Qm]; exact e3,?_,⟨rfl,hE,P2⟩,?_,?_,?_,λ_=>by simp⟩
   ·rw [List.reverse_append];exact S3.cons Bv
   ·show (g::t::ss.map (·.2.2)).Nodup;rw [Jq];refine ⟨λhm=>?_,N2⟩;have inj:∀ i',i < i'->os[i']?=some g->False:=λi' h1 h2=>by
     have:=(Wc (Qb.mp hg).1 T.nd).mp (hg.trans h2.symm);omega
    rcases Ql.mp hm with e | hm
    ·exact inj j yq (by rw [e]; exact hj)
    ·obtain ⟨i',h1,h2⟩:=I2 g hm;exact inj i' 'a' h2
   ·intro x hx;rcases Ql.mp (show x∈t::ss.map (·.2.2) from hx) with rfl | hx
    ·exact ⟨j,yq,hj⟩
    ·obtain ⟨i',h1,h2⟩:=I2 x hx;exact ⟨i',by omega,h2⟩
   ·grind
noncomputable def xT:aj:=("steps_to_least" : aj) ++ ".<locals>." ++ "<lambda>"
theorem oP {dz:LIn} {n g t:Int} {w:Nat} (hl:hs.length=ws.length):lJ (ws++[dz]) (hs++[n]) g w t↔lJ ws hs g w t∨(w=hs.length/\g=n/\t∈dz/\t≠n):=by
 unfold lJ;rcases Nat.lt_trichotomy w hs.length with h | h | h
 ·rw [Qq h,Qq 'a'];exact ⟨.inl,λz=>z.elim id λz=>by omega⟩
 ·subst h;rw [Qx (Qe _),Xv,hl,Qx (Qe _),Xv,Yi (by omega:hs.length<=ws.length)];constructor
  ·rintro ⟨e,l,e2,h1,h2⟩;have e:n=g:=by simpa using e
   have e2:dz=l:=by simpa using e2
   subst e e2;exact .inr ⟨rfl,rfl,h1,h2⟩
  ·rintro (⟨e,_⟩ | ⟨_,rfl,h1,h2⟩)
   ·cases e
   ·exact ⟨rfl,dz,rfl,h1,h2⟩
 ·rw [Yi (by grind),Yi (by grind)];constructor
  ·rintro ⟨e,_⟩; cases e
  ·grind
def V3 (K:Rb) (Pt:ae):Sp:=λvs H Q _=>∃ (x:V) (dp ap mp:ae) (n:Int) (ws:List (LIn)) (hs dz ms:LIn),vs = [x,.ref dp,.ref ap,.ref mp]/\rR K H x (.ref dp) n ws hs/\dt K H ap (dz.map V.int)/\cA n (cR dz)=true/\dt K H mp (ms.map V.int)/\ms.length=n.toNat/\H Pt=some (.tab xT) /\
 ∀ p H' ps ss last,aD H H'->H p=none->H' p=some (.lst (ps.map V.ref))->fq H' ps ss->mF (ws++[dz]) (hs++[n]) n ss last->(n::ss.map (·.2.2)).Nodup->ss≠[]->Q (.ref p) H'
theorem uC:b_ ["book", "deal", "able", "measures", "nobody", "found", "last"] ["book", "deal", "able", "measures"] (aF lI):=.of
theorem aGz {Ez fR Ey:ae} {EH dR EG:bh} (G:Fn K mg "steps_to_least" lI ["book", "deal", "able", "measures"] f fd) (hc:fd.code=.ref c) (Z:Lm K mg base c Pt) (B:Bl mg) (GH:Fn K mg "handing" lH ["book", "deal"] Ez EH) (GR:Fn K mg "reached" nQ ["rows", "first"] fR dR) (GW:Fn K mg "way_to" vY ["found", "last"] Ey EG):c_ P w K mg base d_ 2 f fd ["book", "deal", "able", "measures"] (V3 K Pt):=by
 have OH:c_ P w K mg base d_ 1 Ez EH ["book", "deal"] (rT K):=wI GH B;have OR:c_ P w K mg base d_ 1 fR dR ["rows", "first"] (rV K):=wJ GR B;have OW:c_ P w K mg base d_ 1 Ey EG ["found", "last"] (Ni K):=XR GW B;refine G.fn.ZT hc uC (λvs H Q E h=>?_) (λA outer s H vs Q E hr h=>?_)
 ·obtain ⟨x,dp,ap,mp,n,ws,hs,dz,ms,rfl,_⟩:=h;rfl
 ·obtain ⟨x,dp,ap,mp,n,ws,hs,dz,ms,rfl,g,BF,zi,Kv,Gs,hT,k⟩:=h;have r1:dj 1 _:=hr;refine ⟨_,(aE (aU (i:=4) uC.nd rfl (Or.inr rfl) (bM dN (pv 0) aH gb))
   (aE (aU (i:=5) uC.nd rfl eh (fU GR OR r1 rfl (aA (aS fE (fU GH OH r1 rfl (aA (pv 0) (aA (pv 1) aC)))
     (eG (aA (aGg (own:=["hand"]) (fr:=[1]) (ff:=["deal"]) (aX (aF lI) ["book", "deal", "able", "measures", "nobody", "found", "last"] rfl rfl 'd') rfl (hG (pv 2))
      (λ_ _ _ _=>aM (i:=0) (show (["hand", "deal"]:List aj).Nodup by decide +kernel) rfl eh) (λ_ _ _ _=>cQ) (λ_ _ _ _=>pv 0) (λ_ _ _ _=>aK (xS (K:=K) rfl) rfl B.len cO (aA (pv 1) aC))) aC)))
     (aA (pv 4) aC))))
   (aE (aU (i:=6) uC.nd rfl eh (aEW 3 rfl r1 rfl B.min Z rfl (q:=xT) rfl
     (vG (own:=["hand"]) (fr:=[4]) (ff:=["nobody"]) (aX (aF lI) ["book", "deal", "able", "measures", "nobody", "found", "last"] rfl rfl 'd') rfl (pv 5)
      (λ_ _ _ _=>aM (i:=0) (show (["hand", "nobody"]:List aj).Nodup by decide +kernel) rfl eh) (λ_ _ _ _=>nE (aO iB (pv 0) (pv 1) ft)) (λ_ _ _ _=>pv 0)) rfl rfl))
   (aI (aP (fU GW OW r1 rfl (aA (pv 5) (aA (pv 6) aC)))))))),?_⟩
  dsimp only [cB,Cx.gf];obtain ⟨Fx,ju,ie⟩:=g.len;obtain ⟨dp',Z?,Oc⟩:=bK.mp g.2.2.1;cases Z?;obtain ⟨a,b,ys,rfl,ha,zq,sx⟩:=iI g.1;obtain ⟨_,_,gz,j5⟩:=aV g.2.1;obtain ⟨uu,AJ⟩:=fY g.2.2.2;obtain ⟨FY,Be,FW⟩:=bO zi;have aam:dz.length<=6:=by have:=kI 'a' Be FW; omega
  have pd:∀ g w t,lJ (ws++[dz]) (hs++[n]) g w t->0<=t/\t < n+1:=λg w t e=>by
   rcases (oP uu).mp e with ⟨_,l,h1,h2,_⟩ | ⟨_,_,h2,_⟩
   ·have:=(bO (j5 l (Qd h1))).2.1 t h2; omega
   ·grind
  refine aN λu hu=>bJ ⟨_,rfl,a,_,0,.int n,rfl,rfl,ha,rfl,?_⟩;subst hu;refine aN λu hu=>bJ ⟨_,rfl,_,rfl,.ref a,.ref dp,n,ws,hs,rfl,g,λrp H2 qs rs s2 uh Ay R2 ot ER=>?_⟩;refine ⟨_,rfl,ap,rfl,⟨_,s2.di BF⟩,aEY (K:=K) (a:=ap) (xs:=dz.map V.int) (λσ=>∃ v,σ = [v,some (.ref dp)]) (λi zs H3=>H3=H2/\zs.length<=i/\tJ (λw t=>w=hs.length/\t∈dz.take i) zs) (cK (by grind)) ⟨_,rfl⟩ ⟨rfl,Qe _,tJ.nil λw t z=>by simp at z⟩
   (λi zs H3 z=>z.2.1) (λi zs H3 z=>by rw [z.1]; exact s2.di BF) ?_ ?_⟩
  ·rintro i zs σ v H3 hv ⟨v0,rfl⟩ ⟨rfl,hz,hE⟩ hsz;obtain ⟨t,ht,rfl⟩:=tZ hv;refine bX ⟨_,rfl,_,rfl,dp,_,rfl,.inr (s2.di Oc),.inl t,rfl,hsz,⟨_,rfl⟩,rfl,Qr (eS _ _ _) 'a',?_⟩;rw [Qa];refine (hE.put hs.length t).congr λw t'=>?_;rw [Jw,ht];constructor
   ·rintro (⟨h1,h2⟩ | ⟨h1,h2⟩)
    ·exact ⟨h1,Jy _ h2⟩
    ·simp_all
   ·simp_all
  ·rintro zs H3 ⟨rfl,hz,hE⟩ dq KN;have xt:H3 rp=some (.lst (qs.map V.ref)):=R2.lst;have sd:=aD.new (o:=.dK zs) KN;have aal:H dq=none:=s2.free KN;have ed:upd H3 dq (.dK zs) dq=some (.dK zs):=aB;have Rd:=R2.same sd;have s3:=s2.trans sd;generalize upd H3 dq (.dK zs)=H4 at sd ed Rd s3 ⊢;refine ⟨Bh _,λlq AD=>?_⟩;have sl:=aD.new (o:=.lst [.ref dq]) AD;have el:upd H4 lq (.lst [.ref dq]) lq=some (.lst [.ref dq]):=aB;have s4:=s3.trans sl;have Rl:=Rd.same sl;have So:=sl _ _ ed;generalize upd H4 lq (.lst [.ref dq])=H5 at sl el s4 Rl So ⊢;have hqn:qs.length=n.toNat:=by rw [R2.len,ot]
   refine ⟨rp,lq,_,_,rfl,rfl,Rl.lst,el,by rw [Qa,Rf]; show _+1<=_; omega,λrq d!=>?_⟩;have sr:=aD.new (o:=.lst (qs.map V.ref++[.ref dq])) d!;have s5:=s4.trans sr;have er:upd H5 rq (.lst (qs.map V.ref++[.ref dq])) rq=some (.lst ((qs++[dq]).map V.ref)):=by rw [aB,Qm]; rfl
   have Sn:=sr _ _ So;have Rr:=Rl.same sr;generalize upd H5 rq (.lst (qs.map V.ref++[.ref dq]))=H6 at sr s5 er Sn Rr ⊢;have R6:Rows H6 rq (qs++[dq]) (rs++[zs]):=by
    refine ⟨er,by rw [Qg,Qg,R2.len]; rfl,?_,λg q r h1 h2=>?_⟩
    ·rw [Zr];refine ⟨R2.nd,by simp,λx hx y hy e=>?_⟩;rw [Qi.mp hy] at e;obtain ⟨i,hi⟩:=Jr.mp hx;have q?:i < rs.length:=by rw [<- R2.len]; exact (Qb.mp hi).1
     have:=R2.row i x _ hi (Qc q?);rw [e,KN] at this; cases this
    ·by_cases hg:g < qs.length
     ·rw [Qq hg] at h1;rw [Qq (by rw [<- R2.len]; exact hg)] at h2;exact Rr.row g q r h1 h2
     ·have eg:g=qs.length:=by grind
      subst eg;rw [Qx (Qe _),Xv] at h1;rw [R2.len,Qx (Qe _),Xv] at h2;have e1:dq=q:=by simpa using h1
      have e2:zs=r:=by simpa using h2
      subst e1 e2;exact Sn
   have E6:EV (lJ (ws++[dz]) (hs++[n])) (rs++[zs]) 100:=by
    intro g r Gx;by_cases hg:g < rs.length
    ·rw [Qq hg] at Gx;obtain ⟨e1,e2⟩:=ER g r Gx;refine ⟨e1.congr λw t=>?_,e2⟩;rw [oP uu];exact ⟨.inl,λz=>z.elim id λz=>by omega⟩
    ·have eg:g=rs.length:=by grind
     subst eg;rw [Qx (Qe _),Xv] at Gx;have e2:zs=r:=by simpa using Gx
     subst e2;refine ⟨hE.congr λw t=>?_,by rw [Qa] at hz; omega⟩;rw [oP uu,Qa,Qu];constructor
     ·grind
     ·rintro (⟨h1,_⟩ | ⟨h1,_,h2,_⟩)
      ·have h3:hs[w]?=some ((rs.length:Nat):Int):=h1;have:=g.hand h3;omega
      ·exact ⟨h1,h2⟩
   refine ⟨_,rfl,rq,n,qs++[dq],rs++[zs],n+1,ws++[dz],hs++[n],rfl,R6,by rw [Qg,ot]; show _+1=_; omega,E6,pd,by omega,by omega,by omega,λmy H7 fs os s7 KJ e7 T7 C7=>?_⟩;have T7l:=T7.len;have s?:=T7.FI;have N5:n∈os:=Qd T7.head;subst hu;refine aN λu hu=>bJ ⟨_,rfl,my,fs,rfl,e7,λo=>yN (a:=my) (o:=o) (kvs:=fs) (λσ=>∃ v,σ = [v,some (.int n)]) (λi zs H8=>H8=upd H7 my (.f_ o (.dK fs))/\zs=((os.take i).filter λo=>decide (o≠n)).map V.int) (cK 'a') ⟨_,rfl⟩ ⟨rfl,rfl⟩ (λi zs H8 z=>?_) (λi zs H8 z=>by rw [z.1]; exact aB) ?_ ?_⟩
   ·rw [z.2,Qa];exact Qr (Jp _ _) (by grind)
   ·rintro i DE σ p H8 hp ⟨v,rfl⟩ ⟨rfl,rfl⟩ hsz;obtain ⟨ov,PJ,f?⟩:∃ ov,os[i]?=some ov/\p.1=.inl ov:=by
     have e:=congrArg (λl=>l[i]?) T7.keys;simp only [Qh] at e;rw [hp] at e;cases q:os[i]? with
     | none=>rw [q] at e; cases e
     | some ov=>rw [q] at e; exact ⟨ov,rfl,Option.some.inj e⟩
    have pk:os.take (i+1)=os.take i++[ov]:=by simp_all [Jw]
    rw [f?];refine ⟨_,rfl,_,rfl,rfl,_,rfl,eP (λc=>?_) (λc=>?_)⟩
    ·have gw:ov≠n:=λz=>by rw [z] at c; simp [kV] at c
     refine ⟨_,rfl,hsz,⟨_,rfl⟩,rfl,?_⟩;rw [pk,Ze,Qm];congr 1;simp [gw,kV]
    ·have gw:ov=n:=by simpa [kV] using c
     refine ⟨⟨_,rfl⟩,rfl,?_⟩;rw [pk,Ze,gw];simp
   ·rintro DE H8 ⟨rfl,rfl⟩ lp mr;rw [s?,Qu] at *;have O9:my≠lp:=λz=>by rw [<- z,aB] at mr; cases mr
    have N_:H7 lp=none:=by rw [aG (Ne.symm O9)] at mr; exact mr
    have s8:aD H7 (upd (upd (upd H7 my (.f_ o (.dK fs))) lp (.lst ((os.filter λo=>decide (o≠n)).map V.int))) my (.dK fs)):=λb u hb=>by
     by_cases zo:b=my
     ·rw [zo] at hb ⊢;rw [aB,<- e7]; exact hb
     ·rw [aG zo,aG (λz=>by rw [z,N_] at hb; cases hb),aG zo];exact hb
    have l8:(upd (upd (upd H7 my (.f_ o (.dK fs))) lp (.lst ((os.filter λo=>decide (o≠n)).map V.int))) my (.dK fs)) lp=some (.lst ((os.filter λo=>decide (o≠n)).map V.int)):=by
     rw [aG (Ne.symm O9),aB]
    generalize upd (upd (upd H7 my (.f_ o (.dK fs))) lp (.lst ((os.filter λo=>decide (o≠n)).map V.int))) my (.dK fs)=H8 at s8 l8 ⊢;have JF:=(s5.trans s7).trans s8;have NY:∀ o∈os,o≠n->0<=o/\o < n:=λo ho gw=>by
     have:=T7.so o ho;omega
    obtain ⟨t0,yo⟩:∃ t,t∈dz:=List.exists_mem_of_ne_nil _ FY;have aag:=Be t0 yo;have NV:t0∈os:=C7 n N5 hs.length t0 ((oP uu).mpr (.inr ⟨rfl,rfl,yo,by omega⟩));refine ⟨os.filter λo=>decide (o≠n),λo=>ms.getD o.toNat 0,.ref mp,⟨lp,rfl,.l,dm.of l8⟩,Wn (a:=t0) (Js.mpr ⟨NV,decide_eq_true 'a'⟩),JF _ _ hT,rfl,λo ho=>?_,λj m H9 s9 hj aai _=>?_⟩
    ·obtain ⟨i?,zk⟩:=Js.mp ho;obtain ⟨o0,o1⟩:=NY o i? (of_decide_eq_true zk);refine ⟨o0,by omega,mp,.t,_,rfl,JF.di Kv,?_⟩;rw [Qh,Qc 'a'];show some (V.int _)=some (V.int (ms.getD o.toNat 0));rw [Zu,Qc 'a'];rfl
    ·obtain ⟨qp,vq⟩:=Js.mp (Qd hj);have Az:m≠n:=of_decide_eq_true vq;obtain ⟨jl,qq⟩:=Jr.mp qp;have OT:=JF.trans s9;have OQ:=s8.trans s9;subst hu;refine ⟨_,rfl,_,rfl,my,m,fs,os,n,n+1,ws++[dz],hs++[n],jl,rfl,OQ _ _ e7,T7.tp (Tp.of OQ),by omega,qq,λp IQ ps ss zd hp CY S10 P10 N10 aab NO=>k p IQ ps ss m (OT.trans zd) (OT.free hp) CY S10 P10 N10 (NO ?_)⟩;rcases Nat.eq_zero_or_pos jl with z | z
     ·rw [z,T7.head] at qq;exact absurd (Option.some.inj qq).symm Az
     ·exact z
theorem XQ {n:Int} {h:Int} (h0:0<=h) (h1:h < n):lj ((cT n hs).map V.int) h=some (.int ((hs.count h:Nat):Int)):=by
 have gh:h.toNat < n.toNat:=by omega
 have j9:((h.toNat:Nat):Int)=h:=by omega
 have h1:((cT n hs).map V.int)[h.toNat]?=some (.int ((hs.count h:Nat):Int)):=by rw [Qh,aDc gh,j9]; rfl
 have h2:=fG h1;rwa [j9] at h2
def EU (ws:List (LIn)) (hs:LIn) (last:Int) (ss:List (Nat×Int×Int)):Prop:=ss = []∨∃ h,mF ws hs h ss last/\(h::ss.map (·.2.2)).Nodup
def V2 (K:Rb):Sp:=λvs H Q _=>∃ (x y:V) (n:Int) (ws:List (LIn)) (hs:LIn) (k:Nat) (last:Int),vs = [x,y,.int k]/\rR K H x y n ws hs/\hs[k]?=some last /\
 ∀ p H' ps ss,aD H H'->H p=none->H' p=some (.lst (ps.map V.ref))->fq H' ps ss->EU ws hs last ss->Q (.ref p) H'
theorem gD:b_ ["book", "deal", "work", "many", "rows", "last", "best", "hand", "found", "some"] ["book", "deal", "work"] (aF qG):=.of
theorem aGA {fC Ez fR Ey:ae} {dC EH dR EG:bh} (G:Fn K mg "steps_of_take" qG ["book", "deal", "work"] f fd) (B:Bl mg) (GC:Fn K mg "counted" kF ["hands", "deal"] fC dC) (GH:Fn K mg "handing" lH ["book", "deal"] Ez EH) (GR:Fn K mg "reached" nQ ["rows", "first"] fR dR) (GW:Fn K mg "way_to" vY ["found", "last"] Ey EG):c_ P w K mg base d_ 2 f fd ["book", "deal", "work"] (V2 K):=by
 have OC:c_ P w K mg base d_ 1 fC dC ["hands", "deal"] (oJ K):=pL GC B;have OH:c_ P w K mg base d_ 1 Ez EH ["book", "deal"] (rT K):=wI GH B;have OR:c_ P w K mg base d_ 1 fR dR ["rows", "first"] (rV K):=wJ GR B;have OW:c_ P w K mg base d_ 1 Ey EG ["found", "last"] (Ni K):=XR GW B;refine G.fn.oK gD λfe A outer s H vs Q E hr h=>?_
 ·obtain ⟨x,y,n,ws,hs,kk,last,rfl,g,ly,k⟩:=h;have r1:dj 1 _:=hr;refine ⟨_,(aE (aU (i:=3) gD.nd rfl eh (fU GC OC r1 rfl (aA (bM dN (pv 0) aH gb) (aA (pv 1) aC))))
  (aE (aU (i:=4) gD.nd rfl eh (fU GH OH r1 rfl (aA (pv 0) (aA (pv 1) aC))))
  (aE (aU (i:=5) gD.nd rfl eh (bM dN (pv 1) (pv 2) su))
  (aE (aU (i:=6) gD.nd rfl eh (eG aC))
  (aE (jH bc.never rfl (hV rfl B.range (aA (bM dN (pv 0) aH gb) aC)) (aM (i:=7) gD.nd rfl eh)
   (aE (aU (i:=8) gD.nd rfl eh (fU GR OR r1 rfl (aA (pv 4) (aA (pv 7) aC))))
  (aI (bQ (PW.pt (mU (rB (aJ8 (dS hr) (pv 5) (pv 8)) (by rfl)) (lQ (aO oV (bM dN (pv 3) (pv 7) su) (bM dN (pv 3) (pv 5) su) ft))))
   (aE (aU (i:=9) gD.nd rfl eh (fU GW OW r1 rfl (aA (pv 8) (aA (pv 5) aC))))
  (aI (bQ (PW.pt (fP (aO cY (aK aR rfl B.len cO (aA (pv 6) aC)) aH ft) (eA (aO xZ (aK aR rfl B.len cO (aA (pv 9) aC)) (aK aR rfl B.len cO (aA (pv 6) aC)) ft))))
   (aI (aU (i:=6) gD.nd rfl eh (pv 9)))
   aW)))
   aW))))
  (aI (aP (pv 6)))))))),?_⟩
  dsimp only [cB,Cx.gf];obtain ⟨Fx,ju,ie⟩:=g.len;obtain ⟨a,b,ys,rfl,ha,zq,sx⟩:=iI g.1;obtain ⟨dp,rfl,m_⟩:=bK.mp g.2.2.1;obtain ⟨_,_,gz,j5⟩:=aV g.2.1;obtain ⟨uu,AJ⟩:=fY g.2.2.2;have pd:∀ g w t,lJ ws hs g w t->0<=t/\t < n:=λg w t e=>by
   obtain ⟨_,l,h1,h2,_⟩:=e;exact (bO (j5 l (Qd h1))).2.1 t h2
  have lr:0<=last/\last < n:=by
   have hk:kk < hs.length:=(Qb.mp ly).1;have hl:=Qc (show kk < ws.length by omega);have:=AJ kk _ _ ly hl;exact (bO (j5 _ (Qd hl))).2.1 last this
  refine ⟨_,rfl,a,_,0,.int n,rfl,rfl,ha,rfl,_,rfl,n,dp,hs,rfl,m_,by omega,ie,λmp H1 s1 emp=>?_⟩;refine ⟨_,rfl,_,rfl,.ref a,.ref dp,n,ws,hs,rfl,⟨s1.den _ _ g.1,g.2.1,s1.den _ _ g.2.2.1,g.2.2.2⟩,λrp H2 qs rs s2 ZV nqs R2 ot ER=>?_⟩;have jd:=s1.trans s2;refine ⟨_,rfl,_,rfl,dp,_,_,_,rfl,rfl,jd.di m_,fG (v:=.int last) (by simp_all),?_⟩;refine ⟨cK (Ji _),λbp AL=>?_⟩;have Z5:H bp=none:=jd.free AL;have yl:=aD.new (o:=.lst []) AL;have eb:upd H2 bp (.lst []) bp=some (.lst (([]:List ae).map V.ref)):=aB;generalize upd H2 bp (.lst [])=H3 at yl eb ⊢;have jf:=jd.trans yl;refine ⟨_,rfl,a,_,0,.int n,rfl,rfl,jf.di ha,rfl,n,rfl,by omega,by omega,rD (lo:=0) (n:=n.toNat) (λi σ H4=>∃ (bp:ae) (ps:List ae) (ss:List (Nat×Int×Int)) (v7 v8 v9:Option V),σ = [some (.ref a),some (.ref dp),some (.int kk),some (.ref mp),some (.ref rp),some (.int last),some (.ref bp),v7,v8,v9]/\aD H3 H4/\H bp=none/\H4 bp=some (.lst (ps.map V.ref))/\fq H4 ps ss/\EU ws hs last ss)
   ⟨bp,[],[],_,_,_,rfl,aD.refl _,Z5,eb,fq.nil,.inl rfl⟩ ?_ ?_⟩
  ·rintro i σ H4 hi ⟨bp,ps,ss,v7,v8,v9,rfl,s4,nb,e4,S4,T4⟩;rw [Wr];have OU:=yl.trans s4;refine ⟨_,rfl,_,rfl,rp,(i:Int),qs,rs,n,ws,hs,rfl,R2.same OU,ot,ER,pd,by omega,by omega,by omega,λfp H5 fs os s5 nfp ef T5 C5=>?_⟩;have OX:=(jf.trans s4).trans s5;have hio:(i:Int)∈os:=Qd T5.head;refine ⟨_,rfl,_,rfl,fp,_,rfl,nI.k (k:=.inl last) ef,_,rfl,?_⟩;rw [uA T5.keys last];have FJ:=(s2.trans (OU.trans s5)) _ _ emp;refine eP (λc1=>?_) (λc1=>?_)
   ·have PK:last∈os:=of_decide_eq_true c1;refine ⟨_,rfl,_,rfl,mp,_,_,_,rfl,rfl,dt.of FJ,XQ 'a' 'a',_,rfl,_,rfl,mp,_,_,_,rfl,rfl,dt.of FJ,XQ lr.1 lr.2,_,_,rfl,rfl,_,rfl,eP (λc2=>?_) (λc2=>?_)⟩
    ·obtain ⟨jl,qq⟩:=Jr.mp PK;refine ⟨_,rfl,_,rfl,fp,last,fs,os,(i:Int),n,ws,hs,jl,rfl,ef,T5,by omega,qq,λp H6 O1 JD s6 np e6 S6 P6 N6 _ _=>?_⟩;have Lh:=(s5.trans s6) _ _ e4;refine ⟨_,rfl,bp,_,rfl,.inl (dm.of Lh),rfl,_,rfl,?_⟩;have new:EU ws hs last JD:=.inr ⟨i,P6,N6⟩;have JG:=s4.trans (s5.trans s6);refine eP (λc3=>?_) (λc3=>?_)
     ·exact ⟨_,rfl,p,O1,JD,_,_,_,rfl,JG,OX.free np,e6,S6,new⟩
     ·refine ⟨_,rfl,p,_,rfl,.inl (dm.of e6),_,rfl,bp,_,rfl,.inl (dm.of Lh),_,_,rfl,rfl,_,rfl,eP (λc4=>?_) (λc4=>?_)⟩
      ·exact ⟨_,rfl,p,O1,JD,_,_,_,rfl,JG,OX.free np,e6,S6,new⟩
      ·exact ⟨bp,ps,ss,_,_,_,rfl,JG,nb,Lh,S4.tp (Tp.of (s5.trans s6)),T4⟩
    ·exact ⟨bp,ps,ss,_,_,_,rfl,s4.trans s5,nb,s5 _ _ e4,S4.tp (Tp.of s5),T4⟩
   ·exact ⟨bp,ps,ss,_,_,_,rfl,s4.trans s5,nb,s5 _ _ e4,S4.tp (Tp.of s5),T4⟩
  ·rintro σ H4 ⟨bp,ps,ss,v7,v8,v9,rfl,s4,nb,e4,S4,T4⟩;exact ⟨_,rfl,k bp H4 ps ss (jf.trans s4) nb e4 S4 T4⟩
noncomputable def i8 (hs:LIn) (ss:List (Nat×Int×Int)):LIn:=ss.foldl (λhs s=>hs.set s.1 s.2.2) hs
theorem mG:∀ (ss:List (Nat×Int×Int)) (hs:LIn),(i8 hs ss).length=hs.length
 | [],_=>rfl
 | s::ss,hs=>by
  show (i8 (hs.set s.1 s.2.2) ss).length=_;rw [mG ss,Yn]
theorem lL {x:Int}:∀ {ss:List (Nat×Int×Int)} {t:Int},mF ws hs t ss x->∀ s∈ss,lJ ws hs s.2.1 s.1 s.2.2
 | [],_,_,s,h=>(Qv h).elim
 | s0::ss,t,⟨e1,e2,p⟩,s,h=>by
  rcases Ql.mp h with rfl | h
  ·rw [e1]; exact e2
  ·exact lL p s h
theorem jW {l:List α} {k w:Nat} {x:α} (h:(l.eraseIdx k)[w]?=some x):l[if w < k then w else w+1]?=some x:=by
 rw [List.getElem?_eraseIdx] at h;split at h
 ·rename_i c; rw [if_pos c]; exact h
 ·rename_i c; rw [if_neg c]; exact h
theorem MC:∀ {ss:List (Nat×Int×Int)} {hs:LIn},(∀ s∈ss,∃ l,ws[s.1]?=some l/\s.2.2∈l)->∀ (w:Nat) g l,(i8 hs ss)[w]?=some g->ws[w]?=some l->g∈l∨hs[w]?=some g/\∀ s∈ss,s.1≠w
 | [],hs,_,w,g,l,q,_=>.inr ⟨q,λs h=>(Qv h).elim⟩
 | s::ss,hs,h,w,g,l,q,e=>by
  rcases MC (hs:=hs.set s.1 s.2.2) (λs' k9=>h s' (Qj _ k9)) w g l q e with z | ⟨z,z2⟩
  ·exact .inl z
  ·rw [Zt] at z;by_cases c:s.1=w
   ·obtain ⟨l',e1,e2⟩:=h s (Qk ..);rw [c,e] at e1; cases e1;rw [if_pos c] at z;split at z
    ·cases z; exact .inl e2
    ·cases z
   ·rw [if_neg c] at z;exact .inr ⟨z,λs' k9=>(Ql.mp k9).elim (λq=>q ▸ c) (z2 s')⟩
theorem yY {h x:Int} (p:mF ws hs h ss x):∀ s∈ss,∃ l,ws[s.1]?=some l/\s.2.2∈l:=λs k9 =>
 let ⟨_,l,a,b,_⟩:=lL p s k9
 ⟨l,a,b⟩
theorem aE6 {n:Int} {a b:ae} (h1:dt K H a [.int n,.ref b]) (h2:dt K H b ys) (h3:bC K H (ws.map cR) ys):Den K H (gM n ws) (.ref a) :=
 cJ.mpr ⟨a,_,rfl,h1,aQ.mpr ⟨_,_,rfl,cU.mpr rfl,aQ.mpr ⟨_,_,rfl,cJ.mpr ⟨b,ys,rfl,h2,h3⟩,bB.mpr rfl⟩⟩⟩
theorem rW:∀ {ds:List au} {zs:List V},zs.length=ds.length->(∀ (i:Nat) d z,ds[i]?=some d->zs[i]?=some z->Den K H d z)->bC K H ds zs
 | [],[],_,_=>bB.mpr rfl
 | [],_::_,h,_=>by cases h
 | _::_,[],h,_=>by cases h
 | d::ds,z::zs,hl,h=>aQ.mpr ⟨z,zs,rfl,h 0 d z rfl rfl,rW (by simpa using hl) λi d' z' h1 h2=>h (i+1) d' z' h1 h2⟩
theorem cS {b:Bool} {A:Prop} (e:b=false) (h:B):if b=true then A else B:=by subst e; exact iQ h
theorem dM {b:Bool} {A:Prop} (e:b=true) (h:A):if b=true then A else B:=by subst e; exact iE h
theorem Ht:az "any" = some (.builtin "any"):=by decide +kernel
theorem qJ (i:Int) (l:LIn):uf (.int i) (l.map V.int)=decide (i∈l):=by
 rw [V_,Xb,Xs,decide_eq_true_iff];exact ⟨λ⟨y,h1,h2⟩=>by have:y=i:=(by simpa using h2); rw [<- this]; exact h1,λh=>⟨i,h,by simp⟩⟩
theorem fg.ya {r:List (Key×V)} {a:ae} (e:fg t H H') (ht:H t=some (.dK r)) (h:dt K H a xs):dt K H' a xs:=by
 rcases h with (h | ⟨o,h⟩) | h
 ·exact .inl (.inl (e a _ (λz=>by rw [z,ht] at h; cases h) h))
 ·exact .inl (.inr ⟨o,e a _ (λz=>by rw [z,ht] at h; cases h) h⟩)
 ·exact .inr h
structure Mt (K:Rb) (C:ae) (m:aj) (st:ax) (ps:List aj) (f:ae) (fd:bh):Prop where
 fn:qk K m (("Dealing." : aj)++m) st f fd
 me:Meth K C m f
 bd:dU K fd ps []
structure FM (P:bq) (w:bx) (K:Rb) (mg:aj->Option aa) (base:ag) (CX:xj) (k:Nat) (C:ae) (x:aj) (st:ax) (ps:List aj) (sp:Sp) where
 f:ae
 fd:bh
 g:Mt K C x st ps f fd
 o:c_ P w K mg base CX k f fd ps sp
structure Dc (K:Rb) (C:ae):Prop where
 cl:u6 K C
 n1:iC K C "many_hands"
 n2:iC K C "able_of"
 n3:iC K C "hand_of"
 n4:iC K C "next_number"
 n5:iC K C "moved_last"
 n6:iC K C "moved_in_all"
structure DD where
 n:Int
 nx:Int
 ml:Int
 ma:Int
 nums:LIn
 ws:List (LIn)
 hs:LIn
 dx:ae
 da:ae
 dh:ae
 ts:List ae
end Ab
variable {D D':DD}
namespace Ab
open PySem L2
noncomputable def DD.ib (D:DD):List (aj×V):=[("many_hands",.int D.n),("able_of",.ref D.da),("hand_of",.ref D.dh),("next_number",.int D.nx),("moved_last",.int D.ml),("moved_in_all",.int D.ma)]
noncomputable def fm (nums:LIn) (ts:List ae):List (Key×V):=(nums.zip ts).map λp=>(.inl p.1,.ref p.2)
noncomputable def gn (nums hs:LIn):List (Key×V):=(nums.zip hs).map λp=>(.inl p.1,.int p.2)
structure ip (K:Rb) (H:Hp) (C x:ae) (D:DD):Prop where
 ins:H x=some (.ins C D.dx D.ib)
 dz:H D.da=some (.dK (fm D.nums D.ts))
 hand:H D.dh=some (.dK (gn D.nums D.hs))
 tl:D.ts.length=D.nums.length
 wl:D.ws.length=D.nums.length
 hl:D.hs.length=D.nums.length
 tup:∀ (i:Nat) t l,D.ts[i]?=some t->D.ws[i]?=some l->dt K H t (l.map V.int)
 ne:D.da≠D.dh
structure u5 (D:DD):Prop where
 bk:fF (gM D.n D.ws)=true
 dl:sU D.ws (yV D.hs)=true
 up:D.nums.Pairwise (· < ·)
 kh:∀ k∈D.nums,0<=k/\k < D.nx
 nx:0<=D.nx
theorem ip.same {x:ae} (h:ip K H C x D) (s:aD H H'):ip K H' C x D :=
 ⟨s _ _ h.ins,s _ _ h.dz,s _ _ h.hand,h.tl,h.wl,h.hl,λi t l a b=>s.di (h.tup i t l a b),h.ne⟩
theorem aGB {ts:List ae} (h:ts.length=nums.length):(fm nums ts).map (·.2)=ts.map V.ref:=by
 unfold fm;rw [Xi];show (nums.zip ts).map (λp=>V.ref p.2)=_;rw [show (λp:Int×ae=>V.ref p.2)=V.ref ∘ Prod.snd from rfl,<- Xi,List.map_snd_zip 'a']
theorem aGC (h:hs.length=nums.length):(gn nums hs).map (·.2)=hs.map V.int:=by
 unfold gn;rw [Xi];show (nums.zip hs).map (λp=>V.int p.2)=_;rw [show (λp:Int×Int=>V.int p.2)=V.int ∘ Prod.snd from rfl,<- Xi,List.map_snd_zip 'a']
def qK (K:Rb) (C:ae):Sp:=λvs H Q _=>∃ (x:ae) (D:DD),vs = [.ref x]/\ip K H C x D/\∀ p H',aD H H'->Den K H' (gM D.n D.ws) (.ref p)->Q (.ref p) H'
theorem aIt:b_ ["self"] ["self"] (aF sT):=.of
theorem aGD (G:Mt K C "book_now" sT ["self"] f fd) (T:Dc K C) (B:Bl mg):c_ P w K mg base d_ 1 f fd ["self"] (qK K C):=by
 refine G.fn.oK aIt λfe A outer s H vs Q E hr h=>?_
 ·obtain ⟨x,D,rfl,hD,k⟩:=h;refine ⟨_,aI (aP (cH (aA (cN (pv 0) rfl) (aA (aZ (mQ rfl) rfl B.tuple gB (aA (uS Tj Tx Uh oE (cN (pv 0) rfl)) aC)) aC)))),_,rfl,x,C,D.dx,_,_,rfl,hD.ins,T.cl,T.n1,rfl,_,rfl,x,C,D.dx,_,_,rfl,hD.ins,T.cl,T.n2,rfl,.inr (.inr (.inl ⟨rfl,.inl ⟨_,hD.dz⟩⟩)),D.da,_,rfl,rfl,.inl hD.dz,λv hv=>⟨v,D.da,_,rfl,aB,.inl ((aD.new hv) _ _ hD.dz),λt ht=>⟨om _ _,λp hp=>?_⟩⟩⟩;rw [aGB hD.tl] at hp ⊢;have s1:=(aD.new (o:=o5 v D.da) hv).trans ((aD.new (o:=.tup (D.ts.map V.ref)) ht).trans (aD.new (o:=.tup [.int D.n,.ref t]) hp));refine k p _ s1 (aE6 (dt.of aB) ((aD.new hp).di (dt.of aB)) (rW (by rw [Qa,Qa,hD.tl,hD.wl]) λi d z h1 h2=>?_));rw [Qh] at h1 h2;obtain ⟨l,hl,rfl⟩:=Qo.mp h1;obtain ⟨t',Gh,rfl⟩:=Qo.mp h2;exact bK.mpr ⟨t',rfl,s1.di (hD.tup i t' l Gh hl)⟩
def qL (K:Rb) (C:ae):Sp:=λvs H Q _=>∃ (x:ae) (D:DD),vs = [.ref x]/\ip K H C x D/\∀ p H',aD H H'->H' p=some (.tup (D.hs.map V.int))->Q (.ref p) H'
theorem aIu:b_ ["self"] ["self"] (aF nN):=.of
theorem aGE (G:Mt K C "deal_now" nN ["self"] f fd) (T:Dc K C) (B:Bl mg):c_ P w K mg base d_ 1 f fd ["self"] (qL K C):=by
 refine G.fn.oK aIu λfe A outer s H vs Q E hr h=>?_
 ·obtain ⟨x,D,rfl,hD,k⟩:=h;refine ⟨_,aI (aP (aZ (mQ rfl) rfl B.tuple gB (aA (uS Tj Tx Uh oE (cN (pv 0) rfl)) aC))),_,rfl,x,C,D.dx,_,_,rfl,hD.ins,T.cl,T.n3,rfl,.inr (.inr (.inl ⟨rfl,.inl ⟨_,hD.hand⟩⟩)),D.dh,_,rfl,rfl,.inl hD.hand,λv hv=>⟨v,D.dh,_,rfl,aB,.inl ((aD.new hv) _ _ hD.hand),λt ht=>?_⟩⟩;rw [aGC hD.hl];exact k t _ ((aD.new hv).trans (aD.new ht)) aB
noncomputable def DD.moved (D:DD) (m:Int):DD:={ D with ml:=m,ma:=D.ma+m }
def qM (K:Rb) (C:ae):Sp:=λvs H Q _=>∃ (x:ae) (D:DD) (m:Int),vs = [.ref x,.int m]/\H x=some (.ins C D.dx D.ib)/\Q .fk (upd H x (.ins C D.dx (D.moved m).ib))
theorem aIv:b_ ["self", "many"] ["self", "many"] (aF nO):=.of
theorem aGF (G:Mt K C "count_moved" nO ["self", "many"] f fd) (T:Dc K C):c_ P w K mg base d_ 1 f fd ["self", "many"] (qM K C):=by
 refine G.fn.oK aIv λfe A outer s H vs Q E hr h=>?_
 ·obtain ⟨x,D,m,rfl,hx,k⟩:=h;refine ⟨_,aE (lT (pv 0) (pv 1) rfl) (aI (nZ (pv 0) (pv 1) MN)),_,rfl,_,rfl,x,C,D.dx,_,rfl,hx,T.cl,T.n5,(show (6:Nat) < 1000 by decide),?_⟩;dsimp only [cB,Cx.gf];refine ⟨_,rfl,x,C,D.dx,_,_,rfl,aB,T.cl,T.n6,rfl,_,rfl,_,_,rfl,rfl,D.dx,_,aB,(show (6:Nat) < 1000 by decide),?_⟩;rw [kM];exact k
def wK (K:Rb) (C:ae):Sp:=λvs H Q _=>∃ (x:ae) (D:DD),vs = [.ref x]/\ip K H C x D/\0<=D.n/\D.n<=6/\∀ p H',aD H H'->H' p=some (.tup ((cT D.n D.hs).map V.int))->Q (.ref p) H'
theorem aGG:b_ ["self"] ["self"] (aF rQ):=.of
theorem aE7 (G:Mt K C "loads" rQ ["self"] f fd) (T:Dc K C) (GD:FM P w K mg base d_ 1 C "deal_now" nN ["self"] (qL K C)) (GC:FF P w K mg base d_ 1 "counted" kF ["hands", "deal"] (oJ K)):c_ P w K mg base d_ 2 f fd ["self"] (wK K C):=by
 refine G.fn.oK aGG λfe A outer s H vs Q E hr h=>?_
 ·obtain ⟨x,D,rfl,hD,h0,h6,k⟩:=h;have r1:dj 1 _:=hr;refine ⟨_,aI (aP (bF GC r1 rfl (aA (cN (pv 0) rfl) (aA (dY (pv 0) T.cl GD.g.me GD.o r1 GD.g.bd .nil hX) aC)))),_,rfl,x,C,D.dx,_,_,rfl,hD.ins,T.cl,T.n1,rfl,_,rfl,x,D.dx,_,rfl,hD.ins,rfl,x,D,rfl,hD,λp H1 s1 hp=>?_⟩;dsimp only [cB,Cx.gf];exact ⟨D.n,p,D.hs,rfl,dt.of hp,h0,h6,λq H2 s2 hq=>k q H2 (s1.trans s2) hq⟩
def VC (K:Rb) (C:ae):Sp:=λvs H Q _=>∃ (x:ae) (D:DD),vs = [.ref x]/\H x=some (.ins C D.dx D.ib)/\∀ p,H p=none->Q (.ref p) (upd H p (.tup [.int D.ml,.int D.ma]))
theorem aIw:b_ ["self"] ["self"] (aF vW):=.of
theorem aGH (G:Mt K C "moved" vW ["self"] f fd) (T:Dc K C):c_ P w K mg base d_ 1 f fd ["self"] (VC K C):=by
 refine G.fn.oK aIw λfe A outer s H vs Q E hr h=>?_
 ·obtain ⟨x,D,rfl,hx,k⟩:=h;exact ⟨_,aI (aP (cH (aA (cN (pv 0) rfl) (aA (cN (pv 0) rfl) aC)))),_,rfl,x,C,D.dx,_,_,rfl,hx,T.cl,T.n5,rfl,_,rfl,x,C,D.dx,_,_,rfl,hx,T.cl,T.n6,rfl,om _ _,λp hp=>k p hp⟩
theorem aKq:az "dict" = some (.type "dict"):=by rfl
def VB (K:Rb) (C:ae):Sp:=λvs H Q _=>∃ (x:ae) (D:DD),vs = [.ref x]/\ip K H C x D/\∀ p,H p=none->Q (.ref p) (upd H p (.dK (gn D.nums D.hs)))
theorem aIx:b_ ["self"] ["self"] (aF EY):=.of
theorem aGI (G:Mt K C "deal" EY ["self"] f fd) (T:Dc K C) (B:Bl mg):c_ P w K mg base d_ 1 f fd ["self"] (VB K C):=by
 refine G.fn.oK aIx λfe A outer s H vs Q E hr h=>?_
 ·obtain ⟨x,D,rfl,hD,k⟩:=h;exact ⟨_,aI (aP (aZ aAn rfl B.dict aKq (aA (cN (pv 0) rfl) aC))),_,rfl,x,C,D.dx,_,_,rfl,hD.ins,T.cl,T.n3,rfl,D.dh,_,rfl,.inl hD.hand,λp hp=>k p hp⟩
section
variable {dK:bh}
noncomputable def DD.rg (D:DD):DD:={ D with n:=D.n+1,ml:=0 }
def uD (K:Rb) (C:ae):Sp:=λvs H Q _=>∃ (x:ae) (D:DD),vs = [.ref x]/\H x=some (.ins C D.dx D.ib)/\D.n≠6/\Q (.int D.n) (upd H x (.ins C D.dx D.rg.ib))
theorem VA:b_ ["self"] ["self"] (aF yU):=.of
theorem aGJ (G:Mt K C "come" yU ["self"] f fd) (T:Dc K C) (B:Bl mg) (GC:FM P w K mg base d_ 1 C "count_moved" nO ["self", "many"] (qM K C)):c_ P w K mg base d_ 2 f fd ["self"] (uD K C):=by
 obtain ⟨JA,Gu⟩:=B.j_;refine G.fn.oK VA λfe A outer s H vs Q E hr h=>?_
 ·obtain ⟨x,D,rfl,hx,h6,k⟩:=h;have r1:dj 1 _:=hr;refine ⟨_,aE (bQ (aO cY (cN (pv 0) rfl) (iW (v:=.int 6) rfl Gu ⟨JA,rfl⟩) ft) cW aW)
   (aE (nZ (pv 0) aH MN)
   (aE (bY (dX (pv 0) T.cl GC.g.me GC.o r1 GC.g.bd .nil hX (aA aH aC)))
   (aI (aP (aS jZ (cN (pv 0) rfl) aH))))),?_⟩
  dsimp only [cB,Cx.gf];refine ⟨_,rfl,x,C,D.dx,_,_,rfl,hx,T.cl,T.n1,rfl,rfl,_,rfl,cS (decide_eq_false λz=>h6 (by injection z)) ⟨_,rfl,x,C,D.dx,_,_,rfl,hx,T.cl,T.n1,rfl,_,_,rfl,rfl,D.dx,_,hx,(show (6:Nat) < 1000 by decide),?_⟩⟩;refine ⟨_,rfl,x,D.dx,_,rfl,aB,rfl,x,{ D with n:=D.n+1 },0,rfl,aB,?_⟩;rw [kM];refine ⟨_,rfl,x,C,D.dx,_,_,rfl,aB,T.cl,T.n1,rfl,_,_,rfl,rfl,?_⟩;have e:D.n+1 - 1=D.n:=by omega
  have e2:((({ D with n:=D.n+1 }:DD).moved 0).ib)=D.rg.ib:=by
   unfold DD.moved DD.rg DD.ib;simp
  show Q (.int (D.n+1 - 1)) (upd H x (.ins C D.dx ((({ D with n:=D.n+1 }:DD).moved 0).ib)));rw [e,e2];exact k
noncomputable def DD.gone (D:DD):DD:={ D with n:=D.n - 1,ml:=0 }
def Hs (K:Rb) (C:ae):Sp:=λvs H Q _=>∃ (x:ae) (D:DD),vs = [.ref x]/\ip K H C x D/\D.n≠1/\(∀ l∈D.ws,D.n - 1∉l)/\D.nums.length<=1000/\∀ H',fg x H H'->H' x=some (.ins C D.dx D.gone.ib)->Q .fk H'
theorem Hr:b_ ["self", "last"] ["self"] (aF vo):=.of
theorem aKr (G:Mt K C "go" vo ["self"] f fd) (T:Dc K C) (B:Bl mg) (GC:FM P w K mg base d_ 1 C "count_moved" nO ["self", "many"] (qM K C)):c_ P w K mg base d_ 2 f fd ["self"] (Hs K C):=by
 refine G.fn.oK Hr λfe A outer s H vs Q E hr h=>?_
 ·obtain ⟨x,D,rfl,hD,h1,jh,hlen,k⟩:=h;have r1:dj 1 _:=hr;refine ⟨_,aE (aU (i:=1) Hr.nd rfl (Or.inr rfl) (aS jZ (cN (pv 0) rfl) aH))
   (aE (bQ (PW.pt (fP (aO cY (pv 1) aH ft) (eA (cD (aK (pT rfl) rfl B.any Ht (aA (XY (own:=["able"]) (fr:=[1]) (ff:=["last"]) (aX (aF vo) ["self", "last"] rfl rfl 'd') rfl (uS Tj Tx Uh oE (cN (pv 0) rfl))
    (λ_ _ _ _=>(aM (i:=0) (show (["able", "last"]:List aj).Nodup by decide +kernel) rfl eh)) (λ_ _ _ _=>cQ)
    (λ_ _ _ _=>(cL (iT (K:=K) rfl) (pv 1) (pv 0) (by rfl)))) aC)))))) cW aW)
   (aE (nZ (pv 0) aH aJU)
   (aI (bY (dX (pv 0) T.cl GC.g.me GC.o r1 GC.g.bd .nil hX (aA aH aC)))))),?_⟩
  dsimp only [cB,Cx.gf];refine ⟨_,rfl,x,C,D.dx,_,_,rfl,hD.ins,T.cl,T.n1,rfl,_,_,rfl,rfl,?_⟩;refine ⟨_,rfl,rfl,_,rfl,cS (decide_eq_false λz=>h1 (by grind)) ⟨_,rfl,x,C,D.dx,_,_,rfl,hD.ins,T.cl,T.n2,rfl,.inr (.inr (.inl ⟨rfl,.inl ⟨_,hD.dz⟩⟩)),D.da,_,rfl,rfl,.inl hD.dz,λv hv=>?_⟩⟩;have s1:=aD.new (o:=o5 v D.da) hv;have ev:upd H v (o5 v D.da) v=some (o5 v D.da):=aB;have nv:=hD.same s1;generalize upd H v (o5 v D.da)=H1 at s1 ev nv ⊢;refine ⟨v,D.da,_,rfl,ev,nv.dz,λo=>?_⟩;have z2:upd H1 D.da (.f_ o (.dK (fm D.nums D.ts))) D.da=some (.f_ o (.dK (fm D.nums D.ts))):=aB;have b2:fg D.da H1 (upd H1 D.da (.f_ o (.dK (fm D.nums D.ts)))):=fg.at;have w_:(fm D.nums D.ts).length=D.nums.length:=by unfold fm; rw [Qa,Zh,hD.tl,Yv]
  refine yQ (a:=D.da) (o:=o) (kvs:=fm D.nums D.ts) (λσ=>∃ u,σ = [u,some (.int (D.n - 1))]) (λi zs H2=>zs=(List.replicate i false).map V.bl/\H2=upd H1 D.da (.f_ o (.dK (fm D.nums D.ts)))) (cK 'a') ⟨none,rfl⟩ ⟨rfl,rfl⟩ (λi zs H2 h=>by rw [h.1,Qa,Xn]; exact Qe _) (λi zs H2 h=>by rw [h.2]; exact z2) ?_ ?_
  ·rintro i zs σ kv H2 uo ⟨u,rfl⟩ ⟨rfl,rfl⟩ hz;obtain ⟨num,t,ja,ht,rfl⟩:∃ num t,D.nums[i]?=some num/\D.ts[i]?=some t/\kv=(.inl num,.ref t):=by
    unfold fm at uo;rw [Qh] at uo;obtain ⟨p,hp,e⟩:=Qo.mp uo;rw [Jh] at hp;exact ⟨p.1,p.2,hp.1,hp.2,e.symm⟩
   have hi:i < D.ts.length:=(Qb.mp ht).1;have hl:=Qc (show i < D.ws.length by rw [hD.wl,<- hD.tl]; exact hi);generalize D.ws[i]'(by rw [hD.wl,<- hD.tl]; exact hi)=l at hl;have B5:dt K (upd H1 D.da (.f_ o (.dK (fm D.nums D.ts)))) t (l.map V.int):=b2.ya nv.dz (nv.tup i t l ht hl);refine bX ⟨_,rfl,_,rfl,t,_,rfl,.inr B5,rfl,iS _,hz,⟨_,rfl⟩,?_,rfl⟩;rw [List.replicate_succ',Qm];rw [qJ,decide_eq_false (jh l (Qd hl))]; rfl
  ·rintro zs H2 ⟨rfl,rfl⟩ pc mq;have As:pc≠D.da:=λz=>by rw [z,z2] at mq; cases mq
   refine ⟨pc,List.replicate (fm D.nums D.ts).length false,rfl,dm.of (by rw [aG As,aB]),_,rfl,?_⟩;have s3:aD H1 (upd (upd (upd H1 D.da (.f_ o (.dK (fm D.nums D.ts)))) pc (.lst ((List.replicate (fm D.nums D.ts).length false).map V.bl))) D.da (.dK (fm D.nums D.ts))):=λb' u ij=>by
    by_cases c:b'=D.da
    ·rw [c] at ij ⊢;rw [aB,<- nv.dz]; exact ij
    ·have n2:b'≠pc:=λz=>by rw [aG As] at mq; rw [z,mq] at ij; cases ij
     rw [aG c,aG n2,aG c]; exact ij
   generalize upd (upd (upd H1 D.da (.f_ o (.dK (fm D.nums D.ts)))) pc (.lst ((List.replicate (fm D.nums D.ts).length false).map V.bl))) D.da (.dK (fm D.nums D.ts))=H4 at s3 ⊢;refine cS 'b' ?_;have s4:=s1.trans s3;have Pn:=s4 _ _ hD.ins;refine ⟨_,rfl,x,C,D.dx,_,_,rfl,Pn,T.cl,T.n1,rfl,_,_,rfl,rfl,D.dx,_,Pn,(show (6:Nat) < 1000 by decide),_,rfl,x,D.dx,_,rfl,aB,rfl,x,{ D with n:=D.n - 1 },0,rfl,aB,?_⟩;rw [kM];refine k _ (λc' u hc hu=>by rw [aG hc]; exact s4 _ _ hu) ?_;rw [aB];unfold DD.moved DD.gone DD.ib;simp
end
theorem Nh (h:hs.length=nums.length):(gn nums hs).length=nums.length:=by simp_all [gn,Qa,Zh,Yv]
theorem mH {ts:List ae} (h:ts.length=nums.length):(fm nums ts).length=nums.length:=by simp_all [fm,Qa,Zh,Yv]
theorem XO {ts:List ae} (h:ts.length=nums.length) (k:Int) (t:ae):fm (nums++[k]) (ts++[t])=fm nums ts++[(.inl k,.ref t)]:=by
 unfold fm;rw [List.zip_append h.symm,Qm]; rfl
theorem aGK (h:hs.length=nums.length) (k g:Int):gn (nums++[k]) (hs++[g])=gn nums hs++[(.inl k,.int g)]:=by
 unfold gn;rw [List.zip_append h.symm,Qm]; rfl
theorem qN {ts:List ae} (h:ts.length=nums.length):((fm nums ts).map λkv=>kV kv.1)=nums.map V.int:=by
 unfold fm;rw [Xi];show (nums.zip ts).map (λp=>V.int p.1)=_;rw [show (λp:Int×ae=>V.int p.1)=V.int ∘ Prod.fst from rfl,<- Xi,List.map_fst_zip 'a']
theorem jX {f:α->V}:∀ {nums:LIn} {xs:List α} {k:Int},k∉nums->cP ((nums.zip xs).map λp=>((Sum.inl p.1:Key),f p.2)) (.inl k)=none
 | [],_,_,_=>rfl
 | _::_,[],_,_=>rfl
 | n::nums,x::xs,k,h=>by
  have ne:¬ (Sum.inl n:Key)=Sum.inl k:=λz=>h (by have:n=k:=(by simpa using z); rw [this]; exact Qk ..);show cP (((Sum.inl n:Key),f x)::_) (.inl k)=none;rw [eM ne];exact jX λz=>h (Qj _ z)
theorem iU {f:α->V}:∀ {nums:LIn} {xs:List α} {k:Int} {i:Nat} {x:α},nums.Nodup->nums[i]?=some k->xs[i]?=some x->cP ((nums.zip xs).map λp=>((Sum.inl p.1:Key),f p.2)) (.inl k)=some (f x)
 | [],_,_,_,_,_,h,_=>by simp at h
 | _::_,[],_,_,_,_,_,h=>by simp at h
 | n::nums,y::xs,k,0,x,_,h1,h2=>by
  have e1:n=k:=by simpa using h1
  have e2:y=x:=by simpa using h2
  subst e1 e2;show cP (((Sum.inl n:Key),f y)::_) (.inl n)=_;rw [eL rfl]
 | n::nums,y::xs,k,i+1,x,nd,h1,h2=>by
  have Sb:nums[i]?=some k:=by assumption
  have ne:¬ (Sum.inl n:Key)=Sum.inl k:=λz=>(Jq.mp nd).1 (by have:n=k:=(by simpa using z); rw [this]; exact Qd Sb);show cP (((Sum.inl n:Key),f y)::_) (.inl k)=_;rw [eM ne];exact iU (Jq.mp nd).2 Sb (by assumption)
theorem yZ (nd:l.Nodup) {x:Int} (a:l[i]?=some x) (b:l[j]?=some x):i=j:=by
 obtain ⟨h1,e1⟩:=Qb.mp a;obtain ⟨h2,e2⟩:=Qb.mp b;exact (Wm nd).mp (e1.trans e2.symm)
theorem XN:∀ {nums hs:LIn} {k:Nat} {key v:Int},nums.Nodup->hs.length=nums.length->nums[k]?=some key->fO (gn nums hs) (.inl key) (.int v)=gn nums (hs.set k v):=by
 intro nums hs k key v nd hl hk;have C8:k < hs.length:=by rw [hl]; exact (Qb.mp hk).1
 have k9:(cP (gn nums hs) (.inl key)).isSome=true:=by
  have:=iU (f:=V.int) nd hk (Qc C8);unfold gn;rw [this]; rfl
 unfold fO;rw [iG,k9,if_pos rfl];unfold gn;rw [Xi];refine List.ext_getElem? λj=>?_;rw [Qh,Qh];cases h1:nums[j]? with
 | none =>
  have e1:(nums.zip hs)[j]?=none:=by simp_all
  have e2:(nums.zip (hs.set k v))[j]?=none:=by simp_all
  rw [e1,e2]; rfl
 | some m =>
  have hj:j < hs.length:=by rw [hl]; exact (Qb.mp h1).1
  have e1:(nums.zip hs)[j]?=some (m,hs[j]):=Jh.mpr ⟨h1,Qc hj⟩;rw [e1];by_cases c:j=k
  ·subst c;have em:m=key:=by rw [hk] at h1; exact (Option.some.inj h1).symm
   have e2:(nums.zip (hs.set j v))[j]?=some (m,v):=Jh.mpr ⟨h1,by rw [Zt,if_pos rfl,if_pos hj]⟩;rw [e2];show some (if (Sum.inl m:Key)=Sum.inl key then _ else _)=some _;rw [if_pos (by rw [em])]
  ·have e2:(nums.zip (hs.set k v))[j]?=some (m,hs[j]):=Jh.mpr ⟨h1,by rw [Zt,if_neg (Ne.symm c)]; exact Qc hj⟩;rw [e2];have nm:¬ (Sum.inl m:Key)=Sum.inl key:=λz=>by
    have z':m=key:=by simpa using z
    rw [z'] at h1;exact c (yZ nd h1 hk)
   show some (if (Sum.inl m:Key)=Sum.inl key then _ else _)=some _;rw [if_neg nm]
theorem qO {f:α->V}:∀ {nums:LIn} {xs:List α} {k:Nat} {key:Int},nums.Nodup->xs.length=nums.length->nums[k]?=some key->pU ((nums.zip xs).map λp=>((Sum.inl p.1:Key),f p.2)) (.inl key)=((nums.eraseIdx k).zip (xs.eraseIdx k)).map λp=>((Sum.inl p.1:Key),f p.2)
 | [],_,_,_,_,_,h=>by simp at h
 | _::_,[],_,_,_,h,_=>by simp at h
 | n::nums,x::xs,0,key,nd,hl,h=>by
  have e:n=key:=by simpa using h
  subst e;show List.filter _ (_::_)=_;rw [Jm,if_neg 'b'];refine Yq.mpr λp hp=>?_;obtain ⟨q,hq,rfl⟩:=Jc.mp hp;have:=(Zz hq).1;simp;intro z;exact ((Jq.mp nd).1) (z ▸ this)
 | n::nums,x::xs,k+1,key,nd,hl,h=>by
  have h':nums[k]?=some key:=by assumption
  have ih:=qO (f:=f) (Jq.mp nd).2 (by simpa using hl:xs.length=nums.length) h';have ne:¬ n=key:=λz=>(Jq.mp nd).1 (z ▸ Qd h');show List.filter _ (_::_)=_::_;rw [Jm,if_pos (by simp_all)];congr 1
def cF (x a b:ae) (H H':Hp):Prop:=∀ c u,c≠x->c≠a->c≠b->H c=some u->H' c=some u
theorem cF.trans {x a b:ae} (p:cF x a b H H1) (q:cF x a b H1 H2):cF x a b H H2:=λc u h1 h2 h3 h=>q c u h1 h2 h3 (p c u h1 h2 h3 h)
theorem cF.of {x a b:ae} (s:aD H H'):cF x a b H H':=λc u _ _ _ h=>s c u h
theorem cF.x {x a b:ae} {u:HO}:cF x a b H (upd H x u):=λc v h1 _ _ h=>by rw [aG h1]; exact h
theorem cF.a {x a b:ae} {u:HO}:cF x a b H (upd H a u):=λc v _ h2 _ h=>by rw [aG h2]; exact h
theorem cF.b {x a b:ae} {u:HO}:cF x a b H (upd H b u):=λc v _ _ h3 h=>by rw [aG h3]; exact h
theorem cF.di {x a b:ae} {fs:List (aj×V)} {k1 k2:List (Key×V)} (p:cF x a b H H') (hx:H x=some (.ins C dx fs)) (ha:H a=some (.dK k1)) (hb:H b=some (.dK k2)) (h:dt K H t xs):dt K H' t xs:=by
 have n:∀ u,H t=some u->(∀ C dx fs,u≠.ins C dx fs)->(∀ k,u≠.dK k)->H' t=some u:=λu e h1 h2 =>
  p t u (λz=>by rw [z,hx] at e; exact h1 _ _ _ (Option.some.inj e).symm) (λz=>by rw [z,ha] at e; exact h2 _ (Option.some.inj e).symm) (λz=>by rw [z,hb] at e; exact h2 _ (Option.some.inj e).symm) e
 rcases h with (h | ⟨o,h⟩) | h
 ·exact .inl (.inl (n _ h (by grind) 'b'))
 ·exact .inl (.inr ⟨o,n _ h (by intro _ _ _ z; cases z) 'b'⟩)
 ·exact .inr h
theorem XM (hs:LIn) {s:Nat×Int×Int} (h:ss[i]?=some s):i8 hs (ss.take (i+1))=(i8 hs (ss.take i)).set s.1 s.2.2:=by
 obtain ⟨h1,h2⟩:=Qb.mp h;rw [Yc h1,h2];unfold i8;rw [We]; rfl
theorem aGL (l:List α) (x y:α):(l++[x]).set l.length y=l++[y]:=by simp
noncomputable def DD.put (D:DD) (l:LIn) (t:ae) (hs:LIn) (m:Int):DD:={ D with nx:=D.nx+1,ml:=m,ma:=D.ma+m,nums:=D.nums++[D.nx],ws:=D.ws++[l],hs:=hs,ts:=D.ts++[t] }
structure FP (D:DD) (l:LIn) (hs:LIn) (m:Int) (ss:List (Nat×Int×Int)) (last:Int):Prop where
 path:mF (D.ws++[l]) (D.hs++[D.n]) D.n ss last
 nd:(D.n::ss.map (·.2.2)).Nodup
 ne:ss≠[]
 hs:hs=i8 (D.hs++[D.n]) ss
 m:m=(ss.length:Int) - 1
def Hq (K:Rb) (C Pt:ae):Sp:=λvs H Q _=>∃ (x t:ae) (D:DD) (l:LIn),vs = [.ref x,.ref t]/\ip K H C x D/\u5 D/\dt K H t (l.map V.int)/\cA D.n (cR l)=true/\D.nums.length < 12/\H Pt=some (.tab xT) /\
 ∀ hs m ss last H',cF x D.da D.dh H H'->FP D l hs m ss last->ip K H' C x (D.put l t hs m)->u5 (D.put l t hs m)->Q (.int D.nx) H'
theorem sX:b_ ["self", "able", "steps", "number", "numbers", "work", "giver", "taker"] ["self", "able"] (aF Du):=.of
set_option maxHeartbeats 1000000 in
theorem aKs (G:Mt K C "put" Du ["self", "able"] f fd) (T:Dc K C) (B:Bl mg) (Ny:FF P w K mg base d_ 2 "is_work" pJ ["hands", "thing"] (tW K)) (GB:FM P w K mg base d_ 1 C "book_now" sT ["self"] (qK K C)) (GD:FM P w K mg base d_ 1 C "deal_now" nN ["self"] (qL K C)) (NG:FM P w K mg base d_ 2 C "loads" rQ ["self"] (wK K C)) (A4:FF P w K mg base d_ 2 "steps_to_least" lI ["book", "deal", "able", "measures"] (V3 K Pt)) (BX:FM P w K mg base d_ 1 C "count_moved" nO ["self", "many"] (qM K C)):c_ P w K mg base d_ 3 f fd ["self", "able"] (Hq K C Pt):=by
 obtain ⟨DI,Ea⟩:=B.x_;refine G.fn.oK sX λfe A outer s H vs Q E hr h=>?_
 ·obtain ⟨x,t,D,l,rfl,hD,hM,ht,zi,oi,hT,k⟩:=h;have r2:dj 2 _:=hr;have r1:dj 1 _:=hr.mono 'c';refine ⟨_,aE (bQ (cV (cD (bF Ny r2 rfl (aA (cN (pv 0) rfl) (aA (pv 1) aC))))) cW aW)
   (aE (bQ (aO cY (aK lF rfl B.len cO (aA (cN (pv 0) rfl) aC)) (iW (v:=.int 12) rfl Ea ⟨DI,rfl⟩) ft) cW aW)
   (aE (aU (i:=2) sX.nd rfl eh (bF A4 r2 rfl (aA (dY (pv 0) T.cl GB.g.me GB.o r1 GB.g.bd .nil hX) (aA (dY (pv 0) T.cl GD.g.me GD.o r1 GD.g.bd .nil hX) (aA (pv 1) (aA (dY (pv 0) T.cl NG.g.me NG.o r2 NG.g.bd .nil hX) aC))))))
   (aE (aU (i:=3) sX.nd rfl eh (cN (pv 0) rfl))
   (aE (jQ (dS hr) (cN (pv 0) rfl) (pv 3) (pv 1) rfl)
   (aE (aU (i:=4) sX.nd rfl eh (aZ (qA rfl) rfl B.list MT (aA (cN (pv 0) rfl) aC)))
   (aE (jH bc.never rfl (cZ (pv 2)) (lS rfl (bD (aM (i:=5) sX.nd rfl eh) (bD (aM (i:=6) sX.nd rfl eh) (bD (aM (i:=7) sX.nd rfl eh) eT))))
    (aI (jQ (dS hr) (cN (pv 0) rfl) (bM bU (pv 4) (pv 5) su) (pv 7) rfl)))
   (aE (nZ (pv 0) aH MN)
   (aE (bY (dX (pv 0) T.cl BX.g.me BX.o r1 BX.g.bd .nil hX (aA (aS jZ (aK aR rfl B.len cO (aA (pv 2) aC)) aH) aC)))
   (aI (aP (pv 3))))))))))),?_⟩
  dsimp only [cB,Cx.gf];obtain ⟨ju,ie,gz,j5⟩:=aV hM.bk;obtain ⟨uu,AJ⟩:=fY hM.dl;obtain ⟨l0,l1,l2⟩:=bO zi;have wz:∀ g∈D.hs,0<=g/\g < D.n:=λg hg=>by
   obtain ⟨i,hi⟩:=Jr.mp hg;have hl:=Qc (show i < D.ws.length by rw [<- uu]; exact (Qb.mp hi).1);exact (bO (j5 _ (Qd hl))).2.1 g (AJ i _ _ hi hl)
  have lg:D.nums.Nodup:=Ju.mpr (hM.up.imp λh=>Yj h);refine aN λu hu=>dO ⟨_,rfl,x,C,D.dx,_,_,rfl,hD.ins,T.cl,T.n1,rfl,_,rfl,D.n,.ref t,cR l,rfl,bK.mpr ⟨t,rfl,ht⟩,_,rfl,cS (by rw [zi]; rfl) ?_⟩;dsimp only [oU];subst hu;refine aN λu hu=>dO ⟨_,rfl,x,C,D.dx,_,_,rfl,hD.ins,T.cl,T.n2,rfl,D.da,_,rfl,hD.dz,rfl,_,rfl,cS (decide_eq_false λz=>?_) ?_⟩
  ·injection z with z;rw [mH hD.tl] at z;omega
  dsimp only [oU];subst hu;refine aN λu hu=>bJ ⟨_,rfl,x,D.dx,_,rfl,hD.ins,rfl,x,D,rfl,hD,λbp H1 s1 AL=>⟨_,rfl,x,D.dx,_,rfl,s1 _ _ hD.ins,rfl,x,D,rfl,hD.same s1,λdp H2 s2 m_=>?_⟩⟩;have jd:=s1.trans s2;refine ⟨_,rfl,_,rfl,x,D.dx,_,rfl,jd _ _ hD.ins,rfl,x,D,rfl,hD.same jd,by omega,ie,λmp H3 s3 Kv=>?_⟩;have jf:=jd.trans s3;refine ⟨.ref bp,dp,t,mp,D.n,D.ws,D.hs,l,cT D.n D.hs,rfl,⟨(s2.trans s3).den _ _ AL,hM.bk,bK.mpr ⟨dp,rfl,dt.of (s3 _ _ m_)⟩,hM.dl⟩,jf.di ht,zi,dt.of Kv,by unfold cT; rw [Qa,fX],jf _ _ hT,λsp H4 ps ss last s4 O5 ux SS PT ND NE=>?_⟩;have ni:=jf.trans s4;have kg:=hD.same ni;have sz:∀ n:Nat,n < 1000->n < af:=λn h=>Xh h 'd';have Au:D.da≠x:=λz=>by have:=kg.dz; rw [z,kg.ins] at this; cases this
  have wu:D.dh≠x:=λz=>by have:=kg.hand; rw [z,kg.ins] at this; cases this
  subst hu;refine aN λu hu=>bJ ⟨_,rfl,x,C,D.dx,_,_,rfl,kg.ins,T.cl,T.n4,rfl,?_⟩;subst hu;refine aN λu hu=>dO ⟨_,rfl,_,rfl,x,C,D.dx,_,_,rfl,kg.ins,T.cl,T.n2,rfl,_,rfl,D.da,_,rfl,rM.k (k:=.inl D.nx) kg.dz (sz _ (by rw [mH hD.tl]; omega)),?_⟩;have j1:D.nx∉D.nums:=λz=>by have:=hM.kh _ z; omega
  have e5:fO (fm D.nums D.ts) (.inl D.nx) (.ref t)=fm (D.nums++[D.nx]) (D.ts++[t]):=by
   rw [XO hD.tl];exact pW _ (jX j1)
  rw [e5];have x5:upd H4 D.da (.dK (fm (D.nums++[D.nx]) (D.ts++[t]))) x=some (.ins C D.dx D.ib):=by rw [aG Au.symm]; exact kg.ins
  have a5:upd H4 D.da (.dK (fm (D.nums++[D.nx]) (D.ts++[t]))) D.da=some (.dK (fm (D.nums++[D.nx]) (D.ts++[t]))):=aB;have h5:upd H4 D.da (.dK (fm (D.nums++[D.nx]) (D.ts++[t]))) D.dh=some (.dK (gn D.nums D.hs)):=by rw [aG hD.ne.symm]; exact kg.hand
  have NL:sp≠D.da:=λz=>by rw [z,kg.dz] at ux; cases ux
  have OM:upd H4 D.da (.dK (fm (D.nums++[D.nx]) (D.ts++[t]))) sp=some (.lst (ps.map V.ref)):=by rw [aG NL]; exact ux
  have Nn:fq (upd H4 D.da (.dK (fm (D.nums++[D.nx]) (D.ts++[t])))) ps ss:=⟨SS.len,λi p s' a b=>by
   have:=SS.at_ i p s' a b;rw [aG (λz=>by rw [z,kg.dz] at this; cases this)]; exact this⟩
  have b5:cF x D.da D.dh H (upd H4 D.da (.dK (fm (D.nums++[D.nx]) (D.ts++[t])))):=(cF.of ni).trans cF.a;generalize upd H4 D.da (.dK (fm (D.nums++[D.nx]) (D.ts++[t])))=H5 at x5 a5 h5 OM Nn b5 ⊢;dsimp only;subst hu;refine aN λu hu=>bJ ⟨_,rfl,x,C,D.dx,_,_,rfl,x5,T.cl,T.n2,rfl,D.da,_,rfl,.inl a5,λnp oh=>?_⟩;rw [qN (by rw [Qg,Qg,hD.tl]; rfl)];have s6:=aD.new (o:=.lst ((D.nums++[D.nx]).map V.int)) oh;have F9:upd H5 np (.lst ((D.nums++[D.nx]).map V.int)) np=some (.lst ((D.nums++[D.nx]).map V.int)):=aB;have x6:=s6 _ _ x5;have a6:=s6 _ _ a5;have h6:=s6 _ _ h5;have CK:=s6 _ _ OM;have X_:fq (upd H5 np (.lst ((D.nums++[D.nx]).map V.int))) ps ss:=⟨Nn.len,λi p s' a b=>s6 _ _ (Nn.at_ i p s' a b)⟩
  have b6:=b5.trans (cF.of (x:=x) (a:=D.da) (b:=D.dh) s6);generalize upd H5 np (.lst ((D.nums++[D.nx]).map V.int))=H6 at s6 F9 x6 a6 h6 CK X_ b6 ⊢;have JU:np≠D.dh:=λz=>by rw [z,h6] at F9; cases F9
  have CQ:sp≠D.dh:=λz=>by rw [z,h6] at CK; cases CK
  have tm:(D.hs++[D.n]).length=(D.nums++[D.nx]).length:=by rw [Qg,Qg,hD.hl]; rfl
  have N7:(D.nums++[D.nx]).Nodup:=Zr.mpr ⟨lg,by simp,λa ha b hb=>by
   have e:b=D.nx:=by simpa using hb
   rw [e]; exact λz=>j1 (z ▸ ha)⟩
  subst hu;refine aN λu hu=>dO ⟨_,rfl,sp,rfl,⟨_,dm.of CK⟩,gR .l (K:=K) (a:=sp) (xs:=ps.map V.ref) (λi σ H'=>∃ v5 v6 v7,σ = [some (.ref x),some (.ref t),some (.ref sp),some (.int D.nx),some (.ref np),v5,v6,v7]/\fg D.dh H6 H'/\H' D.dh=some (.dK (if i=0 then gn D.nums D.hs else gn (D.nums++[D.nx]) (i8 (D.hs++[D.n]) (ss.take i))))) ⟨none,none,none,rfl,fg.refl _ _,h6⟩ (λi σ H' _ ⟨_,_,_,_,b,_⟩=>dm.of (b _ _ CQ CK)) ?_ ?_⟩
  ·rintro i y σ H' hy ⟨v5,v6,v7,rfl,b7,h7⟩;rw [Qh] at hy;obtain ⟨p,hp,rfl⟩:=Qo.mp hy;have hi:i < ss.length:=by rw [<- SS.len]; exact (Qb.mp hp).1
   obtain ⟨s',k9⟩:∃ s',ss[i]?=some s':=⟨_,Qc hi⟩
   have uk:=X_.at_ i p s' hp k9;have B7:=b7 _ _ (λz=>by rw [z,h6] at uk; cases uk) uk;have JQ:=b7 _ _ JU F9;have ed:=lL PT s' (Qd k9);have ir:s'.1 < (D.nums++[D.nx]).length:=by rw [<- tm]; exact (Qb.mp ed.1).1
   obtain ⟨key,lz⟩:∃ key,(D.nums++[D.nx])[s'.1]?=some key:=⟨_,Qc ir⟩
   refine ⟨p,_,rfl,dt.of B7,rfl,_,_,rfl,_,_,rfl,_,_,rfl,rfl,?_⟩;refine ⟨_,rfl,_,rfl,x,C,D.dx,_,_,rfl,b7 _ _ wu.symm x6,T.cl,T.n3,rfl,_,rfl,_,rfl,np,_,(s'.1:Int),.int key,rfl,rfl,dm.of JQ,?_,D.dh,_,rfl,rM.k (k:=.inl key) h7 ?_,?_⟩
   ·show lj _ _=_;exact fG (by rw [Qh,lz]; rfl)
   ·refine sz _ ?_;by_cases c:i=0
    ·rw [if_pos c,Nh hD.hl]; omega
    ·rw [if_neg c,Nh (by rw [mG]; exact tm),Qg];show D.nums.length+1 < 1000;omega
   ·refine ⟨_,_,_,rfl,b7.trans fg.at,?_⟩;rw [aB,if_neg (Nat.succ_ne_zero i),XM _ k9];by_cases c:i=0
    ·subst c;rw [if_pos rfl];have eg:s'.2.1=D.n:=by
      cases ss with
      | nil=>simp at k9
      | cons s0 ss =>
       have e:s0=s':=by simpa using k9
       rw [<- e]; exact PT.1
     have ew:s'.1=D.hs.length:=by
      by_cases d:s'.1 < D.hs.length
      ·have:=ed.1;rw [Qq d] at this;have:=wz _ (Qd this);omega
      ·grind
     have ek:key=D.nx:=by
      rw [ew,hD.hl,Qx (Qe _),Xv] at lz;simpa using lz.symm
     rw [ek,Wz];show some (HO.dK (fO (gn D.nums D.hs) (.inl D.nx) (.int s'.2.2)))=some (.dK (gn (D.nums++[D.nx]) ((D.hs++[D.n]).set s'.1 s'.2.2)));rw [ew,aGL,aGK hD.hl];exact congrArg (λz=>some (HO.dK z)) (pW _ (jX j1))
    ·rw [if_neg c];exact congrArg (λz=>some (HO.dK z)) (XN N7 (by rw [mG]; exact tm) lz)
  ·rintro σ H7 ⟨v5,v6,v7,rfl,b7,h7⟩;have sl:(ps.map V.ref).length=ss.length:=by rw [Qa,SS.len]
   rw [sl,if_neg (by intro z; exact NE (Wi.mp z)),Qu] at h7;have x7:=b7 _ _ wu.symm x6;have JE:=b7 _ _ CQ CK;have Lr:cF x D.da D.dh H H7:=b6.trans λc u _ _ h3 hu=>b7 _ _ h3 hu;dsimp only;subst hu;refine aN λu hu=>dO ⟨_,rfl,x,C,D.dx,_,_,rfl,x7,T.cl,T.n4,rfl,_,_,rfl,rfl,D.dx,_,x7,(show (6:Nat) < 1000 by decide),?_⟩;dsimp only;subst hu;refine aN λu hu=>yX ⟨_,rfl,x,D.dx,_,rfl,aB,rfl,_,rfl,sp,_,rfl,.inl (dm.of (by rw [aG (λz=>by rw [z,x7] at JE; cases JE)]; exact JE)),_,_,rfl,rfl,x,{ D with nx:=D.nx+1 },(ss.length:Int) - 1,?_,aB,?_⟩
   ·rw [sl]; rfl
   rw [kM];subst hu;refine ⟨_,rfl,?_⟩;have EK:cF x D.da D.dh H (upd H7 x (.ins C D.dx (D.put l t (i8 (D.hs++[D.n]) ss) ((ss.length:Int) - 1)).ib)):=Lr.trans cF.x;have B1:∀ (w:Nat) g l',(i8 (D.hs++[D.n]) ss)[w]?=some g->(D.ws++[l])[w]?=some l'->g∈l':=λw g l' q e=>by
    rcases MC (yY PT) w g l' q e with z | ⟨z,z2⟩
    ·exact z
    by_cases c:w < D.hs.length
    ·rw [Qq c] at z;rw [Qq (by rw [<- uu]; exact c)] at e;exact AJ w g l' z e
    cases ss with
    | nil=>exact absurd rfl NE
    | cons s0 ss =>
     have ed:=(lL PT s0 (Qk ..)).1;rw [show s0.2.1=D.n from PT.1] at ed;have w1:=(Qb.mp z).1;have w2:=(Qb.mp ed).1;have w3:=z2 s0 (Qk ..);rw [Qg,Zd] at w1 w2;rw [Qq 'a'] at ed;have:=wz _ (Qd ed);omega
   have qr:(i8 (D.hs++[D.n]) ss).length=D.nums.length+1:=by rw [mG,tm,Qg]; rfl
   refine k (i8 (D.hs++[D.n]) ss) ((ss.length:Int) - 1) ss last _ EK ⟨PT,ND,NE,rfl,rfl⟩ ⟨aB,(aG Au).trans (b7 _ _ hD.ne a6),(aG wu).trans h7,?_,?_,?_,λi t' l' q1 q2=>?_,hD.ne⟩ ⟨?_,?_,?_,?_,?_⟩
   ·show (D.ts++[t]).length=(D.nums++[D.nx]).length;rw [Qg,Qg,hD.tl]; rfl
   ·show (D.ws++[l]).length=(D.nums++[D.nx]).length;rw [Qg,Qg,hD.wl]; rfl
   ·show (i8 (D.hs++[D.n]) ss).length=(D.nums++[D.nx]).length;rw [qr,Qg]; rfl
   ·refine EK.di hD.ins hD.dz hD.hand ?_;have ym:(D.ts++[t])[i]?=some t':=q1;have zf:(D.ws++[l])[i]?=some l':=q2;by_cases c:i < D.ts.length
    ·rw [Qq c] at ym;rw [Qq (by rw [hD.wl,<- hD.tl]; exact c)] at zf;exact hD.tup i t' l' ym zf
    ·have ci:i=D.ts.length:=by
      have:=(Qb.mp ym).1;rw [Qg] at this;have:i < D.ts.length+1:=this;omega
     have cw:D.ts.length=D.ws.length:=by rw [hD.tl,hD.wl]
     rw [ci,Qx (Qe _),Xv] at ym;rw [ci,cw,Qx (Qe _),Xv] at zf;have e1:t=t':=by simpa using ym
     have e2:l=l':=by simpa using zf
     rw [<- e1,<- e2]; exact ht
   ·refine iZ ju ie ?_ λl' qc=>?_
    ·show (D.ws++[l]).length<=12;rw [Qg,hD.wl];show D.nums.length+1<=12;omega
    ·have ow:l'∈D.ws++[l]:=qc;rcases Qp.mp ow with z | z
     ·exact j5 l' z
     ·rw [show l'=l by simpa using z]; exact zi
   ·refine Nj ?_ B1;show (i8 (D.hs++[D.n]) ss).length=(D.ws++[l]).length;rw [qr,Qg,hD.wl]; rfl
   ·show (D.nums++[D.nx]).Pairwise (· < ·);refine Zg.mpr ⟨hM.up,Wj _ _,λa ha b hb=>?_⟩;rw [show b=D.nx by simpa using hb];exact (hM.kh a ha).2
   ·intro k' AE;have C8:k'∈D.nums++[D.nx]:=AE;show 0<=k'/\k' < D.nx+1;have n0:=hM.nx;rcases Qp.mp C8 with z | z
    ·have:=hM.kh k' z;omega
    ·grind
   ·have:=hM.nx;show 0<=D.nx+1;omega
noncomputable def DD.take (D:DD) (k:Nat) (ss:List (Nat×Int×Int)):DD:={ D with ml:=(ss.length:Int),ma:=D.ma+(ss.length:Int),nums:=D.nums.eraseIdx k,ws:=D.ws.eraseIdx k,hs:=(i8 D.hs ss).eraseIdx k,ts:=D.ts.eraseIdx k }
def HY (K:Rb) (C:ae):Sp:=λvs H Q _=>∃ (x:ae) (D:DD) (num:Int) (k:Nat) (last:Int),vs = [.ref x,.int num]/\ip K H C x D/\u5 D/\D.nums[k]?=some num/\D.hs[k]?=some last /\
 ∀ ss H',cF x D.da D.dh H H'->EU D.ws D.hs last ss->ip K H' C x (D.take k ss)->u5 (D.take k ss)->Q .fk H'
theorem pM:b_ ["self", "number", "numbers", "steps", "work", "giver", "taker"] ["self", "number"] (aF yT):=.of
set_option maxHeartbeats 1000000 in
theorem aIy (G:Mt K C "take" yT ["self", "number"] f fd) (T:Dc K C) (B:Bl mg) (Dy:FF P w K mg base d_ 1 "is_whole" lZ ["thing"] (mB K)) (GB:FM P w K mg base d_ 1 C "book_now" sT ["self"] (qK K C)) (GD:FM P w K mg base d_ 1 C "deal_now" nN ["self"] (qL K C)) (GTk:FF P w K mg base d_ 2 "steps_of_take" qG ["book", "deal", "work"] (V2 K)) (BX:FM P w K mg base d_ 1 C "count_moved" nO ["self", "many"] (qM K C)):c_ P w K mg base d_ 3 f fd ["self", "number"] (HY K C):=by
 refine G.fn.oK pM λfe A outer s H vs Q E hr h=>?_
 ·obtain ⟨x,D,num,kk,last,rfl,hD,hM,ja,ly,k⟩:=h;have r2:dj 2 _:=hr;have r1:dj 1 _:=hr.mono 'c';refine ⟨_,aE (bQ (PW.pt (fP (cV (cD (bF Dy r1 rfl (aA (pv 1) aC)))) (eA (rB (oB (dS hr) (pv 1) (cN (pv 0) rfl)) (by rfl))))) cW aW)
   (aE (aU (i:=2) pM.nd rfl eh (aZ (qA rfl) rfl B.list MT (aA (cN (pv 0) rfl) aC)))
   (aE (aU (i:=3) pM.nd rfl eh (bF GTk r2 rfl (aA (dY (pv 0) T.cl GB.g.me GB.o r1 GB.g.bd .nil hX) (aA (dY (pv 0) T.cl GD.g.me GD.o r1 GD.g.bd .nil hX) (aA (kN Rk Uk Iy aEQ (pv 2) (aA (pv 1) aC)) aC)))))
   (aE (jH bc.never rfl (cZ (pv 3)) (lS rfl (bD (aM (i:=4) pM.nd rfl eh) (bD (aM (i:=5) pM.nd rfl eh) (bD (aM (i:=6) pM.nd rfl eh) eT))))
    (aI (jQ (dS hr) (cN (pv 0) rfl) (bM bU (pv 2) (pv 4) su) (pv 6) rfl)))
   (aE (bY (vM (cN (pv 0) rfl) (pv 1) ⟨rfl,rfl,rfl,rfl⟩))
   (aE (bY (vM (cN (pv 0) rfl) (pv 1) ⟨rfl,rfl,rfl,rfl⟩))
   (aI (bY (dX (pv 0) T.cl BX.g.me BX.o r1 BX.g.bd .nil hX (aA (aK aR rfl B.len cO (aA (pv 3) aC)) aC))))))))),?_⟩
  dsimp only [cB,Cx.gf];obtain ⟨ju,ie,gz,j5⟩:=aV hM.bk;obtain ⟨uu,AJ⟩:=fY hM.dl;have wz:∀ g∈D.hs,0<=g/\g < D.n:=λg hg=>by
   obtain ⟨i,hi⟩:=Jr.mp hg;have hl:=Qc (show i < D.ws.length by rw [<- uu]; exact (Qb.mp hi).1);exact (bO (j5 _ (Qd hl))).2.1 g (AJ i _ _ hi hl)
  have lg:D.nums.Nodup:=Ju.mpr (hM.up.imp λh=>Yj h);have sz:∀ n:Nat,n < 1000->n < af:=λn h=>Xh h 'd';have Ge:D.nums.length<=12:=by rw [<- hD.wl]; exact gz
  obtain ⟨t0,yo⟩:∃ t0,D.ts[kk]?=some t0:=⟨_,Qc (by rw [hD.tl]; exact (Qb.mp ja).1)⟩
  have va:cP (fm D.nums D.ts) (.inl num)=some (.ref t0):=iU lg ja yo;refine aN λu hu=>dO ⟨_,rfl,.int num,.int num,rfl,cU.mpr rfl,_,rfl,cS rfl ⟨_,rfl,_,rfl,x,C,D.dx,_,_,rfl,hD.ins,T.cl,T.n2,rfl,D.da,_,rfl,nI.k (k:=.inl num) hD.dz,_,rfl,cS (by rw [va]; rfl) ?_⟩⟩;dsimp only [oU];subst hu;refine aN λu hu=>bJ ⟨_,rfl,x,C,D.dx,_,_,rfl,hD.ins,T.cl,T.n2,rfl,D.da,_,rfl,.inl hD.dz,λnp oh=>?_⟩;rw [qN hD.tl];have s1:=aD.new (o:=.lst (D.nums.map V.int)) oh;have F_:upd H np (.lst (D.nums.map V.int)) np=some (.lst (D.nums.map V.int)):=aB;generalize upd H np (.lst (D.nums.map V.int))=H1 at s1 F_ ⊢;have nv:=hD.same s1;subst hu;refine aN λu hu=>bJ ⟨_,rfl,x,D.dx,_,rfl,nv.ins,rfl,x,D,rfl,nv,λbp H2 s2 AL=>?_⟩;have Dj:=nv.same s2;refine ⟨_,rfl,x,D.dx,_,rfl,Dj.ins,rfl,x,D,rfl,Dj,λdp H3 s3 m_=>?_⟩;have yl:=s2.trans s3;have JS:=yl _ _ F_;refine ⟨_,rfl,.inl ⟨rfl,_,dm.of JS⟩,_,rfl,np,D.nums,num,kk,rfl,rfl,dm.of JS,ja,λm hm vq=>Qy hm (yZ lg vq ja),.ref bp,.ref dp,D.n,D.ws,D.hs,kk,last,rfl,⟨s3.den _ _ AL,hM.bk,bK.mpr ⟨dp,rfl,dt.of m_⟩,hM.dl⟩,ly,λsp H4 ps ss s4 O5 ux SS TK=>?_⟩;have ni:=s1.trans (yl.trans s4);have kg:=hD.same ni;have JR:=s4 _ _ JS;have Au:D.da≠x:=λz=>by have:=kg.dz; rw [z,kg.ins] at this; cases this
  have wu:D.dh≠x:=λz=>by have:=kg.hand; rw [z,kg.ins] at this; cases this
  have wq:sp≠D.da:=λz=>by rw [z,kg.dz] at ux; cases ux
  have CQ:sp≠D.dh:=λz=>by rw [z,kg.hand] at ux; cases ux
  have nsx:sp≠x:=λz=>by rw [z,kg.ins] at ux; cases ux
  have JU:np≠D.dh:=λz=>by rw [z,kg.hand] at JR; cases JR
  have key:∀ (i:Nat) (s':Nat×Int×Int),ss[i]?=some s'->s'.1 < D.hs.length:=λi s' h=>by
   rcases TK with e | ⟨h0,p,_⟩
   ·simp_all
   ·exact (Qb.mp (lL p s' (Qd h)).1).1
  subst hu;refine aN λu hu=>dO ⟨_,rfl,sp,rfl,⟨_,dm.of ux⟩,gR .l (K:=K) (a:=sp) (xs:=ps.map V.ref) (λi σ H'=>∃ v5 v6 v7,σ = [some (.ref x),some (.int num),some (.ref np),some (.ref sp),v5,v6,v7]/\fg D.dh H4 H'/\H' D.dh=some (.dK (gn D.nums (i8 D.hs (ss.take i))))) ⟨none,none,none,rfl,fg.refl _ _,kg.hand⟩ (λi σ H' _ ⟨_,_,_,_,b,_⟩=>dm.of (b _ _ CQ ux)) ?_ ?_⟩
  ·rintro i y σ H' hy ⟨v5,v6,v7,rfl,b7,h7⟩;rw [Qh] at hy;obtain ⟨p,hp,rfl⟩:=Qo.mp hy;have hi:i < ss.length:=by rw [<- SS.len]; exact (Qb.mp hp).1
   obtain ⟨s',k9⟩:∃ s',ss[i]?=some s':=⟨_,Qc hi⟩
   have uk:=SS.at_ i p s' hp k9;have B7:=b7 _ _ (λz=>by rw [z,kg.hand] at uk; cases uk) uk;have JQ:=b7 _ _ JU JR;have ir:=key i s' k9;rw [hD.hl] at ir;obtain ⟨Aa,lz⟩:∃ Aa,D.nums[s'.1]?=some Aa:=⟨_,Qc ir⟩
   refine ⟨p,_,rfl,dt.of B7,rfl,_,_,rfl,_,_,rfl,_,_,rfl,rfl,?_⟩;refine ⟨_,rfl,_,rfl,x,C,D.dx,_,_,rfl,b7 _ _ wu.symm kg.ins,T.cl,T.n3,rfl,_,rfl,_,rfl,np,_,(s'.1:Int),.int Aa,rfl,rfl,dm.of JQ,?_,D.dh,_,rfl,rM.k (k:=.inl Aa) h7 ?_,?_⟩
   ·show lj _ _=_;exact fG (by rw [Qh,lz]; rfl)
   ·refine sz _ ?_;rw [Nh (by rw [mG]; exact hD.hl)]; omega
   ·refine ⟨_,_,_,rfl,b7.trans fg.at,?_⟩;rw [aB,XM _ k9];exact congrArg (λz=>some (HO.dK z)) (XN lg (by rw [mG]; exact hD.hl) lz)
  ·rintro σ H7 ⟨v5,v6,v7,rfl,b7,h7⟩;have sl:(ps.map V.ref).length=ss.length:=by rw [Qa,SS.len]
   rw [sl,Qu] at h7;have x7:=b7 _ _ wu.symm kg.ins;have a7:=b7 _ _ hD.ne kg.dz;have Lr:cF x D.da D.dh H H7:=(cF.of ni).trans λc u _ _ h3 hu=>b7 _ _ h3 hu;have qr:(i8 D.hs ss).length=D.nums.length:=by rw [mG]; exact hD.hl
   obtain ⟨g0,PR⟩:∃ g0,(i8 D.hs ss)[kk]?=some g0:=⟨_,Qc (by rw [qr]; exact (Qb.mp ja).1)⟩
   have vh:cP (gn D.nums (i8 D.hs ss)) (.inl num)=some (.int g0):=iU lg ja PR;have da:pU (fm D.nums D.ts) (.inl num)=fm (D.nums.eraseIdx kk) (D.ts.eraseIdx kk):=qO lg hD.tl ja;have dh:pU (gn D.nums (i8 D.hs ss)) (.inl num)=gn (D.nums.eraseIdx kk) ((i8 D.hs ss).eraseIdx kk):=qO lg qr ja;dsimp only;subst hu;refine aN λu hu=>yX ⟨_,rfl,x,C,D.dx,_,_,rfl,x7,T.cl,T.n2,rfl,D.da,rfl,.inl ⟨_,.inl a7⟩,_,rfl,_,.inl num,_,a7,rfl,va,?_⟩;rw [da];have x8:upd H7 D.da (.dK (fm (D.nums.eraseIdx kk) (D.ts.eraseIdx kk))) x=some (.ins C D.dx D.ib):=(aG Au.symm).trans x7;have h8:upd H7 D.da (.dK (fm (D.nums.eraseIdx kk) (D.ts.eraseIdx kk))) D.dh=some (.dK (gn D.nums (i8 D.hs ss))):=(aG hD.ne.symm).trans h7;have a8:upd H7 D.da (.dK (fm (D.nums.eraseIdx kk) (D.ts.eraseIdx kk))) D.da=some (.dK (fm (D.nums.eraseIdx kk) (D.ts.eraseIdx kk))):=aB;have OJ:upd H7 D.da (.dK (fm (D.nums.eraseIdx kk) (D.ts.eraseIdx kk))) sp=some (.lst (ps.map V.ref)):=(aG wq).trans (b7 _ _ CQ ux);have EK:cF x D.da D.dh H (upd H7 D.da (.dK (fm (D.nums.eraseIdx kk) (D.ts.eraseIdx kk)))):=Lr.trans cF.a;generalize upd H7 D.da (.dK (fm (D.nums.eraseIdx kk) (D.ts.eraseIdx kk)))=H8 at x8 h8 a8 OJ EK ⊢;subst hu;refine aN λu hu=>yX ⟨_,rfl,x,C,D.dx,_,_,rfl,x8,T.cl,T.n3,rfl,D.dh,rfl,.inl ⟨_,.inl h8⟩,_,rfl,_,.inl num,_,h8,rfl,vh,?_⟩;rw [dh];have x9:upd H8 D.dh (.dK (gn (D.nums.eraseIdx kk) ((i8 D.hs ss).eraseIdx kk))) x=some (.ins C D.dx D.ib):=(aG wu.symm).trans x8;have a9:upd H8 D.dh (.dK (gn (D.nums.eraseIdx kk) ((i8 D.hs ss).eraseIdx kk))) D.da=some (.dK (fm (D.nums.eraseIdx kk) (D.ts.eraseIdx kk))):=(aG hD.ne).trans a8;have h9:upd H8 D.dh (.dK (gn (D.nums.eraseIdx kk) ((i8 D.hs ss).eraseIdx kk))) D.dh=some (.dK (gn (D.nums.eraseIdx kk) ((i8 D.hs ss).eraseIdx kk))):=aB;have OI:upd H8 D.dh (.dK (gn (D.nums.eraseIdx kk) ((i8 D.hs ss).eraseIdx kk))) sp=some (.lst (ps.map V.ref)):=(aG CQ).trans OJ;have Lq:cF x D.da D.dh H (upd H8 D.dh (.dK (gn (D.nums.eraseIdx kk) ((i8 D.hs ss).eraseIdx kk)))):=EK.trans cF.b;generalize upd H8 D.dh (.dK (gn (D.nums.eraseIdx kk) ((i8 D.hs ss).eraseIdx kk)))=H9 at x9 h9 a9 OI Lq ⊢;subst hu;refine ⟨_,rfl,x,D.dx,_,rfl,x9,rfl,_,rfl,sp,_,rfl,.inl (dm.of OI),x,D,(ss.length:Int),?_,x9,?_⟩
   ·rw [sl]; rfl
   have B1:∀ (w:Nat) g l,(i8 D.hs ss)[w]?=some g->D.ws[w]?=some l->g∈l:=λw g l q e=>by
    refine (MC ?_ w g l q e).elim id λz=>AJ w g l z.1 e;rcases TK with rfl | ⟨_,p,_⟩
    ·exact λs h=>(Qv h).elim
    ·exact yY p
   refine k ss _ (Lq.trans cF.x) TK ⟨aB,(aG Au).trans a9,(aG wu).trans h9,?_,?_,?_,λi t' l' q1 q2=>?_,hD.ne⟩ ⟨?_,?_,?_,?_,hM.nx⟩
   ·show (D.ts.eraseIdx kk).length=(D.nums.eraseIdx kk).length;rw [Jn,Jn,hD.tl]
   ·show (D.ws.eraseIdx kk).length=(D.nums.eraseIdx kk).length;rw [Jn,Jn,hD.wl]
   ·show ((i8 D.hs ss).eraseIdx kk).length=(D.nums.eraseIdx kk).length;rw [Jn,Jn,qr]
   ·exact (Lq.trans cF.x).di hD.ins hD.dz hD.hand (hD.tup _ t' l' (jW q1) (jW q2))
   ·refine iZ ju ie (Qr (Wk ..) gz) λl' qc=>j5 l' (Zi qc)
   ·refine Nj ?_ λj h l q1 q2=>B1 _ h l (jW q1) (jW q2);show ((i8 D.hs ss).eraseIdx kk).length=(D.ws.eraseIdx kk).length;rw [Jn,Jn,qr,hD.wl]
   ·exact hM.up.sublist (Wt ..)
   ·exact λk' AE=>hM.kh k' (Zi AE)
end Ab
namespace L2
open PySem
theorem Ng {l:ay} (hK:X.K=K) (hl:PE X l tl):PI X tg l (Hm K tl):=by subst hK; exact hG hl
end L2
namespace Ab
open PySem L2
noncomputable def DD.begun (n:Int) (dx da dh:ae):DD:=⟨n,0,0,0,[],[],[],dx,da,dh,[]⟩
theorem U_ {n:Int} {da dh:ae} (h1:1<=n) (h2:n<=6):u5 (DD.begun n dx da dh) :=
 ⟨iZ h1 h2 (Ji _) λl hl=>(Qv hl).elim,Nj rfl λj h l q=>by simp [DD.begun] at q,List.Pairwise.nil,λk hk=>(Qv hk).elim,Jz _⟩
def MB (K:Rb) (C:ae):Sp:=λvs H Q _=>∃ (x dx:ae) (n:Int),vs = [.ref x,.int n]/\H x=some (.ins C dx [])/\1<=n/\n<=6 /\
 ∀ da dh H',fg x H H'->H da=none->H dh=none->ip K H' C x (DD.begun n dx da dh)->Q .fk H'
theorem UI:b_ ["self", "hands"] ["self", "hands"] (aF yS):=.of
theorem aIz (G:Mt K C "__init__" yS ["self", "hands"] f fd) (T:Dc K C) (B:Bl mg) (GH:FF P w K mg base d_ 2 "are_hands" pI ["thing"] (tV K)):c_ P w K mg base d_ 3 f fd ["self", "hands"] (MB K C):=by
 refine G.fn.oK UI λfe A outer s H vs Q E hr h=>?_
 ·obtain ⟨x,dx,n,rfl,hx,h1,h6,k⟩:=h;have r2:dj 2 _:=hr;refine ⟨_,aE (bQ (cV (cD (bF GH r2 rfl (aA (pv 1) aC)))) cW aW)
   (aE (lT (pv 0) (pv 1) rfl) (aE (lT (pv 0) pY rfl) (aE (lT (pv 0) pY rfl) (aE (lT (pv 0) aH rfl) (aE (lT (pv 0) aH rfl) (aI (lT (pv 0) aH rfl))))))),?_⟩
  dsimp only [cB,Cx.gf];have lt:∀ n:Nat,n<=6->n < 1000:=λn h=>by omega
  refine ⟨_,rfl,.int n,.int n,rfl,cU.mpr rfl,_,rfl,cS ?_ ?_⟩
  ·simp_all [eN]
  refine ⟨_,rfl,_,rfl,x,C,dx,_,rfl,hx,T.cl,T.n1,lt 0 'c',λda vy=>⟨_,rfl,x,C,dx,_,rfl,(aD.new vy) _ _ aB,T.cl,T.n2,lt 1 'c',λdh tj=>⟨_,rfl,x,C,dx,_,rfl,(aD.new tj) _ _ aB,T.cl,T.n3,lt 2 'c',_,rfl,x,C,dx,_,rfl,aB,T.cl,T.n4,lt 3 'c',_,rfl,x,C,dx,_,rfl,aB,T.cl,T.n5,lt 4 'c',_,rfl,x,C,dx,_,rfl,aB,T.cl,T.n6,lt 5 'c',?_⟩⟩⟩;rw [kM,kM,kM];have Gd:da≠x:=λz=>by rw [z,aB] at vy; cases vy
  have JX:dh≠x:=λz=>by rw [z,aB] at tj; cases tj
  have DN:da≠dh:=λz=>by rw [<- z,aG Gd,aB] at tj; cases tj
  have Cm:H da=none:=by rw [aG Gd] at vy; exact vy
  have Ci:H dh=none:=by rw [aG JX,aG DN.symm,aG JX] at tj; exact tj
  refine k da dh _ (λc u hc hu=>?_) Cm Ci ⟨aB,?_,?_,rfl,rfl,rfl,λi t l q=>by simp [DD.begun] at q,DN⟩
  ·grind [aG]
  ·show upd _ x _ da=some (.dK []);rw [aG Gd,aG DN,aG Gd,aB]
  ·show upd _ x _ dh=some (.dK []);rw [aG JX,aB]
structure SD where
 n:Int
 fw:Int
 nums:LIn
 ws:List (LIn)
 ap:ae
 ts:List ae
end Ab
variable {S:SD}
namespace Ab
open PySem L2
noncomputable def SD.kv (S:SD):List (Key×V):=[(.inr "hands",.int S.n),(.inr "able",.ref S.ap),(.inr "due",.int S.fw)]
theorem gE (S:SD):cP S.kv (.inr "hands")=some (.int S.n):=by rfl
theorem gO (S:SD):cP S.kv (.inr "able")=some (.ref S.ap):=by rfl
theorem mI (S:SD):cP S.kv (.inr "due")=some (.int S.fw):=by rfl
theorem zF (S:SD) (m:Int):fO S.kv (.inr "hands") (.int m)=({ S with n:=m }:SD).kv:=by rfl
theorem aIA (S:SD) (m:Int):fO S.kv (.inr "due") (.int m)=({ S with fw:=m }:SD).kv:=by rfl
structure kj (K:Rb) (H:Hp) (sp:ae) (S:SD):Prop where
 st:H sp=some (.dK S.kv)
 dz:H S.ap=some (.dK (fm S.nums S.ts))
 tl:S.ts.length=S.nums.length
 wl:S.ws.length=S.nums.length
 tup:∀ (i:Nat) t l,S.ts[i]?=some t->S.ws[i]?=some l->dt K H t (l.map V.int)
 ne:sp≠S.ap
structure u3 (S:SD):Prop where
 bk:fF (gM S.n S.ws)=true
 up:S.nums.Pairwise (· < ·)
 kh:∀ k∈S.nums,0<=k/\k < S.fw
 fw:0<=S.fw
 len:S.ws.length=S.nums.length
theorem kj.same {sp:ae} (h:kj K H sp S) (s:aD H H'):kj K H' sp S:=⟨s _ _ h.st,s _ _ h.dz,h.tl,h.wl,λi t l a b=>s.di (h.tup i t l a b),h.ne⟩
theorem kj.ic {sp:ae} {k:Key} (h:kj K H sp S) (e:cP S.kv k=some v):nI H sp (kV k) (some v):=.inl ⟨S.kv,k,.inl h.st,rfl,e.symm⟩
theorem xU {a b:aj} (h:a≠b):decide (V.str a=V.str b)=false:=decide_eq_false λz=>h (by injection z)
theorem tK {a:aj}:decide (V.str a=V.str a)=true:=decide_eq_true rfl
theorem Y4:("put" : aj) ≠ "come" := by decide
theorem Y3:("go" : aj) ≠ "come" := by decide
theorem Y2:("take" : aj) ≠ "come" := by decide
theorem Y1:("go" : aj) ≠ "put" := by decide
theorem Y0:("take" : aj) ≠ "put" := by decide
theorem YZ:("take" : aj) ≠ "go" := by decide
theorem wm (n:Nat) (h:n < 1000):n < af:=Xh h 'd'
theorem kj.di {sp:ae} (h:kj K H sp S) (b:cF sp S.ap S.ap H H') (q:dt K H t xs):dt K H' t xs:=by
 have n:∀ u,H t=some u->(∀ k,u≠.dK k)->H' t=some u:=λu e h2 =>
  b t u (λz=>by rw [z,h.st] at e; exact h2 _ (Option.some.inj e).symm) (λz=>by rw [z,h.dz] at e; exact h2 _ (Option.some.inj e).symm) (λz=>by rw [z,h.dz] at e; exact h2 _ (Option.some.inj e).symm) e
 rcases q with (q | ⟨o,q⟩) | q
 ·exact .inl (.inl (n _ q 'b'))
 ·exact .inl (.inr ⟨o,n _ q 'b'⟩)
 ·exact .inr q
theorem Nf {x:Int} (h:x∈l):l[l.idxOf x]?=some x:=by
 have hl:=Zq h;rw [Qc hl,List.getElem_idxOf hl]
inductive i7 where
 | i5
 | go
 | take (num:Int)
 | put (t:ae) (l:LIn)
def sY (K:Rb) (H:Hp) (dp:ae):i7->Prop
 | .i5=>dt K H dp [.str "come"]
 | .go=>dt K H dp [.str "go"]
 | .take num=>dt K H dp [.str "take",.int num]
 | .put t l=>dt K H dp [.str "put",.ref t]/\dt K H t (l.map V.int)
def qP (S:SD):i7->Prop
 | .i5=>S.n≠6
 | .go=>S.n≠1/\∀ l∈S.ws,S.n - 1∉l
 | .take num=>num∈S.nums
 | .put _ l=>cA S.n (cR l)=true/\S.nums.length < 12
noncomputable def SD.step (S:SD):i7->SD
 | .i5=>{ S with n:=S.n+1 }
 | .go=>{ S with n:=S.n - 1 }
 | .take num=>{ S with nums:=S.nums.eraseIdx (S.nums.idxOf num),ws:=S.ws.eraseIdx (S.nums.idxOf num),ts:=S.ts.eraseIdx (S.nums.idxOf num) }
 | .put t l=>{ S with fw:=S.fw+1,nums:=S.nums++[S.fw],ws:=S.ws++[l],ts:=S.ts++[t] }
noncomputable def SD.told (S:SD):i7->V
 | .i5=>.int S.n
 | .go=>.fk
 | .take _=>.fk
 | .put _ _=>.int S.fw
def U':Sp:=λvs H Q _=>∃ n:Int,vs = [.int n]/\∀ p ap H',aD H H'->H p=none->H ap=none->p≠ap->H' p=some (.dK (⟨n,0,[],[],ap,[]⟩:SD).kv)->H' ap=some (.dK [])->Q (.ref p) H'
theorem aIB:b_ ["hands"] ["hands"] (aF HJ):=.of
theorem aGN (G:Fn K mg "_law_e_begun" HJ ["hands"] f fd):c_ P w K mg base d_ 1 f fd ["hands"] U':=by
 refine G.fn.oK aIB λfe A outer s H vs Q E hr h=>?_
 ·obtain ⟨n,rfl,k⟩:=h;refine ⟨_,aI (aP (aIf (vJ aJ (pv 0) (vJ aJ pY (vJ aJ aH aIe))) rfl rfl 'b' 'c')),?_⟩;intro p hp;refine ⟨_,rfl,λap BF=>?_⟩;have F8:p≠ap:=λz=>by rw [<- z,aB] at BF; cases BF
  have Oh:H ap=none:=by rw [aG F8.symm] at BF; exact BF
  refine ⟨by rw [aG F8,aB],[(.inr "hands",.int n),(.inr "able",.ref ap),(.inr "due",.int 0)],rfl,(show (3:Nat)<=15 by decide),k p ap _ (λc u hc=>?_) hp Oh F8 ?_ (by rw [aG F8.symm,aB])⟩
  ·grind [aG]
  ·rw [aB];have e2:fO [((.inr "hands" : Key),V.int n)] (.inr "able") (.ref ap) = [(.inr "hands",.int n),(.inr "able",.ref ap)]:=by rfl
   have e3:fO [((.inr "hands" : Key),V.int n),(.inr "able",.ref ap)] (.inr "due") (.int 0) = [(.inr "hands",.int n),(.inr "able",.ref ap),(.inr "due",.int 0)]:=by rfl
   show some (HO.dK (fO (fO [((.inr "hands" : Key),V.int n)] (.inr "able") (.ref ap)) (.inr "due") (.int 0)))=_;rw [e2,e3]; rfl
def MA (K:Rb):Sp:=λvs H Q _=>∃ (sp dp:ae) (S:SD) (e:i7),vs = [.ref sp,.ref dp]/\kj K H sp S/\u3 S/\sY K H dp e/\qP S e /\
 ∀ H',cF sp S.ap S.ap H H'->kj K H' sp (S.step e)->Q (S.told e) H'
theorem aIC:b_ ["state", "deed"] ["state", "deed"] (aF wA):=.of
theorem aID (G:Fn K mg "_law_e_step" wA ["state", "deed"] f fd):c_ P w K mg base d_ 1 f fd ["state", "deed"] (MA K):=by
 refine G.fn.oK aIC λfe A outer s H vs Q E hr h=>?_
 ·obtain ⟨sp,dp,S,e,rfl,hS,hM,hE,RH,k⟩:=h;have hu:=dS hr;refine ⟨_,aE (bQ (aO cY (bM dN (pv 1) aH gb) aJ ft) (aE (jQ hu (pv 0) aJ (aS eD (bL hu (pv 0) aJ gb) aH) rfl) (aI (aP (aS jZ (bL hu (pv 0) aJ gb) aH)))) aW)
   (aE (bQ (aO cY (bM dN (pv 1) aH gb) aJ ft) (aE (jQ hu (bL hu (pv 0) aJ gb) (bL hu (pv 0) aJ gb) (bM dN (pv 1) aH gb) rfl) (aE (jQ hu (pv 0) aJ (aS eD (bL hu (pv 0) aJ gb) aH) rfl) (aI (aP (aS jZ (bL hu (pv 0) aJ gb) aH))))) aW)
   (aE (bQ (aO cY (bM dN (pv 1) aH gb) aJ ft) (aI (jQ hu (pv 0) aJ (aS jZ (bL hu (pv 0) aJ gb) aH) rfl)) (aI (bY (vM (bL hu (pv 0) aJ gb) (bM dN (pv 1) aH gb) ⟨rfl,rfl,rfl,rfl⟩))))
   (aI (aP rA)))),?_⟩
  dsimp only [cB,Cx.gf];have lg:S.nums.Nodup:=Ju.mpr (hM.up.imp λh=>Yj h);have zb:S.kv.length < af:=wm 3 'c';have Ge:S.nums.length<=12:=by rw [<- hS.wl]; exact (aV hM.bk).2.2.1
  cases e with
  | i5 =>
   refine ⟨_,rfl,dp,_,0,_,rfl,rfl,hE,rfl,rfl,_,rfl,dM tK ⟨_,rfl,sp,_,rfl,hS.ic (k:=.inr "hands") (gE S),S.n,1,rfl,rfl,_,rfl,sp,_,rfl,rM.k (k:=.inr "hands") hS.st zb,?_⟩⟩;rw [zF];have v_:kj K (upd H sp (.dK ({ S with n:=S.n+1 }:SD).kv)) sp { S with n:=S.n+1 }:=⟨aB,(aG hS.ne.symm).trans hS.dz,hS.tl,hS.wl,λi t l a b=>hS.di cF.x (hS.tup i t l a b),hS.ne⟩
   refine ⟨_,rfl,sp,_,rfl,v_.ic (k:=.inr "hands") (gE _),S.n+1,1,rfl,rfl,?_⟩;have ee:S.n+1 - 1=S.n:=by omega
   show Q (.int (S.n+1 - 1)) _;rw [ee]; exact (k _ cF.x v_)
  | go =>
   refine ⟨_,rfl,dp,_,0,_,rfl,rfl,hE,rfl,rfl,_,rfl,cS (xU Y3) ⟨_,rfl,dp,_,0,_,rfl,rfl,hE,rfl,rfl,_,rfl,cS (xU Y1) ?_⟩⟩;refine ⟨_,rfl,dp,_,0,_,rfl,rfl,hE,rfl,rfl,_,rfl,dM tK ⟨_,rfl,sp,_,rfl,hS.ic (k:=.inr "hands") (gE S),S.n,1,rfl,rfl,_,rfl,sp,_,rfl,rM.k (k:=.inr "hands") hS.st zb,?_⟩⟩;rw [zF];have v_:kj K (upd H sp (.dK ({ S with n:=S.n - 1 }:SD).kv)) sp { S with n:=S.n - 1 }:=⟨aB,(aG hS.ne.symm).trans hS.dz,hS.tl,hS.wl,λi t l a b=>hS.di cF.x (hS.tup i t l a b),hS.ne⟩
   exact k _ cF.x v_
  | take num =>
   have hi:=Nf RH;obtain ⟨t0,yo⟩:∃ t0,S.ts[S.nums.idxOf num]?=some t0:=⟨_,Qc (by rw [hS.tl]; exact (Qb.mp hi).1)⟩
   have va:cP (fm S.nums S.ts) (.inl num)=some (.ref t0):=iU lg hi yo;have da:pU (fm S.nums S.ts) (.inl num)=fm (S.nums.eraseIdx (S.nums.idxOf num)) (S.ts.eraseIdx (S.nums.idxOf num)):=qO lg hS.tl hi;refine ⟨_,rfl,dp,_,0,_,rfl,rfl,hE,rfl,rfl,_,rfl,cS (xU Y2) ⟨_,rfl,dp,_,0,_,rfl,rfl,hE,rfl,rfl,_,rfl,cS (xU Y0) ?_⟩⟩;refine ⟨_,rfl,dp,_,0,_,rfl,rfl,hE,rfl,rfl,_,rfl,cS (xU YZ) ⟨_,rfl,sp,_,rfl,hS.ic (k:=.inr "able") (gO S),S.ap,rfl,.inl ⟨_,.inl hS.dz⟩,_,rfl,dp,_,1,_,rfl,rfl,hE,rfl,_,.inl num,_,hS.dz,rfl,va,?_⟩⟩;rw [da];exact k _ cF.a ⟨(aG hS.ne).trans hS.st,aB,by show (S.ts.eraseIdx _).length=(S.nums.eraseIdx _).length; rw [Jn,Jn,hS.tl],by show (S.ws.eraseIdx _).length=(S.nums.eraseIdx _).length; rw [Jn,Jn,hS.wl],λi t l a b=>hS.di cF.a (hS.tup _ t l (jW a) (jW b)),hS.ne⟩
  | put t l =>
   obtain ⟨K8,H?⟩:=hE;obtain ⟨hw,oi⟩:=RH;have j1:S.fw∉S.nums:=λz=>by have:=hM.kh _ z; omega
   have e5:fO (fm S.nums S.ts) (.inl S.fw) (.ref t)=fm (S.nums++[S.fw]) (S.ts++[t]):=by
    rw [XO hS.tl];exact pW _ (jX j1)
   refine ⟨_,rfl,dp,_,0,_,rfl,rfl,K8,rfl,rfl,_,rfl,cS (xU Y4) ⟨_,rfl,dp,_,0,_,rfl,rfl,K8,rfl,rfl,_,rfl,dM tK ?_⟩⟩;refine ⟨_,rfl,dp,_,1,_,rfl,rfl,K8,rfl,_,rfl,sp,_,rfl,hS.ic (k:=.inr "able") (gO S),_,rfl,sp,_,rfl,hS.ic (k:=.inr "due") (mI S),S.ap,_,rfl,rM.k (k:=.inl S.fw) hS.dz (wm _ (by rw [mH hS.tl]; omega)),?_⟩;rw [e5];have CJ:upd H S.ap (.dK (fm (S.nums++[S.fw]) (S.ts++[t]))) sp=some (.dK S.kv):=(aG hS.ne).trans hS.st;have g1:nI (upd H S.ap (.dK (fm (S.nums++[S.fw]) (S.ts++[t])))) sp (kV (.inr "due")) (some (.int S.fw)):=.inl ⟨S.kv,_,.inl CJ,rfl,(mI S).symm⟩;refine ⟨_,rfl,sp,_,rfl,g1,S.fw,1,rfl,rfl,_,rfl,sp,_,rfl,rM.k (k:=.inr "due") CJ zb,?_⟩;rw [aIA];have b2:cF sp S.ap S.ap H (upd (upd H S.ap (.dK (fm (S.nums++[S.fw]) (S.ts++[t])))) sp (.dK ({ S with fw:=S.fw+1 }:SD).kv)):=cF.a.trans cF.x;have v_:kj K (upd (upd H S.ap (.dK (fm (S.nums++[S.fw]) (S.ts++[t])))) sp (.dK ({ S with fw:=S.fw+1 }:SD).kv)) sp (S.step (.put t l)):=by
    refine ⟨aB,(aG hS.ne.symm).trans aB,?_,?_,λi t' l' q1 q2=>hS.di b2 ?_,hS.ne⟩
    ·show (S.ts++[t]).length=(S.nums++[S.fw]).length;rw [Qg,Qg,hS.tl]; rfl
    ·show (S.ws++[l]).length=(S.nums++[S.fw]).length;rw [Qg,Qg,hS.wl]; rfl
    ·have ym:(S.ts++[t])[i]?=some t':=q1;have zf:(S.ws++[l])[i]?=some l':=q2;by_cases c:i < S.ts.length
     ·rw [Qq c] at ym;rw [Qq (by rw [hS.wl,<- hS.tl]; exact c)] at zf;exact hS.tup i t' l' ym zf
     ·have ci:i=S.ts.length:=by grind
      have cw:S.ts.length=S.ws.length:=by rw [hS.tl,hS.wl]
      rw [ci,Qx (Qe _),Xv] at ym;rw [ci,cw,Qx (Qe _),Xv] at zf;have e1:t=t':=by simpa using ym
      have e2:l=l':=by simpa using zf
      rw [<- e1,<- e2]; exact H?
   refine ⟨_,rfl,sp,_,rfl,.inl ⟨_,.inr "due",.inl v_.st,rfl,(mI _).symm⟩,S.fw+1,1,rfl,rfl,?_⟩;have ee:S.fw+1 - 1=S.fw:=by omega
   show Q (.int (S.fw+1 - 1)) _;rw [ee]; exact (k _ b2 v_)
theorem kj.but {sp:ae} (h:kj K H sp S) (e:H t=some (.lst xs)) (b:fg t H H'):kj K H' sp S :=
 ⟨b _ _ (λz=>by have:=h.st; rw [z,e] at this; cases this) h.st,b _ _ (λz=>by have:=h.dz; rw [z,e] at this; cases this) h.dz,h.tl,h.wl,λi t' l q1 q2=>b.di e (h.tup i t' l q1 q2),h.ne⟩
theorem ip.but {x:ae} (h:ip K H C x D) (e:H t=some (.lst xs)) (b:fg t H H'):ip K H' C x D :=
 ⟨b _ _ (λz=>by have:=h.ins; rw [z,e] at this; cases this) h.ins,b _ _ (λz=>by have:=h.dz; rw [z,e] at this; cases this) h.dz,b _ _ (λz=>by have:=h.hand; rw [z,e] at this; cases this) h.hand,h.tl,h.wl,h.hl,λi t' l q1 q2=>b.di e (h.tup i t' l q1 q2),h.ne⟩
theorem ik.lst {a:ae} {N:Nat} (h:ik K H t a ns N):∃ xs,H t=some (.lst xs):=by
 obtain ⟨⟨p,q,_,_,e⟩,_⟩:=h;exact ⟨_,e⟩
def xg (c:TT) (σ:St) (H:Hp) (b:Bool):Prop:=∀ Q':Bool->Hp->Prop,(∀ H',aD H H'->Q' b H')->c σ H Q'
theorem Ho {t u:TT} {σ:St} {b c:Bool} (ht:xg t σ H b) (hu:b=true->∀ H1,aD H H1->xg u σ H1 c):xg (SN t u) σ H (b && c):=λQ' q=>ht _ λH1 s1=>by
 cases b with
 | true=>exact iE (hu rfl H1 s1 _ λH2 s2=>q H2 (s1.trans s2))
 | false=>exact iQ (q H1 s1)
theorem G4 {t u:TT} {σ:St} {b c:Bool} (ht:xg t σ H b) (hu:b=false->∀ H1,aD H H1->xg u σ H1 c):xg (OF t u) σ H (b || c):=λQ' q=>ht _ λH1 s1=>by
 cases b with
 | false=>exact iQ (hu rfl H1 s1 _ λH2 s2=>q H2 (s1.trans s2))
 | true=>exact iE (q H1 s1)
theorem aLu {t:TT} {σ:St} {b:Bool} (ht:xg t σ H b):xg (LG t) σ H (!b):=λQ' q=>ht _ q
theorem sZ {c:TT} {t u:TS} {D:Ends} {σ:St} (b:Bool) (hc:xg c σ H b) (h1:b=true->∀ H',aD H H'->t D σ H') (h2:b=false->∀ H',aD H H'->u D σ H'):BQ c t u D σ H:=hc _ λH' s=>by simp_all
theorem dI {i j:Int}:decide (V.int i=V.int j)=decide (i=j):=by simp
theorem S0 {σ:St} {sp:ae} {m:Int} (hS:kj K H sp S) (hM:u3 S) (h1:σ[1]?=some (some (.ref sp))) (hb:h_ 1 fr σ = [none,some (.int m),some (.ref sp)]) :
  xg (tB (CG (λxs H Q=>∃ (p:ae) (bs:List Bool),xs = [V.ref p]/\dm K H p (bs.map V.bl)/\Q (V.bl (bs.any id)) H) (gJ (UE 1 fr (HB (kW 1) (tC (.str "able"))) (gI 0) rJ (ud (DL K false) (kW 1) (HB (HB (kW 2) (tC (.str "able"))) (kW 0)))) lU))) σ H (S.ws.any λl=>decide (m∈l)):=by
 have lg:S.nums.Nodup:=Ju.mpr (hM.up.imp λh=>Yj h);have Ge:S.nums.length<=12:=by rw [<- hS.wl]; exact (aV hM.bk).2.2.1
 intro Q' q;refine ⟨_,h1,sp,_,rfl,hS.ic (k:=.inr "able") (gO S),S.ap,_,rfl,hS.dz,λo=>?_⟩;have z2:upd H S.ap (.f_ o (.dK (fm S.nums S.ts))) S.ap=some (.f_ o (.dK (fm S.nums S.ts))):=aB;have bf:fg S.ap H (upd H S.ap (.f_ o (.dK (fm S.nums S.ts)))):=fg.at;have w_:(fm S.nums S.ts).length=S.nums.length:=mH hS.tl;refine yN (a:=S.ap) (o:=o) (kvs:=fm S.nums S.ts) (λσ=>∃ u,σ = [u,some (.int m),some (.ref sp)]) (λi ys H4=>ys=((S.ws.take i).map λl=>decide (m∈l)).map V.bl/\H4=upd H S.ap (.f_ o (.dK (fm S.nums S.ts)))) (cK 'a') ⟨none,hb⟩ ⟨rfl,rfl⟩ (λi ys H4 h=>by rw [h.1,Qa,Qa,Qs]; omega) (λi ys H4 h=>by rw [h.2]; exact z2) ?_ ?_
 ·rintro i ys σ kv H4 uo ⟨u,rfl⟩ ⟨rfl,rfl⟩ hz;obtain ⟨num,t',ja,Gh,rfl⟩:∃ num t',S.nums[i]?=some num/\S.ts[i]?=some t'/\kv=(.inl num,.ref t'):=by
   unfold fm at uo;rw [Qh] at uo;obtain ⟨p,hp,e⟩:=Qo.mp uo;rw [Jh] at hp;exact ⟨p.1,p.2,hp.1,hp.2,e.symm⟩
  have hi:i < S.nums.length:=(Qb.mp ja).1;obtain ⟨l,hl⟩:∃ l,S.ws[i]?=some l:=⟨_,Qc (by rw [hS.wl]; exact hi)⟩
  have DX:dt K (upd H S.ap (.f_ o (.dK (fm S.nums S.ts)))) t' (l.map V.int):=bf.ya hS.dz (hS.tup i t' l Gh hl);refine bX ⟨_,rfl,_,rfl,sp,_,rfl,.inl ⟨S.kv,.inr "able",.inl (bf _ _ hS.ne hS.st),rfl,(gO S).symm⟩,_,rfl,S.ap,.ref t',rfl,.inl ⟨_,.inl num,.inr ⟨o,z2⟩,rfl,(iU lg ja Gh).symm⟩,t',_,rfl,.inr DX,rfl,iS _,hz,⟨_,rfl⟩,?_,rfl⟩;obtain ⟨C4,X?⟩:=Qb.mp hl;rw [Yc C4,X?,Qm,Qm];rw [qJ]; rfl
 ·rintro ys H4 ⟨rfl,rfl⟩ pc mq;have As:pc≠S.ap:=λz=>by rw [z,z2] at mq; cases mq
  refine ⟨pc,(S.ws.take (fm S.nums S.ts).length).map λl=>decide (m∈l),rfl,dm.of (by rw [aG As,aB]),_,rfl,?_⟩;rw [w_,<- hS.wl,Qu];have e:((S.ws.map λl=>decide (m∈l)).any id)=S.ws.any λl=>decide (m∈l):=by simp
  rw [e];refine q _ λb' u ij=>?_;by_cases c:b'=S.ap
  ·rw [c] at ij ⊢;rw [aB,<- hS.dz]; exact ij
  ·have n2:b'≠pc:=λz=>by rw [aG As] at mq; rw [z,mq] at ij; cases ij
   rw [aG c,aG n2,aG c]; exact ij
def UH (K:Rb):Sp:=λvs H Q _=>∃ (t a:ae) (ns:LIn) (N:Nat) (sp:ae) (S:SD),vs = [.ref t,.ref sp]/\ik K H t a ns N/\N<=700000/\kj K H sp S/\u3 S /\
 ∀ dp e H',fg t H H'->ik K H' t a ns (N+20)->sY K H' dp e->qP S e->Q (.ref dp) H'
theorem HX:b_ ["jar", "state", "kind", "last", "numbers"] ["jar", "state"] (aF EW):=.of
set_option maxHeartbeats 1000000 in
theorem aIF (G:Fn K mg "_law_e_deed" EW ["jar", "state"] f fd) (B:Bl mg) (ny:FF P w K mg base d_ 2 "_law_e_scoop" nR ["jar", "many"] (oM K)) (Fg:FF P w K mg base d_ 3 "_law_e_able" vZ ["jar", "hands"] (HI K)):c_ P w K mg base d_ 4 f fd ["jar", "state"] (UH K):=by
 refine G.fn.oK HX λfe A outer s H vs Q E hr h=>?_
 ·obtain ⟨t,a,ns,N,sp,S,rfl,hJ,hN,hS,hM,k⟩:=h;have r3:dj 3 _:=hr;have r2:dj 2 _:=hr.mono 'c';have hu:=dS hr;refine ⟨_,aE (aU (i:=2) HX.nd rfl eh (bF ny r2 rfl (aA (pv 0) (aA aH aC))))
   (aE (aU (i:=3) HX.nd rfl (Or.inr rfl) (aS jZ (bL hu (pv 1) aJ gb) aH))
   (aE (bQ (PW.pt (mU (aO cY (pv 2) aH ft) (lQ (aO xZ (bL hu (pv 1) aJ gb) aH ft)))) (aI (aP (cH (aA aJ aC)))) aW)
   (aE (bQ (PW.pt (mU (aO cY (pv 2) aH ft) (mU (aO oV (pv 3) aH ft) (lQ (cV (cD (aK (pT rfl) rfl B.any Ht (aA (vG (own:=["number"]) (fr:=[3,1]) (ff:=["last", "state"]) (aX (aF EW) ["jar", "state", "kind", "last", "numbers"] rfl rfl 'd') rfl (bL hu (pv 1) aJ gb)
     (λ_ _ _ _=>(aM (i:=0) (show (["number", "last", "state"]:List aj).Nodup by decide +kernel) rfl eh)) (λ_ _ _ _=>cQ)
     (λ_ _ _ _=>(cL (iT (K:=K) rfl) (pv 1) (bL hu (bL hu (pv 2) aJ gb) (pv 0) su) (by rfl)))) aC)))))))) (aI (aP (cH (aA aJ aC)))) aW)
   (aE (bQ (PW.pt (fP (PW.pt (mU (aO xZ (pv 2) aH ft) (lQ (aO oV (aK lF rfl B.len cO (aA (bL hu (pv 1) aJ gb) aC)) aH ft)))) (eA (aO cY (aK lF rfl B.len cO (aA (bL hu (pv 1) aJ gb) aC)) aH ft))))
    (aE (aU (i:=4) HX.nd rfl eh (aK (nJ rfl) rfl B.sorted XX (aA (bL hu (pv 1) aJ gb) aC)))
    (aI (aP (cH (aA aJ (aA (bM bU (pv 4) (bF ny r2 rfl (aA (pv 0) (aA (aK aR rfl B.len cO (aA (pv 4) aC)) aC))) (λ_ _=>rfl)) aC)))))) aW)
   (aI (aP (cH (aA aJ (aA (bF Fg r3 rfl (aA (pv 0) (aA (bL hu (pv 1) aJ gb) aC))) aC))))))))),?_⟩
  dsimp only [cB,Cx.gf];obtain ⟨ju,ie,gz,j5⟩:=aV hM.bk;have Ge:S.nums.length<=12:=by rw [<- hS.wl]; exact gz
  have lg:S.nums.Nodup:=Ju.mpr (hM.up.imp λh=>Yj h);obtain ⟨Ox,e0⟩:=hJ.lst;refine ⟨_,rfl,t,a,ns,N,12,rfl,hJ,by omega,by decide,by decide,λkd H1 k0 k1 b1 J1=>?_⟩;have Di:=hS.but e0 b1;refine ⟨_,rfl,sp,_,rfl,Di.ic (k:=.inr "hands") (gE S),S.n,1,rfl,rfl,?_⟩;dsimp only [gI];refine sZ (decide (V.int kd=V.int 0) && decide (S.n < 6)) (Ho (λQ' q=>⟨_,rfl,rfl,_,rfl,q _ (aD.refl _)⟩) (λ_ H2 s2 Q' q=>⟨_,rfl,sp,_,rfl,(Di.same s2).ic (k:=.inr "hands") (gE S),S.n,6,rfl,rfl,_,rfl,q _ (aD.refl _)⟩)) (λhb H2 s2=>?_) (λhb H2 s2=>?_)
  ·rw [Qt] at hb;have h6:=of_decide_eq_true hb.2;exact ⟨wm 1 'c' |> Jx,λp hp=>k p .i5 _ ((b1.trans (fg.of s2)).trans (fg.of (aD.new hp))) (((J1.same s2).same (aD.new hp)).more 'a') (dt.of aB) (show S.n≠6 by omega)⟩
  have zr:=Di.same s2;have J2:=J1.same s2;have b2:=b1.trans (fg.of s2);dsimp only [oU];refine sZ (decide (V.int kd=V.int 1) && (decide (0 < S.n - 1) && !(S.ws.any λl=>decide (S.n - 1∈l)))) (Ho (λQ' q=>⟨_,rfl,rfl,_,rfl,q _ (aD.refl _)⟩) (λ_ H3 s3=>Ho (λQ' q=>⟨_,rfl,S.n - 1,0,rfl,rfl,_,rfl,q _ (aD.refl _)⟩) (λ_ H4 s4=>aLu ?Ct))) (λhb H3 s3=>?yes) (λhb H3 s3=>?no)
  case yes =>
   rw [Qt,Qt] at hb;have h1:=of_decide_eq_true hb.2.1;refine ⟨wm 1 'c' |> Jx,λp hp=>k p .go _ ((b2.trans (fg.of s3)).trans (fg.of (aD.new hp))) (((J2.same s3).same (aD.new hp)).more 'a') (dt.of aB) ⟨by omega,λl hl z=>?_⟩⟩;have:=hb.2.2;rw [Zs,List.any_eq_false] at this;exact this l hl (decide_eq_true z)
  case Ct =>
   exact S0 ((zr.same s3).same s4) hM rfl rfl
  have Dh:=zr.same s3;have J3:=J2.same s3;have b3:=b2.trans (fg.of s3);dsimp only [oU];have w_:(fm S.nums S.ts).length=S.nums.length:=mH hS.tl;refine sZ (decide (kd < 5) && decide (0 < ((fm S.nums S.ts).length:Int)) || decide (V.int ((fm S.nums S.ts).length:Int)=V.int 12)) (G4 (Ho (λQ' q=>⟨_,rfl,kd,5,rfl,rfl,_,rfl,q _ (aD.refl _)⟩) (λ_ H4 s4 Q' q=>⟨_,rfl,sp,_,rfl,(Dh.same s4).ic (k:=.inr "able") (gO S),S.ap,_,rfl,(Dh.same s4).dz,_,0,rfl,rfl,_,rfl,q _ (aD.refl _)⟩)) (λ_ H4 s4 Q' q=>⟨_,rfl,sp,_,rfl,(Dh.same s4).ic (k:=.inr "able") (gO S),S.ap,_,rfl,(Dh.same s4).dz,rfl,_,rfl,q _ (aD.refl _)⟩)) (λhb H4 s4=>?take) (λhb H4 s4=>?put)
  case take =>
   have pos:0 < S.nums.length:=by
    rw [w_] at hb;rcases Wq .. |>.mp hb with z | z
    ·simp_all
    ·grind
   have QO:=Dh.same s4;refine ⟨_,rfl,sp,_,rfl,QO.ic (k:=.inr "able") (gO S),S.ap,_,S.nums,rfl,.inl QO.dz,qN hS.tl,by omega,λp ms hp o9 _=>?_⟩;have s5:=aD.new (o:=.lst (ms.map V.int)) hp;have J5:=(J3.same s4).same s5;have ep:upd H4 p (.lst (ms.map V.int)) p=some (.lst (ms.map V.int)):=aB;have b5:=(b3.trans (fg.of s4)).trans (fg.of s5);have ZZ:p≠t:=(J3.same s4).ne hp;generalize upd H4 p (.lst (ms.map V.int))=H5 at s5 J5 ep b5 ⊢;have ml:ms.length=S.nums.length:=o9.length_eq;refine ⟨_,rfl,_,rfl,_,rfl,p,_,rfl,.inl (dm.of ep),t,a,ns,N+1,_,rfl,J5,by omega,by rw [Qa]; omega,?_,λr H6 r0 r1 b6 J6=>?_⟩
   ·grind
   rw [Qa,ml] at r1;obtain ⟨num,ja⟩:∃ num,ms[r.toNat]?=some num:=⟨_,Qc 'a'⟩
   refine ⟨p,_,r,.int num,rfl,rfl,dm.of (b6 _ _ ZZ ep),?_,wm 2 'c' |> Jx,λdp m_=>?_⟩
   ·grind [fG,Qh]
   ·exact k dp (.take num) _ ((b5.trans b6).trans (fg.of (aD.new m_))) ((J6.same (aD.new m_)).more 'a') (dt.of aB) (o9.mem_iff.mp (Qd ja))
  case put =>
   have kh:S.nums.length < 12:=by grind
   have J4:=J3.same s4;refine ⟨_,rfl,_,rfl,sp,_,rfl,(Dh.same s4).ic (k:=.inr "hands") (gE S),t,a,ns,N+1,S.n,rfl,J4,by omega,ju,ie,λl p H5 hw b5 J5 hp=>⟨wm 2 'c' |> Jx,λdp m_=>?_⟩⟩;exact k dp (.put p l) _ (((b3.trans (fg.of s4)).trans b5).trans (fg.of (aD.new m_))) ((J5.same (aD.new m_)).more 'a') ⟨dt.of aB,(aD.new m_).di hp⟩ ⟨hw,kh⟩
end Ab
namespace L2
open PySem PySem.Spec PyProof.Rows
section
variable {k:Nat} {Am:Sp}
theorem c_.yw (F:c_ P w K mg base d_ k f fd ps sp):c_ P w K mg base (gk P w) k f fd ps sp :=
 ⟨F.len,λA outer s H args us vs Q E hr he hb hv hs=>Ux (F.run A outer s H args us vs Q E hr he hb hv hs) λr s' q=>by
  cases r with
  | error e=>exact False.elim q
  | ok fl=>cases fl <;> exact q⟩
def zx (a b:Sp):Sp:=λvs H Q E=>a vs H Q E∨b vs H Q E
theorem c_.or (F:c_ P w K mg base CX k f fd ps sp) (F':c_ P w K mg base CX k f fd ps Am):c_ P w K mg base CX k f fd ps (zx sp Am) :=
 ⟨λvs H Q E h=>h.elim (F.len vs H Q E) (F'.len vs H Q E),λA outer s H args us vs Q E hr he hb hv hs=>hs.elim (F.run A outer s H args us vs Q E hr he hb hv) (F'.run A outer s H args us vs Q E hr he hb hv)⟩
end
end L2
namespace Ab
open PySem L2
noncomputable def O8:List aj:=["NoBook", "NoCosts", "NoDeal", "NoHand", "NoRooms", "NoRow", "NoText", "NoWay", "NoWeights", "NoWork", "TooMany"]
structure Cl (K:Rb) (mg:aj->Option aa) (cE:ae) (c:Nat->ae):Prop where
 mc:∀ (i:Nat) (n:aj),O8[i]?=some n->mg n=some (.ref (c i))
 ec:∀ i,i < 11->∀ h:ag,K.In h->mz h (c i) (.ref cE::kq)
 inj:∀ i j,i < 11->j < 11->c i=c j->i=j
 ne:∀ i,i < 11->c i≠cE
 mE:mg "DealError" = some (.ref cE)
 eE:∀ h:ag,K.In h->mz h cE kq
section
variable {c:Nat->ae}
theorem Cl.has (Z:Cl K mg cE c) (hi:i < 11) (hj:j < 11):(aa.ref (c j)::.ref cE::kq).contains (.ref (c i))=decide (j=i):=by
 by_cases e:j=i
 ·subst e; simp
 ·have h1:(aa.ref (c i)==aa.ref (c j))=false:=by
   rw [beq_eq_false_iff_ne];intro z;injection z with z;exact e (Z.inj j i hj hi z.symm)
  have h2:(aa.ref (c i)==aa.ref cE)=false:=by
   rw [beq_eq_false_iff_ne];intro z;injection z with z;exact Z.ne i hi z
  rw [Yt,Yt,h1,h2,decide_eq_false e];rfl
theorem Cl.up (Z:Cl K mg cE c):(aa.ref (c j)::.ref cE::kq).contains (.ref cE)=true:=by simp
def aMr (c:Nat->ae) (i:Nat):TE:=λσ H Q=>∃ (a:ae) (j:Nat),σ[0]?=some (some (.ref a))/\H a=some (A6 (c j) a)/\j < 11/\Q (.bl (decide (j=i))) H
theorem kJ {n x:aj} (Z:Cl K mg cE c) (B:Bl mg) (hK:X.K=K) (AA:X.mg=mg) (hN:O8[i]?=some n) (hg:Gl X "isinstance") (r?:Gl X n) (h0:X.N[0]?=some x) (hx:X.env.scope.names.lookup x=some .local) (hd:autoParam ((x==("__debug__" : aj))=false) L2.iy) (ku:autoParam ((x==("__classdict__" : aj))=false) L2.iy) (w?:autoParam ((n==("__debug__" : aj))=false) L2.iy) (he:autoParam (ao [.Name x p1,.Name n p2] X.env=(false,eval (.Name x p1) X.env)::ao [.Name n p2] X.env) L2.f') (ke:autoParam ((cj pos (ao [.Name n p2] X.env)).any (·.1)=false) L2.f') :
  PE X (.Call (.Name "isinstance" p) [.Name x p1,.Name n p2] [] pos) (aMr c i):=by
 have hi:i < 11:=(Qb.mp hN).1;have xb:∀ h:ag,K.In h->∃ dd cd sl,h.get? (c i)=some { cls:=.type "type",dict:=dd,data:=.cls cd,slots:=sl }:=λh AG=>by
  obtain ⟨N,nm,q,bs,hdct,sn,sub,ab,col,dd,k0,k1,k2,k3,k5,mN,hC,_⟩:=Z.ec i hi h AG;exact ⟨_,_,_,hC⟩
 have J:PE X (.Call (.Name "isinstance" p) [.Name x p1,.Name n p2] [] pos) _:=aK (aAf (X:=X) (K:=K) (C':=c i) hK xb) hg (by rw [AA]; exact B.isinstance) nL (aA (pv 0 h0 (.inl hx) hd ku) (aA (iW (v:=.ref (c i)) r? (by rw [AA]; exact Z.mc i n hN) rfl w?) aC)) 'c' 'c' he ke;intro a_ s σ H Q I h;obtain ⟨a,j,e0,hH,hj,q⟩:=h;refine J a_ s σ H Q I ⟨_,e0,a,c j,_,rfl,hH,Z.ec j hj,?_⟩;rw [Z.has hi hj];exact q
noncomputable def Dt (j:Nat):List Bool:=[decide (j=0),decide (j=1),decide (j=2),decide (j=3),decide (j=4),decide (j=5),decide (j=6),decide (j=7),decide (j=8),decide (j=9),decide (j=10)]
theorem zb (x y z:V) : [x,y,z].length<=af:=by simp [Rf]
theorem ZH (x y z u:V) : [x,y,z,u].length<=af:=by simp [Rf]
theorem aMs:az "ValueError" = some (.type "ValueError"):=by rfl
noncomputable def words:List aj:=["book", "costs", "deal", "hand", "rooms", "row", "text", "way", "weights", "work", "many"]
theorem aGP:∀ j,j < 11->(Dt j).count true=1:=by decide
theorem aLv:∀ j,j < 11->(Dt j)[j]?=some true:=by decide
theorem aLw:∀ j,j < 11->∀ m,m < j->(Dt j)[m]?≠some true:=by decide
def UG (c:Nat->ae):Sp:=λvs H Q _=>∃ (a:ae) (j:Nat) (t:aj),vs = [.ref a]/\H a=some (A6 (c j) a)/\j < 11/\words[j]?=some t/\∀ H',aD H H'->Q (.str t) H'
theorem rX:b_ ["caught", "names", "kinds"] ["caught"] (aF Hy):=.of
set_option maxHeartbeats 10000000 in
theorem aIG (G:Fn K mg "_law_e_kind" Hy ["caught"] f fd) (B:Bl mg) (Z:Cl K mg cE c):c_ P w K mg base d_ 1 f fd ["caught"] (UG c):=by
 refine G.fn.oK rX λfe A outer s H vs Q E hr h=>?_
 ·obtain ⟨a,j,t,rfl,hH,hj,ht,k⟩:=h;refine i6.ex (aL (bV (i:=1) rX.nd rfl eh (kR (aY bZ (aY bZ (aY bZ (aY bZ (aY bZ (aY bZ (aY bZ (aY bZ (aY bZ (aY bZ (aY bZ gW bE) bE) bE) bE) bE) bE) bE) bE) bE) bE) bE)))
   (aL ⟨aU (i:=2) rX.nd rfl eh (eG (aA (kJ (i:=0) Z B rfl rfl rfl rfl rfl rfl rfl) (aA (kJ (i:=1) Z B rfl rfl rfl rfl rfl rfl rfl) (aA (kJ (i:=2) Z B rfl rfl rfl rfl rfl rfl rfl) aC))))⟩
   (aL ⟨aU (i:=2) rX.nd rfl eh (aS fE (pv 2) (eG (aA (kJ (i:=3) Z B rfl rfl rfl rfl rfl rfl rfl) (aA (kJ (i:=4) Z B rfl rfl rfl rfl rfl rfl rfl) (aA (kJ (i:=5) Z B rfl rfl rfl rfl rfl rfl rfl) aC)))))⟩
   (aL ⟨aU (i:=2) rX.nd rfl eh (aS fE (pv 2) (eG (aA (kJ (i:=6) Z B rfl rfl rfl rfl rfl rfl rfl) (aA (kJ (i:=7) Z B rfl rfl rfl rfl rfl rfl rfl) (aA (kJ (i:=8) Z B rfl rfl rfl rfl rfl rfl rfl) aC)))))⟩
   (aL ⟨aU (i:=2) rX.nd rfl eh (aS fE (pv 2) (eG (aA (kJ (i:=9) Z B rfl rfl rfl rfl rfl rfl rfl) (aA (kJ (i:=10) Z B rfl rfl rfl rfl rfl rfl rfl) aC))))⟩
   (aL ⟨bQ (PW.pt (fP (aO iB (kG (K:=K) rfl Rk Iv PySem.F.type_list_count (aCS (K:=K) rfl) (pv 2) (aA jY aC)) aH ft)
    (eA (cV (cD (aK (aBq (K:=K) rfl) rfl B.isinstance nL (aA (pv 0) (aA (iX (v:=.ty "ValueError") rfl B.ve aMs rfl) aC)))))))) (aI (aP aJ)) aW⟩
   (bI ⟨aP (bM bU (pv 1) (kG (K:=K) rfl Rk Uk Iy (aCT (K:=K) rfl) (pv 2) (aA jY aC)) (λ_ _=>rfl))⟩))))))) ?_
  dsimp only [cB,Cx.gf];refine ⟨by rw [Rf]; decide,λp0 Kr=>?_⟩;have s0:=aD.new (o:=.lst (words.map V.str)) Kr;have e0:upd H p0 (.lst (words.map V.str)) p0=some (.lst (words.map V.str)):=aB;have h0:=s0 _ _ hH;refine ⟨a,j,rfl,h0,hj,a,j,rfl,h0,hj,a,j,rfl,h0,hj,zb _ _ _,λp1 DZ=>?_⟩;have h1:=λo=>(aD.new (o:=o) DZ) _ _ h0;refine ⟨_,rfl,a,j,rfl,h1 _,hj,a,j,rfl,h1 _,hj,a,j,rfl,h1 _,hj,zb _ _ _,λp2 um=>⟨_,_,_,_,rfl,rfl,(aD.new um) _ _ aB,aB,by rw [Rf]; simp,λp3 Bv=>?_⟩⟩;have s3:=λo=>(aD.new DZ).trans ((aD.new um).trans (aD.new (o:=o) Bv));have h3:=λo=>s3 o _ _ h0;refine ⟨_,rfl,a,j,rfl,h3 _,hj,a,j,rfl,h3 _,hj,a,j,rfl,h3 _,hj,zb _ _ _,λp4 PH=>⟨_,_,_,_,rfl,rfl,(aD.new PH) _ _ aB,aB,by rw [Rf]; simp,λp5 Gp=>?_⟩⟩;have s5:=λo=>(s3 _).trans ((aD.new PH).trans (aD.new (o:=o) Gp));have h5:=λo=>s5 o _ _ h0;refine ⟨_,rfl,a,j,rfl,h5 _,hj,a,j,rfl,h5 _,hj,om _ _,λp6 PD=>⟨_,_,_,_,rfl,rfl,(aD.new PD) _ _ aB,aB,by rw [Rf]; simp,λp7 h!=>?_⟩⟩;have s7:=λo=>(s5 _).trans ((aD.new PD).trans (aD.new (o:=o) h!));have h7:=λo=>s7 o _ _ h0;have w7:=λo=>s7 o _ _ e0;have ec:((Dt j).count true:Int)=1:=by simp_all [aGP]
  refine ⟨_,rfl,.inl ⟨rfl,_,dm.of aB⟩,p7,Dt j,true,rfl,rfl,dm.of aB,rfl,_,rfl,?_⟩;rw [ec];refine iQ ⟨_,rfl,a,c j,_,rfl,h7 _,Z.ec j hj,_,rfl,?_⟩;refine iQ ⟨_,rfl,_,rfl,.inl ⟨rfl,_,dm.of aB⟩,p7,Dt j,true,j,rfl,rfl,dm.of aB,aLv j hj,aLw j hj,p0,words.map V.str,j,.str t,rfl,rfl,dm.of (w7 _),fG ?_,?_⟩
  ·simp_all
  ·exact k _ (s0.trans (s7 _))
def Nd (K:Rb) (c:Nat->ae):Sp:=λvs H _ E=>∃ (x:ae) (v:V) (d:au),vs = [.ref x,v]/\Den K H d v/\eN d=false/\∀ H',aD H H'->E (.ref (c 0)) none H'
theorem aGR (G:Mt K C "__init__" yS ["self", "hands"] f fd) (Z:Cl K mg cE c) (GH:FF P w K mg base d_ 2 "are_hands" pI ["thing"] (tV K)):c_ P w K mg base (gk P w) 3 f fd ["self", "hands"] (Nd K c):=by
 refine G.fn.vm UI λfe A outer s H vs Q E hr h=>?_
 ·obtain ⟨x,v,d,rfl,hd,hb,k⟩:=h;have r2:dj 2 _:=hr;refine ⟨_,aE (bQ (cV (cD (bF GH r2 rfl (aA (pv 1) aC)))) (aI (jC (Z.ec 0 'c') rfl (Z.mc 0 _ rfl) rfl (λ_ _ _ _ _ _ _ I m q=>kQ I m q))) aW) cW,_,rfl,v,d,rfl,hd,_,rfl,dM (by rw [hb]; rfl) ?_⟩;dsimp only [cB,Cx.gf];exact k H (aD.refl _)
def Nc (C:ae) (c:Nat->ae):Sp:=λvs H _ E=>∃ (x:ae) (D:DD),vs = [.ref x]/\H x=some (.ins C D.dx D.ib)/\D.n=6/\∀ H',aD H H'->E (.ref (c 10)) none H'
theorem aGS (G:Mt K C "come" yU ["self"] f fd) (T:Dc K C) (B:Bl mg) (Z:Cl K mg cE c):c_ P w K mg base (gk P w) 2 f fd ["self"] (Nc C c):=by
 obtain ⟨JA,Gu⟩:=B.j_;refine G.fn.vm VA λfe A outer s H vs Q E hr h=>?_
 ·obtain ⟨x,D,rfl,hx,h6,k⟩:=h;refine ⟨_,aE (bQ (aO cY (cN (pv 0) rfl) (iW (v:=.int 6) rfl Gu ⟨JA,rfl⟩) ft) (aI (jC (Z.ec 10 'c') rfl (Z.mc 10 _ rfl) rfl (λ_ _ _ _ _ _ _ I m q=>kQ I m q))) aW) cW,_,rfl,x,C,D.dx,_,_,rfl,hx,T.cl,T.n1,rfl,rfl,_,rfl,dM (decide_eq_true (by rw [h6])) ?_⟩;dsimp only [cB,Cx.gf];exact k H (aD.refl _)
def L_ (K:Rb) (C:ae) (c:Nat->ae):Sp:=λvs H _ E=>∃ (x:ae) (D:DD) (v:V) (d:au) (j:Nat),vs = [.ref x,v]/\ip K H C x D/\Den K H d v/\(cA D.n d=false/\j=0∨cA D.n d=true/\D.nums.length=12/\j=10)/\∀ H',aD H H'->E (.ref (c j)) none H'
theorem aIH (G:Mt K C "put" Du ["self", "able"] f fd) (T:Dc K C) (B:Bl mg) (Z:Cl K mg cE c) (Ny:FF P w K mg base d_ 2 "is_work" pJ ["hands", "thing"] (tW K)):c_ P w K mg base (gk P w) 3 f fd ["self", "able"] (L_ K C c):=by
 obtain ⟨DI,Ea⟩:=B.x_;refine G.fn.vm sX λfe A outer s H vs Q E hr h=>?_
 ·obtain ⟨x,D,v,d,j,rfl,hD,hd,hc,k⟩:=h;have r2:dj 2 _:=hr;refine ⟨_,aE (bQ (cV (cD (bF Ny r2 rfl (aA (cN (pv 0) rfl) (aA (pv 1) aC))))) (aI (jC (Z.ec 0 'c') rfl (Z.mc 0 _ rfl) rfl (λ_ _ _ _ _ _ _ I m q=>kQ I m q))) aW)
   (aE (bQ (aO cY (aK lF rfl B.len cO (aA (cN (pv 0) rfl) aC)) (iW (v:=.int 12) rfl Ea ⟨DI,rfl⟩) ft) (aI (jC (Z.ec 10 'c') rfl (Z.mc 10 _ rfl) rfl (λ_ _ _ _ _ _ _ I m q=>kQ I m q))) aW) cW),?_⟩
  dsimp only [cB,Cx.gf];refine ⟨_,rfl,x,C,D.dx,_,_,rfl,hD.ins,T.cl,T.n1,rfl,_,rfl,D.n,v,d,rfl,hd,_,rfl,?_⟩;rcases hc with ⟨hb,rfl⟩ | ⟨hb,oi,rfl⟩
  ·exact dM (by rw [hb]; rfl) (k H (aD.refl _))
  exact cS (by rw [hb]; rfl) ⟨_,rfl,x,C,D.dx,_,_,rfl,hD.ins,T.cl,T.n2,rfl,D.da,_,rfl,hD.dz,rfl,_,rfl,dM (decide_eq_true (by rw [mH hD.tl,oi]; rfl)) (k H (aD.refl _))⟩
def Nb (K:Rb) (C:ae) (c:Nat->ae):Sp:=λvs H _ E=>∃ (x:ae) (D:DD) (v:V) (d:au),vs = [.ref x,v]/\ip K H C x D/\Den K H d v/\(∀ num,d=.int num->num∉D.nums)/\∀ H',aD H H'->E (.ref (c 9)) none H'
theorem aGT (G:Mt K C "take" yT ["self", "number"] f fd) (T:Dc K C) (Z:Cl K mg cE c) (Dy:FF P w K mg base d_ 1 "is_whole" lZ ["thing"] (mB K)):c_ P w K mg base (gk P w) 3 f fd ["self", "number"] (Nb K C c):=by
 refine G.fn.vm pM λfe A outer s H vs Q E hr h=>?_
 ·obtain ⟨x,D,v,d,rfl,hD,hd,jh,k⟩:=h;have r1:dj 1 _:=hr.mono 'c';refine ⟨_,aE (bQ (PW.pt (fP (cV (cD (bF Dy r1 rfl (aA (pv 1) aC)))) (eA (rB (oB (dS hr) (pv 1) (cN (pv 0) rfl)) (by rfl))))) (aI (jC (Z.ec 9 'c') rfl (Z.mc 9 _ rfl) rfl (λ_ _ _ _ _ _ _ I m q=>kQ I m q))) aW) cW,_,rfl,v,d,rfl,hd,_,rfl,?_⟩;dsimp only [cB,Cx.gf];cases hw:gX d with
  | false=>exact dM rfl (dM rfl (k H (aD.refl _)))
  | true =>
   obtain ⟨num,rfl⟩:∃ num,d=.int num:=by cases d <;> first | exact ⟨_,rfl⟩ | (simp [gX] at hw)
   obtain rfl:=cU.mp hd;have va:cP (fm D.nums D.ts) (.inl num)=none:=jX (f:=V.ref) (jh num rfl);exact cS rfl ⟨_,rfl,_,rfl,x,C,D.dx,_,_,rfl,hD.ins,T.cl,T.n2,rfl,D.da,_,rfl,nI.k (k:=.inl num) hD.dz,_,rfl,dM (by rw [va]; rfl) (k H (aD.refl _))⟩
def LQ (K:Rb) (C:ae) (c:Nat->ae):Sp:=λvs H _ E=>∃ (x:ae) (D:DD),vs = [.ref x]/\ip K H C x D/\(D.n=1∨∃ l∈D.ws,D.n - 1∈l)/\D.nums.length<=1000/\∀ H',aD H H'->E (.ref (c 3)) none H'
theorem aKt (G:Mt K C "go" vo ["self"] f fd) (T:Dc K C) (B:Bl mg) (Z:Cl K mg cE c):c_ P w K mg base (gk P w) 2 f fd ["self"] (LQ K C c):=by
 refine G.fn.vm Hr λfe A outer s H vs Q E hr h=>?_
 ·obtain ⟨x,D,rfl,hD,B2,hlen,k⟩:=h;refine ⟨_,aE (aU (i:=1) Hr.nd rfl (Or.inr rfl) (aS jZ (cN (pv 0) rfl) aH))
   (aE (bQ (PW.pt (fP (aO cY (pv 1) aH ft) (eA (cD (aK (pT rfl) rfl B.any Ht (aA (XY (own:=["able"]) (fr:=[1]) (ff:=["last"]) (aX (aF vo) ["self", "last"] rfl rfl 'd') rfl (uS Tj Tx Uh oE (cN (pv 0) rfl))
    (λ_ _ _ _=>(aM (i:=0) (show (["able", "last"]:List aj).Nodup by decide +kernel) rfl eh)) (λ_ _ _ _=>cQ)
    (λ_ _ _ _=>(cL (iT (K:=K) rfl) (pv 1) (pv 0) (by rfl)))) aC)))))) (aI (jC (Z.ec 3 'c') rfl (Z.mc 3 _ rfl) rfl (λ_ _ _ _ _ _ _ I m q=>kQ I m q))) aW)
   cW),?_⟩
  dsimp only [cB,Cx.gf];refine ⟨_,rfl,x,C,D.dx,_,_,rfl,hD.ins,T.cl,T.n1,rfl,_,_,rfl,rfl,?_⟩;refine ⟨_,rfl,rfl,_,rfl,?_⟩;by_cases h1:D.n=1
  ·exact dM (decide_eq_true (by rw [h1]; rfl)) (dM rfl (k H (aD.refl _)))
  refine cS (decide_eq_false λz=>h1 (by grind)) ⟨_,rfl,x,C,D.dx,_,_,rfl,hD.ins,T.cl,T.n2,rfl,.inr (.inr (.inl ⟨rfl,.inl ⟨_,hD.dz⟩⟩)),D.da,_,rfl,rfl,.inl hD.dz,λv hv=>?_⟩;have s1:=aD.new (o:=o5 v D.da) hv;have ev:upd H v (o5 v D.da) v=some (o5 v D.da):=aB;have nv:=hD.same s1;generalize upd H v (o5 v D.da)=H1 at s1 ev nv ⊢;refine ⟨v,D.da,_,rfl,ev,nv.dz,λo=>?_⟩;have z2:upd H1 D.da (.f_ o (.dK (fm D.nums D.ts))) D.da=some (.f_ o (.dK (fm D.nums D.ts))):=aB;have b2:fg D.da H1 (upd H1 D.da (.f_ o (.dK (fm D.nums D.ts)))):=fg.at;have w_:(fm D.nums D.ts).length=D.nums.length:=by unfold fm; rw [Qa,Zh,hD.tl,Yv]
  refine yQ (a:=D.da) (o:=o) (kvs:=fm D.nums D.ts) (λσ=>∃ u,σ = [u,some (.int (D.n - 1))]) (λi zs H2=>zs=((D.ws.take i).map λl=>decide (D.n - 1∈l)).map V.bl/\H2=upd H1 D.da (.f_ o (.dK (fm D.nums D.ts)))) (cK 'a') ⟨none,rfl⟩ ⟨rfl,rfl⟩ (λi zs H2 h=>by rw [h.1,Qa,Qa,Qs]; exact Xf _ _) (λi zs H2 h=>by rw [h.2]; exact z2) ?_ ?_
  ·rintro i zs σ kv H2 uo ⟨u,rfl⟩ ⟨rfl,rfl⟩ hz;obtain ⟨num,t,ja,ht,rfl⟩:∃ num t,D.nums[i]?=some num/\D.ts[i]?=some t/\kv=(.inl num,.ref t):=by
    unfold fm at uo;rw [Qh] at uo;obtain ⟨p,hp,e⟩:=Qo.mp uo;rw [Jh] at hp;exact ⟨p.1,p.2,hp.1,hp.2,e.symm⟩
   have hi:i < D.ts.length:=(Qb.mp ht).1;have hl:=Qc (show i < D.ws.length by rw [hD.wl,<- hD.tl]; exact hi);generalize D.ws[i]'(by rw [hD.wl,<- hD.tl]; exact hi)=l at hl;have B5:dt K (upd H1 D.da (.f_ o (.dK (fm D.nums D.ts)))) t (l.map V.int):=b2.ya nv.dz (nv.tup i t l ht hl);refine bX ⟨_,rfl,_,rfl,t,_,rfl,.inr B5,rfl,iS _,hz,⟨_,rfl⟩,?_,rfl⟩;rw [Jw,hl,Qm,Qm];rw [qJ]; rfl
  ·rintro zs H2 ⟨rfl,rfl⟩ pc mq;have As:pc≠D.da:=λz=>by rw [z,z2] at mq; cases mq
   refine ⟨pc,((D.ws.take (fm D.nums D.ts).length).map λl=>decide (D.n - 1∈l)),rfl,dm.of (by rw [aG As,aB]),_,rfl,?_⟩;have s3:aD H1 (upd (upd (upd H1 D.da (.f_ o (.dK (fm D.nums D.ts)))) pc (.lst (((D.ws.take (fm D.nums D.ts).length).map λl=>decide (D.n - 1∈l)).map V.bl))) D.da (.dK (fm D.nums D.ts))):=λb' u ij=>by
    by_cases c:b'=D.da
    ·rw [c] at ij ⊢;rw [aB,<- nv.dz]; exact ij
    ·have n2:b'≠pc:=λz=>by rw [aG As] at mq; rw [z,mq] at ij; cases ij
     rw [aG c,aG n2,aG c]; exact ij
   generalize upd (upd (upd H1 D.da (.f_ o (.dK (fm D.nums D.ts)))) pc (.lst (((D.ws.take (fm D.nums D.ts).length).map λl=>decide (D.n - 1∈l)).map V.bl))) D.da (.dK (fm D.nums D.ts))=H4 at s3 ⊢;refine dM ?_ (k _ (s1.trans s3));obtain ⟨l,hl,hm⟩:=B2.resolve_left h1;rw [w_,<- hD.wl,Qu,Yu,Xs];exact ⟨l,hl,decide_eq_true hm⟩
end
theorem Ng {l:ay} (hK:X.K=K) (hl:PE X l tl):PI X tg l (Hm K tl):=by subst hK; exact hG hl
section
variable {dK:bh}
def U9 (K:Rb):Sp:=λvs H Q _=>∃ x y n ws hs,vs = [x,y]/\rR K H x y n ws hs/\∀ H',aD H H'->Q (.int (pK n hs)) H'
theorem aII:b_ ["book", "deal"] ["book", "deal"] (aF vQ):=⟨rfl,rfl,rfl,by decide +kernel,rfl,by decide +kernel,by decide +kernel⟩
theorem aGV (G:Fn K mg "waits" vQ ["book", "deal"] f fd) (B:Bl mg) (R:Pr K mg fW fH fK fB uw fD wa fL dW dH dK dB uy dD wb dL):c_ P w K mg base d_ 8 f fd ["book", "deal"] (U9 K):=by
 have OL:c_ P w K mg base d_ 7 fL dL ["book", "deal"] (V7 K):=aGv B R;refine G.fn.ok aII (λvs H Q E h=>?_) (λfe A outer s H vs Q E hr h=>?_)
 ·obtain ⟨x,y,n,ws,hs,rfl,_⟩:=h;rfl
 ·obtain ⟨x,y,n,ws,hs,rfl,g,k⟩:=h;refine ⟨_,aI (aP (aK (XB rfl) rfl B.sum S7 (aA
    (cM (own:=["load"]) (fr:=[]) (ff:=[]) (aX (aF vQ) ["book", "deal"] rfl rfl 'd') rfl (hG (fU R.L OL hr rfl (aA (pv 0) (aA (pv 1) aC))))
     (λ_ _ _ _=>aM (i:=0) (show (["load"]:List aj).Nodup by decide +kernel) rfl eh) (λ_ _ _ _=>cQ)
     (λ_ _ _ _=>aS aHG (aS iA (pv 0) (aS eD (pv 0) aH)) aH)) aC))),?_⟩
  dsimp only [cB,Cx.gf];obtain ⟨hl,ju,ie⟩:=g.len;refine ⟨_,rfl,_,rfl,x,y,n,ws,hs,rfl,g,λp H1 s1 hp=>⟨p,rfl,⟨_,dt.of hp⟩,kB (K:=K) (a:=p) (xs:=(cT n hs).map V.int) (λσ=>∃ v,σ = [v]) (λi zs H2=>H2=H1/\zs=(((cT n hs).take i).map λl=>l*(l+1) / 2).map V.int) ?_ ⟨none,rfl⟩ ⟨rfl,rfl⟩ ?_ ?_ ?_ ?_⟩⟩
  ·grind [Qa,iY,Rf]
  ·grind
  ·rintro i zs H2 ⟨rfl,_⟩;exact dt.of hp
  ·rintro i zs σ x H2 hx ⟨v,rfl⟩ ⟨rfl,rfl⟩ hz;rw [Qh] at hx;obtain ⟨l,PM,rfl⟩:∃ l,(cT n hs)[i]?=some l/\V.int l=x:=by simp_all
   have hb:=iJ (Qd PM);refine bX ⟨_,rfl,_,rfl,_,_,rfl,rfl,_,_,rfl,rfl,.inl ⟨by omega,by omega⟩,_,_,rfl,rfl,⟨by decide,by decide⟩,hz,⟨_,rfl⟩,rfl,?_⟩;rw [Jw,PM];simp
  ·rintro zs H2 ⟨rfl,rfl⟩ q hq;refine ⟨q,_,rfl,dm.of aB,λm hm=>?_,?_,?_⟩
   ·obtain ⟨l,ow,rfl⟩:=Jc.mp hm;have hb:=iJ (Zf ow);have h0:0<=l*(l+1):=Int.mul_nonneg hb.1 'a';have h1:l*(l+1)<=12*13:=Wx 'a' 'a' 'a' 'a';omega
   ·grind [Qa,Qs,iY]
   ·have e:((cT n hs).take ((cT n hs).map V.int).length)=cT n hs:=by rw [Qa,Qu]
    rw [e];exact k _ (s1.trans (aD.new hq))
end
noncomputable def jn (s:List Nat):List (List Nat)->List Nat
 | []=>[]
 | [p]=>p
 | p::q::r=>p++s++jn s (q::r)
theorem kK (x y:aj):(x++y).cps.toList=x.cps.toList++y.cps.toList:=by
 show (x.cps++y.cps).toList=_;simp
theorem gF (sep:aj):∀ ps:List aj,(sep.join ps).cps.toList=jn sep.cps.toList (ps.map (·.cps.toList))
 | []=>rfl
 | [p]=>rfl
 | p::q::r=>by
  show (p++sep++sep.join (q::r)).cps.toList=_;rw [kK,kK,(gF sep (q::r))];rfl
theorem jA {x y:aj} (h:x.cps.toList=y.cps.toList):x=y:=by
 cases x with
 | mk a =>
  cases y with
  | mk b=>exact congrArg aj.mk (Array.toList_inj.mp h)
theorem XJ (p r:List Nat) (n:Nat) (h:n=p.length):(p++r).take n=p:=by
 subst h;simp
theorem Na {x:aj} {a:Nat} {p r:List Nat} (hs:1<=sep.length) (h:x.cps.toList.drop a=p++sep.cps.toList++r):StrLaws.At x sep x.length (a+p.length):=by
 have hl:(x.cps.toList.drop a).length=p.length+sep.length+r.length:=by rw [h,Qg,Qg,Array.length_toList]; rfl
 have hx:x.cps.toList.length=x.length:=Array.length_toList;rw [Xa] at hl
 ·refine ⟨by omega,?_⟩;rw [StrLaws.subAt_eq,<- Qaa,h,Xj,List.drop_left,XJ _ _ _ (by rfl)];exact beq_self_eq_true _
theorem aEl {x:aj} {k c:Nat} {s':List Nat} (hs:sep.cps.toList=c::s') (h:StrLaws.At x sep x.length k):x.cps.toList[k]?=some c:=by
 have h2:=h.2;rw [StrLaws.subAt_eq,hs] at h2;have h4:((x.cps.toList.drop k).take sep.length)[0]?=some c:=by rw [(eq_of_beq h2)]; rfl
 rw [List.getElem?_take] at h4;split at h4
 ·rw [List.getElem?_drop] at h4;exact h4
 ·cases h4
theorem wL {x:aj} {c:Nat} {s':List Nat} (hs:sep.cps.toList=c::s'):∀ (ps:List aj) (a f:Nat) (ko:List Nat),ps≠[]->(∀ p∈ps,c∉p.cps.toList)->x.cps.toList.drop a=jn sep.cps.toList (ps.map (·.cps.toList))->a<=x.length ->
  StrLaws.ChainG x sep x.length a ko f->(∀ k,f<=k->¬ StrLaws.At x sep x.length k)->StrLaws.partsFrom x sep.length a ko=ps
 | [],_,_,_,h,_,_,_,_,_=>absurd rfl h
 | [p],a,f,ko,_,hc,hx,ha,j7,jh=>by
  have kr:x.cps.toList.drop a=p.cps.toList:=hx;have no:∀ k,a<=k->¬ StrLaws.At x sep x.length k:=λk hk nu=>by
   have h1:=aEl hs nu;have h2:(x.cps.toList.drop a)[k - a]?=some c:=by grind
   rw [kr] at h2;exact hc p (List.mem_singleton_self _) (Qd h2)
  cases ko with
  | nil =>
   show [ak.Str.strSub x a x.length] = [p];congr 1;refine jA ?_;rw [StrLaws.strSub_toList,kr];refine Jf ?_;have:(x.cps.toList.drop a).length=x.length - a:=by rw [Xa,Array.length_toList]; rfl
   rw [kr] at this;omega
  | cons k cs=>exact absurd j7.2.1 (no k j7.1)
 | p::q::r,a,f,ko,_,hc,hx,ha,j7,jh=>by
  have kr:x.cps.toList.drop a=p.cps.toList++sep.cps.toList++jn sep.cps.toList ((q::r).map (·.cps.toList)):=hx;have here:=Na (sep:=sep) (by have:sep.cps.toList.length=sep.length:=Array.length_toList; rw [hs] at this; simp at this; omega) kr;have ke:p.cps.toList.length=p.length:=Array.length_toList;have no:∀ k,a<=k->k < a+p.length->¬ StrLaws.At x sep x.length k:=λk hk C8 nu=>by
   have h1:=aEl hs nu;have h2:(x.cps.toList.drop a)[k - a]?=some c:=by grind
   rw [kr,Xj,Qq 'a'] at h2;exact hc p (Qk ..) (Qd h2)
  rw [ke] at here;cases ko with
  | nil =>
   have e:f=a:=j7;exact absurd here (jh _ 'a')
  | cons k cs =>
   obtain ⟨h1,h2,h3,h4⟩:=j7;have ek:k=a+p.length:=by
    rcases Nat.lt_trichotomy k (a+p.length) with h | h | h
    ·exact absurd h2 (no k h1 h)
    ·exact h
    ·simp_all
   subst ek;have hlen:(x.cps.toList.drop a).length=x.length - a:=by rw [Xa,Array.length_toList]; rfl
   have DY:sep.cps.toList.length=sep.length:=Array.length_toList;have ih:=wL hs (q::r) (a+p.length+sep.length) f cs 'b' (λp' Gq=>hc p' (Qj _ Gq)) (by grind [Qaa,Qg,List.drop_left]) h2.1 h4 jh;show ak.Str.strSub x a (a+p.length)::StrLaws.partsFrom x sep.length (a+p.length+sep.length) cs=p::q::r;rw [ih];congr 1;refine jA ?_;rw [StrLaws.strSub_toList,kr,Xj];exact XJ _ _ _ 'a'
theorem wM {c:Nat} {s':List Nat} (hs:sep.cps.toList=c::s') (hk:ak.Str.strKind sep=1) (h0:ps≠[]) (hc:∀ p∈ps,c∉p.cps.toList):Txt.split (sep.join ps) sep=ps:=by
 have hx:(sep.join ps).cps.toList=jn sep.cps.toList (ps.map (·.cps.toList)):=gF sep ps;generalize sep.join ps=x at hx;have DY:1<=sep.length:=by have:sep.cps.toList.length=sep.length:=Array.length_toList; rw [hs] at this; simp at this; omega
 obtain ⟨f,j7,jh⟩:=StrLaws.occ_tight x sep DY;have back:=wL hs ps 0 f _ h0 hc (by assumption) (Ji _) j7 jh;have one:(ak.Str.occurrences x sep 0 x.length (x.length+1)) = []->ps = [x]:=λe=>by
  rw [e] at back;rw [<- back];show [ak.Str.strSub x 0 x.length] = [x];rw [show ak.Str.strSub x 0 x.length=x from jA (by rw [StrLaws.strSub_toList,Zv]; exact Jf (by rw [Array.length_toList]; exact Qe _))]
 have kx:¬ ak.Str.strKind x < ak.Str.strKind sep:=by
  rw [hk];unfold ak.Str.strKind;split
  ·omega
  ·split <;> omega
 unfold Txt.split;by_cases h1:x.length < sep.length
 ·rw [decide_eq_true h1,Qal,if_pos rfl];refine (one ?_).symm;cases e:ak.Str.occurrences x sep 0 x.length (x.length+1) with
  | nil=>rfl
  | cons k cs =>
   have:=(StrLaws.occ_spec x sep 0 x.length (x.length+1) k (by rw [e]; exact Qk ..)).1;omega
 ·rw [decide_eq_false h1,Wh,decide_eq_false kx];rw [if_neg 'c'];cases e:ak.Str.occurrences x sep 0 x.length (x.length+1) with
  | nil=>exact (one e).symm
  | cons k cs =>
   rw [if_neg 'b',StrLaws.partsBetween_eq,<- e];exact back
end Ab
namespace L2
open PySem PySem.Spec PyProof.Rows
theorem jE:az "str" = some (.type "str"):=by rfl
theorem xV:eQ X (.builtin "isinstance") (λxs H Q=>∃ y:aj,xs = [.str y,.ty "str"]/\Q (.bl true) H):=by
 intro a_ s σ H xs us Q I r h;obtain ⟨y,rfl,q⟩:=h;obtain ⟨u,t,rfl,rx,rt⟩:=uM r;cases rt;obtain ⟨t,rfl⟩:=rx;exact IsiPair.str_str ⟨.bl true,H,I,rfl,q⟩
end L2
namespace Ab
open PySem L2
noncomputable def bS (i:Int):aj:=aj.ofString (toString i)
noncomputable def zG (a b:Int):aj:=if b=1 then bS a else bS a ++ "/" ++ bS b
theorem L9 (f:α->Nat) (B:Nat):∀ l:List α,(∀ x∈l,f x<=B)->(l.map f).sum<=l.length*B
 | [],_=>by simp
 | x::l,h=>by
  have h1:=h x (Qk ..);have h2:=L9 f B l λy hy=>h y (Qj _ hy);rw [Jb,List.sum_cons,Jl,Nat.add_mul];omega
theorem wN {n:Int} (hn:n<=6) (h:cA n (cR l)=true):(∀ i∈l,0<=i/\i<=6)/\l.length<=6/\l≠[]:=by
 obtain ⟨h1,h2,h3⟩:=bO h;refine ⟨λi hi=>by have:=h2 i hi; omega,?_,h1⟩;by_cases hz:0<=n
 ·have:=kI hz h2 h3;omega
 ·cases l with
  | nil=>exact absurd rfl h1
  | cons x r=>have:=h2 x (Qk ..); omega
section
variable {dK:bh}
def U8 (K:Rb):Sp:=λvs H Q _=>∃ (p:ae) (a b:Int),vs = [.ref p]/\dt K H p [.int a,.int b]/\a.natAbs.log2 < 300/\b.natAbs.log2 < 300/\Q (.str (zG a b)) H
theorem gG (x y:aj):(x++y).length=x.length+y.length:=by
 show (x.cps++y.cps).size=_;rw [Array.size_append];rfl
theorem cX {i:Int} (h:i.natAbs.log2 < 300):(bS i).length<=301:=by
 have:=int_text_length_le (a:=i) (k:=300) 'c' h;have e:(bS i).length=(toString i).length:=ofString_length _;omega
theorem M_:b_ ["fraction", "a", "b"] ["fraction"] (aF HN):=.of
theorem aGW (G:Fn K mg "show_fraction" HN ["fraction"] f fd) (B:Bl mg):c_ P w K mg base d_ 1 f fd ["fraction"] (U8 K):=by
 refine G.fn.oK M_ λfe A outer s H vs Q E hr h=>?_
 ·obtain ⟨p,a,b,rfl,hp,h1,h2,k⟩:=h;refine ⟨_,(aE (pB (pv 0) (lS rfl (bD (aM (i:=1) M_.nd rfl eh) (bD (aM (i:=2) M_.nd rfl eh) eT))))
  (aI (aP (X6 (aO cY (pv 2) aH ft) (aKe (vH (pv 1))) (UD (vH (pv 1)) aJ (vH (pv 2))))))),?_⟩
  dsimp only [cB,Cx.gf];have la:=cX h1;have lb:=cX h2;refine ⟨_,rfl,p,_,rfl,hp,rfl,_,_,rfl,_,_,rfl,rfl,?_⟩;unfold zG at k;refine ⟨_,rfl,rfl,_,rfl,eP (λc1=>?_) (λc1=>?_)⟩
  ·have e:b=1:=by have:=of_decide_eq_true c1; injection this
   rw [if_pos e] at k;exact ⟨_,rfl,a,rfl,Xh h1 'c',k⟩
  ·have e:b≠1:=λz=>c1 (by rw [z]; exact decide_eq_true rfl);rw [if_neg e] at k;have l1:(bS a ++ "/" : aj).length<=302:=by rw [gG]; show _+1<=_; omega
   refine ⟨_,rfl,a,rfl,Xh h1 'c',_,rfl,cK (show (bS a).length<=1000 by omega),_,rfl,cK (show (bS a ++ "/" : aj).length<=1000 by omega),_,rfl,b,rfl,Xh h2 'c',_,rfl,cK ?_,k⟩;show (bS a ++ "/" ++ bS b:aj).length<=1000;rw [gG];omega
end
theorem dP (x:aj):x.cps.toList.length=x.length:=Array.length_toList
theorem aIJ {x:aj} {k:Nat} (h:StrLaws.At x sep x.length k):x.cps.toList.drop k=sep.cps.toList++x.cps.toList.drop (k+sep.length):=by
 have h2:=h.2;rw [StrLaws.subAt_eq] at h2;rw [<- Qaa]
 conv=>lhs; rw [<- Yk sep.length (x.cps.toList.drop k),(eq_of_beq h2)]
theorem jS {s p:List Nat} {ps:List (List Nat)} (h:ps≠[]):jn s (p::ps)=p++s++jn s ps:=by
 cases ps with
 | nil=>exact absurd rfl h
 | cons q r=>rfl
theorem zH {x:aj} (hs:1<=sep.length):∀ (ko:List Nat) (a f:Nat),a<=x.length->StrLaws.ChainG x sep x.length a ko f->(∀ k,f<=k->¬ StrLaws.At x sep x.length k) ->
  jn sep.cps.toList ((StrLaws.partsFrom x sep.length a ko).map (·.cps.toList))=x.cps.toList.drop a/\∀ p∈StrLaws.partsFrom x sep.length a ko,¬ sep.cps.toList <:+: p.cps.toList
 | [],a,f,ha,j7,jh=>by
  have e:f=a:=j7;have ep:(ak.Str.strSub x a x.length).cps.toList=x.cps.toList.drop a:=by
   rw [StrLaws.strSub_toList];exact Jf (by rw [Xa,dP]; exact Qe _)
  refine ⟨ep,λp hp=>?_⟩;obtain rfl:=Qi.mp hp;rw [ep];rintro ⟨u,v,e2⟩;exact jh _ 'a' (Na hs e2.symm)
 | k::cs,a,f,ha,j7,jh=>by
  obtain ⟨h1,h2,h3,h4⟩:=j7;have BI:=h2.1;obtain ⟨i1,i2⟩:=zH hs cs (k+sep.length) f BI h4 jh;have ep:(ak.Str.strSub x a k).cps.toList=(x.cps.toList.drop a).take (k - a):=StrLaws.strSub_toList ..;have ed:(x.cps.toList.drop a).drop (k - a)=x.cps.toList.drop k:=by simp_all
  refine ⟨?_,λp hp=>?_⟩
  ·show jn _ ((ak.Str.strSub x a k).cps.toList::(StrLaws.partsFrom x sep.length (k+sep.length) cs).map (·.cps.toList))=_;rw [jS (by cases cs <;> simp [StrLaws.partsFrom]),i1,ep,Xj,<- aIJ h2,<- ed,Yk]
  ·rcases Ql.mp (show p∈ak.Str.strSub x a k::StrLaws.partsFrom x sep.length (k+sep.length) cs from hp) with rfl | hp
   ·rw [ep];rintro ⟨u,v,e2⟩;have hl:(u++sep.cps.toList++v).length<=k - a:=by rw [e2,Qs]; exact Xf _ _
    rw [Qg,Qg,dP] at hl;have e3:x.cps.toList.drop a=u++sep.cps.toList++(v++(x.cps.toList.drop a).drop (k - a)):=by
     rw [<- Xj,e2,Yk]
    exact h3 _ 'a' 'a' (Na hs e3)
   ·exact i2 p hp
theorem wO {x:aj} (hk:ak.Str.strKind sep=1) (hs:1<=sep.length):Txt.split x sep≠[]/\jn sep.cps.toList ((Txt.split x sep).map (·.cps.toList))=x.cps.toList/\∀ p∈Txt.split x sep,¬ sep.cps.toList <:+: p.cps.toList:=by
 obtain ⟨f,j7,jh⟩:=StrLaws.occ_tight x sep hs;obtain ⟨i1,i2⟩:=zH hs _ 0 f (Ji _) j7 jh;rw [Zv] at i1;have one:(ak.Str.occurrences x sep 0 x.length (x.length+1)) = []->StrLaws.partsFrom x sep.length 0 (ak.Str.occurrences x sep 0 x.length (x.length+1)) = [x]:=λe=>by
  rw [e];show [ak.Str.strSub x 0 x.length] = [x];rw [show ak.Str.strSub x 0 x.length=x from jA (by rw [StrLaws.strSub_toList,Zv]; exact Jf (by rw [Array.length_toList]; exact Qe _))]
 have e:Txt.split x sep=StrLaws.partsFrom x sep.length 0 (ak.Str.occurrences x sep 0 x.length (x.length+1)):=by
  have kx:¬ ak.Str.strKind x < ak.Str.strKind sep:=by
   rw [hk];unfold ak.Str.strKind;split
   ·omega
   ·split <;> omega
  unfold Txt.split;by_cases h1:x.length < sep.length
  ·rw [decide_eq_true h1,Qal,if_pos rfl];refine (one ?_).symm;cases e:ak.Str.occurrences x sep 0 x.length (x.length+1) with
   | nil=>rfl
   | cons k cs =>
    have:=(StrLaws.occ_spec x sep 0 x.length (x.length+1) k (by rw [e]; exact Qk ..)).1;omega
  ·rw [decide_eq_false h1,Wh,decide_eq_false kx];rw [if_neg 'c'];cases e:ak.Str.occurrences x sep 0 x.length (x.length+1) with
   | nil=>have h:=one e; rw [e] at h; exact h.symm
   | cons k cs=>rw [if_neg 'b',StrLaws.partsBetween_eq,<- e]
 rw [e];refine ⟨?_,i1,i2⟩;generalize ak.Str.occurrences x sep 0 x.length (x.length+1)=ko;cases ko <;> simp [StrLaws.partsFrom]
theorem XI {s:List Nat} {p:List Nat}:∀ {ps:List (List Nat)},p∈ps->p <:+: jn s ps
 | [q],h=>by rw [Qi.mp h]; exact List.infix_refl _
 | q::r::ps,h=>by
  rcases Ql.mp h with rfl | h
  ·exact ⟨[],s++jn s (r::ps),by show []++p++_=p++s++_; simp⟩
  ·exact (XI h).trans ⟨q++s,[],by show q++s++_++[]=_; rw [Xy]; rfl⟩
theorem aE9 {x p:aj} (hk:ak.Str.strKind sep=1) (hs:1<=sep.length) (hp:p∈Txt.split x sep):p.cps.toList <:+: x.cps.toList:=by
 rw [<- (wO (x:=x) hk hs).2.1];exact XI (List.mem_map_of_mem hp)
noncomputable def dig (c:Nat):Bool:=decide (48<=c) && decide (c<=57)
noncomputable def dF (w:List Nat):Bool:=(decide (1<=w.length) && decide (w.length<=6)) && (!(decide (w.head?=some 48) && !decide (w = [48])) && w.all dig)
noncomputable def EO (w:List Nat):Int:=(RaG w:Nat)
def il (w:aj):Prop:=w.cps.all (· < 128)=true
theorem il.lt {w:aj} (h:il w) {c:Nat} (hc:c∈w.cps.toList):c < 128:=by
 have:=Array.all_eq_true_iff_forall_mem.mp h c (by simp_all);simpa using this
theorem kZ {w:aj} (h:∀ c∈w.cps.toList,c < 128):il w:=Array.all_eq_true_iff_forall_mem.mpr λc hc=>by simpa using h c (by simp_all)
theorem aKu {c:Nat} (h:c < 128):(!(ak.Str.occurrences ("0123456789" : aj) ⟨#[c]⟩ 0 ("0123456789" : aj).length 1).isEmpty)=dig c:=by
 have f0:∀ j:_root_.Fin 128,(!(ak.Str.occurrences ("0123456789" : aj) ⟨#[j.val]⟩ 0 ("0123456789" : aj).length 1).isEmpty)=dig j.val:=by decide +kernel
 exact f0 ⟨c,h⟩
theorem U7 {w:aj} {σ:St} {Q:VK} (jw:σ[0]?=some (some (.str w))) (ha:il w) (hl:w.length<=6) (k:∀ H',aD H H'->Q (.bl (w.cps.toList.all dig)) H') :
  CG (λxs Fe Q=>∃ p bs,xs = [V.ref p]/\dm K Fe p (List.map V.bl bs)/\Q (V.bl (bs.all id)) Fe) (gJ (ET 1 [] (Lv (kW 0)) (gI 0) rJ (ud (λx y H Q=>∃ i j,x=V.str i/\y=V.str j/\Q (V.bl !(ak.Str.occurrences j i 0 j.length 1).isEmpty) H) (kW 0) (tC (V.str "0123456789")))) lU) σ H Q:=by
 have hsz:w.cps.size<=6:=hl;refine ⟨_,jw,_,rfl,ha,jP (J:=Nv w) w.cps.size (cK 'a') (λσ=>∃ v,σ = [v]) (λj ys H'=>H'=H/\ys=(w.cps.toList.take j).map λc=>.bl (dig c)) ⟨none,rfl⟩ ⟨rfl,rfl⟩ (λj ys H' h=>by rw [h.2,Qa,Qs]; exact Xf _ _) (λ_ _ _=>rfl) (λj _ _ hj _=>hj) ?_ ?_⟩
 ·rintro j ys σ x H1 H2 hj ⟨v,rfl⟩ ⟨rfl,rfl⟩ hy hz;obtain ⟨rfl,c,hc,rfl⟩:=hy;refine bX ⟨_,rfl,_,_,rfl,rfl,?_⟩;have j8:w.cps.toList[j]?=some c:=by rw [Array.getElem?_toList]; exact hc
  rw [aKu (ha.lt (Qd j8))];refine ⟨hz,⟨_,rfl⟩,rfl,?_⟩;rw [Jw,j8,Qm];rfl
 ·rintro ys H1 ⟨rfl,rfl⟩ p hp;have e:(w.cps.toList.take w.cps.size)=w.cps.toList:=Jf 'b';rw [e];refine ⟨p,w.cps.toList.map dig,rfl,dm.of (by rw [aB,Xi]; rfl),?_⟩;rw [Ws,show (id ∘ dig)=dig from rfl];exact k _ (aD.new hp)
def qQ:Sp:=λvs H Q _=>∃ y:aj,vs = [.str y]/\il y/\y.length<=1000000/\∀ H',aD H H'->Q (.bl (dF y.cps.toList)) H'
theorem aGY:b_ ["word"] ["word"] (aF qB):=.of
theorem qR (c:Nat):(V.str ⟨#[c]⟩=V.str "0")↔c=48:=by
 constructor
 ·intro h;injection h with h;have h2:(⟨#[c]⟩:aj)=⟨#[48]⟩:=h;injection h2 with h3;simpa using h3
 ·rintro rfl;rfl
theorem qS (y:aj):(V.str y=V.str "0")↔y.cps.toList = [48]:=by
 constructor
 ·intro h;injection h with h;subst h;rfl
 ·intro h;rw [show y = "0" from jA h]
theorem XH {l:List Nat} {c:Nat} (h:l.head?=some c):lj l 0=some c:=by
 cases l with
 | nil=>cases h
 | cons a l =>
  unfold lj yn;simpa using h
theorem aFa (G:Fn K mg "is_number" qB ["word"] f fd) (B:Bl mg):c_ P w K mg base d_ 1 f fd ["word"] qQ:=by
 obtain ⟨tF,H!⟩:=B.N?;obtain ⟨tM,E?⟩:=B.NP;refine G.fn.oK aGY λfe A outer s H vs Q E hr h=>?_
 ·obtain ⟨y,rfl,ha,hl,k⟩:=h;refine ⟨_,(aE (bQ (PW.pt (fP (cV (aFJ uJ uJ aH (aK iD rfl B.len cO (aA (pv 0) aC)) (iW (v:=.int 6) rfl E? ⟨_,rfl⟩))) (eA (PW.pt (mU (aO cY (bM MM (pv 0) aH gb) aJ ft) (lQ (aO iB (pv 0) aJ ft)))))))
   (aI (aP jY))
   aW)
  (aI (aP (aK (jB rfl) rfl B.all sS (aA (cM (own:=["sign"]) (fr:=[]) (ff:=[]) (aX (aF qB) ["word"] rfl rfl 'd') rfl (UC (pv 0))
    (λ_ _ _ _=>(aM (i:=0) (show (["sign"]:List aj).Nodup by decide +kernel) rfl eh)) (λ_ _ _ _=>cQ)
    (λ_ _ _ _=>(cL yA (pv 0) (iW (v:=.str "0123456789") rfl H! ⟨_,rfl⟩) (by rfl)))) aC))))),?_⟩
  dsimp only [cB,Cx.gf];have hy:=dP y;have K0:dF y.cps.toList=false->Q (.bl false) H:=λe=>by
   have:=k H (aD.refl _);rw [e] at this;exact this
  refine ⟨_,rfl,_,rfl,by rw [Rf]; omega,_,_,rfl,rfl,_,rfl,eP (λc1=>⟨_,_,rfl,rfl,_,rfl,?_⟩) (λc1=>?_)⟩
  ·have c1':=of_decide_eq_true c1;refine eP (λc2=>?_) (λc2=>?_)
   ·have Ll:¬ ((y.length:Int)<=6):=by simpa using c2
    refine K0 ?_;unfold dF;rw [decide_eq_false (show ¬ y.cps.toList.length<=6 by omega),Zx,Xu]
   ·have Ll:(y.length:Int)<=6:=by simpa using c2
    cases sy:y.cps.toList with
    | nil=>rw [sy] at hy; exact absurd hy.symm (by grind)
    | cons c l =>
     have hb:dF y.cps.toList=(!(decide (y.cps.toList.head?=some 48) && !decide (y.cps.toList = [48])) && y.cps.toList.all dig):=by
      show ((_ && _) && _)=_;rw [decide_eq_true (show 1<=y.cps.toList.length by omega),decide_eq_true (show y.cps.toList.length<=6 by omega),Jt,Jt]
     have go:(decide (y.cps.toList.head?=some 48) && !decide (y.cps.toList = [48]))=false->∀ {K'},K'=K->CG (λxs Fe Q=>∃ p bs,xs = [V.ref p]/\dm K' Fe p (List.map V.bl bs)/\Q (V.bl (bs.all id)) Fe) (gJ (ET 1 [] (Lv (kW 0)) (gI 0) rJ (ud (λx y H Q=>∃ i j,x=V.str i/\y=V.str j/\Q (V.bl !(ak.Str.occurrences j i 0 j.length 1).isEmpty) H) (kW 0) (tC (V.str "0123456789")))) lU) [some (V.str y)] H Q:=λe K' eK=>by
      subst eK;refine U7 rfl ha 'a' λH' s'=>?_;have:=k H' s';rw [hb,e,Qab,Jt] at this;exact this
     refine ⟨_,rfl,_,0,c,rfl,rfl,by rw [Rf]; omega,XH (by simp_all),rfl,_,rfl,eP (λc3=>?_) (λc3=>?_)⟩
     ·have EJ:=(qR c).mp (of_decide_eq_true c3);refine ⟨_,rfl,rfl,_,rfl,eP (λc4=>?_) (λc4=>?_)⟩
      ·refine K0 ?_;have EI:¬ (V.str y=V.str "0"):=by simpa using c4
       rw [hb,decide_eq_true (show y.cps.toList.head?=some 48 by rw [sy,EJ]; rfl),decide_eq_false (λz=>EI ((qS y).mpr z))];rfl
      ·have EI:V.str y=V.str "0" := by simpa using c4
       exact go (by rw [decide_eq_true ((qS y).mp EI)]; simp) rfl
     ·have EJ:¬ c=48:=λz=>c3 (decide_eq_true ((qR c).mpr z));exact go (by rw [decide_eq_false (show ¬ y.cps.toList.head?=some 48 by rw [sy]; simpa using EJ)]; rfl) rfl
  ·have c1':¬ (1<=(y.length:Int)):=by simpa using c1
   refine ⟨false,rfl,iE (iE (K0 ?_))⟩;unfold dF;rw [decide_eq_false (show ¬ 1<=y.cps.toList.length by omega),Xu,Xu]
theorem zI {y:aj} (h:dF y.cps.toList=true):intText? y=some (EO y.cps.toList)/\0<=EO y.cps.toList/\1<=y.length/\y.length<=6:=by
 unfold dF at h;rw [Qt,Qt,Qt] at h;obtain ⟨⟨h1,h2⟩,_,h4⟩:=h;have h1:=of_decide_eq_true h1;have h2:=of_decide_eq_true h2;have hy:=dP y;refine ⟨PySem.intText_digits (λc hc=>?_) (λz=>?_) 'a',Int.natCast_nonneg _,by omega,by omega⟩
 ·have:=Jo.mp h4 c hc;unfold dig at this;simpa using this
 ·rw [z] at h1;exact absurd h1 'c'
theorem aGZ {x:Int}:x∈fN n↔0<=x/\x < n:=by
 unfold fN;rw [Jc];constructor
 ·grind
 ·rintro ⟨h1,h2⟩;exact ⟨x.toNat,Zm.mpr 'a',by show ((x.toNat:Nat):Int)=x; omega⟩
noncomputable def mJ (s l:LIn):Bool:=l.all λh=>decide (h∈s)
noncomputable def eX (hs:LIn):List (LIn):=hs.foldl (λacc h=>acc++acc.map (·++[h])) [[]]
noncomputable def iM (hs:LIn):List (LIn):=(eX hs).tail
theorem lA (hs:LIn) (x:Int):eX (hs++[x])=eX hs++(eX hs).map (·++[x]):=by simp [eX,We]
theorem lM {p:LIn->Prop} (h0:p []) (h1:∀ l x,p l->p (l++[x])):∀ l,p l:=by
 intro l;have:∀ r:LIn,p r.reverse:=by
  intro r
  induction r with
  | nil=>exact h0
  | cons x r ih=>rw [Yz]; exact h1 _ _ ih
 have h:=this l.reverse;rwa [List.reverse_reverse] at h
theorem gQ:∀ hs:LIn,eX hs = []::iM hs:=by
 refine lM rfl λl x ih=>?_;unfold iM;rw [lA,ih];rfl
theorem kL (hs:LIn) (x:Int):iM (hs++[x])=iM hs++[x]::(iM hs).map (·++[x]):=by
 have h:=lA hs x;rw [gQ (hs++[x]),gQ hs] at h;rw [Jb,Za] at h;injection h
theorem aFb:∀ hs:LIn,∀ h∈hs,[h]∈iM hs:=by
 refine lM (λh hh=>by cases hh) λl x ih h hh=>?_;rw [kL];rcases Qp.mp hh with hh | hh
 ·exact Jy _ (ih h hh)
 ·rw [Qi.mp hh];exact Qz _ (Qk ..)
theorem aFc:∀ hs:LIn,(iM hs).length+1=2^hs.length:=by
 refine lM rfl λl x ih=>?_;rw [kL,Qg,Jl,Qa,Qg,Zd,Nat.pow_succ,<- ih];omega
theorem tD:∀ hs:LIn,∀ s∈iM hs,s.length<=hs.length:=by
 refine lM (λs hs=>by cases hs) λl x ih s hs=>?_;rw [kL] at hs;rw [Qg,Zd];rcases Qp.mp hs with hs | hs
 ·grind
 ·rcases Ql.mp hs with rfl | hs
  ·simp
  ·obtain ⟨s',h1,rfl⟩:=Jc.mp hs;have:=ih s' h1;rw [Qg,Zd];omega
noncomputable def BO (a b:Int):Int:=a / (Int.gcd a b:Int)
noncomputable def AZ (a b:Int):Int:=b / (Int.gcd a b:Int)
theorem U6 {a b:Int} (hb:0 < b):0 < (Int.gcd a b:Int):=by grind [Int.gcd_pos_of_ne_zero_right]
theorem wP {f g:α->Int}:∀ {l:List α},(∀ x∈l,f x<=g x)->fQ (l.map f)<=fQ (l.map g)
 | [],_=>Jz _
 | x::l,h=>by
  show f x+fQ (l.map f)<=g x+fQ (l.map g);have h1:=h x (Qk ..);have h2:=wP (l:=l) λy hy=>h y (Qj _ hy);omega
theorem qT {f:α->Int}:∀ {l:List α},(∀ x∈l,0<=f x)->0<=fQ (l.map f)
 | [],_=>Jz _
 | x::l,h=>by
  show 0<=f x+fQ (l.map f);have h1:=h x (Qk ..);have h2:=qT (l:=l) λy hy=>h y (Qj _ hy);omega
theorem UK (f:α->Int) (p:α->Bool):∀ l:List α,fQ (l.map λx=>if p x=true then f x else 0)=fQ ((l.filter p).map f)
 | []=>rfl
 | x::l=>by
  rw [Jm];show (if p x=true then f x else 0)+fQ (l.map λx=>if p x=true then f x else 0)=_;rw [UK f p l];cases p x
  ·simp
  ·rfl
theorem rY {f:α->Int} {c:Int}:∀ {l:List α},(∀ x∈l,f x=c)->fQ (l.map f)=(l.length:Int)*c
 | [],_=>by show (0:Int)=0*c; omega
 | x::l,h=>by
  show f x+fQ (l.map f)=((l.length+1:Nat):Int)*c;rw [h x (Qk ..),rY λy hy=>h y (Qj _ hy),Int.natCast_add,Int.add_mul];show c+_=_+1*c;omega
noncomputable def gc (s:LIn) (h:Int):Bool:=decide (h∈s)
theorem M9 {s:LIn} {h:Int}:gc s h=true↔h∈s:=decide_eq_true_iff
abbrev eY:=List (LIn×Int)
end Ab
variable {rows:eY}
namespace Ab
open PySem L2
noncomputable def mj (rows:eY) (p:Int->Bool):Int:=fQ (rows.map λr=>if r.1.all p=true then r.2 else 0)
noncomputable def G3 (left:LIn) (p:Int->Bool):Int:=((left.filter p).length:Int)
def nV (left:LIn) (rows:eY):Prop:=∀ r∈rows,r.1≠[]/\(∀ h∈r.1,h∈left)/\0<=r.2
noncomputable def zJ (rows:eY) (x:LIn×Int) (s:LIn):LIn×Int:=if 0 < mj rows (gc s)*x.1.length - x.2*s.length∨mj rows (gc s)*x.1.length - x.2*s.length=0/\(x.1.length:Int) < s.length then (s,mj rows (gc s)) else x
def mK (rows:eY) (done:List (LIn)) (b:LIn) (m:Int):Prop:=done.foldl (zJ rows) ([],0)=(b,m)
def Ls (left:LIn) (rows:eY) (s:LIn) (m:Int):Prop:=s≠[]/\s=left.filter (gc s)/\m=mj rows (gc s)/\mK rows (iM left) s m
noncomputable def i_ (rows:eY) (s:LIn):eY:=(rows.filter λr=>!(r.1.all (gc s))).map λr=>(r.1.filter λh=>!gc s h,r.2)
def kT:LIn->eY->eY->Prop
 | left,_,[]=>left = []
 | left,rows,b::bs=>Ls left rows b.1 b.2/\kT (left.filter λh=>!gc b.1 h) (i_ rows b.1) bs
theorem nV.i_ {s:LIn} (h:nV left rows):nV (left.filter λh=>!gc s h) (i_ rows s):=λr hr=>by
 obtain ⟨r0,h0,rfl⟩:=Jc.mp hr;obtain ⟨h1,h2⟩:=Js.mp h0;obtain ⟨a,b,c⟩:=h r0 h1;refine ⟨λz=>?_,λx hx=>?_,c⟩
 ·have:r0.1.all (gc s)=true:=Jo.mpr λx hx=>by simp_all
  rw [this] at h2; cases h2
 ·obtain ⟨x1,x2⟩:=Js.mp hx;exact Js.mpr ⟨b x x1,x2⟩
theorem aFd {s:LIn} (h:s=left.filter (gc s)) (p:Int->Bool):G3 left (λh=>gc s h || p h)=s.length+G3 (left.filter λh=>!gc s h) p:=by
 have:∀ l:LIn,((l.filter λh=>gc s h || p h).length:Int)=((l.filter (gc s)).length:Int)+(((l.filter λh=>!gc s h).filter p).length:Int):=λl=>by
  induction l with
  | nil=>rfl
  | cons x l ih =>
   rw [Jm,Jm,Jm];cases q:gc s x
   ·cases q2:p x
    ·simp only [Wh,Qab,if_true,Jm,q2,if_false,Xq]; exact ih
    ·grind
   ·grind
 unfold G3;rw [this left,<- h]
noncomputable def AY:eY->Int->Int×Int
 | [],_=>(0,1)
 | b::bs,h=>if gc b.1 h=true then (b.2,(b.1.length:Int)) else AY bs h
theorem aIL {b:LIn×Int} {bs:eY} {h:Int} (q:gc b.1 h=true):AY (b::bs) h=(b.2,(b.1.length:Int)):=by show (if _ then _ else _)=_; rw [if_pos q]
theorem aG1 {b:LIn×Int} {bs:eY} {h:Int} (q:gc b.1 h=false):AY (b::bs) h=AY bs h:=by show (if _ then _ else _)=_; rw [if_neg (by simp_all)]
theorem aKw (ok:nV left rows) (p:Int->Bool):0<=mj rows p:=qT λr hr=>by
 have:=(ok r hr).2.2;split
 ·exact this
 ·exact Jz _
theorem M8:∀ {bs:eY} {left:LIn} {rows:eY},kT left rows bs->∀ h∈left,∃ b∈bs,h∈b.1/\AY bs h=(b.2,(b.1.length:Int))
 | [],left,rows,hb,h,hh=>by rw [show left = [] from hb] at hh; cases hh
 | b::bs,left,rows,hb,h,hh=>by
  cases q:gc b.1 h with
  | true=>exact ⟨b,Qk ..,M9.mp q,aIL q⟩
  | false =>
   obtain ⟨c,c1,c2,c3⟩:=M8 hb.2 h (Js.mpr ⟨hh,by rw [q]; rfl⟩);exact ⟨c,Qj _ c1,c2,(aG1 q).trans c3⟩
theorem M7:∀ {bs:eY} {left:LIn} {rows:eY},nV left rows->kT left rows bs->∀ b∈bs,b.1≠[]/\b.1.length<=left.length/\0<=b.2/\∀ h∈b.1,h∈left
 | [],_,_,_,_,b,hb=>by cases hb
 | c::bs,left,rows,ok,h,b,hb=>by
  rcases Ql.mp hb with rfl | hb
  ·obtain ⟨a1,a2,a3,_⟩:=h.1;refine ⟨a1,?_,by rw [a3]; exact aKw ok _,λx hx=>?_⟩
   ·rw [a2]; exact Jp _ _
   ·rw [a2] at hx; exact (Js.mp hx).1
  ·obtain ⟨i1,i2,i3,i4⟩:=M7 ok.i_ h.2 b hb;exact ⟨i1,Qr i2 (Jp _ _),i3,λx hx=>(Js.mp (i4 x hx)).1⟩
theorem X4:∀ hs:LIn,∀ s∈iM hs,s≠[]:=by
 refine lM (λs hs=>by cases hs) λl x ih s hs=>?_;rw [kL] at hs;rcases Qp.mp hs with hs | hs
 ·exact ih s hs
 ·rcases Ql.mp hs with rfl | hs
  ·simp
  ·obtain ⟨s',_,rfl⟩:=Jc.mp hs;simp
theorem aFe:∀ hs:LIn,∀ s∈iM hs,List.Sublist s hs:=by
 refine lM (λs hs=>by cases hs) λl x ih s hs=>?_;rw [kL] at hs;rcases Qp.mp hs with hs | hs
 ·simp_all
 ·rcases Ql.mp hs with rfl | hs
  ·exact List.sublist_append_right _ _
  ·obtain ⟨s',h1,rfl⟩:=Jc.mp hs;exact (ih s' h1).append (List.Sublist.refl _)
theorem aG2 {s:LIn}:∀ {l:LIn},List.Sublist s l->l.Nodup->s=l.filter (gc s):=by
 intro l h nd;have key:∀ (l s:LIn),List.Sublist s l->l.Nodup->∀ t:LIn,(∀ x,x∈l->(x∈t↔x∈s))->l.filter (gc t)=s:=by
  intro l s h
  induction h with
  | slnil=>intro _ _ _; rfl
  | cons a h ih =>
   intro nd t ht;have DO:=Jq.mp nd;have:gc t a=false:=decide_eq_false λz=>DO.1 (h.subset ((ht a (Qk ..)).mp z));rw [Jm,this];exact ih DO.2 t λx hx=>ht x (Qj _ hx)
  | cons_cons a h ih =>
   intro nd t ht;have DO:=Jq.mp nd;have:gc t a=true:=M9.mpr ((ht a (Qk ..)).mpr (Qk ..));rw [Jm,this,if_pos rfl];congr 1;refine ih DO.2 t λx hx=>?_;rw [ht x (Qj _ hx),Ql];exact ⟨λz=>z.resolve_left λe=>DO.1 (by simp_all),.inr⟩
 exact (key l s h nd s λ_ _=>Iff.rfl).symm
theorem aFf {done:List (LIn)} {b s:LIn} {m:Int} (h:mK rows done b m) :
  (0 < mj rows (gc s)*b.length - m*s.length∨mj rows (gc s)*b.length - m*s.length=0/\(b.length:Int) < s.length->mK rows (done++[s]) s (mj rows (gc s))) /\
  (¬ (0 < mj rows (gc s)*b.length - m*s.length∨mj rows (gc s)*b.length - m*s.length=0/\(b.length:Int) < s.length)->mK rows (done++[s]) b m):=by
 unfold mK at *;rw [We,h];exact ⟨λc=>if_pos c,λc=>if_neg c⟩
theorem X3:∀ {done:List (LIn)} {x:LIn×Int},done.foldl (zJ rows) x=x∨∃ s∈done,done.foldl (zJ rows) x=(s,mj rows (gc s))
 | [],x=>.inl rfl
 | t::done,x=>by
  rw [Yo];rcases X3 (done:=done) (x:=zJ rows x t) with h | ⟨s,hs,e⟩
  ·rw [h];unfold zJ;split
   ·exact .inr ⟨t,Qk ..,rfl⟩
   ·exact .inl rfl
  ·exact .inr ⟨s,Qj _ hs,e⟩
theorem aIM {b:LIn} {m:Int} (nd:left.Nodup) (hl:left≠[]) (h:mK rows (iM left) b m):Ls left rows b m:=by
 have:∃ s∈iM left,(b,m)=(s,mj rows (gc s)):=by
  have ho:=aFb left;unfold mK at h;rw [<- h];cases e:iM left with
  | nil =>
   cases left with
   | nil=>exact absurd rfl hl
   | cons x l=>have:=ho x (Qk ..); rw [e] at this; cases this
  | cons t l =>
   have ht:=Xk.mpr ((X4 left) t (by rw [e]; exact Qk ..));rw [Yo,show zJ rows ([],0) t=(t,mj rows (gc t)) from if_pos (.inr ⟨by show mj rows (gc t)*((0:Nat):Int) - 0*_=0; omega,by show ((0:Nat):Int) < _; omega⟩)];rcases X3 (rows:=rows) (done:=l) (x:=(t,mj rows (gc t))) with q | ⟨s,hs,q⟩
   ·exact ⟨t,Qk ..,q⟩
   ·exact ⟨s,Qj _ hs,q⟩
 obtain ⟨s,hs,e⟩:=this;obtain ⟨rfl,rfl⟩:=Prod.mk.inj e;exact ⟨X4 _ _ hs,aG2 (aFe _ _ hs) nd,rfl,h⟩
theorem aIN (n:Nat):(fN n).Nodup:=by
 unfold fN;rw [Ju,List.pairwise_map];refine List.Pairwise.imp ?_ List.nodup_range;intro a b h z;exact h 'a'
theorem aLx (a:Int) {b:Int} (_:0 < b):(Int.gcd a b:Int)*AZ a b=b:=Int.mul_ediv_cancel' (Int.gcd_dvd_right ..)
theorem aG3 (a:Int) {b:Int} (hb:0 < b):0 < AZ a b:=by
 have h1:=aLx a hb;exact Int.pos_of_mul_pos_right (a:=(Int.gcd a b:Int)) 'a' (U6 (a:=a) hb)
theorem aIO {a b:Int} (ha:0<=a) (hb:0 < b):0<=BO a b:=Int.ediv_nonneg ha 'a'
theorem aIP {a b:Int} (ha:0<=a) (hb:0 < b):BO a b<=a:=Int.ediv_le_self _ ha
theorem aIQ {a b:Int} (hb:0 < b):AZ a b<=b:=Int.ediv_le_self _ 'a'
noncomputable def xW (x:Int×Int):Int×Int:=(BO x.1 x.2,AZ x.1 x.2)
end Ab
namespace L2
open PySem PySem.Spec PyProof.Rows
end L2
namespace Ab
open PySem L2
theorem aG4 (x y:Int):Int.gcd y (x % y)=Int.gcd x y:=by
 rw [Int.gcd_comm x y];refine Int.gcd_right_eq_iff.mpr λc hc=>?_;have h1:c ∣ y*(x / y):=Int.dvd_mul_of_dvd_left hc;constructor
 ·intro h;rw [<- (Int.emod_add_mul_ediv x y)];exact Int.dvd_add h h1
 ·intro h;rw [Int.emod_def];exact Int.dvd_sub h h1
def X2:Sp:=λvs H Q _=>∃ a b:Int,vs = [.int a,.int b]/\0 < b/\Q (.int (Int.gcd a b)) H
theorem X1:b_ ["a", "b"] ["a", "b"] (aF tR):=.of
theorem aFg (G:Fn K mg "common" tR ["a", "b"] f fd) (B:Bl mg):c_ P w K mg base d_ 1 f fd ["a", "b"] X2:=by
 refine G.fn.oK X1 λfe A outer s H vs Q E hr h=>?_
 ·obtain ⟨a,b,rfl,hb,k⟩:=h;refine ⟨_,(aE (pP bc.never (aO iB (pv 1) aH ft)
   (aI (aJL (i:=0) (j:=1) rfl X1.nd rfl rfl 'c' rfl rfl (aA (pv 1) (aA (aS mW (pv 0) (pv 1)) aC)) rfl)))
  (aI (aP (pv 0)))),?_⟩
  refine ⟨λm σ H1=>∃ x y:Int,σ = [some (.int x),some (.int y)]/\H1=H/\m=y.toNat/\0<=y/\Int.gcd x y=Int.gcd a b/\(y=0->0 < x),⟨_,a,b,rfl,rfl,rfl,by omega,rfl,by omega⟩,?_⟩;rintro m σ H1 ⟨x,y,rfl,rfl,rfl,hy,hg,hx⟩;refine ⟨_,rfl,rfl,_,rfl,eP (λc=>?_) (λc=>?_)⟩
  ·have Kh:y≠0:=by simpa using c
   have hyp:0 < y:=by omega
   refine ⟨λσ H2=>∃ u v:Int,σ = [some (.int u),some (.int v)]/\H2=H1/\v.toNat < y.toNat/\0<=v/\Int.gcd u v=Int.gcd a b/\(v=0->0 < u),?_,?_⟩
   ·rintro d9 H' ⟨u,v,rfl,rfl,h1,h2,h3,h4⟩;exact ⟨_,h1,u,v,rfl,rfl,rfl,h2,h3,h4⟩
   ·refine ⟨_,rfl,_,rfl,_,rfl,_,_,rfl,rfl,hyp,_,_,rfl,?_⟩;have l2:=Zn x hyp;exact ⟨y,x % y,rfl,rfl,by omega,Zp x Kh,(aG4 x y).trans hg,λ_=>hyp⟩
  ·have Kh:y=0:=by simpa using c
   subst Kh;refine ⟨_,rfl,?_⟩;have kr:=hx rfl;have:(Int.gcd a b:Int)=x:=by grind [Int.gcd_zero]
   rw [this] at k;exact k
def X0:Sp:=λvs H Q _=>∃ a b:Int,vs = [.int a,.int b]/\0 < b/\b < 2^1000/\∀ p,H p=none->Q (.ref p) (upd H p (.tup [.int (BO a b),.int (AZ a b)]))
theorem aKx {a b m:Int} (hb:0 < b) (h:b < m):(Int.gcd a b:Int) < m:=Int.lt_of_le_of_lt (Int.gcd_le_right a hb) h
theorem aMt {b:Int} (h0:0 < b) (h:b < 2^1000):b.natAbs < 2^4000:=by grind
theorem XZ:b_ ["a", "b", "most"] ["a", "b"] (aF tS):=.of
theorem aFh {fC:ae} {dC:bh} (G:Fn K mg "lowest" tS ["a", "b"] f fd) (B:Bl mg) (GC:Fn K mg "common" tR ["a", "b"] fC dC):c_ P w K mg base d_ 2 f fd ["a", "b"] X0:=by
 have OC:c_ P w K mg base d_ 1 fC dC ["a", "b"] X2:=aFg GC B;refine G.fn.oK XZ λfe A outer s H vs Q E hr h=>?_
 ·obtain ⟨a,b,rfl,hb,KS,k⟩:=h;refine ⟨_,(aE (aU (i:=2) XZ.nd rfl eh (fU GC OC hr rfl (aA (pv 0) (aA (pv 1) aC))))
  (aI (aP (cH (aA (aS wE (pv 0) (pv 2)) (aA (aS wE (pv 1) (pv 2)) aC)))))),?_⟩
  have g0:=U6 (a:=a) hb;have g1:=aMt g0 (aKx (a:=a) hb KS);exact ⟨_,rfl,_,rfl,a,b,rfl,hb,_,rfl,_,rfl,_,_,rfl,rfl,⟨g0,g1⟩,_,rfl,_,rfl,_,_,rfl,rfl,⟨g0,g1⟩,om _ _,λp hp=>k p hp⟩
theorem aIR (v:V):(!decide (v=v))=false:=by simp
noncomputable def pA (x:Int×Int):au:=.tuple [.int x.1,.int x.2]
theorem qU {x:Int×Int}:Den K H (pA x) v↔∃ p,v=.ref p/\dt K H p [.int x.1,.int x.2]:=by
 constructor
 ·intro h;obtain ⟨p,xs,rfl,hp,hx⟩:=cJ.mp h;obtain ⟨x1,r1,rfl,d1,Bs⟩:=aQ.mp hx;obtain ⟨x2,r2,rfl,d2,jt⟩:=aQ.mp Bs;rw [bB.mp jt,cU.mp d1,cU.mp d2] at hp;exact ⟨p,rfl,hp⟩
 ·rintro ⟨p,rfl,hp⟩;exact cJ.mpr ⟨p,_,rfl,hp,aQ.mpr ⟨_,_,rfl,cU.mpr rfl,aQ.mpr ⟨_,_,rfl,cU.mpr rfl,bB.mpr rfl⟩⟩⟩
theorem dA {l:List α} {x:α} (h:l[i]?=some x):l.take (i+1)=l.take i++[x]:=by simp_all [Wf]
theorem iV {f:α->au} {ps:List α} (h:bC K H (ps.map f) vs) (hv:vs[i]?=some v):∃ x,ps[i]?=some x/\Den K H (f x) v:=by
 obtain ⟨d,hd,vd⟩:=iR h hv;rw [Qh] at hd;obtain ⟨x,hx,rfl⟩:=Qo.mp hd;exact ⟨x,hx,vd⟩
section
variable {dK:bh}
noncomputable def E5 (s:LIn) (g:Int):au:=.tuple [cR s,.int g]
theorem wQ {s:LIn} {g:Int} (h:Den K H (E5 s g) v):∃ p q,v=.ref p/\dt K H p [.ref q,.int g]/\dt K H q (s.map V.int):=by
 obtain ⟨p,xs,rfl,hp,hx⟩:=cJ.mp h;obtain ⟨x1,r1,rfl,d1,Bs⟩:=aQ.mp hx;obtain ⟨x2,r2,rfl,d2,jt⟩:=aQ.mp Bs;rw [bB.mp jt] at hp;obtain ⟨q,rfl,hq⟩:=bK.mp d1;rw [cU.mp d2] at hp;exact ⟨p,q,rfl,hp,hq⟩
theorem rZ {s:LIn} {g:Int} {p:ae} (h1:dt K H p [.ref q,.int g]) (h2:dt K H q (s.map V.int)):Den K H (E5 s g) (.ref p) :=
 cJ.mpr ⟨p,_,rfl,h1,aQ.mpr ⟨_,_,rfl,bK.mpr ⟨q,rfl,h2⟩,aQ.mpr ⟨_,_,rfl,cU.mpr rfl,bB.mpr rfl⟩⟩⟩
theorem aB9 (s:LIn) (g:Int):iK (E5 s g)=true:=by simp [E5,iK,iL,sV]
theorem aKy {a:ae} {u:HO} (e:aD H H') (h:H a=none):aD H (upd H' a u):=λb o q=>by
 rw [aG (λz=>by rw [z,h] at q; cases q)];exact e b o q
def Dr (ws:List (LIn)) (wt:LIn):Prop:=wt.length=ws.length/\∀ w∈wt,0<=w/\w<=99
theorem aLy {p:ae} (h:dt K H p (l.map V.int)):Den K H (.tuple (l.map .int)) (.ref p):=bK.mpr ⟨p,rfl,h⟩
theorem aKz {b:Bool} (h:((List.replicate n b).map V.bl)[i]?=some v):v=.bl b:=by
 rw [Qh] at h;obtain ⟨c,hc,rfl⟩:=Qo.mp h;rw [Wg (Qd hc)]
theorem aAQ (hs:LIn):(eX hs).length=2^hs.length:=by simp [gQ,Jl,aFc]
theorem wR (hs:LIn):∀ s∈eX hs,s.length<=hs.length:=λs h=>by
 rw [gQ] at h;rcases Ql.mp h with rfl | h
 ·exact Ji _
 ·exact tD hs s h
theorem aIS {m:Nat} (h:m<=n):2^m<=2^n:=Wv 'c' h
def U5 (K:Rb):Sp:=λvs H Q _=>∃ (x:V) (n:Int) (ws:List (LIn)) (wp:ae) (wt:LIn),vs = [x,.ref wp]/\Den K H (gM n ws) x/\fF (gM n ws)=true/\dt K H wp (wt.map V.int)/\Dr ws wt/\∀ H',aD H H'->Q (.bl true) H'
theorem aIT:b_ ["book", "thing"] ["book", "thing"] (aF vR):=.of
theorem aG5 (G:Fn K mg "are_weights" vR ["book", "thing"] f fd) (B:Bl mg) (R:Pr K mg fW fH fK fB uw fD wa fL dW dH dK dB uy dD wb dL):c_ P w K mg base d_ 5 f fd ["book", "thing"] (U5 K):=by
 have OW:c_ P w K mg base d_ 1 fW dW ["thing"] (mB K):=nU R.W B;have ONB:c_ P w K mg base d_ 4 uw uy ["book"] (MU K):=XT B R;obtain ⟨DI,Ea⟩:=B.mw;refine G.fn.oK aIT λfe A outer s H vs Q E hr h=>?_
 ·obtain ⟨x,n,ws,wp,wt,rfl,hx,vz,hw,mn,k⟩:=h;have r1:dj 1 _:=hr.mono 'c';have r4:dj 4 _:=hr;refine ⟨_,(aE (bY (fU R.NB ONB r4 rfl (aA (pv 0) aC)))
  (aE (bQ (PW.pt (fP (cV (cD (aK eJ rfl B.isinstance nL (aA (pv 1) (aA (iX (v:=.ty "tuple") rfl B.tuple gB rfl) aC))))) (eA (aO iB (aK aR rfl B.len cO (aA (pv 1) aC)) (aK aR rfl B.len cO (aA (bM dN (pv 0) aH gb) aC)) ft))))
   (aI (aP jY))
   aW)
  (aI (aP (aK (jB rfl) rfl B.all sS (aA (cM (own:=["weight"]) (fr:=[]) (ff:=[]) (aX (aF vR) ["book", "thing"] rfl rfl 'd') rfl (hG (pv 1))
    (λ_ _ _ _=>(aM (i:=0) (show (["weight"]:List aj).Nodup by decide +kernel) rfl eh)) (λ_ _ _ _=>cQ)
    (λ_ _ _ _=>(lR (fU R.W OW r1 rfl (aA (pv 0) aC)) (kX (X5 uJ uJ aH (pv 0) (iW (v:=.int 99) rfl Ea ⟨DI,rfl⟩)))))) aC)))))),?_⟩
  dsimp only [cB,Cx.gf];refine ⟨_,rfl,x,_,rfl,hx,vz,λH1 s1=>?_⟩;have Gg:=s1.di hw;obtain ⟨c,b,ys,e,hc,z?,NS⟩:=iI (s1.den _ _ hx);cases e;have Gv:=aT NS;rw [Qa] at Gv;obtain ⟨_,_,oi,_⟩:=aV vz;refine ⟨_,rfl,.ref wp,.tup,rfl,(aLy Gg).kd,_,rfl,iQ ?_⟩;refine ⟨_,rfl,wp,_,rfl,.inr Gg,_,rfl,c,_,1,.ref b,rfl,rfl,hc,rfl,b,ys,rfl,.inr z?,rfl,_,rfl,cS (by rw [Qa,mn.1,Gv]; exact aIR _) ?_⟩;refine ⟨_,rfl,wp,rfl,⟨_,Gg⟩,WZ (K:=K) (a:=wp) (xs:=wt.map V.int) (vs:=(List.replicate wt.length true).map V.bl) (λσ=>∃ v,σ = [v]) (by rw [Qa,mn.1]; omega) 'b' Gg ⟨none,rfl⟩ ?_ ?_⟩
  ·rintro i u v σ H2 hu hv ⟨v0,rfl⟩ s2 Q' k';rw [aKz hv] at k';obtain ⟨z,hz,rfl⟩:=Jc.mp (Qd hu);have:=mn.2 z hz;refine ⟨_,rfl,.int z,.int z,rfl,cU.mpr rfl,_,rfl,iE ⟨_,rfl,_,_,rfl,rfl,_,rfl,dM (decide_eq_true this.1) ⟨_,_,rfl,rfl,?_⟩⟩⟩;show Q' (.bl (decide (z<=99))) _ _;rw [decide_eq_true this.2];exact k' _ _ ⟨_,rfl⟩ (aD.refl _)
  ·intro H3 s3 p hp;refine ⟨p,List.replicate wt.length true,rfl,dm.of aB,?_⟩;rw [show (List.replicate wt.length true).all id=true by simp];exact k _ (s1.trans (s3.trans (aD.new hp)))
def WV (K:Rb):Sp:=λvs H Q _=>∃ (x:V) (n:Int) (ws:List (LIn)) (wp:ae) (wt:LIn),vs = [x,.ref wp]/\Den K H (gM n ws) x/\fF (gM n ws)=true/\dt K H wp (wt.map V.int)/\Dr ws wt/\∀ H',aD H H'->Q .fk H'
theorem aG6:b_ ["book", "weights"] ["book", "weights"] (aF tT):=.of
theorem aFj (G:Fn K mg "need_weights" tT ["book", "weights"] f fd) (GAW:FF P w K mg base d_ 5 "are_weights" vR ["book", "thing"] (U5 K)):c_ P w K mg base d_ 6 f fd ["book", "weights"] (WV K):=by
 refine G.fn.oK aG6 λfe A outer s H vs Q E hr h=>?_
 ·obtain ⟨x,n,ws,wp,wt,rfl,hx,vz,hw,mn,k⟩:=h;have r5:dj 5 _:=hr;refine ⟨_,(aI (bQ (cV (cD (bF GAW r5 rfl (aA (pv 0) (aA (pv 1) aC)))))
   cW
   aW)),?_⟩
  exact ⟨_,rfl,_,rfl,x,n,ws,wp,wt,rfl,hx,vz,hw,mn,λH1 s1=>⟨_,rfl,iQ (k _ s1)⟩⟩
def wS (K:Rb):Sp:=λvs H Q _=>∃ (p q:ae) (l s:LIn),vs = [.ref p,.ref q]/\dt K H p (l.map V.int)/\dt K H q (s.map V.int)/\l.length<=1000/\∀ H',aD H H'->Q (.bl (mJ s l)) H'
theorem aG7:b_ ["able", "some"] ["able", "some"] (aF oF):=.of
theorem aFk (G:Fn K mg "is_within" oF ["able", "some"] f fd) (B:Bl mg):c_ P w K mg base d_ 1 f fd ["able", "some"] (wS K):=by
 refine G.fn.oK aG7 λfe A outer s H vs Q E hr h=>?_
 ·obtain ⟨p,q,l,s',rfl,hp,hq,hl,k⟩:=h;refine ⟨_,(aI (aP (aK (jB rfl) rfl B.all sS (aA (cM (own:=["hand"]) (fr:=[1]) (ff:=["some"]) (aX (aF oF) ["able", "some"] rfl rfl 'd') rfl (hG (pv 0))
    (λ_ _ _ _=>(aM (i:=0) (show (["hand", "some"]:List aj).Nodup by decide +kernel) rfl eh)) (λ_ _ _ _=>cQ)
    (λ_ _ _ _=>(cL (iT (K:=K) rfl) (pv 0) (pv 1) (by rfl)))) aC)))),?_⟩
  dsimp only [cB,Cx.gf];refine ⟨_,rfl,p,rfl,⟨_,hp⟩,WZ (K:=K) (a:=p) (xs:=l.map V.int) (vs:=(l.map λh=>decide (h∈s')).map V.bl) (λσ=>∃ v,σ = [v,some (.ref q)]) (by simp_all) 'b' hp ⟨none,rfl⟩ ?_ ?_⟩
  ·rintro i u v σ H2 hu hv ⟨v0,rfl⟩ s2 Q' k';rw [Qh] at hu hv;obtain ⟨z,hz,rfl⟩:=Qo.mp hu;rw [Qh,hz] at hv;cases hv;refine ⟨_,rfl,_,rfl,q,s'.map V.int,rfl,.inr (s2.di hq),rfl,iS _,?_⟩;have e:uf (.int z) (s'.map V.int)=decide (z∈s'):=qJ z s';rw [e];exact k' _ _ ⟨_,rfl⟩ (aD.refl _)
  ·intro H3 s3 p2 um;refine ⟨p2,_,rfl,dm.of aB,?_⟩;rw [show (l.map λh=>decide (h∈s')).all id=mJ s' l by unfold mJ; rw [Ws]; rfl];exact k _ (s3.trans (aD.new um))
def UJ (K:Rb):Sp:=λvs H Q _=>∃ (l:ae) (hs:LIn),vs = [.ref l]/\dm K H l (hs.map V.int)/\hs.length<=6/\∀ p xs H',aD H H'->H p=none->H' p=some (.lst xs)->bC K H' ((iM hs).map cR) xs->Q (.ref p) H'
theorem HW:b_ ["hands", "sets", "hand"] ["hands"] (aF E2):=.of
theorem aIU (G:Fn K mg "sets_of" E2 ["hands"] f fd) (B:Bl mg):c_ P w K mg base d_ 1 f fd ["hands"] (UJ K):=by
 refine G.fn.oK HW λfe A outer s H vs Q E hr h=>?_
 ·obtain ⟨l,hs,rfl,hl,h6,k⟩:=h;refine ⟨_,(aE (aU (i:=1) HW.nd rfl eh (eG (aA (cH aC) aC)))
  (aE (jH bc.never rfl (cZ (pv 0)) (aM (i:=2) HW.nd rfl (Or.inr rfl))
   (aI (aU (i:=1) HW.nd rfl eh (aS fE (pv 1) (cM (own:=["some"]) (fr:=[2]) (ff:=["hand"]) (aX (aF E2) ["hands", "sets", "hand"] rfl rfl 'd') rfl (cZ (pv 1))
    (λ_ _ _ _=>(aM (i:=0) (show (["some", "hand"]:List aj).Nodup by decide +kernel) rfl eh)) (λ_ _ _ _=>cQ)
    (λ_ _ _ _=>(aS (kD (K:=K) rfl) (pv 0) (cH (aA (pv 1) aC)))))))))
  (aI (aP (eV tN (pv 1) (gT aH) gS))))),?_⟩
  dsimp only [cB,Cx.gf];refine ⟨cK (Ji _),λp0 h0=>⟨Bh _,λp1 h1=>?_⟩⟩;have s1:=(aD.new (o:=.tup []) h0).trans (aD.new (o:=.lst [.ref p0]) h1);have n1:H p1=none:=(aD.new (o:=.tup []) h0).free h1;have e1:upd (upd H p0 (.tup [])) p1 (.lst [.ref p0]) p1=some (.lst [.ref p0]):=aB;have d1:bC K (upd (upd H p0 (.tup [])) p1 (.lst [.ref p0])) ((eX (hs.take 0)).map cR) [.ref p0]:=aQ.mpr ⟨_,_,rfl,bK.mpr ⟨p0,rfl,(aD.new h1).di (dt.of aB)⟩,bB.mpr rfl⟩;generalize upd (upd H p0 (.tup [])) p1 (.lst [.ref p0])=H1 at s1 e1 d1 ⊢;refine ⟨_,rfl,l,rfl,⟨_,s1.iq hl⟩,gR .l (K:=K) (a:=l) (xs:=hs.map V.int) (λi σ H2=>∃ q xs v,σ = [some (.ref l),some (.ref q),v]/\aD H H2/\H q=none/\H2 q=some (.lst xs)/\bC K H2 ((eX (hs.take i)).map cR) xs) ⟨p1,_,none,rfl,s1,n1,e1,d1⟩ (λi σ H2 _ ⟨_,_,_,_,s2,_⟩=>s2.iq hl) ?_ ?_⟩
  ·rintro i y σ H2 hy ⟨q,xs,v,rfl,s2,nq,hq,hd⟩;rw [Qh] at hy;obtain ⟨h,hh,rfl⟩:=Qo.mp hy;have hi:i < hs.length:=(Qb.mp hh).1;have Aw:xs.length=2^i:=by
    rw [aT hd,Qa,aAQ,Qs,Nat.min_eq_left 'a']
   have aae:xs.length<=32:=by rw [Aw]; exact aIS (n:=5) 'a'
   refine ⟨_,rfl,_,rfl,q,rfl,⟨_,dm.of hq⟩,eZ (K:=K) (a:=q) (xs:=xs) (λσ=>∃ v,σ = [v,some (.int h)]) (λj ys H3=>aD H2 H3/\bC K H3 (((eX (hs.take i)).take j).map λt=>cR (t++[h])) ys) (cK 'a') ⟨none,rfl⟩ ⟨aD.refl _,bB.mpr rfl⟩ ?_ (λj ys H3 ⟨s3,_⟩=>s3.iq (dm.of hq)) ?_ ?_⟩
   ·rintro j ys H3 ⟨_,Dd⟩;rw [aT Dd,Qa,Qs];exact Xf _ _
   ·rintro j ys σ x H3 hx ⟨v0,rfl⟩ ⟨s3,Dd⟩ hz;obtain ⟨d,Eo,hd2⟩:=iR (s3.fh _ _ hd) hx;rw [Qh] at Eo;obtain ⟨t,ht,rfl⟩:=Qo.mp Eo;obtain ⟨a,rfl,ha⟩:=bK.mp hd2;have ht5:t.length<=i:=by
     have:=wR _ t (Qd ht);rw [Qs] at this;omega
    refine ⟨_,rfl,_,rfl,Bh _,λpt uk=>⟨a,pt,_,_,rfl,rfl,(aD.new uk).di ha,dt.of aB,cK (by grind),λpc H4 s4 mq=>?_⟩⟩;have Ao:=(aD.new (o:=.tup [.int h]) uk).trans s4;refine ⟨hz,⟨_,rfl⟩,s3.trans Ao,?_⟩;rw [Wf,ht,Qm];refine eF (Ao.fh _ _ Dd) (aQ.mpr ⟨_,_,rfl,bK.mpr ⟨pc,rfl,?_⟩,bB.mpr rfl⟩);rw [Qm];exact mq
   ·rintro ys H3 ⟨s3,Dd⟩ pn s_;have sy:ys.length<=32:=by grind [aT,Qa,Qs]
    refine ⟨q,pn,xs,ys,rfl,rfl,(s3.trans (aD.new s_)) _ _ hq,aB,cK 'a',λpr oq=>?_⟩;have sk:=s3.trans ((aD.new (o:=.lst ys) s_).trans (aD.new (o:=.lst (xs++ys)) oq));refine ⟨pr,xs++ys,_,rfl,s2.trans sk,(s2.trans (s3.trans (aD.new s_))).free oq,aB,?_⟩;rw [Wf,hh,show (some h).toList = [h] from rfl,lA,Qm,Xi];refine eF (sk.fh _ _ hd) ?_;have e:xs.length=(eX (hs.take i)).length:=by rw [aT hd,Qa]
    rw [e,Qu] at Dd;exact ((aD.new s_).trans (aD.new oq)).fh _ _ Dd
  ·rintro σ H2 ⟨q,xs,v,rfl,s2,nq,hq,hd⟩;refine ⟨_,rfl,_,rfl,q,xs,rfl,dm.of hq,λpr oq=>?_⟩;have e:mY xs (some 1) none=xs.drop 1:=lC xs 1;rw [e];rw [Qa,Qu,gQ,Jb] at hd;obtain ⟨x,r,rfl,_,jt⟩:=aQ.mp hd;exact k pr _ _ (s2.trans (aD.new oq)) (s2.free oq) aB ((aD.new oq).fh _ _ jt)
noncomputable def pD (r:LIn×Int):au:=E5 r.1 r.2
theorem aG9 (rows:eY) (s:LIn):mj rows (gc s)=fQ ((rows.filter λr=>mJ s r.1).map (·.2)):=UK _ (λr:LIn×Int=>r.1.all (gc s)) rows
def A1 (rows:eY):Prop:=∀ r∈rows,r.1.length<=6/\0<=r.2/\r.2<=99
theorem UA (h:A1 rows) (p:Int->Bool):0<=mj rows p/\mj rows p<=rows.length*99:=by
 refine ⟨qT λr hr=>?_,?_⟩
 ·have:=h r hr;by_cases c:r.1.all p=true
  ·simp_all
  ·rw [if_neg c]; exact Jz _
 ·rw [<- rY (f:=λ_:LIn×Int=>(99:Int)) (l:=rows) λ_ _=>rfl];refine wP λr hr=>?_;have:=h r hr;by_cases c:r.1.all p=true
  ·simp_all
  ·rw [if_neg c]; omega
theorem uE {i:Int} (h:i.natAbs<=1000000):i.natAbs < 2^4000:=Qn (Xo h (show 1000000 < 2^20 by decide)) (Wv 'c' 'c')
def T_ (K:Rb):Sp:=λvs H Q _=>∃ (lp rp:ae) (hs:LIn) (zs:List V) (rows:eY),vs = [.ref lp,.ref rp]/\dm K H lp (hs.map V.int)/\dm K H rp zs/\bC K H (rows.map pD) zs/\hs.length<=6/\rows.length<=12/\A1 rows /\
 ∀ p q b m H',aD H H'->dt K H' p [.ref q,.int m]->dt K H' q (b.map V.int)->mK rows (iM hs) b m->Q (.ref p) H'
theorem fZ:b_ ["hands", "rows", "best", "most", "some", "weight", "more"] ["hands", "rows"] (aF lG):=.of
def Pq (K:Rb) (lp rp:ae) (rows:eY) (ss:List (LIn)) (H2:Hp) (i:Nat) (σ:St) (H3:Hp):Prop:=∃ b q m v4 v5 v6,σ = [some (.ref lp),some (.ref rp),some (.ref q),some (.int m),v4,v5,v6]/\aD H2 H3/\dt K H3 q (b.map V.int)/\mK rows (ss.take i) b m/\b.length<=6/\0<=m/\m<=10000
theorem aIV (G:Fn K mg "heaviest" lG ["hands", "rows"] f fd) (B:Bl mg) (A4:FF P w K mg base d_ 1 "sets_of" E2 ["hands"] (UJ K)) (Nz:FF P w K mg base d_ 1 "is_within" oF ["able", "some"] (wS K)):c_ P w K mg base d_ 2 f fd ["hands", "rows"] (T_ K):=by
 refine G.fn.oK fZ λfe A outer s H vs Q E hr h=>?_
 ·obtain ⟨lp,rp,hs,zs,rows,rfl,mr,uh,hd,h6,oi,Kp,k⟩:=h;have r1:dj 1 _:=hr;refine ⟨_,(aE (aU (i:=2) fZ.nd rfl eh (cH aC))
  (aE (aU (i:=3) fZ.nd rfl eh aH)
  (aE (jH bc.never rfl (cZ (bF A4 r1 rfl (aA (pv 0) aC))) (aM (i:=4) fZ.nd rfl (Or.inr rfl))
   (aE (aU (i:=5) fZ.nd rfl eh (aK (XB rfl) rfl B.sum S7 (aA (cM (own:=["able", "heft"]) (fr:=[4]) (ff:=["some"]) (aX (aF lG) ["hands", "rows", "best", "most", "some", "weight", "more"] rfl rfl 'd') rfl (cZ (pv 1))
    (λ_ _ _ _=>(oI (K:=K) (n:=2) rfl rfl (bD (aM (i:=0) (show (["able", "heft", "some"]:List aj).Nodup by decide +kernel) rfl eh) (bD (aM (i:=1) (show (["able", "heft", "some"]:List aj).Nodup by decide +kernel) rfl eh) eT)))) (λ_ _ _ _=>nE (cD (bF Nz r1 rfl (aA (pv 0) (aA (pv 2) aC)))))
    (λ_ _ _ _=>(pv 1))) aC)))
  (aE (aU (i:=6) fZ.nd rfl eh (aS jZ (aS V5 (pv 5) (aK aR rfl B.len cO (aA (pv 2) aC))) (aS V5 (pv 3) (aK aR rfl B.len cO (aA (pv 4) aC)))))
  (aI (bQ (PW.pt (fP (aO oV (pv 6) aH ft) (eA (PW.pt (mU (aO cY (pv 6) aH ft) (lQ (aO oV (aK aR rfl B.len cO (aA (pv 4) aC)) (aK aR rfl B.len cO (aA (pv 2) aC)) ft)))))))
   (aE (aU (i:=2) fZ.nd rfl eh (pv 4))
  (aI (aU (i:=3) fZ.nd rfl eh (pv 5))))
   aW)))))
  (aI (aP (cH (aA (pv 2) (aA (pv 3) aC)))))))),?_⟩
  dsimp only [cB,Cx.gf];have vp:=aT hd;rw [Qa] at vp;refine aN λu hu=>bJ ⟨cK (Ji _),λp0 h0=>?_⟩;have s1:=aD.new (o:=.tup []) h0;have e1:dt K (upd H p0 (.tup [])) p0 (([]:LIn).map V.int):=dt.of aB;generalize upd H p0 (.tup [])=H1 at s1 e1 ⊢;subst hu;refine bJ ?_;refine aN λu hu=>dO ⟨_,rfl,lp,hs,rfl,s1.iq mr,h6,λsp xs H2 s2 O5 i9 zh=>?_⟩;have jd:=s1.trans s2;refine ⟨sp,rfl,⟨_,dm.of i9⟩,gR .l (K:=K) (a:=sp) (xs:=xs) (Pq K lp rp rows (iM hs) H2) ⟨[],p0,0,none,none,none,rfl,aD.refl _,s2.di e1,rfl,by simp,by decide,by decide⟩ (λi σ H3 _ ⟨_,_,_,_,_,_,_,s3,_⟩=>s3.iq (dm.of i9)) ?_ ?_⟩
  ·rintro i x σ H3 hx ⟨b,q,m,v4,v5,v6,rfl,s3,hq,hb,z!,k?,qp⟩;obtain ⟨t,ht,Φ⟩:=iV zh hx;obtain ⟨a,rfl,ha⟩:=bK.mp Φ;have Er:=s3.di ha;have Bq:t∈iM hs:=Qd ht;have Py:t.length<=6:=Qr (tD hs t Bq) h6;have jf:=jd.trans s3;have hW:=UA Kp (gc t);clear hu;refine aN λu hu=>bJ ⟨_,rfl,rp,rfl,⟨_,jf.iq uh⟩,eZ (K:=K) (a:=rp) (xs:=zs) (λσ=>∃ v w,σ = [v,w,some (.ref a)]) (λj ys H4=>aD H3 H4/\ys=(((rows.take j).filter λr=>mJ t r.1).map (·.2)).map V.int) (cK 'a') ⟨none,none,rfl⟩ ⟨aD.refl _,rfl⟩ ?_ (λj ys H4 ⟨s4,_⟩=>(jf.trans s4).iq uh) ?_ ?_⟩
   ·rintro j ys H4 ⟨_,rfl⟩;rw [Qa,Qa];exact Qr (Jp _ _) (by rw [Qs]; exact Xf _ _)
   ·rintro j ys σ y H4 hy ⟨v,w,rfl⟩ ⟨s4,rfl⟩ hz;obtain ⟨r,hr,CW⟩:=iV hd hy;obtain ⟨pp,pq,rfl,Bu,yp⟩:=wQ CW;have ni:=jf.trans s4;obtain ⟨r6,r0,r99⟩:=Kp r (Qd hr);refine ⟨pp,_,rfl,ni.di Bu,rfl,_,_,rfl,_,_,rfl,rfl,_,rfl,_,rfl,pq,a,r.1,t,rfl,ni.di yp,s4.di Er,by omega,λH5 s5=>⟨_,rfl,?_⟩⟩;rw [dA hr,Ze,Qm,Qm];cases hw:mJ t r.1 with
    | true =>
     refine iE ⟨_,rfl,hz,⟨_,_,rfl⟩,s4.trans s5,?_⟩;rw [Jm,hw]; rfl
    | false =>
     refine iQ ⟨⟨_,_,rfl⟩,s4.trans s5,?_⟩;rw [Jm,hw];show _=_++[];rw [Xy]
   ·rintro ys H4 ⟨s4,rfl⟩ pn s_;rw [vp,Qu];have s5:=aD.new (o:=.lst (((rows.filter λr=>mJ t r.1).map (·.2)).map V.int)) s_;refine ⟨pn,_,rfl,dm.of aB,λx hx=>?_,?_,?_⟩
    ·obtain ⟨r,hr,rfl⟩:=Jc.mp hx;have:=Kp r (Js.mp hr).1;omega
    ·grind
    ·rw [<- aG9];have sk:=s4.trans s5;generalize upd H4 pn _=H5 at sk ⊢;subst hu;refine aN λu hu=>bJ ⟨_,rfl,_,rfl,q,_,rfl,.inr (sk.di hq),_,_,rfl,rfl,⟨uE 'a',uE (by grind)⟩,_,rfl,_,rfl,a,_,rfl,.inr (sk.di Er),_,_,rfl,rfl,⟨uE 'a',uE (by grind)⟩,_,_,rfl,rfl,?_⟩;rw [Qa,Qa];obtain ⟨c1,c2⟩:=aFf (s:=t) hb;rw [<- dA ht] at c1 c2;dsimp only [gI];have gu:¬ (0 < mj rows (gc t)*b.length - m*t.length∨mj rows (gc t)*b.length - m*t.length=0/\(b.length:Int) < t.length)->∀ x4 x5 x6,Pq K lp rp rows (iM hs) H2 (i+1) [some (.ref lp),some (.ref rp),some (.ref q),some (.int m),x4,x5,x6] H5:=λc _ _ _=>⟨b,q,m,_,_,_,rfl,s3.trans sk,sk.di hq,c2 c,z!,k?,qp⟩
     subst hu;refine ⟨_,rfl,_,_,rfl,rfl,_,rfl,eP (λd=>?_) (λd=>?_)⟩
     ·exact ⟨_,rfl,_,rfl,t,a,_,_,_,_,rfl,s3.trans sk,sk.di Er,c1 (.inl (of_decide_eq_true d)),Py,hW.1,by omega⟩
     ·have n1:¬ 0 < mj rows (gc t)*b.length - m*t.length:=λz=>d (decide_eq_true z);refine ⟨_,rfl,rfl,_,rfl,eP (λd2=>?_) (λd2=>?_)⟩
      ·have e2:mj rows (gc t)*b.length - m*t.length=0:=by simpa using d2
       refine ⟨_,rfl,a,_,rfl,.inr (sk.di Er),_,rfl,q,_,rfl,.inr (sk.di hq),_,_,rfl,rfl,_,rfl,?_⟩;rw [Qa,Qa];refine eP (λd3=>?_) (λd3=>?_)
       ·exact ⟨_,rfl,_,rfl,t,a,_,_,_,_,rfl,s3.trans sk,sk.di Er,c1 (.inr ⟨e2,of_decide_eq_true d3⟩),Py,hW.1,by omega⟩
       ·exact gu (λz=>z.elim n1 λz=>d3 (decide_eq_true z.2)) _ _ _
      ·exact gu (λz=>z.elim n1 λz=>d2 (by rw [z.1]; rfl)) _ _ _
  ·rintro σ H3 ⟨b,q,m,v4,v5,v6,rfl,s3,hq,hb,_⟩;have hl:=aT zh;rw [Qa] at hl;rw [hl,Qu] at hb;dsimp only;subst hu;exact ⟨_,rfl,_,rfl,cK (show 2<=1000 by decide),λp hp=>k p q b m _ (jd.trans (s3.trans (aD.new hp))) (dt.of aB) ((aD.new hp).di hq) hb⟩
end
noncomputable def aIW:dc:=match (dQ jR).getD 4 (.Pass ⟨0,0,0,0⟩) with
 | .While _ [_,_,_,_,.Assign _ (.ListComp _ _ sc _) _] _ _=>sc
 | _=>{ kind:=.function,names:=[],isGenerator:=false,isCoroutine:=false }
noncomputable def zw (b:LIn×Int):au:=.tuple [cR b.1,pA (xW (b.2,(b.1.length:Int)))]
theorem aCb (x:Int×Int):iK (pA x)=true:=by rfl
theorem wT (b:LIn×Int):iK (zw b)=true:=by
 unfold zw iK iL;rw [sV];unfold iL;rw [aCb];unfold iL;rfl
theorem aHc {b:LIn×Int} {p r:ae} (h1:dt K H p [.ref q,.ref r]) (h2:dt K H q (b.1.map V.int)) (h3:dt K H r [.int (xW (b.2,(b.1.length:Int))).1,.int (xW (b.2,(b.1.length:Int))).2]):Den K H (zw b) (.ref p) :=
 cJ.mpr ⟨p,_,rfl,h1,aQ.mpr ⟨_,_,rfl,bK.mpr ⟨q,rfl,h2⟩,aQ.mpr ⟨_,_,rfl,qU.mpr ⟨r,rfl,h3⟩,bB.mpr rfl⟩⟩⟩
theorem aIX {b:LIn×Int} (h:Den K H (zw b) v):∃ p q r,v=.ref p/\dt K H p [.ref q,.ref r]/\dt K H q (b.1.map V.int)/\dt K H r [.int (xW (b.2,(b.1.length:Int))).1,.int (xW (b.2,(b.1.length:Int))).2]:=by
 obtain ⟨p,xs,rfl,hp,hx⟩:=cJ.mp h;obtain ⟨x1,r1,rfl,d1,Bs⟩:=aQ.mp hx;obtain ⟨x2,r2,rfl,d2,jt⟩:=aQ.mp Bs;rw [bB.mp jt] at hp;obtain ⟨q,rfl,hq⟩:=bK.mp d1;obtain ⟨r,rfl,hr⟩:=qU.mp d2;exact ⟨p,q,r,rfl,hp,hq,hr⟩
theorem wU (i:Int) (l:LIn):(!uf (.int i) (l.map V.int))=!gc l i:=by rw [qJ]; rfl
theorem WU (rows:eY) (s:LIn):(i_ rows s).length<=rows.length:=by unfold i_; rw [Qa]; exact Jp _ _
theorem A1.i_ {s:LIn} (h:A1 rows):A1 (i_ rows s):=λr hr=>by
 obtain ⟨r0,h0,rfl⟩:=Jc.mp hr;obtain ⟨a,b,c⟩:=h r0 (Js.mp h0).1;exact ⟨Qr (Jp _ _) a,b,c⟩
theorem wV {n:Int} {wt:LIn} (hb:fF (gM n ws)=true) (hw:Dr ws wt):nV (fN n.toNat) (ws.zip wt)/\A1 (ws.zip wt)/\(ws.zip wt).length<=12:=by
 obtain ⟨h1,h2,h3,h4⟩:=aV hb;have key:∀ r∈ws.zip wt,r.1≠[]/\(∀ h∈r.1,h∈fN n.toNat)/\r.1.length<=6/\0<=r.2/\r.2<=99:=λr hr=>by
  obtain ⟨a,b⟩:=Zz hr;obtain ⟨c1,c2,c3⟩:=bO (h4 _ a);have:=kI 'a' c2 c3;have:=hw.2 _ b;exact ⟨c1,λh hh=>aGZ.mpr (by grind),by omega,this⟩
 exact ⟨λr hr=>⟨(key r hr).1,(key r hr).2.1,(key r hr).2.2.2.1⟩,λr hr=>(key r hr).2.2,by rw [Zh]; omega⟩
theorem aIY {wt:LIn} (hx:bC K H (ws.map cR) xs) (hl:wt.length=ws.length) (hz:zs.length=min xs.length (wt.map V.int).length) (hp:Np H xs (wt.map V.int) zs):bC K H ((ws.zip wt).map pD) zs:=by
 have Aw:=aT hx;rw [Qa] at Aw;rw [Qa] at hz;refine rW (by simp_all) λi d z h1 h2=>?_;obtain ⟨q,x,y,rfl,h3,h4,h5⟩:=hp i z h2;rw [Qh] at h1 h4;obtain ⟨r,hr,rfl⟩:=Qo.mp h1;obtain ⟨g,hg,rfl⟩:=Qo.mp h4;obtain ⟨l,ow,m?⟩:=iV hx h3;obtain ⟨a,rfl,ha⟩:=bK.mp m?;rw [Jh] at hr;rw [ow,hg] at hr;have e1:l=r.1:=Option.some.inj hr.1;have e2:g=r.2:=Option.some.inj hr.2;rw [e1] at ha;rw [e2] at h5;exact rZ (dt.of h5) ha
def Sx (K:Rb) (H:Hp) (a wp tp:ae) (c!:LIn) (rows0:eY) (m:Nat) (σ:St) (H5:Hp):Prop:=∃ lp rp hs zs rows us bs v5 v6,m=Qac hs/\σ = [some (.ref a),some (.ref wp),some (.ref lp),some (.ref rp),some (.ref tp),v5,v6]/\aD H H5/\lp≠tp/\rp≠tp/\H5 lp=some (.lst (hs.map V.int))/\H5 rp=some (.lst zs)/\H5 tp=some (.lst us)/\bC K H5 (rows.map pD) zs/\bC K H5 (bs.map zw) us/\us.length+hs.length<=6/\hs.Nodup/\nV hs rows/\A1 rows/\rows.length<=12/\∀ cC,kT hs rows cC->kT c! rows0 (bs++cC)
def WS (K:Rb):Sp:=λvs H Q _=>∃ (x:V) (n:Int) (ws:List (LIn)) (wp:ae) (wt:LIn),vs = [x,.ref wp]/\Den K H (gM n ws) x/\fF (gM n ws)=true/\dt K H wp (wt.map V.int)/\Dr ws wt /\
 ∀ p us bs H',aD H H'->H p=none->H' p=some (.lst us)->bC K H' (bs.map zw) us->kT (fN n.toNat) (ws.zip wt) bs->us.length<=6->Q (.ref p) H'
theorem iN:b_ ["book", "weights", "left", "rows", "told", "some", "weight"] ["book", "weights"] (aF jR):=.of
theorem aFl (G:Fn K mg "blocks" jR ["book", "weights"] f fd) (B:Bl mg) (GNW:FF P w K mg base d_ 6 "need_weights" tT ["book", "weights"] (WV K)) (GHv:FF P w K mg base d_ 2 "heaviest" lG ["hands", "rows"] (T_ K)) (GL:FF P w K mg base d_ 2 "lowest" tS ["a", "b"] X0) (Nz:FF P w K mg base d_ 1 "is_within" oF ["able", "some"] (wS K)):c_ P w K mg base d_ 7 f fd ["book", "weights"] (WS K):=by
 refine G.fn.oK iN λfe A outer s H vs Q E hr h=>?_
 ·obtain ⟨x,n,ws,wp,wt,rfl,hx,vz,qo,mn,k⟩:=h;have r6:dj 6 _:=hr;have r2:dj 2 _:=hr.mono 'c';have r1:dj 1 _:=hr.mono 'c';refine ⟨_,(aE (bY (bF GNW r6 rfl (aA (pv 0) (aA (pv 1) aC))))
  (aE (aU (i:=2) iN.nd rfl eh (aZ (xM rfl) rfl B.list MT (aA (aZ aBl rfl B.range aIl (aA (bM dN (pv 0) aH gb) aC)) aC)))
  (aE (aU (i:=3) iN.nd rfl eh (aCY .t .t rfl rfl B.list rfl B.zip (aA (bM dN (pv 0) aH gb) (aA (pv 1) aC))))
  (aE (aU (i:=4) iN.nd rfl eh (eG aC))
  (aE (pP bc.never (uL (pv 2) (λ_=>rfl))
   (aE (pB (bF GHv r2 rfl (aA (pv 2) (aA (pv 3) aC))) (lS rfl (bD (aM (i:=5) iN.nd rfl (Or.inr rfl)) (bD (aM (i:=6) iN.nd rfl eh) eT))))
  (aE (bY (kN Rk Rp Rq eI (pv 4) (aA (cH (aA (pv 5) (aA (bF GL r2 rfl (aA (pv 6) (aA (aK aR rfl B.len cO (aA (pv 5) aC)) aC))) aC))) aC)))
  (aE (hU (i:=2) (own:=["hand"]) (fr:=[5]) (ff:=["some"]) (aX (aF jR) ["book", "weights", "left", "rows", "told", "some", "weight"] rfl rfl 'd') rfl iN.nd rfl rfl rfl (cZ (pv 2))
    (λ_ _ _ _=>(aM (i:=0) (show (["hand", "some"]:List aj).Nodup by decide +kernel) rfl eh)) (λ_ _ _ _=>nE (aO (oW (K:=K) rfl) (pv 0) (pv 1) (by rfl)))
    (λ_ _ _ _=>(pv 0)))
  (aE (hU (i:=3) (own:=["able", "heft"]) (fr:=[5]) (ff:=["some"]) (aX (aF jR) ["book", "weights", "left", "rows", "told", "some", "weight"] rfl rfl 'd') rfl iN.nd rfl rfl rfl (cZ (pv 3))
    (λ_ _ _ _=>(oI (K:=K) (n:=2) rfl rfl (bD (aM (i:=0) (show (["able", "heft", "some"]:List aj).Nodup by decide +kernel) rfl eh) (bD (aM (i:=1) (show (["able", "heft", "some"]:List aj).Nodup by decide +kernel) rfl eh) eT)))) (λ_ _ _ _=>nE (cV (cD (bF Nz r1 rfl (aA (pv 0) (aA (pv 2) aC))))))
    (λ_ _ _ _=>(cH (aA (pv 0) (aA (pv 1) aC)))))
  (aI (hU (i:=3) (own:=["able", "heft"]) (fr:=[5]) (ff:=["some"]) (aX (aF jR) ["book", "weights", "left", "rows", "told", "some", "weight"] rfl rfl 'd') rfl iN.nd rfl rfl rfl (cZ (pv 3))
    (λ_ _ _ _=>(oI (K:=K) (n:=2) rfl rfl (bD (aM (i:=0) (show (["able", "heft", "some"]:List aj).Nodup by decide +kernel) rfl eh) (bD (aM (i:=1) (show (["able", "heft", "some"]:List aj).Nodup by decide +kernel) rfl eh) eT)))) (λ_ _ _ _=>cQ)
    (λ_ _ _ _=>(cH (aA (aZ (wC (K:=K) rfl) rfl B.tuple gB (aA (cM (own:=["hand"]) (fr:=[2]) (ff:=["some"]) (aX (aMi aIW (aF jR)) ["able", "heft", "some"] rfl rfl 'd') rfl (Ng (K:=K) rfl (pv 0))
    (λ_ _ _ _=>(aM (i:=0) (show (["hand", "some"]:List aj).Nodup by decide +kernel) rfl eh)) (λ_ _ _ _=>nE (aO (oW (K:=K) rfl) (pv 0) (pv 1) (by rfl)))
    (λ_ _ _ _=>(pv 0))) aC)) (aA (pv 1) aC)))))))))))
  (aI (aP (pv 4)))))))),?_⟩
  dsimp only [cB,Cx.gf];obtain ⟨a,b,ys,rfl,ha,hb,sx⟩:=iI hx;have Gv:=aT sx;rw [Qa] at Gv;obtain ⟨ju,ie,oi,_⟩:=aV vz;obtain ⟨RO,RS,RL⟩:=wV vz mn;refine aN λu hu=>yX ⟨_,rfl,_,rfl,_,n,ws,wp,wt,rfl,hx,vz,qo,mn,λH1 s1=>?_⟩;subst hu;refine aN λu hu=>bJ ⟨_,rfl,a,_,0,.int n,rfl,rfl,s1.di ha,rfl,n,rfl,λpr oq=>⟨pr,n.toNat,rfl,by rw [aB,Zk 'a'],by omega,λlp mr=>?_⟩⟩;have s2:=s1.trans ((aD.new (o:=.so 0 n) oq).trans (aD.new (o:=.lst ((fN n.toNat).map V.int)) mr));have el:upd (upd H1 pr (.so 0 n)) lp (.lst ((fN n.toNat).map V.int)) lp=some (.lst ((fN n.toNat).map V.int)):=aB;generalize upd (upd H1 pr (.so 0 n)) lp (.lst ((fN n.toNat).map V.int))=H2 at s2 el ⊢;subst hu;refine aN λu hu=>bJ ⟨_,rfl,a,_,1,.ref b,rfl,rfl,s2.di ha,rfl,_,rfl,b,wp,ys,_,rfl,s2.di hb,s2.di qo,aId (K:=K) (k1:=.t) (k2:=.t) (s2.di hb) (s2.di qo) (by rw [Rf]; omega) λrp zs H3 s3 ZV uh vp NZ=>?_⟩;have yl:=s2.trans s3;have D3:bC K H3 ((ws.zip wt).map pD) zs:=aIY (yl.fh _ _ sx) mn.1 vp NZ;subst hu;refine aN λu hu=>bJ ⟨cK (Ji _),λtp k8=>?_⟩;have Ao:=aD.new (o:=.lst []) k8;have JM:H tp=none:=yl.free k8;have et:upd H3 tp (.lst []) tp=some (.lst []):=aB;have Sm:=Ao _ _ (s3 _ _ el);have Sl:=Ao _ _ uh;have nl:lp≠tp:=λz=>by rw [<- z,s3 _ _ el] at k8; cases k8
  have nr:rp≠tp:=λz=>by rw [<- z,uh] at k8; cases k8
  have D4:=Ao.fh _ _ D3;have s4:=yl.trans Ao;generalize upd H3 tp (.lst [])=H4 at Ao et Sm Sl D4 s4 ⊢
  -- the while
  subst hu;refine aN λu hu=>dO ⟨Sx K H a wp tp (fN n.toNat) (ws.zip wt),
   ⟨_,lp,rp,fN n.toNat,zs,ws.zip wt,[],[],none,none,rfl,rfl,s4,nl,nr,Sm,Sl,et,D4,bB.mpr rfl,by rw [fX]; show 0+_<=6; omega,aIN _,RO,RS,RL,λcC h=>h⟩,?_⟩
  rintro m σ H5 ⟨lp,rp,hs,zs,rows,us,bs,v5,v6,rfl,rfl,s5,nl,nr,el,er,et,DR,DB,hlen,lg,RO,RS,RL,Bc⟩;refine ⟨_,rfl,!(hs.map V.int).isEmpty,.inl ⟨_,dm.of el,rfl⟩,?_⟩;by_cases gw:hs = []
  ·subst gw;refine iQ (hu ▸ ⟨_,rfl,k tp us bs H5 s5 JM et DB ?_ 'a'⟩);have:=Bc [] rfl;rwa [Xy] at this
  ·refine dM (by cases hs with
    | nil=>exact absurd rfl gw
    | cons _ _=>rfl) ?_
   obtain ⟨N,hN⟩:∃ N:St->Hp->Prop,N=λd9 H'=>∃ m',m' < hs.length/\Sx K H a wp tp (fN n.toNat) (ws.zip wt) m' d9 H':=⟨_,rfl⟩
   refine ⟨N,λd9 H' z=>by rwa [hN] at z,?_⟩;clear hu;refine aN λu hu=>dO ⟨_,rfl,_,rfl,lp,rp,hs,zs,rows,rfl,dm.of el,dm.of er,DR,by omega,RL,RS,λp q c mm H6 s6 hp hq FV=>?_⟩;have HV:=aIM lg gw FV;obtain ⟨c1,c2,c3,_⟩:=id HV;have cl:c.length<=6:=by grind
   have c0:0 < c.length:=Xk.mpr c1;refine ⟨p,_,rfl,hp,rfl,_,_,rfl,_,_,rfl,rfl,?_⟩;dsimp only;subst hu;refine aN λu hu=>yX ⟨_,rfl,.inl ⟨rfl,_,dm.of (s6 _ _ et)⟩,_,rfl,_,rfl,_,rfl,q,_,rfl,.inr hq,mm,_,rfl,by rw [Qa]; omega,?_,λpf e?=>⟨cK (show 2<=1000 by decide),λpb Kq=>?_⟩⟩
   ·grind
   -- told,one block more
   have Gw:(((c.map V.int).length:Nat):Int)=c.length:=by simp
   rw [Gw] at Kq ⊢;have s7:=(aD.new (o:=.tup [.int (BO mm c.length),.int (AZ mm c.length)]) e?).trans (aD.new (o:=.tup [.ref q,.ref pf]) Kq);have db:Den K (upd (upd H6 pf (.tup [.int (BO mm c.length),.int (AZ mm c.length)])) pb (.tup [.ref q,.ref pf])) (zw (c,mm)) (.ref pb):=aHc (dt.of aB) (s7.di hq) ((aD.new Kq).di (dt.of aB));generalize upd (upd H6 pf (.tup [.int (BO mm c.length),.int (AZ mm c.length)])) pb (.tup [.ref q,.ref pf])=H7 at s7 db ⊢;have CN:=s6.trans s7;have EC:=CN _ _ et;refine ⟨tp,us,.ref pb,rfl,rfl,EC,by rw [Rf]; omega,?_⟩;have b8:fg tp H7 (upd H7 tp (.lst (us++[.ref pb]))):=fg.at;have s8:aD H (upd H7 tp (.lst (us++[.ref pb]))):=aKy (s5.trans CN) JM;have Lg:upd H7 tp (.lst (us++[.ref pb])) lp=_:=(aG nl).trans (CN _ _ el);have Lf:upd H7 tp (.lst (us++[.ref pb])) rp=_:=(aG nr).trans (CN _ _ er);have GY:upd H7 tp (.lst (us++[.ref pb])) tp=some (.lst (us++[.ref pb])):=aB;have YK:=b8.fh EC _ _ (kS pD (λr=>aB9 r.1 r.2) rows) (CN.fh _ _ DR);have YL:bC K (upd H7 tp (.lst (us++[.ref pb]))) ((bs++[(c,mm)]).map zw) (us++[.ref pb]):=by
    rw [Qm];exact eF (b8.fh EC _ _ (kS zw wT bs) (CN.fh _ _ DB)) (aQ.mpr ⟨_,_,rfl,b8.den EC _ _ (wT _) db,bB.mpr rfl⟩)
   have Gk:=b8.di EC (s7.di hq);generalize upd H7 tp (.lst (us++[.ref pb]))=H8 at s8 Lg Lf GY YK YL Gk ⊢
   -- left
   subst hu;refine aN λu hu=>bJ ⟨_,rfl,lp,rfl,⟨_,dm.of Lg⟩,eZ (K:=K) (a:=lp) (xs:=hs.map V.int) (λσ=>∃ v,σ = [v,some (.ref q)]) (λj ys H9=>aD H8 H9/\ys=((hs.take j).filter λh=>!gc c h).map V.int) (cK (by grind)) ⟨none,rfl⟩ ⟨aD.refl _,rfl⟩ ?_ (λj ys H9 ⟨s9,_⟩=>s9.iq (dm.of Lg)) ?_ ?_⟩
   ·rintro j ys H9 ⟨_,rfl⟩;rw [Qa];exact Qr (Jp _ _) (by rw [Qs]; exact Xf _ _)
   ·rintro j ys σ y H9 hy ⟨v,rfl⟩ ⟨s9,rfl⟩ hz;rw [Qh] at hy;obtain ⟨h,hh,rfl⟩:=Qo.mp hy;refine ⟨_,rfl,_,rfl,q,c.map V.int,rfl,.inr (s9.di Gk),rfl,iS _,_,rfl,?_⟩;have e:(!uf (.int h) (c.map V.int))=!gc c h:=wU h c;rw [e,dA hh,Ze,Qm];cases hc:gc c h with
    | false =>
     refine iE ⟨_,rfl,hz,⟨_,rfl⟩,s9,?_⟩;rw [Jm,hc]; rfl
    | true =>
     refine iQ ⟨⟨_,rfl⟩,s9,?_⟩;rw [Jm,hc];show _=_++[];rw [Xy]
   ·rintro ys H9 ⟨s9,rfl⟩ l2 ow;rw [Qa,Qu];have zd:=s9.trans (aD.new (o:=.lst ((hs.filter λh=>!gc c h).map V.int)) ow);have Z1:l2≠tp:=λz=>by rw [z,s9 _ _ GY] at ow; cases ow
    have FK:upd H9 l2 (.lst ((hs.filter λh=>!gc c h).map V.int)) l2=_:=aB;generalize upd H9 l2 (.lst ((hs.filter λh=>!gc c h).map V.int))=IQ at zd FK ⊢
    -- rows: those not within
    have vp:=aT DR;rw [Qa] at vp;subst hu;refine aN λu hu=>bJ ⟨_,rfl,rp,rfl,⟨_,dm.of (zd _ _ Lf)⟩,eZ (K:=K) (a:=rp) (xs:=zs) (λσ=>∃ v w,σ = [v,w,some (.ref q)]) (λj ys z_=>aD IQ z_/\bC K z_ (((rows.take j).filter λr=>!(r.1.all (gc c))).map pD) ys) (cK 'a') ⟨none,none,rfl⟩ ⟨aD.refl _,bB.mpr rfl⟩ ?_ (λj ys z_ ⟨Ap,_⟩=>Ap.iq (dm.of (zd _ _ Lf))) ?_ ?_⟩
    ·rintro j ys z_ ⟨_,BM⟩;rw [aT BM,Qa];exact Qr (Jp _ _) (by rw [Qs]; exact Xf _ _)
    ·rintro j ys σ y z_ hy ⟨v,w,rfl⟩ ⟨Ap,BM⟩ hz;have A8:=zd.trans Ap;obtain ⟨r,hr,CW⟩:=iV (A8.fh _ _ YK) hy;obtain ⟨pp,pq,rfl,Bu,yp⟩:=wQ CW;obtain ⟨r6,_,_⟩:=RS r (Qd hr);refine ⟨pp,_,rfl,Bu,rfl,_,_,rfl,_,_,rfl,rfl,_,rfl,_,rfl,pq,q,r.1,c,rfl,yp,A8.di Gk,by omega,λIP jd=>⟨_,rfl,?_⟩⟩;rw [dA hr,Ze,Qm];show if (!(r.1.all (gc c)))=true then _ else _
     cases hw:r.1.all (gc c) with
     | false =>
      refine iE ⟨_,rfl,_,rfl,cK (show 2<=1000 by decide),λpn s_=>⟨hz,⟨_,_,rfl⟩,Ap.trans (jd.trans (aD.new s_)),eF ((jd.trans (aD.new s_)).fh _ _ BM) ?_⟩⟩;rw [Jm,hw];exact aQ.mpr ⟨_,_,rfl,rZ (dt.of aB) ((jd.trans (aD.new s_)).di yp),bB.mpr rfl⟩
     | true =>
      refine iQ ⟨⟨_,_,rfl⟩,Ap.trans jd,?_⟩;rw [Jm,hw];show bC K _ (_++[]) _;rw [Xy];exact jd.fh _ _ BM
    ·rintro ys z_ ⟨Ap,BM⟩ DK Fu;rw [vp,Qu] at BM;have jd:=Ap.trans (aD.new (o:=.lst ys) Fu);have Cq:upd z_ DK (.lst ys) DK=some (.lst ys):=aB;have G0:=(aD.new (o:=.lst ys) Fu).fh _ _ BM;generalize upd z_ DK (.lst ys)=IP at jd Cq G0 ⊢;have sy:=aT G0;rw [Qa] at sy;have aad:ys.length<=12:=by rw [sy]; exact Qr (Jp _ _) RL
     generalize QT:(rows.filter λr=>!(r.1.all (gc c)))=yb at G0 sy;have RS1:∀ r∈yb,r.1.length<=6:=λr hr=>by rw [<- QT] at hr; exact (RS r (Js.mp hr).1).1
     subst hu;refine ⟨_,rfl,DK,rfl,⟨_,dm.of Cq⟩,eZ (K:=K) (a:=DK) (xs:=ys) (λσ=>∃ v w,σ = [v,w,some (.ref q)]) (λj zs BW=>aD IP BW/\bC K BW (((yb.take j).map λr=>(r.1.filter λh=>!gc c h,r.2)).map pD) zs) (cK 'a') ⟨none,none,rfl⟩ ⟨aD.refl _,bB.mpr rfl⟩ ?_ (λj zs BW ⟨jf,_⟩=>jf.iq (dm.of Cq)) ?_ ?_⟩
     ·rintro j zs BW ⟨_,BL⟩;rw [aT BL,Qa,Qa,Qs];exact Xf _ _
     ·rintro j zs σ y BW hy ⟨v,w,rfl⟩ ⟨jf,BL⟩ hz;obtain ⟨r,hr,CW⟩:=iV (jf.fh _ _ G0) hy;obtain ⟨pp,pq,rfl,Bu,yp⟩:=wQ CW;have hr6:=RS1 r (Qd hr);refine ⟨pp,_,rfl,Bu,rfl,_,_,rfl,_,_,rfl,rfl,_,rfl,pq,rfl,⟨_,yp⟩,kB (K:=K) (a:=pq) (xs:=r.1.map V.int) (λσ=>∃ v,σ = [v,some (.ref q)]) (λi as Ff=>aD BW Ff/\as=((r.1.take i).filter λh=>!gc c h).map V.int) (cK (by grind)) ⟨none,rfl⟩ ⟨aD.refl _,rfl⟩ ?_ (λi as Ff ⟨ni,_⟩=>ni.di yp) ?_ ?_⟩
      ·rintro i as Ff ⟨_,rfl⟩;rw [Qa];exact Qr (Jp _ _) (by rw [Qs]; exact Xf _ _)
      ·rintro i as σ y Ff hy ⟨v,rfl⟩ ⟨ni,rfl⟩ Kf;rw [Qh] at hy;obtain ⟨h,hh,rfl⟩:=Qo.mp hy;refine ⟨_,rfl,_,rfl,q,c.map V.int,rfl,.inr ((((zd.trans jd).trans jf).trans ni).di Gk),rfl,iS _,_,rfl,?_⟩;have e:(!uf (.int h) (c.map V.int))=!gc c h:=wU h c;rw [e,dA hh,Ze,Qm];cases hc:gc c h with
       | false =>
        refine iE ⟨_,rfl,Kf,⟨_,rfl⟩,ni,?_⟩;rw [Jm,hc]; rfl
       | true =>
        refine iQ ⟨⟨_,rfl⟩,ni,?_⟩;rw [Jm,hc];show _=_++[];rw [Xy]
      ·rintro as Ff ⟨ni,rfl⟩ pl ke;rw [Qa,Qu];refine ⟨pl,_,rfl,.inl ⟨dm.of aB,λpt uk=>⟨_,rfl,cK (show 2<=1000 by decide),λpn s_=>⟨hz,⟨_,_,rfl⟩,?_,?_⟩⟩⟩⟩
       ·exact jf.trans (ni.trans ((aD.new ke).trans ((aD.new uk).trans (aD.new s_))))
       ·rw [dA hr,Qm,Qm];exact eF ((ni.trans ((aD.new ke).trans ((aD.new uk).trans (aD.new s_)))).fh _ _ BL) (aQ.mpr ⟨_,_,rfl,rZ (dt.of aB) ((aD.new s_).di (dt.of aB)),bB.mpr rfl⟩)
     ·rintro Ot BW ⟨jf,BL⟩ OZ xt;rw [sy,Qu] at BL;have ni:=jf.trans (aD.new (o:=.lst Ot) xt);have ZX:OZ≠tp:=λz=>by rw [z,((zd.trans jd).trans jf) _ _ GY] at xt; cases xt
      have sA:=zd.trans (jd.trans ni);have gh:(hs.filter λh=>!gc c h).length < hs.length:=by
       have e:hs.length=(hs.filter (gc c)).length+(hs.filter λh=>!gc c h).length:=by
        have:=aFd c2 (λ_=>true);unfold G3 at this;rw [Yq.mpr (λa _=>by simp),Yq.mpr (λa _=>rfl)] at this;rw [<- c2]; omega
       rw [<- c2] at e;omega
      have eR:yb.map (λr=>(r.1.filter λh=>!gc c h,r.2))=i_ rows c:=by rw [<- QT]; rfl
      rw [eR] at BL;show N _ _;rw [hN];refine ⟨_,gh,l2,OZ,hs.filter λh=>!gc c h,Ot,i_ rows c,us++[.ref pb],bs++[(c,mm)],_,_,rfl,rfl,s8.trans sA,Z1,ZX,(jd.trans ni) _ _ FK,aB,sA _ _ GY,(aD.new xt).fh _ _ BL,sA.fh _ _ YL,?_,lg.filter _,RO.i_,RS.i_,Qr (WU _ _) RL,λcC o8=>?_⟩
      ·grind
      ·rw [Xj];exact Bc ((c,mm)::cC) ⟨HV,o8⟩
theorem WR:∀ {bs:eY} {left:LIn} {rows:eY},nV left rows->kT left rows bs->∀ (i j:Nat) b c,i < j->bs[i]?=some b->bs[j]?=some c->∀ h∈b.1,h∉c.1
 | [],_,_,_,_,i,j,b,c,_,h,_=>by simp at h
 | d::bs,left,rows,ok,hb,i,j,b,c,yq,hi,hj=>by
  cases j with
  | zero=>omega
  | succ j =>
   cases i with
   | zero =>
    have e:d=b:=by simpa using hi
    subst e;intro h hh hc;have:=(M7 ok.i_ hb.2 c (Qd (by simpa using hj))).2.2.2 h hc;have:=(Js.mp this).2;rw [M9.mpr hh] at this;cases this
   | succ i=>exact WR ok.i_ hb.2 i j b c 'a' (by assumption) (by assumption)
noncomputable def wx (n:Int) (bs:eY):List (Int×Int):=(fN n.toNat).map λh=>xW (AY bs h)
def U4 (K:Rb):Sp:=λvs H Q _=>∃ (x:V) (n:Int) (ws:List (LIn)) (wp:ae) (wt:LIn),vs = [x,.ref wp]/\Den K H (gM n ws) x/\fF (gM n ws)=true/\dt K H wp (wt.map V.int)/\Dr ws wt /\
 ∀ p us bs H',aD H H'->dt K H' p us->bC K H' ((wx n bs).map pA) us->kT (fN n.toNat) (ws.zip wt) bs->Q (.ref p) H'
theorem U3:b_ ["book", "weights", "load_of"] ["book", "weights"] (aF rN):=.of
theorem aHd (G:Fn K mg "part_loads" rN ["book", "weights"] f fd) (B:Bl mg) (GBl:FF P w K mg base d_ 7 "blocks" jR ["book", "weights"] (WS K)):c_ P w K mg base d_ 8 f fd ["book", "weights"] (U4 K):=by
 refine G.fn.oK U3 λfe A outer s H vs Q E hr h=>?_
 ·obtain ⟨x,n,ws,wp,wt,rfl,hx,vz,qo,mn,k⟩:=h;have r7:dj 7 _:=hr;refine ⟨_,(aE (aU (i:=2) U3.nd rfl (Or.inr rfl) (aE2 (own:=["some", "load", "hand"]) (fr:=[]) (ff:=[]) (aX (aF rN) ["book", "weights", "load_of"] rfl rfl 'd') rfl (cZ (bF GBl r7 rfl (aA (pv 0) (aA (pv 1) aC))))
    (λ_ _ _ _=>(oI (K:=K) (n:=2) rfl rfl (bD (aM (i:=0) (show (["some", "load", "hand"]:List aj).Nodup by decide +kernel) rfl eh) (bD (aM (i:=1) (show (["some", "load", "hand"]:List aj).Nodup by decide +kernel) rfl eh) eT)))) (λ_ _ _ _=>(Ng (K:=K) rfl (pv 0))) (λ_ _ _ _=>(aM (i:=2) (show (["some", "load", "hand"]:List aj).Nodup by decide +kernel) rfl eh))
    (λ_ _ _ _=>(pv 2)) (λ_ _ _ _=>(pv 1))))
  (aI (aP (aZ gK rfl B.tuple gB (aA (cM (own:=["hand"]) (fr:=[2]) (ff:=["load_of"]) (aX (aF rN) ["book", "weights", "load_of"] rfl rfl 'd') rfl (hV rfl B.range (aA (bM dN (pv 0) aH gb) aC))
    (λ_ _ _ _=>(aM (i:=0) (show (["hand", "load_of"]:List aj).Nodup by decide +kernel) rfl eh)) (λ_ _ _ _=>cQ)
    (λ_ _ _ _=>(bL (dS hr) (pv 1) (pv 0) su))) aC))))),?_⟩
  dsimp only [cB,Cx.gf];obtain ⟨a,b,ys,rfl,ha,hb,sx⟩:=iI hx;obtain ⟨ju,ie,oi,_⟩:=aV vz;obtain ⟨RO,_,_⟩:=wV vz mn;refine ⟨_,rfl,_,rfl,_,n,ws,wp,wt,rfl,hx,vz,qo,mn,λtp us bs H1 s1 JM Dl DB GF ω=>?_⟩;have GA:=M7 RO GF;rw [fX] at GA;refine ⟨tp,rfl,⟨_,dm.of Dl⟩,aBC (K:=K) (a:=tp) (xs:=us) (λi kvs σ H2=>H2=H1/\(∃ x y z,σ = [x,y,z])/\kvs.length<=6*i/\∀ (j:Nat) c h,j < i->bs[j]?=some c->h∈c.1->∃ v,cP kvs (.inl h)=some v/\Den K H1 (pA (xW (c.2,(c.1.length:Int)))) v) ⟨rfl,⟨_,_,_,rfl⟩,Qe _,λj c h hj=>by omega⟩ (λi ys σ H2 ⟨e,_⟩=>by rw [e]; exact dm.of Dl) ?_ ?_⟩
  ·rintro i x kvs σ H2 CT ⟨rfl,⟨x1,x2,x3,rfl⟩,hlen,AG⟩;obtain ⟨c,hc,ku⟩:=iV DB CT;obtain ⟨pp,pq,pr,rfl,Bu,yp,oq⟩:=aIX ku;have hi6:i < 6:=Qn (Qb.mp CT).1 ω;have tm:=GA c (Qd hc);refine ⟨pp,_,rfl,Bu,rfl,_,_,rfl,_,_,rfl,rfl,_,rfl,pq,rfl,⟨_,yp⟩,aAo (K:=K) (b:=pq) (zs:=c.1.map V.int) (λj xq σ H3=>H3=H2/\(∃ z,σ = [some (.ref pq),some (.ref pr),z])/\xq.length<=6*i+j/\(∀ (j':Nat) c' h,j' < i->bs[j']?=some c'->h∈c'.1->∃ v,cP xq (.inl h)=some v/\Den K H2 (pA (xW (c'.2,(c'.1.length:Int)))) v)/\∀ h∈c.1.take j,cP xq (.inl h)=some (.ref pr)) ⟨rfl,⟨_,rfl⟩,hlen,AG,λh hh=>by rw [Wz] at hh; cases hh⟩ (λj ys σ H3 ⟨e,_⟩=>by rw [e]; exact yp) ?_ ?_⟩
   ·rintro j z xq σ H3 hz ⟨rfl,⟨z0,rfl⟩,qc,B_,j1⟩;obtain ⟨h,hh,rfl⟩:=tZ hz;have qq:j < c.1.length:=(Qb.mp hh).1;refine ⟨_,rfl,_,rfl,.inl h,rfl,by rw [Rf]; omega,rfl,⟨_,rfl⟩,Qr (eS _ _ _) 'a',λj' c' h' AF j8 uq=>?_,λh' uq=>?_⟩
    ·have ne:¬ (Sum.inl h':Key)=Sum.inl h:=λz=>by
      have e:h'=h:=by simpa using z
      exact WR RO GF j' i c' c AF j8 hc h' uq (by rw [e]; exact Qd hh)
     rw [pV,if_neg ne];exact B_ j' c' h' AF j8 uq
    ·rw [pV];by_cases e:h'=h
     ·simp_all
     ·rw [if_neg (λz=>e (by simpa using z))];rw [dA hh] at uq;rcases Qp.mp uq with uq | uq
      ·exact j1 h' uq
      ·exact absurd (Qi.mp uq) e
   ·rintro xq σ H3 ⟨rfl,⟨z0,rfl⟩,qc,B_,j1⟩;rw [Qa] at qc j1;rw [Qu] at j1;refine ⟨rfl,⟨_,_,_,rfl⟩,by omega,λj' c' h' AF j8 uq=>?_⟩;by_cases e:j' < i
    ·exact B_ j' c' h' e j8 uq
    ·have ej:j'=i:=by omega
     rw [ej,hc] at j8;have ec:c=c':=Option.some.inj j8;rw [<- ec] at uq ⊢;exact ⟨_,j1 h' uq,qU.mpr ⟨pr,rfl,oq⟩⟩
  ·rintro kvs σ H2 ⟨rfl,_,hlen,AG⟩ dp m_;have DW:=aT DB;rw [Qa] at DW;have s3:=aD.new (o:=.dK kvs) m_;have ed:upd H2 dp (.dK kvs) dp=some (.dK kvs):=aB;have Ob:∀ h∈fN n.toNat,∃ v,cP kvs (.inl h)=some v/\Den K H2 (pA (xW (AY bs h))) v:=λh hh=>by
    obtain ⟨c,c1,c2,c3⟩:=M8 GF h hh;obtain ⟨j,hj⟩:=Jr.mp c1;rw [c3];exact AG j c h (by rw [DW]; exact (Qb.mp hj).1) hj c2
   generalize upd H2 dp (.dK kvs)=H3 at s3 ed ⊢;have jf:=s1.trans s3;refine ⟨_,rfl,a,_,0,.int n,rfl,rfl,jf.di ha,rfl,n,rfl,by omega,by omega,kC (lo:=0) (n:=n.toNat) (λσ=>∃ v,σ = [v,some (.ref dp)]) (λi zs H4=>H4=H3/\bC K H3 ((((fN n.toNat).take i).map λh=>xW (AY bs h)).map pA) zs) (cK 'a') ⟨none,rfl⟩ ⟨rfl,bB.mpr rfl⟩ ?_ ?_ ?_⟩
   ·rintro i zs H4 ⟨_,d4⟩;rw [aT d4,Qa,Qa,Qs];exact Xf _ _
   ·rintro i zs σ H4 hi ⟨v,rfl⟩ ⟨rfl,d4⟩ hz;have Px:=wD hi;obtain ⟨v',zj,Kl⟩:=Ob (i:Int) (Qd Px);refine bX ⟨_,rfl,_,rfl,dp,v',rfl,.inl ⟨kvs,.inl (i:Int),.inl ed,by show V.int (0+(i:Int))=V.int (i:Int); rw [Wr],zj.symm⟩,hz,⟨_,rfl⟩,rfl,?_⟩;rw [dA Px,Qm,Qm];exact eF d4 (aQ.mpr ⟨_,_,rfl,s3.den _ _ Kl,bB.mpr rfl⟩)
   ·rintro zs H4 ⟨rfl,d4⟩ lp mr;rw [show (fN n.toNat).take n.toNat=fN n.toNat from Jf (by simp [fX,Qe])] at d4;refine ⟨lp,zs,rfl,.inl ⟨dm.of aB,λY' k8=>?_⟩⟩;have s5:=(aD.new (o:=.lst zs) mr).trans (aD.new (o:=.tup zs) k8);exact k Y' zs bs _ (jf.trans s5) (dt.of aB) (s5.fh _ _ d4) GF
theorem jE:az "str" = some (.type "str"):=by rfl
noncomputable def sB (x:aj):Bool:=decide (x∈(["put", "take", "come", "go", "loads", "parts", "deal", "moved", "waits"]:List aj))
noncomputable def sC (f:aj) (r:List aj):Bool:=if f = "put" then decide (1<=r.length) else if f = "hands" ∨ f = "take" then decide (r.length=1) else sB f && decide (r.length=0)
noncomputable def qV:List aj->Bool
 | []=>false
 | f::r=>(r.map λx=>dF x.cps.toList).all id && sC f r
theorem aIZ (a b:aj):decide (V.str a=V.str b)=decide (a=b):=by simp
theorem aKA (a b c:aj):uf (.str a) [.str b,.str c]=decide (a=b∨a=c):=by
 unfold uf;simp only [Ya,List.any_nil,Bool.or_false];unfold xc;rw [Xb];simp;exact ⟨λh=>h.imp Eq.symm Eq.symm,λh=>h.imp Eq.symm Eq.symm⟩
def U2 (K:Rb):Sp:=λvs H Q _=>∃ (p:ae) (f:aj) (r:List aj),vs = [.ref p]/\dm K H p ((f::r).map V.str)/\r.length<=1000/\(∀ x∈r,il x/\x.length<=1000000)/\∀ H',aD H H'->Q (.bl (qV (f::r))) H'
theorem M6:b_ ["words", "first", "others"] ["words"] (aF vU):=.of
set_option maxHeartbeats 1000000 in
theorem aHe {kvs:List (Key×aa)} (G:Fn K mg "is_row" vU ["words"] f fd) (B:Bl mg) (GNm:FF P w K mg base d_ 1 "is_number" qB ["word"] qQ) (DA:BD P w K dd kvs) (C3:mg "DEEDS" = some (.ref dd)) (n?:∀ x:aj,(valueAt kvs (.inr x)).isSome=sB x):c_ P w K mg base d_ 2 f fd ["words"] (U2 K):=by
 refine G.fn.oK M6 λfe A outer s H vs Q E hr h=>?_
 ·obtain ⟨p,f1,r,rfl,hp,hl,hx,k⟩:=h;have r1:dj 1 _:=hr;refine ⟨_,aE (pB (pv 0) (aIb rfl (bD (aM (i:=1) M6.nd rfl eh) (bD (aM (i:=2) M6.nd rfl eh) eT))))
   (aE (bQ (cV (cD (aK (jB rfl) rfl B.all sS (aA (cM (own:=["word"]) (fr:=[]) (ff:=[]) (aX (aF vU) ["words", "first", "others"] rfl rfl 'd') rfl (cZ (pv 2))
    (λ_ _ _ _=>(aM (i:=0) (show (["word"]:List aj).Nodup by decide +kernel) rfl eh)) (λ_ _ _ _=>cQ) (λ_ _ _ _=>(bF GNm r1 rfl (aA (pv 0) aC)))) aC)))) (aI (aP jY)) aW)
   (aE (bQ (aO cY (pv 1) aJ ft) (aI (aP (cL LU (aK aR rfl B.len cO (aA (pv 2) aC)) aH ft))) aW)
   (aE (bQ (aO rG (pv 1) (cH (aA aJ (aA aJ aC))) (by rfl)) (aI (aP (cL cY (aK aR rfl B.len cO (aA (pv 2) aC)) aH ft))) aW)
   (aI (aP (lR (aJG (aKk DA rfl C3 (pv 1)) (by rfl)) (kX (cL cY (aK aR rfl B.len cO (aA (pv 2) aC)) aH ft)))))))),?_⟩
  dsimp only [cB,Cx.gf];refine ⟨_,rfl,p,.str f1,r.map V.str,rfl,hp,λop D_=>?_⟩;have s1:=aD.new (o:=.lst (r.map V.str)) D_;have e1:upd H op (.lst (r.map V.str)) op=some (.lst (r.map V.str)):=aB;generalize upd H op (.lst (r.map V.str))=H1 at s1 e1 ⊢;refine ⟨_,_,rfl,_,_,rfl,rfl,?_⟩;refine ⟨_,rfl,op,rfl,⟨_,dm.of e1⟩,eZ (K:=K) (a:=op) (xs:=r.map V.str) (λσ=>∃ v,σ = [v]) (λi ys H'=>aD H1 H'/\ys=((r.take i).map λx=>dF x.cps.toList).map V.bl) (cK (by simp_all)) ⟨none,rfl⟩ ⟨aD.refl _,rfl⟩ (λi ys H' z=>by rw [z.2,Qa,Qa,Qs]; omega) (λi ys H' z=>dm.of (z.1 _ _ e1)) ?_ ?_⟩
  ·rintro i ys σ xv H' Av ⟨v,rfl⟩ ⟨s',rfl⟩ hz;rw [Qh] at Av;obtain ⟨t,ht,rfl⟩:=Qo.mp Av;obtain ⟨ha,hb⟩:=hx t (Qd ht);refine bX ⟨_,rfl,t,rfl,ha,hb,λxi og=>⟨hz,⟨_,rfl⟩,s'.trans og,?_⟩⟩;rw [Jw,ht,Qm,Qm]; rfl
  rintro ys H' ⟨s',rfl⟩ pc mq;rw [Qa,Qu];refine ⟨pc,_,rfl,dm.of aB,_,rfl,?_⟩;have s2:=s1.trans (s'.trans (aD.new (o:=.lst ((r.map λx=>dF x.cps.toList).map V.bl)) mq));have e2:=(s'.trans (aD.new (o:=.lst ((r.map λx=>dF x.cps.toList).map V.bl)) mq)) _ _ e1;generalize upd H' pc (.lst ((r.map λx=>dF x.cps.toList).map V.bl))=H2 at s2 e2 ⊢;have kk:∀ b:Bool,b=qV (f1::r)->∀ H',aD H H'->Q (.bl b) H':=λb e H' s=>by rw [e]; exact k H' s
  change ∀ b:Bool,b=((r.map λx=>dF x.cps.toList).all id && sC f1 r)->_ at kk;generalize (r.map λx=>dF x.cps.toList).all id=a at kk ⊢;cases a with
  | false=>exact kk false rfl _ s2
  | true =>
   rw [Jt] at kk;refine cS rfl ⟨_,rfl,rfl,_,rfl,?_⟩;rw [aIZ];unfold sC at kk;by_cases h1:f1 = "put"
   ·rw [decide_eq_true h1];rw [if_pos h1] at kk;refine iE ⟨_,rfl,op,_,rfl,.inl (dm.of e2),_,_,rfl,rfl,?_⟩;refine kk _ ?_ _ s2;rw [Qa,decide_eq_decide];omega
   rw [decide_eq_false h1];rw [if_neg h1] at kk;refine iQ ?_;refine ⟨_,rfl,om _ _,λtp k8=>⟨tp,_,rfl,.inr (dt.of aB),rfl,rfl,_,rfl,?_⟩⟩;rw [aKA];have s3:=s2.trans (aD.new (o:=.tup [.str "hands",.str "take"]) k8);have e3:=(aD.new (o:=.tup [.str "hands",.str "take"]) k8) _ _ e2;generalize upd H2 tp (.tup [.str "hands",.str "take"])=H3 at s3 e3 ⊢;by_cases h2:f1 = "hands" ∨ f1 = "take"
   ·rw [decide_eq_true h2];rw [if_pos h2] at kk;refine iE ⟨_,rfl,op,_,rfl,.inl (dm.of e3),rfl,?_⟩;refine kk _ ?_ _ s3;rw [Qa,decide_eq_decide];exact ⟨λz=>by injection z with z; omega,λz=>by rw [z]; rfl⟩
   rw [decide_eq_false h2];rw [if_neg h2] at kk;refine iQ ?_;refine ⟨_,rfl,.inr f1,rfl,_,rfl,?_⟩;rw [n?];cases hb:sB f1 with
   | false =>
    rw [hb] at kk;exact iQ (kk false rfl _ s3)
   | true =>
    rw [hb,Jt] at kk;refine iE ⟨_,rfl,op,_,rfl,.inl (dm.of e3),rfl,?_⟩;refine kk _ ?_ _ s3;rw [Qa,decide_eq_decide];exact ⟨λz=>by injection z with z; omega,λz=>by rw [z]; rfl⟩
def IU (C:ae) (H:Hp) (x:ae) (m:aj):Prop:=∃ dx fs,H x=some (.ins C dx fs)/\fs.lookup m=none
def sD (K:Rb) (C:ae) (sp:Sp):Sp:=λvs H Q E=>∃ (x np:ae) (n:Int) (ns:LIn),vs = [.ref x,.ref np]/\IU C H x "take" /\ dm K H np ((n::ns).map V.int)/\sp [.ref x,.int n] H (λ_ H'=>Q (.str "ok") H') E
def M5 (C:ae) (sp:Sp):Sp:=λvs H Q E=>∃ (x:ae) (v:V),vs = [.ref x,v]/\IU C H x "go" /\ sp [.ref x] H (λ_ H'=>Q (.str "ok") H') E
def told (Q:VK):VK:=λv H=>∃ i:Int,[v] = [.int i]/\i.natAbs.log2 < 1920/\Q (.str (bS i)) H
def sE (C:ae) (sp:Sp):Sp:=λvs H Q E=>∃ (x:ae) (v:V),vs = [.ref x,v]/\IU C H x "come" /\ sp [.ref x] H (told Q) E
def wW (K:Rb) (C:ae) (sp:Sp):Sp:=λvs H Q E=>∃ (x np:ae) (ns:LIn),vs = [.ref x,.ref np]/\IU C H x "put" /\ dm K H np (ns.map V.int)/\∀ tp,H tp=none->sp [.ref x,.ref tp] (upd H tp (.tup (ns.map V.int))) (told Q) E
theorem aFm:b_ ["dealing", "numbers"] ["dealing", "numbers"] (aF vS):=.of
theorem aDj {k:Nat} (G:Fn K mg "say_take" vS ["dealing", "numbers"] f fd) (T:Dc K C) (GM:FM P w K mg base (gk P w) k C "take" yT ["self", "number"] sp):c_ P w K mg base (gk P w) (k+1) f fd ["dealing", "numbers"] (sD K C sp):=by
 refine G.fn.vm aFm λfe A outer s H vs Q E hr h=>?_;obtain ⟨x,np,n,ns,rfl,⟨dx,fs,hx,hf⟩,oh,k⟩:=h;exact ⟨_,aE (bY (dX (pv 0) T.cl GM.g.me GM.o hr GM.g.bd .nil yJ (aA (bM bU (pv 1) aH gb) aC))) (aI (aP aJ)),_,rfl,x,dx,fs,rfl,hx,hf,_,rfl,np,_,0,_,rfl,rfl,oh,fG (j:=0) rfl,k⟩
theorem aI0:b_ ["dealing", "numbers"] ["dealing", "numbers"] (aF MS):=.of
theorem aHf {k:Nat} (G:Fn K mg "say_go" MS ["dealing", "numbers"] f fd) (T:Dc K C) (GM:FM P w K mg base (gk P w) k C "go" vo ["self"] sp):c_ P w K mg base (gk P w) (k+1) f fd ["dealing", "numbers"] (M5 C sp):=by
 refine G.fn.vm aI0 λfe A outer s H vs Q E hr h=>?_;obtain ⟨x,v,rfl,⟨dx,fs,hx,hf⟩,k⟩:=h;exact ⟨_,aE (bY (dY (pv 0) T.cl GM.g.me GM.o hr GM.g.bd .nil yJ)) (aI (aP aJ)),_,rfl,x,dx,fs,rfl,hx,hf,k⟩
theorem aFn:b_ ["dealing", "numbers"] ["dealing", "numbers"] (aF vT):=.of
theorem aDk {k:Nat} (G:Fn K mg "say_come" vT ["dealing", "numbers"] f fd) (T:Dc K C) (B:Bl mg) (GM:FM P w K mg base (gk P w) k C "come" yU ["self"] sp):c_ P w K mg base (gk P w) (k+1) f fd ["dealing", "numbers"] (sE C sp):=by
 refine G.fn.vm aFn λfe A outer s H vs Q E hr h=>?_;obtain ⟨x,v,rfl,⟨dx,fs,hx,hf⟩,k⟩:=h;exact ⟨_,aI (aP (aZ bR rfl B.str jE (aA (dY (pv 0) T.cl GM.g.me GM.o hr GM.g.bd .nil yJ) aC))),_,rfl,x,dx,fs,rfl,hx,hf,k⟩
theorem aHg:b_ ["dealing", "numbers"] ["dealing", "numbers"] (aF MW):=.of
theorem aFo {k:Nat} (G:Fn K mg "say_put" MW ["dealing", "numbers"] f fd) (T:Dc K C) (B:Bl mg) (GM:FM P w K mg base (gk P w) k C "put" Du ["self", "able"] sp):c_ P w K mg base (gk P w) (k+1) f fd ["dealing", "numbers"] (wW K C sp):=by
 refine G.fn.vm aHg λfe A outer s H vs Q E hr h=>?_;obtain ⟨x,np,ns,rfl,⟨dx,fs,hx,hf⟩,oh,k⟩:=h;exact ⟨_,aI (aP (aZ bR rfl B.str jE (aA (dX (pv 0) T.cl GM.g.me GM.o hr GM.g.bd .nil yJ (aA (aZ gK rfl B.tuple gB (aA (pv 1) aC)) aC)) aC))),_,rfl,x,dx,fs,rfl,hx,hf,_,rfl,np,_,rfl,.inl ⟨oh,k⟩⟩
theorem aKB (h:u5 D) (h6:D.n≠6):u5 D.rg:=by
 obtain ⟨ju,ie,gz,j5⟩:=aV h.bk;have n6:D.n+1<=6:=by omega
 refine ⟨iZ (show 1<=D.n+1 by omega) n6 gz λl hl=>?_,h.dl,h.up,h.kh,h.nx⟩;obtain ⟨a,b,c⟩:=bO (j5 l hl);exact mC a (λx hx=>by have:=b x hx; show 0<=x/\x < D.n+1; omega) c
theorem aKC (h:u5 D) (h1:D.n≠1) (jh:∀ l∈D.ws,D.n - 1∉l):u5 D.gone:=by
 obtain ⟨ju,ie,gz,j5⟩:=aV h.bk;refine ⟨iZ (show 1<=D.n - 1 by omega) (show D.n - 1<=6 by omega) gz λl hl=>?_,h.dl,h.up,h.kh,h.nx⟩;obtain ⟨a,b,c⟩:=bO (j5 l hl);refine mC a (λx hx=>?_) c;have:=b x hx;have:x≠D.n - 1:=λz=>jh l hl (z ▸ hx);show 0<=x/\x < D.n - 1;omega
theorem L8 {e:i7} (h:u3 S) (m:qP S e):u3 (S.step e):=by
 obtain ⟨ju,ie,gz,j5⟩:=aV h.bk;have hd:=h.fw;cases e with
 | i5 =>
  have m':S.n≠6:=m;have n6:S.n+1<=6:=by omega
  refine ⟨iZ (show 1<=S.n+1 by omega) n6 gz λl hl=>?_,h.up,h.kh,h.fw,h.len⟩;obtain ⟨a,b,c⟩:=bO (j5 l hl);exact mC a (λx hx=>by have:=b x hx; show 0<=x/\x < S.n+1; omega) c
 | go =>
  obtain ⟨m1,m2⟩:=m;refine ⟨iZ (show 1<=S.n - 1 by omega) (show S.n - 1<=6 by omega) gz λl hl=>?_,h.up,h.kh,h.fw,h.len⟩;obtain ⟨a,b,c⟩:=bO (j5 l hl);refine mC a (λx hx=>?_) c;have:=b x hx;have:x≠S.n - 1:=λz=>m2 l hl (z ▸ hx);show 0<=x/\x < S.n - 1;omega
 | take num =>
  refine ⟨iZ ju ie (Qr (Wk ..) gz) λl' qc=>j5 l' (Zi qc),h.up.sublist (Wt ..),λk' AE=>h.kh k' (Zi AE),h.fw,?_⟩;show (S.ws.eraseIdx _).length=(S.nums.eraseIdx _).length;rw [Jn,Jn,h.len]
 | put t l =>
  obtain ⟨m1,m2⟩:=m;refine ⟨iZ ju ie ?_ λl' qc=>?_,?_,λk' AE=>?_,show 0<=S.fw+1 by omega,?_⟩
  ·show (S.ws++[l]).length<=12;rw [Qg,h.len];show S.nums.length+1<=12;omega
  ·have ow:l'∈S.ws++[l]:=qc;rcases Qp.mp ow with z | z
   ·exact j5 l' z
   ·rw [show l'=l by simpa using z]; exact m1
  ·show (S.nums++[S.fw]).Pairwise (· < ·);refine Zg.mpr ⟨h.up,Wj _ _,λa ha b hb=>?_⟩;rw [show b=S.fw by simpa using hb];exact (h.kh a ha).2
  ·have C8:k'∈S.nums++[S.fw]:=AE;show 0<=k'/\k' < S.fw+1;rcases Qp.mp C8 with z | z
   ·have:=h.kh k' z;omega
   ·grind
  ·show (S.ws++[l]).length=(S.nums++[S.fw]).length;rw [Qg,Qg,h.len]; rfl
structure lu (D:DD) (S:SD):Prop where
 n:D.n=S.n
 nx:D.nx=S.fw
 nums:D.nums=S.nums
 ws:D.ws=S.ws
def Did (D:DD):i7->DD->Prop
 | .i5,D'=>D'=D.rg
 | .go,D'=>D'=D.gone
 | .take num,D'=>∃ (k:Nat) (last:Int) (ss:List (Nat×Int×Int)),D.nums[k]?=some num/\D.hs[k]?=some last/\EU D.ws D.hs last ss/\D'=D.take k ss
 | .put t l,D'=>∃ (hs:LIn) (m:Int) (ss:List (Nat×Int×Int)) (last:Int),FP D l hs m ss last/\D'=D.put l t hs m
def NT (H:Hp) (c:ae):Prop:=(∀ xs,H c≠some (.tup xs))/\∀ o xs,H c≠some (.f_ o (.tup xs))
theorem NT.dK {xs:List (Key×V)} (h:H c=some (.dK xs)):NT H c:=⟨λ_ z=>(by simp_all),λ_ _ z=>(by simp_all)⟩
theorem NT.ins {fs:List (aj×V)} (h:H c=some (.ins C dx fs)):NT H c:=⟨λ_ z=>(by simp_all),λ_ _ z=>(by simp_all)⟩
theorem cF.Bi {x a b p:ae} (e:cF x a b H H') (hx:NT H x) (ha:NT H a) (hb:NT H b) (h:dt K H p xs):dt K H' p xs:=by
 rcases h with (h | ⟨o,h⟩) | h
 ·exact .inl (.inl (e p _ (λz=>hx.1 _ (z ▸ h)) (λz=>ha.1 _ (z ▸ h)) (λz=>hb.1 _ (z ▸ h)) h))
 ·exact .inl (.inr ⟨o,e p _ (λz=>hx.2 _ _ (z ▸ h)) (λz=>ha.2 _ _ (z ▸ h)) (λz=>hb.2 _ _ (z ▸ h)) h⟩)
 ·exact .inr h
theorem ip.keep {x a b:ae} (h:ip K H C x D) (e:cF a b c H H') (ha:NT H a) (hb:NT H b) (hc:NT H c) (n:∀ q,q=x∨q=D.da∨q=D.dh->q≠a/\q≠b/\q≠c):ip K H' C x D:=by
 obtain ⟨x1,x2,x3⟩:=n x (.inl rfl);obtain ⟨y1,y2,y3⟩:=n D.da (.inr (.inl rfl));obtain ⟨z1,z2,z3⟩:=n D.dh (.inr (.inr rfl));exact ⟨e _ _ x1 x2 x3 h.ins,e _ _ y1 y2 y3 h.dz,e _ _ z1 z2 z3 h.hand,h.tl,h.wl,h.hl,λi t l q1 q2=>e.Bi ha hb hc (h.tup i t l q1 q2),h.ne⟩
theorem aLz {L:List ae} (nd:L.Nodup) {a b:ae} (hi:L[i]?=some a) (hj:L[j]?=some b) (n:i≠j):a≠b:=λz=>by
 obtain ⟨h1,e1⟩:=Qb.mp hi;obtain ⟨h2,e2⟩:=Qb.mp hj;exact n ((Wm nd).mp (e1.trans (z.trans e2.symm)))
theorem kj.keep {sp a b:ae} (h:kj K H sp S) (e:cF a b c H H') (ha:NT H a) (hb:NT H b) (hc:NT H c) (n1:sp≠a/\sp≠b/\sp≠c) (n2:S.ap≠a/\S.ap≠b/\S.ap≠c):kj K H' sp S :=
 ⟨e _ _ n1.1 n1.2.1 n1.2.2 h.st,e _ _ n2.1 n2.2.1 n2.2.2 h.dz,h.tl,h.wl,λi t l q1 q2=>e.Bi ha hb hc (h.tup i t l q1 q2),h.ne⟩
theorem jK {a b:ae} {fs:List (aj×V)} {k:List (Key×V)} (h1:H a=some (.ins c d fs)) (h2:H b=some (.dK k)):a≠b:=λz=>by rw [z,h2] at h1; cases h1
theorem sY.keep {dp a b:ae} (e3:cF a b c H H1) (ha:NT H a) (hb:NT H b) (hc:NT H c):∀ {e:i7},sY K H dp e->sY K H1 dp e
 | .i5,h=>e3.Bi ha hb hc h
 | .go,h=>e3.Bi ha hb hc h
 | .take _,h=>e3.Bi ha hb hc h
 | .put _ _,h=>⟨e3.Bi ha hb hc h.1,e3.Bi ha hb hc h.2⟩
def Md (H:Hp) (c:ae):Prop:=(∃ C dx fs,H c=some (.ins C dx fs))∨∃ k,H c=some (.dK k)
theorem cF.Ld {x a b:ae} {u:HO} (e:cF x a b H H') (hx:Md H x) (ha:Md H a) (hb:Md H b) (hc:H c=some u) (n1:∀ C dx fs,u≠.ins C dx fs) (n2:∀ k,u≠.dK k):H' c=some u:=by
 have f:∀ y,Md H y->c≠y:=λy hy z=>by
  rcases hy with ⟨_,_,_,h⟩ | ⟨_,h⟩
  ·rw [z,h] at hc; exact n1 _ _ _ (Option.some.inj hc).symm
  ·rw [z,h] at hc; exact n2 _ (Option.some.inj hc).symm
 exact e c u (f x hx) (f a ha) (f b hb) hc
theorem cF.lst {x a b:ae} (e:cF x a b H H') (hx:Md H x) (ha:Md H a) (hb:Md H b) (hc:H c=some (.lst xs)):H' c=some (.lst xs):=e.Ld hx ha hb hc (λ_ _ _ z=>by cases z) (λ_ z=>by cases z)
theorem cF.tab {x a b:ae} {q:aj} (e:cF x a b H H') (hx:Md H x) (ha:Md H a) (hb:Md H b) (hc:H c=some (.tab q)):H' c=some (.tab q):=e.Ld hx ha hb hc (λ_ _ _ z=>by cases z) (λ_ z=>by cases z)
theorem cF.m8 {x a b sa:ae} {N:Nat} (e:cF x a b H H') (hx:Md H x) (ha:Md H a) (hb:Md H b) (J:ik K H t sa ns N):ik K H' t sa ns N:=by
 obtain ⟨⟨p,q,h1,h2,h3⟩,h4⟩:=J;refine ⟨⟨p,q,h1,h2,e.lst hx ha hb h3⟩,?_⟩;rcases h4 with (h | ⟨o,h⟩) | h
 ·exact .inl (.inl (e.lst hx ha hb h))
 ·exact .inl (.inr ⟨o,e.Ld hx ha hb h (λ_ _ _ z=>by cases z) (λ_ z=>by cases z)⟩)
 ·exact .inr h
theorem Md.nt (h:Md H c):NT H c:=by
 rcases h with ⟨_,_,_,h⟩ | ⟨_,h⟩
 ·exact NT.ins h
 ·exact NT.dK h
theorem cI {a b:ae} {u:HO} (h1:H a=some u) (h2:H b=none):a≠b:=λz=>by rw [z,h2] at h1; cases h1
theorem WQ {s:LIn} {m:Int} (H:Ls [] rows s m):False:=H.1 (by rw [H.2.1]; rfl)
theorem WO:∀ {bs G1:eY} {left:LIn} {rows:eY},kT left rows bs->kT left rows G1->bs=G1
 | [],[],_,_,_,_=>rfl
 | [],c::_,left,rows,h,h'=>by
  rw [show left = [] from h] at h';exact (WQ h'.1).elim
 | b::_,[],left,rows,h,h'=>by
  rw [show left = [] from h'] at h;exact (WQ h.1).elim
 | b::bs,c::G1,left,rows,h,h'=>by
  have e:b=c:=h.1.2.2.2.symm.trans h'.1.2.2.2;subst e;rw [WO h.2 h'.2]
theorem zK:∀ {bs:eY} {left:LIn} {rows:eY},A1 rows->kT left rows bs->∀ b∈bs,0<=b.2/\b.2<=rows.length*99/\b.1≠[]/\b.1.length<=left.length
 | [],_,_,_,_,b,hb=>(Qv hb).elim
 | c::bs,left,rows,hr,h,b,hb=>by
  rcases Ql.mp hb with rfl | hb
  ·obtain ⟨h1,h2,h3,_⟩:=h.1;have:=UA hr (gc b.1);rw [h3];exact ⟨this.1,this.2,h1,by rw [h2]; exact Jp _ _⟩
  ·obtain ⟨a1,a2,a3,a4⟩:=zK hr.i_ h.2 b hb;have:=WU rows c.1;exact ⟨a1,by omega,a3,Qr a4 (Jp _ _)⟩
theorem qW {i:Int} (h0:0<=i) (h:i<=100000):i.natAbs.log2 < 300:=by
 by_cases e:i.natAbs=0
 ·rw [e]; decide
 ·exact (Qam e).mpr (Xo (show i.natAbs<=100000 by omega) 'c')
theorem lN {i:Int} (h0:0<=i) (h:i<=100000):i.natAbs.log2 < 1920:=Xh (qW h0 h) 'c'
theorem nW (h:∀ y∈ps,y.length<=1000) (hl:ps.length<=100):JoinOk (" " : aj) ps=true:=by
 unfold JoinOk;rw [StrLaws.joinFits (B:=1000) h (by show _*1000+_*1<=_; omega)];rfl
theorem WN (n:Int) (hl:hs.length<=12) (hn:n<=6):0<=pK n hs/\pK n hs<=1000:=by
 have b:∀ l∈cT n hs,0<=l*(l+1) / 2/\l*(l+1) / 2<=78:=λl qc=>by
  obtain ⟨h0,h1⟩:=iJ qc;have h2:l<=12:=by omega
  have h3:l*(l+1)<=12*13:=Wx h2 'a' 'a' 'a';have h4:0<=l*(l+1):=Int.mul_nonneg h0 'a';omega
 refine ⟨qT λl h=>(b l h).1,?_⟩;have h1:=wP (g:=λ_=>(78:Int)) λl h=>(b l h).2;rw [rY (f:=λ_:Int=>(78:Int)) (l:=cT n hs) λ_ _=>rfl,iY] at h1;show fQ _<=_;omega
structure Dz (D:DD):Prop where
 m:u5 D
 DS:0<=D.ma
 ma:D.ma<=1000
 nx:D.nx<=100
noncomputable def HU (D:DD):aj:=(" " : aj).join ((cT D.n D.hs).map bS)
noncomputable def AX (p:Int×Int):aj:=bS p.1 ++ ":" ++ bS p.2
noncomputable def wX (D:DD):aj:=if D.nums = [] then "none" else (" " : aj).join ((D.nums.zip D.hs).map AX)
noncomputable def L7 (n:Int) (bs:eY):aj:=(" " : aj).join ((wx n bs).map λx=>zG x.1 x.2)
noncomputable def wY (ws:List (LIn)):LIn:=ws.map λ_=>1
theorem T9 (hM:Dz D):∀ q∈D.nums.zip D.hs,(0<=q.1/\q.1<=100)/\0<=q.2/\q.2<=6:=λq hq=>by
 obtain ⟨i,hi⟩:=Jr.mp hq;rw [Jh] at hi;have h1:=hM.m.kh _ (Qd hi.1);have:=hM.nx;obtain ⟨dl,dh⟩:=fY hM.m.dl;obtain ⟨l,hl⟩:∃ l,D.ws[i]?=some l:=⟨_,Qc (by rw [<- dl]; exact (Qb.mp hi.2).1)⟩
 obtain ⟨_,n6,_,hw⟩:=aV hM.m.bk;obtain ⟨_,w2,_⟩:=bO (hw l (Qd hl));have:=w2 _ (dh i q.2 l hi.2 hl);omega
def dG (K:Rb) (C:ae) (f:DD->aj->Prop):Sp:=λvs H Q _=>∃ (x:ae) (v:V) (D:DD),vs = [.ref x,v]/\ip K H C x D/\Dz D/\∀ t H',aD H H'->f D t->Q (.str t) H'
theorem aDn:b_ ["dealing", "numbers"] ["dealing", "numbers"] (aF oG):=.of
theorem aCj (G:Fn K mg "say_loads" oG ["dealing", "numbers"] f fd) (T:Dc K C) (B:Bl mg) (NC:FM P w K mg base d_ 2 C "loads" rQ ["self"] (wK K C)):c_ P w K mg base d_ 3 f fd ["dealing", "numbers"] (dG K C λD t=>t=HU D):=by
 refine G.fn.oK aDn λfe A outer s H vs Q E hr h=>?_;obtain ⟨x,v,D,rfl,hD,hM,k⟩:=h;have r2:dj 2 _:=hr;refine ⟨_,aI (aP (kG (K:=K) rfl Rz Tr Ts (oC (K:=K) rfl) aJ (aA (cM (own:=["load"]) (fr:=[]) (ff:=[]) (aX (aF oG) ["dealing", "numbers"] rfl rfl 'd') rfl (hG (dY (pv 0) T.cl NC.g.me NC.o r2 NC.g.bd .nil hX))
   (λ_ _ _ _=>(aM (i:=0) (show (["load"]:List aj).Nodup by decide +kernel) rfl eh)) (λ_ _ _ _=>cQ)
   (λ_ _ _ _=>(aZ bR rfl B.str jE (aA (pv 0) aC)))) aC))),?_⟩
 dsimp only [cB,Cx.gf];obtain ⟨ju,ie,hw,_⟩:=aV hM.m.bk;have hl:∀ i∈cT D.n D.hs,0<=i/\i<=12:=λi hi=>by
  have h1:=iJ hi;have:=hD.hl;have:=hD.wl;omega
 have ll:(cT D.n D.hs).length=D.n.toNat:=iY _ _;refine ⟨rfl,_,rfl,x,D.dx,_,rfl,hD.ins,rfl,x,D,rfl,hD,by omega,ie,λp H1 s1 hp=>⟨p,rfl,⟨_,dt.of hp⟩,kB (K:=K) (a:=p) (xs:=(cT D.n D.hs).map V.int) (λσ=>∃ v,σ = [v]) (λi ys H'=>H'=H1/\ys=(((cT D.n D.hs).take i).map bS).map V.str) (cK (by grind)) ⟨none,rfl⟩ ⟨rfl,rfl⟩ (λi ys H' z=>by rw [z.2,Qa,Qa,Qs]; omega) (λi ys H' z=>by rw [z.1]; exact dt.of hp) ?_ ?_⟩⟩
 ·rintro i ys σ xv H' hx ⟨v,rfl⟩ ⟨rfl,rfl⟩ hz;rw [Qh] at hx;obtain ⟨j,hj,rfl⟩:=Qo.mp hx;obtain ⟨j0,j6⟩:=hl j (Qd hj);refine bX ⟨_,rfl,j,rfl,lN j0 'a',hz,⟨_,rfl⟩,rfl,?_⟩;rw [Jw,hj,Qm,Qm]; rfl
 ·rintro ys H' ⟨rfl,rfl⟩ q hq;rw [Qa,Qu];refine ⟨" ",q,(cT D.n D.hs).map bS,rfl,rfl,dm.of aB,nW (λy hy=>?_) (by grind),k _ _ (s1.trans (aD.new hq)) rfl⟩;obtain ⟨i,hi,rfl⟩:=Jc.mp hy;have h1:=hl i hi;exact Qr (cX (qW h1.1 'a')) 'c'
theorem aDo:b_ ["dealing", "numbers"] ["dealing", "numbers"] (aF rO):=.of
theorem aCk (G:Fn K mg "say_moved" rO ["dealing", "numbers"] f fd) (T:Dc K C) (B:Bl mg) (GM:FM P w K mg base d_ 1 C "moved" vW ["self"] (VC K C)):c_ P w K mg base d_ 2 f fd ["dealing", "numbers"] (dG K C λD t=>t=bS D.ma):=by
 refine G.fn.oK aDo λfe A outer s H vs Q E hr h=>?_;obtain ⟨x,v,D,rfl,hD,hM,k⟩:=h;have r1:dj 1 _:=hr;exact ⟨_,aI (aP (aZ bR rfl B.str jE (aA (bM dN (dY (pv 0) T.cl GM.g.me GM.o r1 GM.g.bd .nil hX) aH gb) aC))),_,rfl,x,D.dx,_,rfl,hD.ins,rfl,x,D,rfl,hD.ins,λp hp=>⟨p,_,1,_,rfl,rfl,dt.of aB,rfl,D.ma,rfl,lN hM.DS (by have:=hM.ma; omega),k _ _ (aD.new hp) rfl⟩⟩
theorem aDp:b_ ["dealing", "numbers"] ["dealing", "numbers"] (aF rP):=.of
theorem aCl (G:Fn K mg "say_waits" rP ["dealing", "numbers"] f fd) (T:Dc K C) (B:Bl mg) (GB:FM P w K mg base d_ 1 C "book_now" sT ["self"] (qK K C)) (GD:FM P w K mg base d_ 1 C "deal_now" nN ["self"] (qL K C)) (GW:FF P w K mg base d_ 8 "waits" vQ ["book", "deal"] (U9 K)):c_ P w K mg base d_ 9 f fd ["dealing", "numbers"] (dG K C λD t=>t=bS (pK D.n D.hs)):=by
 refine G.fn.oK aDp λfe A outer s H vs Q E hr h=>?_;obtain ⟨x,v,D,rfl,hD,hM,k⟩:=h;have r8:dj 8 _:=hr;have r1:dj 1 _:=hr.mono 'c';refine ⟨_,aI (aP (aZ bR rfl B.str jE (aA (bF GW r8 rfl (aA (dY (pv 0) T.cl GB.g.me GB.o r1 GB.g.bd .nil hX) (aA (dY (pv 0) T.cl GD.g.me GD.o r1 GD.g.bd .nil hX) aC))) aC))),_,rfl,x,D.dx,_,rfl,hD.ins,rfl,x,D,rfl,hD,λp H1 s1 hp=>?_⟩;dsimp only [cB,Cx.gf];refine ⟨_,rfl,x,D.dx,_,rfl,s1 _ _ hD.ins,rfl,x,D,rfl,hD.same s1,λq H2 s2 hq=>?_⟩;obtain ⟨ju,ie,hw,_⟩:=aV hM.m.bk;have hl:D.hs.length<=12:=by have:=hD.hl; have:=hD.wl; omega
 have mn:=WN D.n hl ie;exact ⟨.ref p,.ref q,D.n,D.ws,D.hs,rfl,⟨s2.den _ _ hp,hM.m.bk,bK.mpr ⟨q,rfl,dt.of hq⟩,hM.m.dl⟩,λH3 s3=>⟨_,rfl,lN mn.1 'a',k _ _ (s1.trans (s2.trans s3)) rfl⟩⟩
theorem wZ:b_ ["dealing", "numbers", "book"] ["dealing", "numbers"] (aF oH):=.of
set_option maxHeartbeats 1000000 in
theorem aCm (G:Fn K mg "say_parts" oH ["dealing", "numbers"] f fd) (T:Dc K C) (B:Bl mg) (GB:FM P w K mg base d_ 1 C "book_now" sT ["self"] (qK K C)) (GP:FF P w K mg base d_ 8 "part_loads" rN ["book", "weights"] (U4 K)) (GS:FF P w K mg base d_ 1 "show_fraction" HN ["fraction"] (U8 K)):c_ P w K mg base d_ 9 f fd ["dealing", "numbers"] (dG K C λD t=>∃ bs,kT (fN D.n.toNat) (D.ws.zip (wY D.ws)) bs/\t=L7 D.n bs):=by
 refine G.fn.oK wZ λfe A outer s H vs Q E hr h=>?_;obtain ⟨x,v,D,rfl,hD,hM,k⟩:=h;have r8:dj 8 _:=hr;have r1:dj 1 _:=hr.mono 'c';refine ⟨_,aE (aU (i:=2) wZ.nd rfl eh (dY (pv 0) T.cl GB.g.me GB.o r1 GB.g.bd .nil hX))
  (aI (aP (kG (K:=K) rfl Rz Tr Ts (oC (K:=K) rfl) aJ (aA (cM (own:=["load"]) (fr:=[]) (ff:=[]) (aX (aF oH) ["dealing", "numbers", "book"] rfl rfl 'd') rfl (hG (bF GP r8 rfl (aA (pv 2) (aA (aS (aIa (K:=K) rfl) (cH (aA aH aC)) (aK aR rfl B.len cO (aA (bM dN (pv 2) aH gb) aC))) aC))))
   (λ_ _ _ _=>(aM (i:=0) (show (["load"]:List aj).Nodup by decide +kernel) rfl eh)) (λ_ _ _ _=>cQ)
   (λ_ _ _ _=>(bF GS r1 rfl (aA (pv 0) aC)))) aC)))),?_⟩
 dsimp only [cB,Cx.gf];refine ⟨_,rfl,x,D.dx,_,rfl,hD.ins,rfl,x,D,rfl,hD,λp H1 s1 hp=>?_⟩;obtain ⟨a,b,ys,e1,h1,h2,h3⟩:=iI hp;cases e1;obtain ⟨ju,ie,hw,_⟩:=aV hM.m.bk;have sy:ys.length=D.ws.length:=by rw [aT h3,Qa]
 have eW:(List.replicate D.ws.length [V.int 1]).flatten=(wY D.ws).map V.int:=by
  unfold wY;rw [Xi];generalize D.ws=l
  induction l with
  | nil=>rfl
  | cons z l ih=>rw [Jl,Zy,Wb,ih]; rfl
 have mn:Dr D.ws (wY D.ws):=⟨Qa ..,λw hw=>by obtain ⟨_,_,rfl⟩:=Jc.mp hw; omega⟩
 refine ⟨rfl,_,rfl,Bh _,λop D_=>?_⟩;have s2:=aD.new (o:=.tup [.int 1]) D_;refine ⟨_,rfl,p,_,1,_,rfl,rfl,s2.di h1,rfl,b,ys,rfl,.inr (s2.di h2),op,D.ws.length,[.int 1],rfl,by rw [sy],dt.of aB,by omega,by decide,λwp H3 s3 qo=>?_⟩;rw [eW] at qo;refine ⟨.ref p,D.n,D.ws,wp,wY D.ws,rfl,(s2.trans s3).den _ _ hp,hM.m.bk,qo,mn,λq us bs H4 s4 hq hd hb=>?_⟩;have DW:=aT hd;have e6:(fN D.n.toNat).length=D.n.toNat:=fX _;have aaf:us.length<=6:=by simp_all [Qa,wx]
 obtain ⟨RO,RS,R12⟩:=wV hM.m.bk mn;have Br:∀ y∈wx D.n bs,(0<=y.1/\y.1<=5000)/\(0<=y.2/\y.2<=6):=λy hy=>by
  obtain ⟨h,hh,rfl⟩:=Jc.mp hy;obtain ⟨c,c1,c2,c3⟩:=M8 hb h hh;obtain ⟨b1,b2,b3,b4⟩:=zK RS hb c c1;rw [c3];have hp:(0:Int) < c.1.length:=by grind
  have i2:=aIP b1 hp;have i3:=aG3 c.2 hp;have i4:=aIQ (a:=c.2) hp;exact ⟨⟨aIO b1 hp,Int.le_trans i2 'a'⟩,Int.le_of_lt i3,Int.le_trans i4 'a'⟩
 refine ⟨q,rfl,⟨_,hq⟩,kB (K:=K) (a:=q) (xs:=us) (λσ=>∃ v,σ = [v]) (λi ys H'=>H'=H4/\ys=(((wx D.n bs).take i).map λx=>zG x.1 x.2).map V.str) (cK 'a') ⟨none,rfl⟩ ⟨rfl,rfl⟩ (λi ys H' z=>by rw [z.2,Qa,Qa,Qs]; omega) (λi ys H' z=>by rw [z.1]; exact hq) ?_ ?_⟩
 ·rintro i zs σ xv H' hx ⟨v,rfl⟩ ⟨rfl,rfl⟩ hz;have hi:i < (wx D.n bs).length:=by have:=(Qb.mp hx).1; rw [DW,Qa] at this; exact this
  have hy:(wx D.n bs)[i]?=some ((wx D.n bs)[i]):=Qc hi;obtain ⟨v',zj,Kl⟩:=pH hd (show ((wx D.n bs).map pA)[i]?=some (pA (wx D.n bs)[i]) by rw [Qh,hy]; rfl);rw [hx] at zj;cases zj;obtain ⟨fp,rfl,ox⟩:=qU.mp Kl;obtain ⟨⟨a0,a1⟩,b0,b1⟩:=Br _ (Qd hy);refine bX ⟨_,rfl,fp,_,_,rfl,ox,qW a0 'a',qW b0 'a',hz,⟨_,rfl⟩,rfl,?_⟩;rw [Jw,hy,Qm,Qm]; rfl
 ·rintro zs H' ⟨rfl,rfl⟩ r wz;rw [DW,Qa,Qu];refine ⟨" ",r,(wx D.n bs).map λx=>zG x.1 x.2,rfl,rfl,dm.of aB,nW (λy hy=>?_) (by grind),k _ _ (((s1.trans s2).trans s3).trans (s4.trans (aD.new wz))) ⟨bs,hb,rfl⟩⟩;obtain ⟨z,hz,rfl⟩:=Jc.mp hy;obtain ⟨⟨a0,a1⟩,b0,b1⟩:=Br z hz;have l1:=cX (qW a0 'a');have l2:=cX (qW b0 'a');unfold zG;split
  ·omega
  ·rw [gG,gG];have l3:("/" : aj).length=1:=by rfl
   omega
theorem zL:b_ ["dealing", "numbers", "rows"] ["dealing", "numbers"] (aF qC):=.of
theorem aDq (G:Fn K mg "say_deal" qC ["dealing", "numbers"] f fd) (T:Dc K C) (B:Bl mg) (GM:FM P w K mg base d_ 1 C "deal" EY ["self"] (VB K C)):c_ P w K mg base d_ 2 f fd ["dealing", "numbers"] (dG K C λD t=>t=wX D):=by
 refine G.fn.oK zL λfe A outer s H vs Q E hr h=>?_;obtain ⟨x,v,D,rfl,hD,hM,k⟩:=h;have r1:dj 1 _:=hr;refine ⟨_,aE (VN (hU (i:=2) (own:=["number", "hand"]) (fr:=[]) (ff:=[]) (aX (aF qC) ["dealing", "numbers", "rows"] rfl rfl 'd') rfl zL.nd rfl rfl rfl (aGr (uS Tj Iw PySem.F.type_dict_items aGq (dY (pv 0) T.cl GM.g.me GM.o r1 GM.g.bd .nil hX)))
   (λ_ _ _ _=>oI (K:=K) (n:=2) rfl rfl (bD (aM (i:=0) (show (["number", "hand"]:List aj).Nodup by decide +kernel) rfl eh) (bD (aM (i:=1) (show (["number", "hand"]:List aj).Nodup by decide +kernel) rfl eh) eT))) (λ_ _ _ _=>cQ)
   (λ_ _ _ _=>(UD (vH (pv 0)) aJ (vH (pv 1))))))
  (aI (aP (X6 (uL (pv 2) (λ_=>rfl)) (kG (K:=K) rfl Rz Tr Ts (oC (K:=K) rfl) aJ (aA (pv 2) aC)) aJ))),?_⟩
 dsimp only [cB,Cx.gf];refine ⟨_,rfl,x,D.dx,_,rfl,hD.ins,rfl,x,D,rfl,hD,λp hp=>?_⟩;have s1:=aD.new (o:=.dK (gn D.nums D.hs)) hp;have e1:upd H p (.dK (gn D.nums D.hs)) p=some (.dK (gn D.nums D.hs)):=aB;generalize upd H p (.dK (gn D.nums D.hs))=H1 at s1 e1 ⊢;obtain ⟨_,_,oi,_⟩:=aV hM.m.bk;have hnl:D.nums.length<=12:=by rw [<- hD.wl]; exact oi
 have vp:(D.nums.zip D.hs).length=D.nums.length:=by rw [Zh,hD.hl]; exact Yv _
 have w_:(gn D.nums D.hs).length=D.nums.length:=by unfold gn; rw [Qa,vp]
 have hz:=T9 hM;have rl:∀ y∈(D.nums.zip D.hs).map AX,y.length<=1000:=λy hy=>by
  obtain ⟨q,hq,rfl⟩:=Jc.mp hy;obtain ⟨⟨a0,a1⟩,b0,b1⟩:=hz q hq;have l1:=cX (qW a0 'a');have l2:=cX (qW b0 'a');have l3:(":" : aj).length=1:=by rfl
  unfold AX;rw [gG,gG];omega
 refine ⟨.inr (.inr (.inl ⟨rfl,.inl ⟨_,e1⟩⟩)),p,_,rfl,rfl,.inl e1,λv hv=>⟨v,p,_,rfl,aB,(aD.new hv) _ _ e1,λo nf=>?_⟩⟩;have npv:p≠v:=λz=>by rw [z,hv] at e1; cases e1
 have ef:upd (upd H1 v (BS v p)) p (.f_ o (.dK (gn D.nums D.hs))) p=some (.f_ o (.dK (gn D.nums D.hs))):=aB;have sf:∀ c u,H c=some u->upd (upd H1 v (BS v p)) p (.f_ o (.dK (gn D.nums D.hs))) c=some u:=λc u hc=>by
  rw [aG (cI hc hp),aG (cI (s1 _ _ hc) hv)]; exact s1 _ _ hc
 generalize upd (upd H1 v (BS v p)) p (.f_ o (.dK (gn D.nums D.hs)))=H2 at ef sf ⊢;refine aC2 (a:=p) (o:=o) (kvs:=gn D.nums D.hs) (λσ=>∃ u v,σ = [u,v]) (λi ys H'=>aD H2 H'/\ys=(((D.nums.zip D.hs).take i).map AX).map V.str) (cK 'a') ⟨none,none,rfl⟩ ⟨aD.refl _,rfl⟩ (λi ys H' z=>by rw [z.2,Qa,Qa,Qs]; omega) (λi ys H' z=>z.1 _ _ ef) ?_ ?_
 ·rintro i ys σ q b H' hq ⟨u,v',rfl⟩ ⟨s',rfl⟩ hy hb;unfold gn at hq;rw [Qh] at hq;obtain ⟨q0,Gn,rfl⟩:=Qo.mp hq;obtain ⟨⟨a0,a1⟩,b0,b1⟩:=hz q0 (Qd Gn);have la:=cX (qW a0 'a');have lb:=cX (qW b0 'a');have l3:(":" : aj).length=1:=by rfl
  have z1:(bS q0.1).length<=af:=by grind [Rf]
  have z2:(bS q0.1 ++ ":").length<=af:=by grind [Rf,gG]
  have z3:(bS q0.1 ++ ":" ++ bS q0.2).length<=af:=by grind [Rf,gG]
  refine ⟨b,_,rfl,dt.of aB,rfl,_,_,rfl,_,_,rfl,rfl,_,rfl,q0.1,rfl,lN a0 'a',_,rfl,z1,_,rfl,z2,_,rfl,q0.2,rfl,lN b0 'a',_,rfl,z3,hy,⟨_,_,rfl⟩,s'.trans (aD.new hb),?_⟩;rw [dA Gn,Qm,Qm]; rfl
 ·rintro ys H' ⟨s',rfl⟩ q hq;rw [w_,<- vp,Qu];have ep:=s' _ _ ef;have O6:q≠p:=λz=>by rw [z,ep] at hq; cases hq
  refine ⟨p,o,gn D.nums D.hs,by rw [aG O6.symm]; exact ep,nf,?_⟩;have e4:upd (upd H' q (.lst (((D.nums.zip D.hs).map AX).map V.str))) p (.dK (gn D.nums D.hs)) q=some (.lst (((D.nums.zip D.hs).map AX).map V.str)):=by rw [aG O6,aB]
  have s4:aD H (upd (upd H' q (.lst (((D.nums.zip D.hs).map AX).map V.str))) p (.dK (gn D.nums D.hs))):=λc u hc=>by
   rw [aG (cI hc hp),aG (cI (s' _ _ (sf _ _ hc)) hq)]; exact s' _ _ (sf _ _ hc)
  generalize upd (upd H' q (.lst (((D.nums.zip D.hs).map AX).map V.str))) p (.dK (gn D.nums D.hs))=H4 at e4 s4 ⊢;have kk:=k (wX D) H4 s4 rfl;unfold wX at kk;refine ⟨_,rfl,_,.inl ⟨_,dm.of e4,rfl⟩,?_⟩;by_cases c:D.nums = []
  ·rw [if_pos c] at kk;rw [c];exact iQ kk
  ·rw [if_neg c] at kk;refine dM ?_ ?_
   ·cases hn:D.nums with
    | nil=>exact absurd hn c
    | cons a l =>
     cases hh:D.hs with
     | nil=>have:=hD.hl; rw [hn,hh] at this; cases this
     | cons b r=>rfl
   ·exact ⟨rfl,_,rfl, " ",q,_,rfl,rfl,dm.of e4,nW rl (by grind),kk⟩
end Ab
namespace L2
open PySem PySem.Spec PyProof.Rows
section
variable {k:Nat} {ds:List aa} {o:ay} {t:TA}
def aKD (C:ae) (m:aj) (sp:Sp) (je:List V) (ta:TE) (t:TA):TB:=λD EX σ H=>LS C m sp je EX ta t σ H λ_ H2=>D.nx σ H2
theorem aI1 (he:PE X.gf o ta) (c:u6 X.K C) (hm:Meth X.K C m f) (F:c_ X.prog X.w X.K X.mg X.base (gk X.prog X.w) k f fd ps sp) (hr:dj k X.A) (hb:dU X.K fd ps ds) (hd:bG je ds) (ha:PA X.gf (e::es) t) (jx:autoParam (ao (e::es) X.env=(false,eval e X.env)::ao es X.env) L2.f') (ke:autoParam ((cj pos (ao es X.env)).any (·.1)=false) L2.f') (hs:autoParam (cp (.Call (.Attribute o m apos) (e::es) [] pos) none pos'.line X.env=pure false) L2.f') (ht:autoParam (eval (.Call (.Attribute o m apos) (e::es) [] pos) X.env=(do
   let ov<-eval o X.env
   standAt apos.atName
   let (f,first)<-holding [ov] (getMethod ov m pl)
   callWith pos f first (cj pos (ao (e::es) X.env)) (dg pos (cy [] X.env)))) L2.f') :
  PB X [.Expr (.Call (.Attribute o m apos) (e::es) [] pos) pos'] (aKD C m sp je ta t):=by
 intro a_ s σ H D EX I h;refine Iz (wpAny_Expr_any (fc (Q:=EP X a_ σ λ_ H2=>D.nx σ H2) ?_ λv s1 e_=>?_) I.quiet hs)
 ·refine Vk (pl:=pl) (Ro (he a_ s σ H _ (I.km _) h) (λu s1 e_=>?_) λ_ _ z=>False.elim z) ht;obtain ⟨x,H1,I1',rx,a,dx,fs,ex,ea,l,q⟩:=e_;have I1:=I1'.gx;subst ex;obtain rfl:u=aa.ref a:=rx;refine pF I1 ea c hm l (Uj (first:=[.ref a]) (h₀:=X.base) I.ok.mod.zg hm.kp (Ro (ha pos a_ s1 σ H1 _ (I1.km _) q) (λus s2 ⟨vs,H2,YJ,r,q2⟩=>⟨YJ.j4,?_⟩) λ_ _ z=>False.elim z) jx ke);have I2:=YJ.gx;have r2:bG (V.ref a::(vs++je)) (aa.ref a::(us++ds)):=.cons rfl (r.append hd);have hl:(aa.ref a::us++ds).length=ps.length:=by
   have e:=r2.length;rw [F.len _ _ _ _ q2] at e;exact e.symm
  refine Ij (Ux (F.run X.A X.stack s2 H2 ⟨aa.ref a::us,[]⟩ (aa.ref a::(us++ds)) _ _ EX hr I2.Cr (hb s2 (aa.ref a::us) I2.j4 hl) r2 q2) λr s' hq=>?_);cases r with
  | error e=>exact ⟨H2,s2,I2,hq⟩
  | ok fl =>
   cases fl with
   | ret u=>exact I2.after hq
   | next=>exact False.elim hq
   | brk=>exact False.elim hq
   | cont=>exact False.elim hq
 ·obtain ⟨x,H1,I1,r1,q1⟩:=e_;exact Uq ⟨σ,H1,I1,q1⟩
end
end L2
namespace Ab
open PySem L2
structure ji (t:aj):Prop where
 asc:il t
 len:t.length<=5000
 kh:(Txt.split t " ").length<=1000
theorem ji.mem {t p:aj} (h:ji t) (hp:p∈Txt.split t " "):il p/\p.length<=1000000:=by
 have hi:=aE9 (sep := " ") 'd' 'd' hp;refine ⟨kZ λc hc=>h.asc.lt (hi.sublist.subset hc),?_⟩;have:=hi.length_le;rw [dP,dP] at this;have:=h.len;omega
theorem sF (t:aj):∃ f r,Txt.split t " " = f::r:=by
 have h:=(wO (x:=t) (sep := " ") 'd' 'd').1;cases e:Txt.split t " " with
 | nil=>exact absurd e h
 | cons f r=>exact ⟨f,r,rfl⟩
noncomputable def jL (r:List aj):LIn:=r.map λx=>EO x.cps.toList
theorem aFp {f:aj} {r:List aj} (h:qV (f::r)=true):∀ x∈r,dF x.cps.toList=true:=λx hx=>by
 unfold qV at h;rw [Qt] at h;exact Jo.mp h.1 _ (Jc.mpr ⟨x,hx,rfl⟩)
structure we (K:Rb) (C:ae) (m:aj) (st:ax) (ps:List aj) (f:ae) (fd:bh):Prop where
 fn:qk K m (("Desk." : aj)++m) st f fd
 me:Meth K C m f
 bd:dU K fd ps []
structure FD (P:bq) (w:bx) (K:Rb) (mg:aj->Option aa) (base:ag) (CX:xj) (k:Nat) (C:ae) (x:aj) (st:ax) (ps:List aj) (sp:Sp) where
 f:ae
 fd:bh
 g:we K C x st ps f fd
 o:c_ P w K mg base CX k f fd ps sp
structure A7 (K:Rb) (C:ae):Prop where
 cl:u6 K C
 n1:iC K C "dealing"
section
variable {c:Nat->ae}
def M4 (Cd:ae):Sp:=λvs H Q _=>∃ (d fj:ae),vs = [.ref d]/\H d=some (.ins Cd fj [])/\Q .fk (upd H d (.ins Cd fj [("dealing",.fk)]))
theorem aI2:b_ ["self"] ["self"] (aF yR):=.of
theorem aHi (G:we K Cd "__init__" yR ["self"] f fd) (T:A7 K Cd):c_ P w K mg base d_ 1 f fd ["self"] (M4 Cd):=by
 refine G.fn.oK aI2 λfe A outer s H vs Q E hr h=>?_;obtain ⟨d,fj,rfl,hd,k⟩:=h;exact ⟨_,aI (lT (pv 0) rA rfl),_,rfl,d,Cd,fj,_,rfl,hd,T.cl,T.n1,(show (0:Nat) < 1000 by decide),k⟩
def m5 (Cd:ae) (H:Hp) (d fj:ae) (y:V):Prop:=H d=some (.ins Cd fj [("dealing",y)])
def aMu (K:Rb) (C Cd:ae) (c:Nat->ae) (FS:aj->Sp->Prop) (H:Hp) (Q:VK) (E:XK) (d fj:ae) (y:V) (f:aj) (r:List aj):Prop :=
 (qV (f::r)=false/\∀ H',aD H H'->E (.ref (c 5)) none H') ∨
 qV (f::r)=true/\((f = "hands" /\ ∃ n,jL r = [n]/\((eN (.int n)=false/\∀ H',aD H H'->E (.ref (c 0)) none H') ∨
   (1<=n/\n<=6/\∀ x dx da dh H',fg d H H'->H x=none->H da=none->H dh=none->H' x≠none->ip K H' C x (DD.begun n dx da dh)->m5 Cd H' d fj (.ref x)->Q (.str "ok") H'))) ∨
  f ≠ "hands" /\ ((y=.fk/\∀ H',aD H H'->E (.ref (c 5)) none H') ∨
   ∃ x sp,y=.ref x/\FS f sp/\∀ np H',aD H H'->H' np=some (.lst ((jL r).map V.int))->sp [.ref x,.ref np] H' Q E))
def jF (K:Rb) (C Cd:ae) (c:Nat->ae) (FS:aj->Sp->Prop):Sp:=λvs H Q E=>∃ (d fj:ae) (y:V) (t f:aj) (r:List aj),vs = [.ref d,.str t]/\ji t/\Txt.split t " " = f::r/\m5 Cd H d fj y/\aMu K C Cd c FS H Q E d fj y f r
theorem Hn:b_ ["self", "row", "words", "numbers", "deed"] ["self", "row"] (aF xR):=.of
set_option maxHeartbeats 2000000 in
theorem aKE {fI:ae} {dI:bh} {kvs:List (Key×aa)} {FS:aj->Sp->Prop} (G:we K Cd "say" xR ["self", "row"] f fd) (T:A7 K Cd) (B:Bl mg) (Z:Cl K mg cE c) (GRw:FF P w K mg base d_ 2 "is_row" vU ["words"] (U2 K)) (DA:BD P w K dd kvs) (C3:mg "DEEDS" = some (.ref dd)) (MK:Mk K C fI) (Kz:mg "Dealing" = some (.ref C)) (GIn:Mt K C "__init__" yS ["self", "hands"] fI dI) (Nq:c_ P w K mg base d_ 3 fI dI ["self", "hands"] (MB K C)) (OIx:c_ P w K mg base (gk P w) 3 fI dI ["self", "hands"] (Nd K c)) (GQ:∀ x sp,FS x sp->∃ fS fd,valueAt kvs (.inr x)=some (.ref fS)/\c_ P w K mg base (gk P w) 9 fS fd ["dealing", "numbers"] sp/\dU K fd ["dealing", "numbers"] []/\Ri K (.ref fS)=true):c_ P w K mg base (gk P w) 10 f fd ["self", "row"] (jF K C Cd c FS):=by
 refine G.fn.vm Hn λfe A outer s H vs Q E hr h=>?_;obtain ⟨d,fj,y,t,f1,r,rfl,ei,i9,hd,k⟩:=h;have r9:dj 9 _:=hr;have r4:dj 4 _:=hr.mono 'c';have r2:dj 2 _:=hr.mono 'c';have hF:∀ f sp,(∃ x,FS x sp/\valueAt kvs (.inr x)=some (.ref f))->∃ fd,c_ P w K mg base (gk P w) 9 f fd ["dealing", "numbers"] sp/\dU K fd ["dealing", "numbers"] []/\Ri K (.ref f)=true:=λf sp h=>by
  obtain ⟨x,h1,h2⟩:=h;obtain ⟨fS,fd,e,q⟩:=GQ x sp h1;rw [h2] at e;cases e;exact ⟨fd,q⟩
 refine ⟨_,aE (bQ (cV (cD (aK xV rfl B.isinstance nL (aA (pv 1) (aA (iX (v:=.ty "str") rfl B.str jE rfl) aC))))) cW aW)
  (aE (aU (i:=2) Hn.nd rfl eh (kG (K:=K) rfl Rz Ua Me WX (pv 1) (aA aJ aC)))
  (aE (bQ (cV (cD (bF GRw r2 rfl (aA (pv 2) aC)))) (aI (jC (Z.ec 5 'c') rfl (Z.mc 5 _ rfl) rfl (λ_ _ _ _ _ _ _ I m q=>kQ I m q))) aW)
  (aE (hU (i:=3) (own:=["word"]) (fr:=[]) (ff:=[]) (aX (aF xR) ["self", "row", "words", "numbers", "deed"] rfl rfl 'd') rfl Hn.nd rfl rfl rfl (cZ (eV tN (pv 2) (gT aH) gS))
   (λ_ _ _ _=>(aM (i:=0) (show (["word"]:List aj).Nodup by decide +kernel) rfl eh)) (λ_ _ _ _=>cQ) (λ_ _ _ _=>(aZ aEZ rfl B.int E3 (aA (pv 0) aC))))
  (aE (bQ (aO cY (bM bU (pv 2) aH gb) aJ ft) (aE (lT (pv 0) (aHO MK ((Nq.yw).or OIx) r4 rfl Kz GIn.bd .nil yJ (aA (bM bU (pv 3) aH gb) aC)) rfl) (aI (aP aJ))) aW)
  (aE (bQ (aO UR (cN (pv 0) rfl) rA ft) (aI (jC (Z.ec 5 'c') rfl (Z.mc 5 _ rfl) rfl (λ_ _ _ _ _ _ _ I m q=>kQ I m q))) aW)
  (aE (aU (i:=4) Hn.nd rfl eh (aIh DA rfl C3 (bM bU (pv 2) aH gb) (λ_ _=>rfl)))
  (aI (aP (aGp hF r9 yJ (pv 4) (aA (cN (pv 0) rfl) (aA (pv 3) aC))))))))))),?_⟩
 dsimp only [cB,Cx.gf];have jb:∀ x∈r,il x/\x.length<=1000000:=λx hx=>ei.mem (by rw [i9]; exact Qj _ hx);have wy:r.length<=1000:=by have:=ei.kh; rw [i9,Jl] at this; omega
 refine ⟨_,rfl,_,rfl,_,rfl,iQ ?_⟩;refine ⟨_,rfl,rfl,_,_,rfl,rfl,by decide +kernel,by have:=ei.len; rw [Rf]; omega,λwp qo=>?_⟩;rw [i9];have s1:=aD.new (o:=.lst ((f1::r).map V.str)) qo;have e1:upd H wp (.lst ((f1::r).map V.str)) wp=some (.lst ((f1::r).map V.str)):=aB;generalize upd H wp (.lst ((f1::r).map V.str))=H1 at s1 e1 ⊢;refine ⟨_,rfl,wp,f1,r,rfl,dm.of e1,wy,jb,λH2 s2=>⟨_,rfl,?_⟩⟩;rcases k with ⟨hb,k⟩ | ⟨hb,k⟩
 ·rw [hb]; exact iE (k H2 (s1.trans s2))
 rw [hb];refine iQ ?_;refine ⟨_,rfl,1,rfl,wp,_,rfl,dm.of (s2 _ _ e1),λsp i9=>?_⟩;rw [show (1:Int)=((1:Nat):Int) from rfl,lC];have ed:((f1::r).map V.str).drop 1=r.map V.str:=rfl;rw [ed];have s3:=s2.trans (aD.new (o:=.lst (r.map V.str)) i9);have e3:upd H2 sp (.lst (r.map V.str)) sp=some (.lst (r.map V.str)):=aB;generalize upd H2 sp (.lst (r.map V.str))=H3 at s3 e3 ⊢;refine ⟨sp,rfl,⟨_,dm.of e3⟩,eZ (K:=K) (a:=sp) (xs:=r.map V.str) (λσ=>∃ v,σ = [v]) (λi ys H'=>H'=H3/\ys=(jL (r.take i)).map V.int) (cK (by simp_all)) ⟨none,rfl⟩ ⟨rfl,rfl⟩ (λi ys H' z=>by rw [z.2,Qa]; unfold jL; rw [Qa,Qs]; omega) (λi ys H' z=>by rw [z.1]; exact dm.of e3) ?_ ?_⟩
 ·rintro i ys σ xv H' hx ⟨u,rfl⟩ ⟨rfl,rfl⟩ hz;rw [Qh] at hx;obtain ⟨x,kr,rfl⟩:=Qo.mp hx;obtain ⟨n1,_,_,n4⟩:=zI ((aFp hb) x (Qd kr));refine bX ⟨_,rfl,x,_,rfl,n1,by omega,hz,⟨_,rfl⟩,rfl,?_⟩;unfold jL;rw [dA kr,Qm,Qm]; rfl
 rintro ys Hx ⟨rfl,rfl⟩ np oh;rw [Qa,Qu];have s4:=(s1.trans s3).trans (aD.new (o:=.lst ((jL r).map V.int)) oh);have e4:upd Hx np (.lst ((jL r).map V.int)) np=some (.lst ((jL r).map V.int)):=aB;have ew:=(aD.new (o:=.lst ((jL r).map V.int)) oh) _ _ (s3 _ _ e1);generalize upd Hx np (.lst ((jL r).map V.int))=H4 at s4 e4 ew ⊢;have C_:=s4 _ _ hd;have BN:lj ((f1::r).map V.str) 0=some (.str f1):=fG (j:=0) rfl;refine ⟨_,rfl,wp,_,0,.str f1,rfl,rfl,dm.of ew,BN,rfl,_,rfl,?_⟩;rcases k with ⟨rfl,n,en,k⟩ | ⟨gw,k⟩
 ·refine dM tK ?_;rw [en] at e4;refine ⟨_,rfl,np,_,0,.int n,rfl,rfl,dm.of e4,rfl,λx dx hx KL Z3=>?_⟩;have s5:aD H4 (upd (upd H4 dx (.own x)) x (.ins C dx [])):=(aD.new KL).trans (aD.new (by rw [aG Z3.symm]; exact hx));rcases k with ⟨hh,k⟩ | ⟨h1,h6,k⟩
  ·exact .inr ⟨x,.int n,.int n,rfl,cU.mpr rfl,hh,λH' s'=>k H' (s4.trans (s5.trans s'))⟩
  refine .inl ⟨x,dx,n,rfl,aB,h1,h6,λda dh H5 b5 Cm Ci hD=>⟨rfl,?_⟩⟩;have q5:aD H4 H5:=λc u hc=>b5 _ _ (cI hc hx) (s5 _ _ hc);refine ⟨_,rfl,d,Cd,fj,_,rfl,q5 _ _ C_,T.cl,T.n1,(show (1:Nat) < 1000 by decide),?_⟩;have b6:fg d H5 (upd H5 d (.ins Cd fj [("dealing",.ref x)])):=fg.at;have nx:=(cI C_ hx).symm;have FC:H4 da=none:=s5.free Cm;have Fz:H4 dh=none:=s5.free Ci;have nh:=(cI C_ Fz).symm;exact k x dx da dh _ (λc u hc hu=>b6 _ _ hc (q5 _ _ (s4 _ _ hu))) (s4.free hx) (s4.free FC) (s4.free Fz) (λz=>by cases (b6 _ _ nx hD.ins).symm.trans z) ⟨b6 _ _ nx hD.ins,b6 _ _ ((cI C_ FC).symm) hD.dz,b6 _ _ nh hD.hand,rfl,rfl,rfl,λi t l q=>by simp [DD.begun] at q,hD.ne⟩ aB
 refine cS (xU gw) ?_;refine ⟨_,rfl,d,Cd,fj,_,_,rfl,C_,T.cl,T.n1,rfl,rfl,_,rfl,?_⟩;rcases k with ⟨rfl,k⟩ | ⟨x,Am,rfl,C9,k⟩
 ·exact dM (decide_eq_true rfl) (k H4 s4)
 refine cS (decide_eq_false λz=>by cases z) ?_;obtain ⟨fS,Lc,ev,_⟩:=GQ f1 Am C9;refine ⟨_,rfl,wp,_,0,.str f1,rfl,rfl,dm.of ew,BN,.inr f1,fS,rfl,ev,?_⟩;exact ⟨_,rfl,fS,Am,rfl,⟨f1,C9,ev⟩,_,rfl,d,Cd,fj,_,_,rfl,C_,T.cl,T.n1,rfl,_,rfl,k np H4 s4 e4⟩
def jG (i:Int):Prop:=(0<=i/\i<=100)∨i=999999
theorem aI3:∀ k:Nat,k < 101->dF (bS (k:Int)).cps.toList=true/\EO (bS (k:Int)).cps.toList=(k:Int):=by decide
theorem L6 {i:Int} (h:jG i):dF (bS i).cps.toList=true/\EO (bS i).cps.toList=i:=by
 rcases h with ⟨h0,h1⟩ | rfl
 ·have q:=aI3 i.toNat 'a';rw [Zk h0] at q;exact q
 ·decide
def GW (p:aj):Prop:=il p/\32∉p.cps.toList/\p.length<=6
theorem aKF {i:Int} (h:jG i):GW (bS i):=by
 have h1:=(L6 h).1;obtain ⟨_,_,_,l6⟩:=zI h1;unfold dF at h1;simp only [Qt] at h1;have hd:∀ c∈(bS i).cps.toList,48<=c/\c<=57:=λc hc=>by
  have:=Jo.mp h1.2.2 c hc;unfold dig at this;simpa using this
 exact ⟨kZ λc hc=>by have:=(hd c hc).2; omega,λhc=>by have:=(hd 32 hc).1; omega,l6⟩
noncomputable def eO (f:aj) (l:LIn):aj:=(" " : aj).join (f::l.map bS)
theorem HS {s:List Nat} {c:Nat}:∀ {ps:List (List Nat)},c∈jn s ps->c∈s∨∃ p∈ps,c∈p
 | [],h=>by cases h
 | [p],h=>.inr ⟨p,Qk ..,h⟩
 | p::q::r,h=>by
  rw [jS (Zb _ _)] at h;rcases Qp.mp h with h | h
  ·rcases Qp.mp h with h | h
   ·exact .inr ⟨p,Qk ..,h⟩
   ·exact .inl h
  ·rcases HS h with h | ⟨x,h1,h2⟩
   ·exact .inl h
   ·exact .inr ⟨x,Qj _ h1,h2⟩
theorem aI4 (h0:ps≠[]) (h:∀ p∈ps,GW p) (hl:ps.length<=20):ji ((" " : aj).join ps)/\Txt.split ((" " : aj).join ps) " " = ps:=by
 have e:Txt.split ((" " : aj).join ps) " " = ps:=wM (c:=32) (s':=[]) 'd' 'd' h0 λp hp=>(h p hp).2.1;refine ⟨⟨kZ λc hc=>?_,?_,by rw [e]; omega⟩,e⟩
 ·rw [gF] at hc;rcases HS hc with hc | ⟨p,hp,hc⟩
  ·have h1:(" " : aj).cps.toList = [32]:=by decide +kernel
   rw [h1] at hc;rw [Qi.mp hc]; decide
  ·obtain ⟨q,hq,rfl⟩:=Jc.mp hp;exact (h q hq).1.lt hc
 ·have h1:=StrLaws.join_length_le (" " : aj) ps;have h2:=L9 (λx:aj=>x.length) 6 ps λy hy=>(h y hy).2.2;have h3:(" " : aj).length=1:=by rfl
  rw [h3] at h1;omega
theorem xA {f:aj} (hf:GW f) (h:∀ i∈l,jG i) (hl:l.length<=19):ji (eO f l)/\Txt.split (eO f l) " " = f::l.map bS/\qV (f::l.map bS)=sC f (l.map bS)/\jL (l.map bS)=l:=by
 obtain ⟨a,b⟩:=aI4 (ps:=f::l.map bS) (Zb _ _) (λp hp=>by
  rcases Ql.mp hp with rfl | hp
  ·exact hf
  ·obtain ⟨i,hi,rfl⟩:=Jc.mp hp;exact aKF (h i hi)) (by simp_all)
 refine ⟨a,b,?_,?_⟩
 ·show (((l.map bS).map λx=>dF x.cps.toList).all id && _)=_;rw [Xi,show ((l.map ((λx:aj=>dF x.cps.toList) ∘ bS)).all id)=true from Jo.mpr λb hb=>by
   obtain ⟨i,hi,rfl⟩:=Jc.mp hb;exact (L6 (h i hi)).1,Jt]
 ·unfold jL;rw [Xi];exact (Qaf λi hi=>(L6 (h i hi)).2).trans (List.map_id l)
theorem Ew {f:aj} (h:f∈(["put", "take", "come", "go", "hands", "loads", "parts", "deal", "moved", "waits"]:List aj)):GW f:=by
 have q:∀ f∈(["put", "take", "come", "go", "hands", "loads", "parts", "deal", "moved", "waits"]:List aj),(f.cps.all (· < 128)=true)/\32∉f.cps.toList/\f.length<=6:=by decide +kernel
 exact q f h
theorem aFq {f:aj} (h:f∈(["come", "go", "loads", "parts", "deal", "moved", "waits"]:List aj)):sC f []=true/\f ≠ "hands" := by
 have q:∀ f∈(["come", "go", "loads", "parts", "deal", "moved", "waits"]:List aj),sC f []=true/\f ≠ "hands" := by decide
 exact q f h
theorem WM {r:List aj} (h:r≠[]):sC "put" r=true:=by
 unfold sC;rw [if_pos rfl,decide_eq_true_iff];exact Xk.mpr h
theorem nX {f x:aj} (h:f = "hands" ∨ f = "take"):sC f [x]=true:=by
 unfold sC;rw [if_neg (by rcases h with rfl | rfl <;> decide +kernel),if_pos h]; rfl
structure qz (D:DD) (j:Nat):Prop where
 m:u5 D
 DS:0<=D.ma
 ma:D.ma<=12*j
 nx:D.nx<=j
theorem qz.dk (h:qz D j) (hj:j<=80):Dz D:=⟨h.m,h.DS,by have:=h.ma; omega,by have:=h.nx; omega⟩
theorem xB {n:Int} {h x:Int} (hb:∀ l∈ws,cA n (cR l)=true) (k!:0<=n) (hn:n<=6) (p:mF ws hs h ss x) (nd:(h::ss.map (·.2.2)).Nodup):ss.length<=6:=by
 have h1:=oO n.toNat (ss.map (·.2.2)) (Jq.mp nd).2 λy hy=>by
  obtain ⟨s,k9,rfl⟩:=Jc.mp hy;obtain ⟨_,l,h2,h3,_⟩:=lL p s k9;have:=(bO (hb l (Qd h2))).2.1 _ h3;omega
 rw [Qa] at h1;omega
theorem uF {e:i7} (h:qz D j) (L:lu D S) (m:qP S e) (hM:u5 D') (d:Did D e D'):qz D' (j+1):=by
 obtain ⟨ju,ie,_,hw⟩:=aV h.m.bk;have h1:=h.DS;have h2:=h.ma;have h3:=h.nx;cases e with
 | i5=>cases d; exact ⟨hM,h1,by show D.ma<=_; omega,by show D.nx<=_; omega⟩
 | go=>cases d; exact ⟨hM,h1,by show D.ma<=_; omega,by show D.nx<=_; omega⟩
 | take num =>
  obtain ⟨k,last,ss,e1,e2,T,rfl⟩:=d;have hl:ss.length<=6:=by
   rcases T with rfl | ⟨h,p,nd⟩
   ·exact Ji _
   ·exact xB hw 'a' ie p nd
  exact ⟨hM,by show 0<=D.ma+(ss.length:Int); omega,by show D.ma+(ss.length:Int)<=_; omega,by show D.nx<=_; omega⟩
 | put t l =>
  obtain ⟨hs,m',ss,last,T,rfl⟩:=d;obtain ⟨zi,_⟩:=m;rw [<- L.n] at zi;have hl:ss.length<=6:=xB (λl' qc=>by
   rcases Qp.mp qc with z | z
   ·exact hw l' z
   ·rw [Qi.mp z]; exact zi) 'a' ie T.path T.nd
  have h0:=Xk.mpr T.ne;have:=T.m;exact ⟨hM,by show 0<=D.ma+m'; omega,by show D.ma+m'<=_; omega,by show D.nx+1<=_; omega⟩
def aKG (D:DD) (t:aj):Prop:=∃ bs,kT (fN D.n.toNat) (D.ws.zip (wY D.ws)) bs/\t=L7 D.n bs
def zM (D:DD) (f t:aj):Prop:=(f = "loads" /\ t=HU D)∨(f = "deal" /\ t=wX D)∨(f = "moved" /\ t=bS D.ma)∨(f = "waits" /\ t=bS (pK D.n D.hs))∨(f = "parts" /\ aKG D t)
noncomputable def zN:List aj:=["loads", "deal", "moved", "waits", "parts"]
theorem zM.uniq {f t t':aj} (h:zM D f t) (h':zM D f t'):t=t':=by
 have n1:("loads" : aj) ≠ "deal" /\ ("loads" : aj) ≠ "moved" /\ ("loads" : aj) ≠ "waits" /\ ("loads" : aj) ≠ "parts" /\ ("deal" : aj) ≠ "moved" /\ ("deal" : aj) ≠ "waits" /\ ("deal" : aj) ≠ "parts" /\ ("moved" : aj) ≠ "waits" /\ ("moved" : aj) ≠ "parts" /\ ("waits" : aj) ≠ "parts" := by decide
 obtain ⟨a1,a2,a3,a4,a5,a6,a7,a8,a9,uz⟩:=n1;rcases h with ⟨rfl,rfl⟩ | ⟨rfl,rfl⟩ | ⟨rfl,rfl⟩ | ⟨rfl,rfl⟩ | ⟨rfl,bs,b1,rfl⟩ <;> rcases h' with ⟨e,rfl⟩ | ⟨e,rfl⟩ | ⟨e,rfl⟩ | ⟨e,rfl⟩ | ⟨e,G1,b2,rfl⟩ <;> first | rfl | exact absurd e (by assumption) | exact absurd e.symm (by assumption) | skip;rw [WO b1 b2]
def qy (K:Rb) (C Pt:ae) (c:Nat->ae) (x:aj) (sp:Sp):Prop :=
 (x = "put" /\ sp=wW K C (zx (Hq K C Pt) (L_ K C c)))∨(x = "take" /\ sp=sD K C (zx (HY K C) (Nb K C c))) ∨
 (x = "come" /\ sp=sE C (zx (uD K C) (Nc C c)))∨(x = "go" /\ sp=M5 C (zx (Hs K C) (LQ K C c)))∨x∈zN/\sp=dG K C λD t=>zM D x t
noncomputable abbrev SJ:List aj:=["put", "take", "come", "go", "hands", "loads", "parts", "deal", "moved", "waits"]
theorem mL {Q:VK} {E:XK} {x:ae} {f:aj} (hd:m5 Cd H d fj (.ref x)) (hf:f∈SJ) (gw:f ≠ "hands") (hC:sC f (l.map bS)=true) (hl:∀ i∈l,jG i) (hlen:l.length<=19) (C9:qy K C Pt c f sp) (k:∀ np H',aD H H'->H' np=some (.lst (l.map V.int))->sp [.ref x,.ref np] H' Q E):jF K C Cd c (qy K C Pt c) [.ref d,.str (eO f l)] H Q E:=by
 obtain ⟨h1,h2,h3,h4⟩:=xA (Ew hf) hl hlen;exact ⟨d,fj,.ref x,_,f,_,rfl,h1,h2,hd,.inr ⟨h3.trans hC,.inr ⟨gw,.inr ⟨x,_,rfl,C9,by rw [h4]; exact k⟩⟩⟩⟩
theorem sG {Q:VK} {E:XK} {x:ae} {f:aj} (hd:m5 Cd H d fj (.ref x)) (hD:ip K H C x D) (hM:Dz D) (hf:f∈zN) (k:∀ t H',aD H H'->zM D f t->Q (.str t) H'):jF K C Cd c (qy K C Pt c) [.ref d,.str (eO f [])] H Q E:=by
 have q:∀ f∈zN,f∈SJ/\f∈(["come", "go", "loads", "parts", "deal", "moved", "waits"]:List aj):=by decide
 obtain ⟨q1,q2⟩:=q f hf;obtain ⟨c1,c2⟩:=aFq q2;exact mL hd q1 c2 c1 (λi hi=>(Qv hi).elim) (Ji _) (.inr (.inr (.inr (.inr ⟨hf,rfl⟩)))) λnp H' s' _=>⟨x,.ref np,D,rfl,hD.same s',hM,λt H2 s2 ht=>k t H2 (s'.trans s2) ht⟩
noncomputable def zO:i7->aj
 | .i5=>eO "come" []
 | .go=>eO "go" []
 | .take n=>eO "take" [n]
 | .put _ l=>eO "put" l
noncomputable def Ly (D:DD):i7->aj
 | .i5=>bS D.n
 | .go => "ok"
 | .take _ => "ok"
 | .put _ _=>bS D.nx
theorem T2 {x:ae} (hD:ip K H C x D) (b:cF x D.da D.dh H H') (na:H' D.da=H D.da) (nh:H' D.dh=H D.dh) (hx:H' x=some (.ins C D.dx D'.ib)) (e:D'.dx=D.dx/\D'.nums=D.nums/\D'.ws=D.ws/\D'.hs=D.hs/\D'.ts=D.ts/\D'.da=D.da/\D'.dh=D.dh):ip K H' C x D':=by
 obtain ⟨e1,e2,e3,e4,e5,e6,e7⟩:=e;exact ⟨by rw [e1]; exact hx,by rw [e6,na,e2,e5]; exact hD.dz,by rw [e7,nh,e2,e4]; exact hD.hand,by rw [e5,e2]; exact hD.tl,by rw [e3,e2]; exact hD.wl,by rw [e4,e2]; exact hD.hl,by rw [e5,e3]; exact λi t l q1 q2=>b.di hD.ins hD.dz hD.hand (hD.tup i t l q1 q2),by rw [e6,e7]; exact hD.ne⟩
set_option maxHeartbeats 1000000 in
theorem lO {Q:VK} {E:XK} {x:ae} {e:i7} (hd:m5 Cd H d fj (.ref x)) (hT:H Pt=some (.tab xT)) (hD:ip K H C x D) (hM:qz D j) (hj:j<=80) (hL:lu D S) (m:qP S e) (k:∀ D' H',cF x D.da D.dh H H'->D'.da=D.da->D'.dh=D.dh->ip K H' C x D'->qz D' (j+1)->lu D' (S.step e)->Q (.str (Ly D e)) H'):jF K C Cd c (qy K C Pt c) [.ref d,.str (zO e)] H Q E:=by
 obtain ⟨ju,ie,gz,_⟩:=aV hM.m.bk;have CZ:=hM.nx;have N3:=hM.m.nx;have Au:D.da≠x:=λz=>by have:=hD.dz; rw [z,hD.ins] at this; cases this
 have wu:D.dh≠x:=λz=>by have:=hD.hand; rw [z,hD.ins] at this; cases this
 have O7:∀ i∈([]:LIn),jG i:=λi hi=>(Qv hi).elim;cases e with
 | i5 =>
  have h6:D.n≠6:=by rw [hL.n]; exact m
  refine mL hd 'd' 'd' 'd' O7 (Ji _) (.inr (.inr (.inl ⟨rfl,rfl⟩))) λnp H' s' _=>⟨x,_,rfl,⟨_,_,s' _ _ hD.ins,rfl⟩,.inl ⟨x,D,rfl,s' _ _ hD.ins,h6,D.n,rfl,lN 'a' 'a',?_⟩⟩
  have qv:=hD.same s';have b:cF x D.da D.dh H' (upd H' x (.ins C D.dx D.rg.ib)):=cF.x;exact k D.rg _ ((cF.of s').trans b) rfl rfl (T2 qv b (aG Au) (aG wu) aB ⟨rfl,rfl,rfl,rfl,rfl,rfl,rfl⟩) (uF (e:=.i5) hM hL m (aKB hM.m h6) rfl) ⟨by show D.n+1=S.n+1; rw [hL.n],hL.nx,hL.nums,hL.ws⟩
 | go =>
  obtain ⟨m1,m2⟩:=id m;have h1:D.n≠1:=by rw [hL.n]; exact m1
  have h2:∀ l∈D.ws,D.n - 1∉l:=by rw [hL.n,hL.ws]; exact m2
  refine mL hd 'd' 'd' 'd' O7 (Ji _) (.inr (.inr (.inr (.inl ⟨rfl,rfl⟩)))) λnp H' s' _=>⟨x,_,rfl,⟨_,_,s' _ _ hD.ins,rfl⟩,.inl ⟨x,D,rfl,hD.same s',h1,h2,by have:=hD.wl; omega,λH2 b hx=>?_⟩⟩
  have qv:=hD.same s';have b3:cF x D.da D.dh H' H2:=λc u z1 _ _ hu=>b c u z1 hu;exact k D.gone _ ((cF.of s').trans b3) rfl rfl (T2 qv b3 (by rw [b _ _ Au qv.dz,qv.dz]) (by rw [b _ _ wu qv.hand,qv.hand]) hx ⟨rfl,rfl,rfl,rfl,rfl,rfl,rfl⟩) (uF (e:=.go) hM hL m (aKC hM.m h1 h2) rfl) ⟨by show D.n - 1=S.n - 1; rw [hL.n],hL.nx,hL.nums,hL.ws⟩
 | take num =>
  have hm:num∈D.nums:=by rw [hL.nums]; exact m
  have hi:=Nf hm;have hfw:=hM.m.kh num hm;obtain ⟨last,ly⟩:∃ last,D.hs[D.nums.idxOf num]?=some last:=⟨_,Qc (by rw [hD.hl]; exact (Qb.mp hi).1)⟩
  exact mL hd 'd' 'd' (nX (.inr rfl)) (λi hi=>.inl (by grind)) 'b' (.inr (.inl ⟨rfl,rfl⟩)) λnp H' s' oh=>⟨x,np,num,[],rfl,⟨_,_,s' _ _ hD.ins,rfl⟩,dm.of oh,.inl ⟨x,D,num,D.nums.idxOf num,last,rfl,hD.same s',hM.m,hi,ly,λss H2 b TK qv K6=>k (D.take (D.nums.idxOf num) ss) H2 ((cF.of s').trans b) rfl rfl qv (uF (e:=.take num) hM hL m K6 ⟨_,last,ss,hi,ly,TK,rfl⟩) ⟨hL.n,hL.nx,by show D.nums.eraseIdx _=S.nums.eraseIdx _; rw [hL.nums],by show D.ws.eraseIdx _=S.ws.eraseIdx _; rw [hL.ws,hL.nums]⟩⟩⟩
 | put t l =>
  obtain ⟨hw,oi⟩:=id m;rw [<- hL.n] at hw;obtain ⟨w1,w2,w3⟩:=bO hw;obtain ⟨_,w6,_⟩:=wN ie hw;refine mL hd 'd' 'd' (WM (by intro z; exact w1 (Qag.mp z))) (λi hi=>.inl (by grind)) 'a' (.inl ⟨rfl,rfl⟩) λnp H' s' oh=>⟨x,np,l,rfl,⟨_,_,s' _ _ hD.ins,rfl⟩,dm.of oh,λtp k8=>?_⟩
  have s2:=s'.trans (aD.new (o:=.tup (l.map V.int)) k8);exact .inl ⟨x,tp,D,l,rfl,hD.same s2,hM.m,dt.of aB,hw,by rw [hL.nums]; exact oi,s2 _ _ hT,λhs m' ss last H2 b PS qv K6=>⟨D.nx,rfl,lN N3 'a',k (D.put l tp hs m') H2 ((cF.of s2).trans b) rfl rfl qv (uF (e:=.put tp l) hM hL m K6 ⟨hs,m',ss,last,PS,rfl⟩) ⟨hL.n,by show D.nx+1=S.fw+1; rw [hL.nx],by show D.nums++[D.nx]=S.nums++[S.fw]; rw [hL.nums,hL.nx],by show D.ws++[l]=S.ws++[l]; rw [hL.ws]⟩⟩⟩
def SI (S:SD) (f:aj) (l:LIn) (j:Nat):Prop :=
 (f = "hands" /\ (∃ n,l = [n]/\eN (.int n)=false)/\j=0)∨(f = "put" /\ l≠[]/\(cA S.n (cR l)=false/\j=0∨cA S.n (cR l)=true/\S.nums.length=12/\j=10)) ∨
 (f = "take" /\ (∃ n,l = [n]/\n∉S.nums)/\j=9)∨(f = "go" /\ l = []/\(S.n=1∨∃ w∈S.ws,S.n - 1∈w)/\j=3)∨(f = "come" /\ l = []/\S.n=6/\j=10)
theorem U1 {Q:VK} {E:XK} {x:ae} {f:aj} (hd:m5 Cd H d fj (.ref x)) (hD:ip K H C x D) (hM:u5 D) (hL:lu D S) (hl:∀ i∈l,jG i) (hlen:l.length<=19) (hb:SI S f l j) (k:∀ H',aD H H'->E (.ref (c j)) none H'):jF K C Cd c (qy K C Pt c) [.ref d,.str (eO f l)] H Q E:=by
 obtain ⟨ju,ie,gz,_⟩:=aV hM.bk;rcases hb with ⟨rfl,⟨n,rfl,hh⟩,rfl⟩ | ⟨rfl,gw,hc⟩ | ⟨rfl,⟨n,rfl,jh⟩,rfl⟩ | ⟨rfl,rfl,hc,rfl⟩ | ⟨rfl,rfl,hc,rfl⟩
 ·obtain ⟨h1,h2,h3,h4⟩:=xA (f := "hands") (Ew 'd') hl hlen;exact ⟨d,fj,.ref x,_,_,_,rfl,h1,h2,hd,.inr ⟨h3.trans (nX (.inl rfl)),.inl ⟨rfl,n,h4,.inl ⟨hh,k⟩⟩⟩⟩
 ·refine mL hd 'd' 'd' (WM (by intro z; exact gw (Qag.mp z))) hl hlen (.inl ⟨rfl,rfl⟩) λnp H' s' oh=>⟨x,np,l,rfl,⟨_,_,s' _ _ hD.ins,rfl⟩,dm.of oh,λtp k8=>?_⟩
  have s2:=s'.trans (aD.new (o:=.tup (l.map V.int)) k8);rw [<- hL.n,<- hL.nums] at hc;exact .inr ⟨x,D,.ref tp,cR l,j,rfl,hD.same s2,bK.mpr ⟨tp,rfl,dt.of aB⟩,hc,λH2 s3=>k H2 (s2.trans s3)⟩
 ·refine mL hd 'd' 'd' (nX (.inr rfl)) hl hlen (.inr (.inl ⟨rfl,rfl⟩)) λnp H' s' oh=>⟨x,np,n,[],rfl,⟨_,_,s' _ _ hD.ins,rfl⟩,dm.of oh,.inr ⟨x,D,.int n,.int n,rfl,hD.same s',cU.mpr rfl,λnum e=>?_,λH2 s3=>k H2 (s'.trans s3)⟩⟩
  cases e;rw [hL.nums]; exact jh
 ·refine mL hd 'd' 'd' 'd' hl hlen (.inr (.inr (.inr (.inl ⟨rfl,rfl⟩)))) λnp H' s' _=>⟨x,_,rfl,⟨_,_,s' _ _ hD.ins,rfl⟩,.inr ⟨x,D,rfl,hD.same s',by rw [hL.n,hL.ws]; exact hc,by have:=hD.wl; omega,λH2 s3=>k H2 (s'.trans s3)⟩⟩
 ·exact mL hd 'd' 'd' 'd' hl hlen (.inr (.inr (.inl ⟨rfl,rfl⟩))) λnp H' s' _=>⟨x,_,rfl,⟨_,_,s' _ _ hD.ins,rfl⟩,.inr ⟨x,D,rfl,s' _ _ hD.ins,by rw [hL.n]; exact hc,λH2 s3=>k H2 (s'.trans s3)⟩⟩
def qX (Cd:ae) (c:Nat->ae) (sp:Sp):Sp:=λvs H Q _=>∃ (d fj:ae) (y0 y:V) (j:Nat) (t:aj),vs = [.ref d,y]/\m5 Cd H d fj y0/\j < 11/\words[j]?=some t/\(∀ (Q:VK) (E:XK),(∀ H',aD H H'->E (.ref (c j)) none H')->sp [.ref d,y] H Q E)/\∀ H',aD H H'->Q (.str t) H'
theorem M3:b_ ["desk", "row", "caught", "e"] ["desk", "row"] (aF vP):=.of
theorem aHk (G:Fn K mg "_law_e_word" vP ["desk", "row"] f fd) (Z:Cl K mg cE c) (T:A7 K Cd) (ia:FD P w K mg base (gk P w) 10 Cd "say" xR ["self", "row"] sp) (GKi:FF P w K mg base d_ 1 "_law_e_kind" Hy ["caught"] (UG c)):c_ P w K mg base d_ 11 f fd ["desk", "row"] (qX Cd c sp):=by
 refine G.fn.oK M3 λfe A outer s H vs Q E hr h=>?_;obtain ⟨d,fj,y0,y,j,t,rfl,hd,hj,ht,hs,k⟩:=h;have ql:dj 10 _:=hr;have r1:dj 1 _:=hr.mono 'c';refine ⟨_,aE (aU (i:=2) M3.nd rfl eh rA)
  (aE (aJ5 (i:=2) (j:=3) (aI1 (pv 0) T.cl ia.g.me ia.o ql ia.g.bd .nil (aA (pv 1) aC)) rfl rfl rfl rfl Z.mE Z.eE M3.nd rfl rfl 'c' rfl rfl)
  (aE (bQ (aO UR (pv 2) rA ft) (aI (aP aJ)) aW)
  (aI (aP (bF GKi r1 rfl (aA (pv 2) aC)))))),?_⟩
 dsimp only [cB,Cx.gf];refine ⟨_,rfl,d,fj,_,rfl,hd,rfl,_,rfl,hs _ _ λH1 s1=>⟨c j,_,rfl,Z.ec j hj,Z.up,λa ha=>⟨_,rfl,rfl,_,rfl,cS (decide_eq_false λz=>by cases z) ?_⟩⟩⟩;exact ⟨_,rfl,a,j,t,rfl,aB,hj,ht,λH2 s2=>k H2 (s1.trans ((aD.new ha).trans s2))⟩
noncomputable def xC (D:DD):List aj:=[HU D,wX D,bS D.ma,bS (pK D.n D.hs)]
noncomputable def xD:List aj:=["loads", "deal", "moved", "waits"]
theorem aI5 {f:aj} (h:xD[i]?=some f):f∈zN/\∃ t,(xC D)[i]?=some t/\zM D f t:=by
 have q:∀ f∈xD,f∈zN:=by decide
 refine ⟨q f (Qd h),?_⟩
 match i,h with
 | 0,h=>cases h; exact ⟨_,rfl,.inl ⟨rfl,rfl⟩⟩
 | 1,h=>cases h; exact ⟨_,rfl,.inr (.inl ⟨rfl,rfl⟩)⟩
 | 2,h=>cases h; exact ⟨_,rfl,.inr (.inr (.inl ⟨rfl,rfl⟩))⟩
 | 3,h=>cases h; exact ⟨_,rfl,.inr (.inr (.inr (.inl ⟨rfl,rfl⟩)))⟩
def T1 (K:Rb) (C Cd:ae):Sp:=λvs H Q _=>∃ (d fj x:ae) (D:DD),vs = [.ref d]/\m5 Cd H d fj (.ref x)/\ip K H C x D/\Dz D/\∀ p H',aD H H'->H p=none->H' p=some (.lst ((xC D).map V.str))->Q (.ref p) H'
theorem aKI:b_ ["desk"] ["desk"] (aF E1):=.of
theorem aI6 (G:Fn K mg "_law_e_told" E1 ["desk"] f fd) (T:A7 K Cd) (ia:FD P w K mg base (gk P w) 10 Cd "say" xR ["self", "row"] (jF K C Cd c (qy K C Pt c))):c_ P w K mg base d_ 11 f fd ["desk"] (T1 K C Cd):=by
 refine G.fn.oK aKI λfe A outer s H vs Q E hr h=>?_;obtain ⟨d,fj,x,D,rfl,hd,hD,hM,k⟩:=h;have ql:dj 10 _:=hr;refine ⟨_,aI (aP (cM (own:=["row"]) (fr:=[0]) (ff:=["desk"]) (aX (aF E1) ["desk"] rfl rfl 'd') rfl (cZ (eG (aA aJ (aA aJ (aA aJ (aA aJ aC))))))
  (λ_ _ _ _=>(aM (i:=0) (show (["row", "desk"]:List aj).Nodup by decide +kernel) rfl eh)) (λ_ _ _ _=>cQ) (λ_ _ _ _=>(dX (pv 1) T.cl ia.g.me ia.o ql ia.g.bd .nil kE (aA (pv 0) aC))))),?_⟩
 dsimp only [cB,Cx.gf];refine ⟨ZH _ _ _ _,λlp mr=>?_⟩;have s1:=aD.new (o:=.lst (xD.map V.str)) mr;have e1:upd H lp (.lst (xD.map V.str)) lp=some (.lst (xD.map V.str)):=aB;refine ⟨lp,rfl,⟨_,dm.of e1⟩,eZ (K:=K) (a:=lp) (xs:=xD.map V.str) (λσ=>∃ v,σ = [v,some (.ref d)]) (λi ys H'=>aD (upd H lp (.lst (xD.map V.str))) H'/\ys=((xC D).take i).map V.str) (cK 'c') ⟨none,rfl⟩ ⟨aD.refl _,rfl⟩ (λi ys H' z=>by rw [z.2,Qa,Qs]; omega) (λi ys H' z=>dm.of (z.1 _ _ e1)) ?_ ?_⟩
 ·rintro i ys σ xv H' hx ⟨v,rfl⟩ ⟨s',rfl⟩ hz;rw [Qh] at hx;obtain ⟨f1,hf,rfl⟩:=Qo.mp hx;obtain ⟨q1,t,q2,q3⟩:=aI5 (D:=D) hf;have sH:=s1.trans s';refine bX ⟨_,rfl,d,fj,_,rfl,sH _ _ hd,rfl,_,rfl,?_⟩;refine sG (f:=f1) (sH _ _ hd) (hD.same sH) hM q1 λt' xi og ht=>⟨hz,⟨_,rfl⟩,s'.trans og,?_⟩
  rw [ht.uniq q3,dA q2,Qm]; rfl
 ·rintro ys H' ⟨s',rfl⟩ q hq;exact k q _ (s1.trans (s'.trans (aD.new hq))) (s1.free (s'.free hq)) aB
def LM (n:Int):i7->Prop
 | .take num=>0<=num/\num<=100
 | .put _ l=>cA n (cR l)=true/\n<=6
 | _=>True
def aKJ (K:Rb) (H:Hp) (v:V) (o:List aj):Prop:=(∃ num:Int,v=.int num/\o = [bS num]/\0<=num/\num<=100)∨∃ (t:ae) (l:LIn),v=.ref t/\dt K H t (l.map V.int)/\o=l.map bS/\l.length<=6/\∀ i∈l,0<=i/\i<=6
theorem aDs {dp:ae} {e:i7} {n:Int} (h:sY K H dp e) (hn:LM n e):∃ f tl out,dt K H dp (.str f::tl)/\zO e=(" " : aj).join out/\(∀ y∈out,y.length<=1000)/\out.length<=7/\((tl = []/\out = [f])∨∃ v o,tl = [v]/\out=f::o/\aKJ K H v o):=by
 cases e with
 | i5=>exact ⟨"come",[],["come"],h,rfl,by decide +kernel,by decide,.inl ⟨rfl,rfl⟩⟩
 | go=>exact ⟨"go",[],["go"],h,rfl,by decide +kernel,by decide,.inl ⟨rfl,rfl⟩⟩
 | take num =>
  refine ⟨"take",[.int num],["take",bS num],h,rfl,λy hy=>?_,by simp,.inr ⟨_,_,rfl,rfl,.inl ⟨num,rfl,rfl,hn⟩⟩⟩;obtain ⟨a,b⟩:=hn;rcases Ql.mp hy with rfl | hy
  ·decide
  ·rw [Qi.mp hy]; exact Qr (cX (qW a 'a')) 'c'
 | put t l =>
  obtain ⟨hw,n6⟩:=hn;obtain ⟨w1,w2,_⟩:=wN n6 hw;refine ⟨"put",[.ref t], "put" :: l.map bS,h.1,rfl,λy hy=>?_,by rw [Jl,Qa]; omega,.inr ⟨_,_,rfl,rfl,.inr ⟨t,l,rfl,h.2,rfl,w2,w1⟩⟩⟩;rcases Ql.mp hy with rfl | hy
  ·decide
  ·obtain ⟨i,hi,rfl⟩:=Jc.mp hy;have:=w1 i hi;exact Qr (cX (qW this.1 'a')) 'c'
def TZ (K:Rb):Sp:=λvs H Q _=>∃ (dp:ae) (e:i7) (n:Int),vs = [.ref dp]/\sY K H dp e/\LM n e/\∀ H',aD H H'->Q (.str (zO e)) H'
theorem HR:b_ ["deed", "words", "part"] ["deed"] (aF EZ):=.of
set_option maxHeartbeats 1000000 in
theorem aI7 (G:Fn K mg "_law_e_row" EZ ["deed"] f fd) (B:Bl mg):c_ P w K mg base d_ 1 f fd ["deed"] (TZ K):=by
 refine G.fn.oK HR λfe A outer s H vs Q E hr h=>?_;obtain ⟨dp,e,n,rfl,hE,hN,k⟩:=h;obtain ⟨f1,tl,out,m_,et,hlen,l?,hc⟩:=aDs hE hN;rw [et] at k;refine ⟨_,(aE (aU (i:=1) HR.nd rfl eh (eG (aA (bM dN (pv 0) aH gb) aC)))
  (aE (jH bc.never rfl (hG (eV VT (pv 0) (gT aH) gS)) (aM (i:=2) HR.nd rfl eh)
   (aI (bQ (cD (aK eJ rfl B.isinstance nL (aA (pv 2) (aA (iX (v:=.ty "tuple") rfl B.tuple gB rfl) aC))))
   (aI (aU (i:=1) HR.nd rfl eh (aS fE (pv 1) (cM (own:=["hand"]) (fr:=[]) (ff:=[]) (aX (aF EZ) ["deed", "words", "part"] rfl rfl 'd') rfl (hG (pv 2))
    (λ_ _ _ _=>(aM (i:=0) (show (["hand"]:List aj).Nodup by decide +kernel) rfl eh)) (λ_ _ _ _=>cQ)
    (λ_ _ _ _=>(aZ bR rfl B.str jE (aA (pv 0) aC)))))))
   (aI (bY (kN Rk Rp Rq eI (pv 1) (aA (aZ bR rfl B.str jE (aA (pv 2) aC)) aC)))))))
  (aI (aP (kG (K:=K) rfl Rz Tr Ts (oC (K:=K) rfl) aJ (aA (pv 1) aC)))))),?_⟩
 dsimp only [cB,Cx.gf];refine ⟨_,rfl,dp,_,0,_,rfl,rfl,m_,fG (j:=0) rfl,Bh _,λwp qo=>?_⟩;have s1:=aD.new (o:=.lst [.str f1]) qo;have e1:upd H wp (.lst [.str f1]) wp=some (.lst [.str f1]):=aB;generalize upd H wp (.lst [.str f1])=H1 at s1 e1 ⊢;refine ⟨_,rfl,1,rfl,dp,_,rfl,s1.di m_,λsp H2 s2 i9=>?_⟩;rw [show (1:Int)=((1:Nat):Int) from rfl,lC] at i9;have Ft:dt K H2 sp tl:=i9;refine ⟨sp,rfl,⟨_,Ft⟩,gR .t (K:=K) (a:=sp) (xs:=tl) (λi σ H'=>∃ wj part ps,σ = [some (.ref dp),some (.ref wj),part]/\aD H H'/\H wj=none/\H' wj=some (.lst (ps.map V.str))/\dt K H' sp tl/\ps.length<=7/\ps=(if i=0 then [f1] else out)) ⟨wp,none,[f1],rfl,s1.trans s2,qo,s2 _ _ e1,Ft,by simp,rfl⟩ (λi σ H' _ z=>by obtain ⟨_,_,_,_,_,_,_,z,_⟩:=z; exact z) ?_ ?_⟩
 ·rintro i x σ H3 hx ⟨wj,part,ps,rfl,s3,Kj,e3,DX,_,CY⟩;rcases hc with ⟨rfl,_⟩ | ⟨v,o,rfl,rfl,hP⟩
  ·simp at hx
  cases i with
  | succ i=>simp at hx
  | zero =>
   cases hx;cases CY;have sN:∀ (p:ae) (u:HO),H p=none->aD H (upd H3 p u):=λp u hp c w hc=>by rw [aG (cI hc hp)]; exact s3 _ _ hc
   rcases hP with ⟨num,rfl,rfl,n0,n1⟩ | ⟨t,l,rfl,ht,rfl,l6,hl⟩
   ·refine ⟨_,rfl,_,.int,rfl,rfl,_,rfl,cS 'c' ⟨_,rfl,.inl ⟨rfl,_,dm.of e3⟩,_,rfl,num,rfl,lN n0 'a',wj,_,_,rfl,rfl,e3,by rw [Rf]; simp,?_⟩⟩;exact ⟨wj,_,[f1,bS num],rfl,sN _ _ Kj,Kj,aB,(fg.at (t:=wj)).di e3 DX,by simp,rfl⟩
   ·refine ⟨_,rfl,_,.tup,rfl,.inr (.inl ⟨rfl,_,s3.di ht⟩),_,rfl,dM 'c' ⟨_,rfl,_,rfl,t,rfl,⟨_,s3.di ht⟩,kB (K:=K) (a:=t) (xs:=l.map V.int) (λσ=>∃ v,σ = [v]) (λi ys H'=>H'=H3/\ys=((l.take i).map bS).map V.str) (cK (by grind)) ⟨none,rfl⟩ ⟨rfl,rfl⟩ (λi ys H' z=>by rw [z.2,Qa,Qa,Qs]; omega) (λi ys H' z=>by rw [z.1]; exact s3.di ht) ?_ ?_⟩⟩
    ·rintro i ys σ xv H' hx ⟨v,rfl⟩ ⟨rfl,rfl⟩ hz;rw [Qh] at hx;obtain ⟨j,hj,rfl⟩:=Qo.mp hx;obtain ⟨j0,j6⟩:=hl j (Qd hj);refine bX ⟨_,rfl,j,rfl,lN j0 'a',hz,⟨_,rfl⟩,rfl,?_⟩;rw [dA hj,Qm,Qm]; rfl
    ·rintro ys H' ⟨rfl,rfl⟩ q hq;rw [Qa,Qu];have n1:wj≠q:=cI e3 hq;refine ⟨wj,q,_,_,rfl,rfl,(aD.new hq) _ _ e3,aB,by rw [Rf]; simp; omega,λr wz=>?_⟩;exact ⟨r,_,f1::l.map bS,rfl,s3.trans ((aD.new (o:=.lst ((l.map bS).map V.str)) hq).trans (aD.new (o:=.lst ([f1].map V.str++(l.map bS).map V.str)) wz)),s3.free ((aD.new hq).free wz),aB,((aD.new hq).trans (aD.new wz)).di DX,l?,rfl⟩
 ·rintro σ H3 ⟨wj,part,ps,rfl,s3,Kj,e3,DX,_,CY⟩;have ep:ps=out:=by grind
  rw [ep] at e3;exact ⟨rfl,_,rfl, " ",wj,out,rfl,rfl,dm.of e3,nW hlen 'a',k _ s3⟩
theorem aFr:b_ ["word"] ["word"] (aF nM):=.of
theorem aDt (G:Fn K mg "_law_e_is_number" nM ["word"] f fd) (B:Bl mg):c_ P w K mg base d_ 1 f fd ["word"] qQ:=by
 refine G.fn.oK aFr λfe A outer s H vs Q E hr h=>?_;obtain ⟨y,rfl,ha,hl,k⟩:=h;refine ⟨_,(aE (bQ (PW.pt (fP (aO xZ (aK iD rfl B.len cO (aA (pv 0) aC)) aH ft) (fP (aO oV (aK iD rfl B.len cO (aA (pv 0) aC)) aH ft) (eA (cV (cD (aK (jB rfl) rfl B.all sS (aA (cM (own:=["sign"]) (fr:=[]) (ff:=[]) (aX (aF nM) ["word"] rfl rfl 'd') rfl (UC (pv 0))
    (λ_ _ _ _=>(aM (i:=0) (show (["sign"]:List aj).Nodup by decide +kernel) rfl eh)) (λ_ _ _ _=>cQ)
    (λ_ _ _ _=>(cL yA (pv 0) aJ (by rfl)))) aC))))))))
   (aI (aP jY))
   aW)
  (aI (aP (aKW (cL cY (pv 0) aJ ft) (kX (cL iB (bM MM (pv 0) aH gb) aJ ft)))))),?_⟩
 dsimp only [cB,Cx.gf];have hy:=dP y;have K0:dF y.cps.toList=false->∀ H',aD H H'->Q (.bl false) H':=λe H' s'=>by
  have:=k H' s';rw [e] at this;exact this
 refine ⟨_,rfl,_,rfl,by rw [Rf]; omega,_,_,rfl,rfl,_,rfl,?_⟩;by_cases c1:(y.length:Int) < 1
 ·refine dM (decide_eq_true c1) (iE (K0 ?_ _ (aD.refl _)));unfold dF;rw [decide_eq_false (show ¬ 1<=y.cps.toList.length by omega),Xu,Xu]
 refine cS (decide_eq_false c1) ⟨_,rfl,_,rfl,by rw [Rf]; omega,_,_,rfl,rfl,_,rfl,?_⟩;by_cases c2:(y.length:Int) > 6
 ·refine dM (decide_eq_true c2) (iE (K0 ?_ _ (aD.refl _)));unfold dF;rw [decide_eq_false (show ¬ y.cps.toList.length<=6 by omega),Zx,Xu]
 refine cS (decide_eq_false c2) ?_;have hb:dF y.cps.toList=(!(decide (y.cps.toList.head?=some 48) && !decide (y.cps.toList = [48])) && y.cps.toList.all dig):=by
  show ((_ && _) && _)=_;rw [decide_eq_true (show 1<=y.cps.toList.length by omega),decide_eq_true (show y.cps.toList.length<=6 by omega),Jt,Jt]
 unfold LG tB;refine U7 (K:=K) rfl ha 'a' λH1 s1=>⟨_,rfl,?_⟩
 cases hd:y.cps.toList.all dig with
 | false=>exact iE (K0 (by rw [hb,hd,Zx]) _ s1)
 | true =>
  rw [hd,Wl] at hb;refine iQ ?_;cases sy:y.cps.toList with
  | nil=>rw [sy] at hy; exact absurd hy.symm (by grind)
  | cons c l =>
   refine ⟨_,rfl,rfl,_,rfl,?_⟩;by_cases c3:V.str y=V.str "0"
   ·refine dM (decide_eq_true c3) ?_;have:=k H1 s1;rw [hb,decide_eq_true ((qS y).mp c3)] at this;simpa using this
   refine cS (decide_eq_false c3) ⟨_,rfl,_,0,c,rfl,rfl,by rw [Rf]; omega,XH (by simp_all),rfl,?_⟩;have:=k H1 s1;rw [hb,decide_eq_false (λz=>c3 ((qS y).mpr z)),sy,Qab,Wl] at this;have e:(!decide ((c::l).head?=some 48))=!decide (V.str ⟨#[c]⟩=V.str "0"):=by
    congr 1;rw [decide_eq_decide];exact ⟨λz=>(qR c).mpr (by simpa using z),λz=>by rw [(qR c).mp z]; rfl⟩
   rw [e] at this;exact this
theorem aI8 (a:aj) (ws:List aj):uf (.str a) (ws.map V.str)=decide (a∈ws):=by
 unfold uf;rw [Yu,Xb,Xs,decide_eq_true_iff];constructor
 ·simp [xc]
 ·simp [xc]
noncomputable def SY:List aj:=["come", "go", "loads", "parts", "deal", "moved", "waits"]
def WL:Sp:=λvs H Q _=>∃ (t f:aj) (r:List aj),vs = [.str t]/\ji t/\Txt.split t " " = f::r/\∀ H',aD H H'->Q (.bl (qV (f::r))) H'
theorem WK:b_ ["row", "words"] ["row"] (aF qF):=.of
theorem aFs (G:Fn K mg "_law_e_is_row" qF ["row"] f fd) (B:Bl mg) (GEn:FF P w K mg base d_ 1 "_law_e_is_number" nM ["word"] qQ):c_ P w K mg base d_ 2 f fd ["row"] WL:=by
 refine G.fn.oK WK λfe A outer s H vs Q E hr h=>?_;obtain ⟨t,f1,r,rfl,ei,i9,k⟩:=h;have r1:dj 1 _:=hr;refine ⟨_,(aE (aU (i:=1) WK.nd rfl eh (kG (K:=K) rfl Rz Ua Me WX (pv 0) (aA aJ aC)))
  (aE (bQ (cV (cD (aK (jB rfl) rfl B.all sS (aA (cM (own:=["word"]) (fr:=[]) (ff:=[]) (aX (aF qF) ["row", "words"] rfl rfl 'd') rfl (cZ (eV tN (pv 1) (gT aH) gS))
    (λ_ _ _ _=>(aM (i:=0) (show (["word"]:List aj).Nodup by decide +kernel) rfl eh)) (λ_ _ _ _=>cQ)
    (λ_ _ _ _=>(bF GEn r1 rfl (aA (pv 0) aC)))) aC))))
   (aI (aP jY))
   aW)
  (aE (bQ (aO cY (bM bU (pv 1) aH gb) aJ ft)
   (aI (aP (cL oV (aK aR rfl B.len cO (aA (pv 1) aC)) aH ft)))
   aW)
  (aE (bQ (PW.pt (fP (aO cY (bM bU (pv 1) aH gb) aJ ft) (eA (aO cY (bM bU (pv 1) aH gb) aJ ft))))
   (aI (aP (cL cY (aK aR rfl B.len cO (aA (pv 1) aC)) aH ft)))
   aW)
  (aI (aP (lR (cL cY (aK aR rfl B.len cO (aA (pv 1) aC)) aH ft) (kX (cL rG (bM bU (pv 1) aH gb) (eG (aA aJ (aA aJ (aA aJ (aA aJ (aA aJ (aA aJ (aA aJ aC)))))))) (by rfl)))))))))),?_⟩
 dsimp only [cB,Cx.gf];have jb:∀ x∈r,il x/\x.length<=1000000:=λx hx=>ei.mem (by rw [i9]; exact Qj _ hx);have wy:r.length<=1000:=by have:=ei.kh; rw [i9,Jl] at this; omega
 refine ⟨_,rfl,rfl,_,_,rfl,rfl,by decide +kernel,by have:=ei.len; rw [Rf]; omega,λwp qo=>?_⟩;rw [i9];have s1:=aD.new (o:=.lst ((f1::r).map V.str)) qo;have e1:upd H wp (.lst ((f1::r).map V.str)) wp=some (.lst ((f1::r).map V.str)):=aB;generalize upd H wp (.lst ((f1::r).map V.str))=H1 at s1 e1 ⊢;refine ⟨_,rfl,1,rfl,wp,_,rfl,dm.of e1,λsp i9=>?_⟩;rw [show (1:Int)=((1:Nat):Int) from rfl,lC];have ed:((f1::r).map V.str).drop 1=r.map V.str:=rfl;rw [ed];have s2:=s1.trans (aD.new (o:=.lst (r.map V.str)) i9);have e2:upd H1 sp (.lst (r.map V.str)) sp=some (.lst (r.map V.str)):=aB;have Sr:=(aD.new (o:=.lst (r.map V.str)) i9) _ _ e1;generalize upd H1 sp (.lst (r.map V.str))=H2 at s2 e2 Sr ⊢;have kk:∀ b:Bool,b=qV (f1::r)->∀ H',aD H H'->Q (.bl b) H':=λb e H' s=>by rw [e]; exact k H' s
 change ∀ b:Bool,b=((r.map λx=>dF x.cps.toList).all id && sC f1 r)->_ at kk;refine ⟨sp,rfl,⟨_,dm.of e2⟩,eZ (K:=K) (a:=sp) (xs:=r.map V.str) (λσ=>∃ v,σ = [v]) (λi ys H'=>aD H2 H'/\ys=((r.take i).map λx=>dF x.cps.toList).map V.bl) (cK (by simp_all)) ⟨none,rfl⟩ ⟨aD.refl _,rfl⟩ (λi ys H' z=>by rw [z.2,Qa,Qa,Qs]; omega) (λi ys H' z=>dm.of (z.1 _ _ e2)) ?_ ?_⟩
 ·rintro i ys σ xv H' Av ⟨v,rfl⟩ ⟨s',rfl⟩ hz;rw [Qh] at Av;obtain ⟨x,hx,rfl⟩:=Qo.mp Av;obtain ⟨ha,hb⟩:=jb x (Qd hx);refine bX ⟨_,rfl,x,rfl,ha,hb,λxi og=>⟨hz,⟨_,rfl⟩,s'.trans og,?_⟩⟩;rw [dA hx,Qm,Qm]; rfl
 rintro ys H' ⟨s',rfl⟩ pc mq;rw [Qa,Qu];refine ⟨pc,_,rfl,dm.of aB,_,rfl,?_⟩;have s3:=s2.trans (s'.trans (aD.new (o:=.lst ((r.map λx=>dF x.cps.toList).map V.bl)) mq));have e3:=(s'.trans (aD.new (o:=.lst ((r.map λx=>dF x.cps.toList).map V.bl)) mq)) _ _ Sr;generalize upd H' pc (.lst ((r.map λx=>dF x.cps.toList).map V.bl))=H3 at s3 e3 ⊢;generalize (r.map λx=>dF x.cps.toList).all id=a at kk ⊢;cases a with
 | false=>exact iE (kk false rfl _ s3)
 | true =>
  rw [Jt] at kk;refine iQ ?_;have BN:lj ((f1::r).map V.str) 0=some (.str f1):=fG (j:=0) rfl;have len:(((f1::r).map V.str).length:Int)=(r.length:Int)+1:=by simp
  refine ⟨_,rfl,wp,_,0,.str f1,rfl,rfl,dm.of e3,BN,rfl,_,rfl,?_⟩;unfold sC at kk;by_cases h1:f1 = "put"
  ·refine dM (by rw [h1]; exact tK) ?_;rw [if_pos h1] at kk;refine ⟨_,rfl,wp,_,rfl,.inl (dm.of e3),_,_,rfl,rfl,kk _ ?_ _ s3⟩;rw [decide_eq_decide];omega
  refine cS (xU h1) ?_;rw [if_neg h1] at kk;refine ⟨_,rfl,wp,_,0,.str f1,rfl,rfl,dm.of e3,BN,rfl,_,rfl,?_⟩;have two:(f1 = "hands" ∨ f1 = "take")->∀ H',aD H H'->Q (.bl (decide (V.int ((f1::r).map V.str).length=V.int 2))) H':=λh2 H' s'=>by
   rw [if_pos h2] at kk;refine kk _ ?_ _ s';rw [decide_eq_decide];exact ⟨λz=>by injection z; omega,λz=>by rw [len,z]; rfl⟩
  by_cases h2:f1 = "hands"
  ·exact dM (by rw [h2]; exact tK) (iE ⟨_,rfl,wp,_,rfl,.inl (dm.of e3),rfl,two (.inl h2) _ s3⟩)
  refine cS (xU h2) ⟨_,rfl,wp,_,0,.str f1,rfl,rfl,dm.of e3,BN,rfl,_,rfl,?_⟩;by_cases h3:f1 = "take"
  ·exact dM (by rw [h3]; exact tK) ⟨_,rfl,wp,_,rfl,.inl (dm.of e3),rfl,two (.inr h3) _ s3⟩
  refine cS (xU h3) ?_;rw [if_neg (λz=>z.elim h2 h3)] at kk;refine ⟨_,rfl,wp,_,rfl,.inl (dm.of e3),rfl,_,rfl,?_⟩;by_cases h4:r.length=0
  ·refine dM (decide_eq_true (by rw [len,h4]; rfl)) ⟨_,rfl,wp,_,0,.str f1,rfl,rfl,dm.of e3,BN,by rw [Rf]; simp,λlp mr=>⟨lp,SY.map V.str,rfl,.inl (dm.of aB),rfl,by decide,kk _ ?_ _ (s3.trans (aD.new mr))⟩⟩;rw [if_neg 'c',aI8,decide_eq_true h4,Wl];unfold sB;rw [decide_eq_decide];unfold SY;simp only [Ql,Qv,or_false];exact ⟨λz=>.inr (.inr z),λz=>z.elim (λe=>absurd e h1) λz=>z.elim (λe=>absurd e h3) id⟩
  ·exact cS (decide_eq_false λz=>h4 (by grind)) (kk _ (by rw [decide_eq_false h4,Zx]) _ s3)
end
end Ab
namespace L2
open PySem PySem.Spec PyProof.Rows
theorem dZ:i6 X [] oU:=⟨aW⟩
theorem iO {c:ay} {a b:List ax} {tc:TT} {t u:TS} (hc:PT X c tc) (ha:i6 X a t) (hb:i6 X b u):BU X (.If c a b pos) (BQ tc t u):=⟨bQ hc ha.go hb.go⟩
theorem mM {wi:TI} {tb:TS} (hp:bc (ar X.prog X.w) X.A X.env X.xe) (hc:X.calm=true) (hi:PI X tg iter wi) (hg:PG X tg g) (hb:i6 X body tb) (hs:∀ x,foldedSetIterable iter X.env x=pure x):BU X (.For tg iter body [] pos) (G_ wi g tb):=⟨jH hp hc hi hg hb.go hs⟩
end L2
namespace Ab
open PySem L2
theorem TY {s:List Nat} (hs:1<=s.length):∀ ps:List (List Nat),ps.length<=(jn s ps).length+1
 | []=>Ji _
 | [p]=>by simp
 | p::q::r=>by
  have:=TY hs (q::r);rw [jS (Zb _ _),Qg,Qg,Jl];omega
theorem sI {t:aj} (ha:il t) (hl:t.length<=900):ji t:=by
 refine ⟨ha,by omega,?_⟩;obtain ⟨h1,h2,_⟩:=wO (x:=t) (sep := " ") 'd' 'd';have h3:=TY (s:=(" " : aj).cps.toList) 'd' ((Txt.split t " ").map (·.cps.toList));rw [h2,Qa,dP] at h3;omega
def sJ (t:aj):Prop:=ji t/\qV (Txt.split t " ")=false
def aKK (t:aj):Prop:=il t/\t.length<=30
theorem oQ {a b:aj} (ha:il a) (hb:il b):il (a++b):=kZ λc hc=>by
 rw [kK] at hc;rcases Qp.mp hc with h | h
 ·exact ha.lt h
 ·exact hb.lt h
theorem ik.fresh {H5:Hp} {a lp:ae} {N M:Nat} {u:HO} (hJ:ik K H t a ns N) (hl:H lp=none) (J5:ik K H5 t a ns M) (nt:t≠lp):ik K (upd H5 lp u) t a ns M:=by
 obtain ⟨⟨p,q,h1,h2,e5⟩,q5⟩:=J5;refine ⟨⟨p,q,h1,h2,(aG nt).trans e5⟩,?_⟩;rcases hJ.2 with (h | ⟨o,h⟩) | h
 ·exact fg.iq fg.at (λz=>by rw [z,hl] at h; cases h) q5
 ·exact fg.iq fg.at (λz=>by rw [z,hl] at h; cases h) q5
 ·exact .inr h
theorem WJ {t:TS} {D0:Ends} {σ:St} (h:∀ D:Ends,(∀ d9 H',D0.nx d9 H'->D.nx d9 H')->(∀ d9 H',D0.bk d9 H'->D.bk d9 H')->t D σ H):t D0 σ H:=h D0 (λ_ _ z=>z) λ_ _ z=>z
theorem lP {t u:TS} {D:Ends} {σ:St} (I:St->Hp->Prop) (h1:∀ N:St->Hp->Prop,(∀ d9 H',I d9 H'->N d9 H')->t { D with nx:=N } σ H) (h2:∀ d9 H',I d9 H'->u D d9 H'):uI t u D σ H:=h1 _ h2
noncomputable def AV:List aj:=["hands 3", "put 0 1", "take 0", "come", "go", "loads", "parts", "deal", "moved", "waits"]
theorem aI9:∀ x∈AV,(x.cps.all (· < 128)=true)/\x.length<=7:=by decide +kernel
theorem aJa {ws:List aj} {r:Int} (h0:0<=r) (h1:r < ws.length):∃ x∈ws,lj (ws.map V.str) r=some (.str x):=by
 have hl:r.toNat < ws.length:=by omega
 refine ⟨ws[r.toNat],Zl hl,?_⟩;unfold lj yn;rw [if_pos h0,if_pos (by simp_all)];show (ws.map V.str)[r.toNat]?=_;rw [Qh,Qc hl]; rfl
section
variable {c:Nat->ae}
def U0 (K:Rb):Sp:=λvs H Q _=>∃ (t a:ae) (ns:LIn) (N:Nat),vs = [.ref t]/\ik K H t a ns N/\N<=700000/\∀ (p:ae) (xs:List aj) H',fg t H H'->ik K H' t a ns (N+100)->H p=none->H' p=some (.lst (xs.map V.str))->xs.length<=20->(∀ x∈xs,sJ x)->Q (.ref p) H'
theorem jT:b_ ["jar", "signs", "rows", "found", "turn", "row", "at", "sign"] ["jar"] (aF vV):=.of
set_option maxHeartbeats 4000000 in
theorem aHp (G:Fn K mg "_law_e_bent_rows" vV ["jar"] f fd) (B:Bl mg) (ny:FF P w K mg base d_ 2 "_law_e_scoop" nR ["jar", "many"] (oM K)) (GEr:FF P w K mg base d_ 2 "_law_e_is_row" qF ["row"] WL):c_ P w K mg base d_ 3 f fd ["jar"] (U0 K):=by
 refine G.fn.oK jT λfe A outer s H vs Q E hr h=>?_;obtain ⟨t,a,ns,N,rfl,hJ,hN,k⟩:=h;have r2:dj 2 _:=hr;refine i6.ex (aL (bV (i:=1) jT.nd rfl eh bZ)
   (aL (bV (i:=1) jT.nd rfl eh ⟨(aS dE (pv 1) aJ)⟩)
   (aL (bV (i:=2) jT.nd rfl eh (kR (aY bZ (aY bZ (aY bZ (aY bZ (aY bZ (aY bZ (aY bZ (aY bZ (aY bZ (aY bZ gW bE) bE) bE) bE) bE) bE) bE) bE) bE) bE)))
   (aL (bV (i:=3) jT.nd rfl eh (kR gW))
   (aL (mM bc.never rfl (hV rfl B.range (aA aH aC)) (aM (i:=4) jT.nd rfl eh) (aL (bV (i:=5) jT.nd rfl eh ⟨(bM bU (pv 2) (bF ny r2 rfl (aA (pv 0) (aA aH aC))) (λ_ _=>rfl))⟩)
   (aL (bV (i:=6) jT.nd rfl eh ⟨(bF ny r2 rfl (aA (pv 0) (aA (aS eD (aK iD rfl B.len cO (aA (pv 5) aC)) aH) aC)))⟩)
   (aL (bV (i:=7) jT.nd rfl eh ⟨(bM bU (eG (aA (bM MM (pv 1) (bF ny r2 rfl (aA (pv 0) (aA (aK iD rfl B.len cO (aA (pv 1) aC)) aC))) (λ_ _=>rfl)) (aA aJ aC))) (aZ rE rfl B.int E3 (aA (cL cY (bF ny r2 rfl (aA (pv 0) (aA aH aC))) aH ft) aC)) (λ_ _=>rfl))⟩)
   (bI ⟨(bY (kN Rk Rp Rq eI (pv 3) (aA (aS dE (aS dE (eV UB (pv 5) gS (gT (pv 6))) (pv 7)) (eV UB (pv 5) (gT (aS eD (pv 6) (bF ny r2 rfl (aA (pv 0) (aA aH aC))))) gS)) aC)))⟩)))) (λ_=>rfl))
   (bI (fJ ⟨(cM (own:=["row"]) (fr:=[]) (ff:=[]) (aX (aF vV) ["jar", "signs", "rows", "found", "turn", "row", "at", "sign"] rfl rfl 'd') rfl (cZ (pv 3)) (λ_ _ _ _=>(aM (i:=0) (show (["row"]:List aj).Nodup by decide +kernel) rfl eh)) (λ_ _ _ _=>nE (cV (cD (bF GEr r2 rfl (aA (pv 0) aC))))) (λ_ _ _ _=>(pv 0)))⟩))))))) ?_
 dsimp only [cB,Cx.gf];have hsz:af=16777216:=Rf;refine ⟨_,rfl,_,_,rfl,rfl,by rw [hsz]; decide +kernel,?_⟩;generalize hS:(" !\"#$&'()*+,-./0123456789:;<=>?@ABCDEFGHIJKLMNOPQRSTUVWXYZ" : aj)++("[\\]^_`abcdefghijklmnopqrstuvwxyz{|}~\t\n" : aj)=S;have B?:∀ c∈S.cps.toList,c < 128:=by rw [<- hS]; decide +kernel
 have hSl:0 < S.length/\S.length<=200:=by rw [<- hS]; decide +kernel
 have nb:∀ m:Int,0<=m->m<=1000->m.natAbs < 2^4000:=λm h0 h1=>Xo (show m.natAbs<=1000 by omega) 'd';refine ⟨by rw [hsz]; simp,λrp uh=>?_⟩;have s1:=aD.new (o:=.lst (AV.map V.str)) uh;have e1:upd H rp (.lst (AV.map V.str)) rp=some (.lst (AV.map V.str)):=aB;change uI _ _ _ _ (upd H rp (.lst (AV.map V.str)));generalize upd H rp (.lst (AV.map V.str))=H1 at s1 e1 ⊢;refine ⟨Ji _,λfp ox=>?_⟩;have s2:=s1.trans (aD.new (o:=.lst []) ox);have e2:=(aD.new (o:=.lst []) ox) _ _ e1;have e3:upd H1 fp (.lst []) fp=some (.lst []):=aB;generalize upd H1 fp (.lst [])=H2 at s2 e2 e3 ⊢;obtain ⟨ys,qq⟩:=hJ.lst;have JN:rp≠t:=(cI qq uh).symm;have Cb:=s1.free ox;have Ga:fp≠t:=(cI qq Cb).symm;have ZW:rp≠fp:=cI e1 ox;refine ⟨20,rfl,by decide,by decide,rD (lo:=0) (n:=20) (λi σ H'=>∃ (xs:List aj) (v4 v5 v6 v7:Option V),σ = [some (.ref t),some (.str S),some (.ref rp),some (.ref fp),v4,v5,v6,v7]/\fg t H H'/\ik K H' t a ns (N+5*i)/\H' rp=some (.lst (AV.map V.str))/\H' fp=some (.lst (xs.map V.str))/\xs.length=i/\∀ x∈xs,aKK x) ⟨[],none,none,none,none,rfl,fg.of s2,hJ.same s2,e2,e3,rfl,λx hx=>(Qv hx).elim⟩ ?_ ?_⟩
 ·rintro i σ H3 hi ⟨xs,v4,v5,v6,v7,rfl,b3,J3,er,ef,Aw,zh⟩;refine WJ λD0 kn _=>⟨_,rfl,_,rfl,t,a,ns,_,_,rfl,J3,by omega,by decide,nb _ 'c' 'c',λr1 H4 Sa AS b4 J4=>?_⟩
  obtain ⟨row,o6,nu⟩:=aJa (ws:=AV) Sa AS;obtain ⟨ra,rl⟩:=aI9 row o6;refine ⟨rp,_,r1,_,rfl,rfl,dm.of (b4 _ _ JN er),nu,?_⟩;refine ⟨_,rfl,_,rfl,_,rfl,by omega,_,_,rfl,rfl,t,a,ns,_,_,rfl,J4,by omega,by omega,nb _ 'a' 'a',λr2 H5 L? h21 b5 J5=>?_⟩;refine ⟨_,rfl,_,rfl,_,rfl,_,rfl,by omega,t,a,ns,_,_,rfl,J5,by omega,by omega,nb _ 'a' 'a',λr3 H6 R_ L! b6 J6=>?_⟩;obtain ⟨c,hc⟩:∃ c,S.cps.toList[r3.toNat]?=some c:=⟨_,Qc (by grind [dP])⟩
  have x?:il ⟨#[c]⟩:=kZ λd hd=>by
   have e:d=c:=by simpa using hd
   rw [e]; exact B? c (Qd hc)
  have Og:lj S.cps.toList r3=some c:=by
   unfold lj yn;rw [if_pos R_,if_pos (by assumption)];exact hc
  refine ⟨S,r3,c,rfl,rfl,by omega,Og,om _ _,λlp mr=>?_⟩;have s7:=aD.new (o:=.lst [.str ⟨#[c]⟩,.str ""]) mr;have e7:upd H6 lp (.lst [.str ⟨#[c]⟩,.str ""]) lp=some (.lst [.str ⟨#[c]⟩,.str ""]):=aB;obtain ⟨zs,p?⟩:=J6.lst;have Z0:lp≠t:=(cI p? mr).symm;generalize upd H6 lp (.lst [.str ⟨#[c]⟩,.str ""])=H7 at s7 e7 ⊢;refine ⟨_,rfl,t,a,ns,_,_,rfl,J6.same s7,by omega,by decide,nb _ 'c' 'c',λr4 H8 h40 h41 b8 J8=>?_⟩;obtain ⟨sg,a!,b!,DY⟩:∃ sg:aj,lj [V.str ⟨#[c]⟩,.str ""] (if decide (V.int r4=V.int 0)=true then 1 else 0)=some (.str sg)/\il sg/\sg.length<=1:=by
   by_cases z:decide (V.int r4=V.int 0)=true
   ·rw [if_pos z]; exact ⟨"",rfl,kZ (λd hd=>by cases (show d∈([]:List Nat) from hd)),by decide +kernel⟩
   ·rw [if_neg z]; exact ⟨⟨#[c]⟩,rfl,x?,Qe _⟩
  refine ⟨rfl,.inr ⟨_,rfl,lp,_,_,_,rfl,rfl,dm.of (b8 _ _ Z0 e7),a!,?_⟩⟩;have b38:=(b3.trans (b4.trans (b5.trans b6))).trans ((fg.of s7).trans b8);have f8:∀ c' u,c'≠t->H3 c'=some u->H8 c'=some u:=λc' u j8 hu=>b8 _ _ j8 (s7 _ _ (b6 _ _ j8 (b5 _ _ j8 (b4 _ _ j8 hu))));have l1:(Txt.slice row none (some r2)).length<=7:=by grind [dP,WW,Qs]
  have a1:il (Txt.slice row none (some r2)):=kZ λd hd=>by
   rw [WW row L?] at hd;exact il.lt ra (Zf hd)
  refine ⟨_,rfl,.inl ⟨rfl,_,dm.of (f8 _ _ Ga ef)⟩,_,rfl,_,rfl,r2,rfl,row,rfl,by omega,_,rfl,_,_,rfl,rfl,by omega,_,rfl,_,rfl,_,rfl,t,a,ns,_,_,rfl,J8,by omega,by decide,nb _ 'c' 'c',λr5 H9 R9 R8 b9 J9=>?_⟩;have l2:(Txt.slice row (some (r2+r5)) none).length<=7:=by rw [<- dP,vI row 'a',Xa,dP]; omega
  have a2:il (Txt.slice row (some (r2+r5)) none):=kZ λd hd=>by
   rw [vI row 'a'] at hd;exact il.lt ra (Ww hd)
  refine ⟨_,_,rfl,rfl,_,rfl,row,rfl,by omega,_,_,rfl,rfl,by rw [gG]; omega,fp,_,_,rfl,rfl,b9 _ _ Ga (f8 _ _ Ga ef),by rw [Qa]; omega,?_⟩;have bA:fg fp H9 (upd H9 fp (.lst (xs.map V.str++[.str (Txt.slice row none (some r2)++sg++Txt.slice row (some (r2+r5)) none)]))):=fg.at;refine kn _ _ ⟨xs++[Txt.slice row none (some r2)++sg++Txt.slice row (some (r2+r5)) none],_,_,_,_,rfl,λc' u j8 hu=>?_,?_,bA _ _ ZW (b9 _ _ JN (f8 _ _ JN er)),by rw [Qm]; exact aB,by rw [Qg,Aw]; rfl,λx hx=>?_⟩
  ·exact bA _ _ (cI hu Cb) (b9 _ _ j8 (b38 _ _ j8 hu))
  ·exact (hJ.fresh Cb J9 Ga.symm).more 'a'
  ·rcases Qp.mp hx with hx | hx
   ·exact zh x hx
   ·rw [Qi.mp hx];exact ⟨oQ (oQ a1 b!) a2,by rw [gG,gG]; omega⟩
 ·rintro σ H3 ⟨xs,v4,v5,v6,v7,rfl,b3,J3,er,ef,Aw,zh⟩;refine ⟨_,rfl,fp,rfl,⟨_,dm.of ef⟩,eZ (K:=K) (a:=fp) (xs:=xs.map V.str) (λσ=>∃ v,σ = [v]) (λi ys H'=>∃ zs:List aj,aD H3 H'/\ys=zs.map V.str/\zs.length<=i/\∀ x∈zs,sJ x) (cK (by simp_all)) ⟨none,rfl⟩ ⟨[],aD.refl _,rfl,Qe _,λx hx=>(Qv hx).elim⟩ (λi ys H' z=>by obtain ⟨zs,_,rfl,z,_⟩:=z; rw [Qa]; exact z) (λi ys H' z=>by obtain ⟨zs,z,_⟩:=z; exact dm.of (z _ _ ef)) ?_ ?_⟩
  ·rintro i ys σ xv H' Av ⟨v,rfl⟩ ⟨zs,s',rfl,hl,hz⟩ χ;rw [Qh] at Av;obtain ⟨x,hx,rfl⟩:=Qo.mp Av;obtain ⟨xa,xl⟩:=zh x (Qd hx);have ok:=sI xa 'a';obtain ⟨f1,r1,e⟩:=sF x;refine ⟨_,rfl,x,f1,r1,rfl,ok,e,λxi og=>⟨_,rfl,?_⟩⟩;cases hb:qV (f1::r1) with
   | true=>exact iQ ⟨⟨_,rfl⟩,zs,s'.trans og,rfl,by omega,hz⟩
   | false =>
    refine iE ⟨_,rfl,χ,⟨_,rfl⟩,zs++[x],s'.trans og,by rw [Qm]; rfl,by rw [Qg]; show _+1<=_; omega,λy hy=>?_⟩;rcases Qp.mp hy with hy | hy
    ·exact hz y hy
    ·rw [Qi.mp hy]; exact ⟨ok,by rw [e]; exact hb⟩
  ·rintro ys H' ⟨zs,s',rfl,hl,hz⟩ q hq;rw [Qa] at hl;have s4:=s'.trans (aD.new (o:=.lst (zs.map V.str)) hq);have Gm:=s'.free hq;have Gn:H q=none:=by
    by_cases e:q=t
    ·obtain ⟨w1,e1⟩:=J3.lst; rw [e,e1] at Gm; cases Gm
    ·cases hh:H q with
     | none=>rfl
     | some u=>rw [b3 q u e hh] at Gm; cases Gm
   exact k q zs _ (b3.trans (fg.of s4)) ((J3.same s4).more 'a') Gn aB 'a' hz
end
noncomputable def Dq:ay->aj
 | .Constant (.str x) _ _=>x
 | .BinOp (.Constant (.str x) _ _) .Add (.BinOp (.Constant (.str y) _ _) .Mult (.Constant (.int n) _ _) _) _=>x++Txt.mul y n
 | _ => ""
def aMv (us:List aj):TA:=λ_ H Q=>Q (us.map V.str) H
def LK (us:List aj):TE:=λ_ H Q=>∀ p,H p=none->Q (.ref p) (upd H p (.lst (us.map V.str)))
theorem zP:∀ (l:List (Array Nat)) (acc:Array Nat),(l.foldl (·++·) acc).toList=acc.toList++(l.map (·.toList)).flatten
 | [],acc=>by simp
 | x::l,acc=>by
  rw [Yo,zP l];simp
theorem WG (x:aj) (h:2<=n) (hx:x.length≠0):(Txt.mul x n).cps.toList=(List.replicate n x.cps.toList).flatten:=by
 unfold Txt.mul;rw [if_neg 'a',if_neg (by grind)];rw [zP];simp
theorem aJb {x:aj} (h:2<=n) (hx:x.length≠0) {c:Nat} (hc:c∈(Txt.mul x n).cps.toList):c∈x.cps.toList:=by
 rw [WG x h hx] at hc;obtain ⟨l,hl,hc⟩:=List.mem_flatten.mp hc;rw [Wg hl] at hc;exact hc
theorem UZ {x:aj} (h:2<=n) (hx:x.length≠0):(Txt.mul x n).length=n*x.length:=by
 rw [<- dP,WG x h hx,List.length_flatten,List.map_replicate,List.sum_replicate_nat,dP]
theorem L5 {p:Prop} {o:Option (PLift p)} (h:o.isSome=true):p:=(o.get h).down
theorem aJc {x y:aj} {n:Int} {a b c d f g i:_} {j:_} (h:x.length<=50/\y.length=1/\2<=n/\n<=5000):PE X (.BinOp (.Constant (.str x) a b) .Add (.BinOp (.Constant (.str y) c d) .Mult (.Constant (.int n) f g) i) j) (tC (.str (x++Txt.mul y n))):=by
 obtain ⟨h1,h2,h3,h4⟩:=h;obtain ⟨m,rfl⟩:=Int.eq_ofNat_of_zero_le (show 0<=n by omega);have h9:=Rf;refine (aS dE aJ (aS aIc aJ aH)).imp λσ H Q h=>⟨y,m,rfl,rfl,⟨?_,λh0 _=>?_,λh0 _=>?_⟩,x,_,rfl,rfl,?_,h⟩
 ·grind
 ·have:(1000000:Int)<=(2^63 - 1) / m:=by
   rw [Int.le_ediv_iff_mul_le 'a'];omega
  omega
 ·rw [h2]; exact decide_eq_false 'a'
 ·grind [UZ]
noncomputable def aMw:(e:ay)->Option (PLift (∀ X:Cx,PE X e (tC (.str (Dq e)))/\∀ es,ao (e::es) X.env=(false,eval e X.env)::ao es X.env))
 | .Constant (.str _) _ _=>some ⟨λ_=>⟨aJ,λ_=>bE⟩⟩
 | .BinOp (.Constant (.str x) _ _) .Add (.BinOp (.Constant (.str y) _ _) .Mult (.Constant (.int n) _ _) _) _=>if h:x.length<=50/\y.length=1/\2<=n/\n<=5000 then some ⟨λ_=>⟨aJc h,λ_=>uX⟩⟩ else none
 | _=>none
noncomputable def SG (e:ay):Bool:=(aMw e).isSome
theorem TX:∀ {es:List ay},es.all SG=true->PA X es (aMv (es.map Dq))
 | [],_=>aC
 | e::es,h=>by
  rw [Qaj,Qt] at h;exact aA (L5 h.1 X).1 (TX h.2) ((L5 h.1 X).2 _)
theorem gY (h:(es.all SG && decide (es.length<=1000))=true):PE X (.List es pos) (LK (es.map Dq)):=by
 rw [Qt,decide_eq_true_iff] at h;exact (eG (TX h.1)).imp λσ H Q q=>⟨by rw [Qa,Qa,Rf]; omega,q⟩
theorem aHs {σ:St} {us:List aj} {R:aj->Prop} {t:TS} {D:Ends} {m:Nat} (hu:us.length<=m) (hR:∀ x∈us,R x) (k:∀ p (xs:List aj) H',aD H H'->H' p=some (.lst (xs.map V.str))->xs.length<=m->(∀ x∈xs,R x)->t D (σ.set i (some (.ref p))) H'):uI (A0 (LK us) (gI i)) t D σ H:=bJ λp hp=>k p us _ (aD.new hp) aB hu hR
theorem kU {σ:St} {p:ae} {xs us:List aj} {R:aj->Prop} {Q:VK} (m:Nat) (hv:σ[i]?=some (some (.ref p))) (e:H p=some (.lst (xs.map V.str))) (hx:xs.length<=n) (hu:us.length<=m) (hn:n+m<=1000) (h1:∀ x∈xs,R x) (h2:∀ x∈us,R x) (k:∀ p' (CC:List aj) H',aD H H'->H p'=none->H' p'=some (.lst (CC.map V.str))->CC.length<=n+m->(∀ x∈CC,R x)->Q (.ref p') H'):ud Lz (kW i) (LK us) σ H Q:=by
 refine ⟨_,hv,λq hq=>⟨p,q,_,_,rfl,rfl,(aD.new hq) _ _ e,aB,by rw [Qa,Qa,Rf]; omega,λr hr=>?_⟩⟩;exact k r (xs++us) _ ((aD.new (o:=.lst (us.map V.str)) hq).trans (aD.new (o:=.lst (xs.map V.str++us.map V.str)) hr)) ((aD.new hq).free hr) (by simp [Qm,aB]) (by grind) λx hx=>(Qp.mp hx).elim (h1 x) (h2 x)
noncomputable def Lx (t:aj):Bool:=t.cps.all (· < 128) && (decide (t.length<=900) && !qV (Txt.split t " "))
theorem aKM {t:aj} (h:Lx t=true):sJ t:=by
 unfold Lx at h;rw [Qt,Qt,Zs,decide_eq_true_iff] at h;exact ⟨sI h.1 h.2.1,h.2.2⟩
theorem UY {s q:List Nat}:∀ {ps:List (List Nat)},ps≠[]->jn s (ps++[q])=jn s ps++s++q
 | [p],_=>by show jn s (p::[q])=p++s++q; rw [jS (Zb _ _)]; rfl
 | p::p2::ps,_=>by
  rw [Za,jS 'b',UY (Zb _ _),jS (Zb p2 ps)];simp only [Xj]
theorem xE {a f:aj} {ws:List aj} (ha:a.cps.toList=jn [32] ((f::ws).map (·.cps.toList))++[32]) (hw:(f::ws).all (λx=>x.cps.all (· < 128) && (!decide (32∈x.cps.toList) && decide (x.length<=6)))=true) (hl:ws.length<=5):sJ (a++Txt.mul "1" 4000):=by
 have Lb:((" " : aj)).cps.toList = [32]:=by rfl
 have ml:(Txt.mul ("1" : aj) 4000).length=4000*1:=UZ (x := "1") (n:=4000) 'c' 'd';have mm:∀ c∈(Txt.mul ("1" : aj) 4000).cps.toList,c=49:=λc hc=>by
  have:=aJb (x := "1") (n:=4000) 'c' 'd' hc;have e:("1" : aj).cps.toList = [49]:=by rfl
  rw [e] at this;exact Qi.mp this
 generalize Txt.mul ("1" : aj) 4000=b at ml mm ⊢;have e:a++b=(" " : aj).join (f::(ws++[b])):=by
  have:(a++b).cps.toList=((" " : aj).join (f::(ws++[b]))).cps.toList:=by
   rw [kK,gF,Lb,<- Za,Qm,show [b].map (λx:aj=>x.cps.toList) = [b.cps.toList] from rfl,UY 'b',ha]
  exact jA this
 have hg:∀ x∈f::ws,il x/\32∉x.cps.toList/\x.length<=6:=λx hx=>by
  have:=Jo.mp hw x hx;rw [Qt,Qt,Zs,decide_eq_false_iff_not,decide_eq_true_iff] at this;exact this
 have hs:Txt.split (a++b) " " = f::(ws++[b]):=by
  rw [e];refine wM (c:=32) (s':=[]) Lb 'd' (Zb _ _) λp hp=>?_;rw [<- Za] at hp;rcases Qp.mp hp with hp | hp
  ·exact (hg p hp).2.1
  ·grind
 refine ⟨⟨?_,?_,?_⟩,?_⟩
 ·refine kZ λc hc=>?_;rw [e,gF,Lb] at hc;rcases HS hc with hc | ⟨p,hp,hc⟩
  ·rw [Qi.mp hc]; decide
  ·obtain ⟨q,hq,rfl⟩:=Jc.mp hp;rw [<- Za] at hq;rcases Qp.mp hq with hq | hq
   ·exact (hg q hq).1.lt hc
   ·rw [Qi.mp hq] at hc;rw [mm c hc]; decide
 ·rw [e];have h1:=StrLaws.join_length_le (" " : aj) (f::(ws++[b]));have h2:=L9 (λx:aj=>x.length) 6 (f::ws) λy hy=>(hg y hy).2.2;have h3:(" " : aj).length=1:=by rfl
  rw [h3] at h1;simp only [Jb,Qm,Yh,List.sum_cons,List.sum_append,List.sum_nil,Jl,Qg,List.length_nil] at h1 h2;omega
 ·rw [hs]; simp; omega
 ·rw [hs];have:dF b.cps.toList=false:=by
   unfold dF;rw [decide_eq_false (show ¬ b.cps.toList.length<=6 by rw [dP]; omega),Zx,Xu]
  show ((((ws++[b]).map λx:aj=>dF x.cps.toList).all id) && _)=false;rw [Qm,List.all_append];simp [this]
theorem aFu:sJ (("hands " : aj)++Txt.mul "1" 4000)/\sJ (("put 0 " : aj)++Txt.mul "1" 4000)/\sJ (("take " : aj)++Txt.mul "1" 4000) :=
 ⟨xE (f := "hands") (ws:=[]) 'd' 'd' 'c',xE (f := "put") (ws:=["0"]) 'd' 'd' 'c',xE (f := "take") (ws:=[]) 'd' 'd' 'c'⟩
theorem aJd {x y:aj} {n:Int} (h:(x = "hands " ∨ x = "put 0 " ∨ x = "take ")/\y = "1" /\ n=4000):sJ (x++Txt.mul y n):=by
 obtain ⟨h1,rfl,rfl⟩:=h;obtain ⟨q1,q2,q3⟩:=aFu;rcases h1 with rfl | rfl | rfl
 ·exact q1
 ·exact q2
 ·exact q3
noncomputable def aMx:(e:ay)->Option (PLift (sJ (Dq e)))
 | .Constant (.str x) _ _=>if h:Lx x=true then some ⟨aKM h⟩ else none
 | .BinOp (.Constant (.str x) _ _) .Add (.BinOp (.Constant (.str y) _ _) .Mult (.Constant (.int n) _ _) _) _=>if h:(x = "hands " ∨ x = "put 0 " ∨ x = "take ")/\y = "1" /\ n=4000 then some ⟨aJd h⟩ else none
 | _=>none
noncomputable def aMy (e:ay):Bool:=(aMx e).isSome
theorem jU (h:es.all aMy=true):∀ x∈es.map Dq,sJ x:=λx hx=>by
 obtain ⟨e,he,rfl⟩:=Jc.mp hx;exact L5 (Jo.mp h e he)
def WE:Sp:=λvs H Q _=>vs = []/\∀ p (xs:List aj) H',aD H H'->H p=none->H' p=some (.lst (xs.map V.str))->xs.length<=100->(∀ x∈xs,sJ x)->Q (.ref p) H'
theorem iP:b_ ["rows"] [] (aF tU):=.of
set_option maxHeartbeats 4000000 in
theorem aFv (G:Fn K mg "_law_e_no_rows" tU [] f fd):c_ P w K mg base d_ 1 f fd [] WE:=by
 refine G.fn.oK iP λfe A outer s H vs Q E hr h=>?_;obtain ⟨rfl,k⟩:=h;refine i6.ex (aL (bV (i:=0) iP.nd rfl eh ⟨(gY 'd')⟩)
   (aL (bV (i:=0) iP.nd rfl eh ⟨(aS fE (pv 0) (gY 'd'))⟩)
   (aL (bV (i:=0) iP.nd rfl eh ⟨(aS fE (pv 0) (gY 'd'))⟩)
   (aL (bV (i:=0) iP.nd rfl eh ⟨(aS fE (pv 0) (gY 'd'))⟩)
   (aL (bV (i:=0) iP.nd rfl eh ⟨(aS fE (pv 0) (gY 'd'))⟩)
   (aL (bV (i:=0) iP.nd rfl eh ⟨(aS fE (pv 0) (gY 'd'))⟩)
   (aL (bV (i:=0) iP.nd rfl eh ⟨(aS fE (pv 0) (gY 'd'))⟩)
   (aL (bV (i:=0) iP.nd rfl eh ⟨(aS fE (pv 0) (gY 'd'))⟩)
   (bI (fJ ⟨(aS fE (pv 0) (gY 'd'))⟩)))))))))) ?_
 refine aHs (m:=10) 'd' (jU 'd') λp xs H1 s1 e1 l1 n1=>bJ (kU 10 rfl e1 l1 'd' 'c' n1 (jU 'd') λp xs H2 s2 _ e2 l2 n2=>?_);refine bJ (kU 10 rfl e2 l2 'd' 'c' n2 (jU 'd') λp xs H3 s3 _ e3 l3 n3=>bJ (kU 10 rfl e3 l3 'd' 'c' n3 (jU 'd') λp xs H4 s4 _ e4 l4 n4=>?_));refine bJ (kU 10 rfl e4 l4 'd' 'c' n4 (jU 'd') λp xs H5 s5 _ e5 l5 n5=>bJ (kU 10 rfl e5 l5 'd' 'c' n5 (jU 'd') λp xs H6 s6 _ e6 l6 n6=>?_));refine bJ (kU 10 rfl e6 l6 'd' 'c' n6 (jU 'd') λp xs H7 s7 _ e7 l7 n7=>bJ (kU 10 rfl e7 l7 'd' 'c' n7 (jU 'd') λp xs H8 s8 _ e8 l8 n8=>?_));have OV:=s1.trans (s2.trans (s3.trans (s4.trans (s5.trans (s6.trans (s7.trans s8))))));exact kU 10 rfl e8 l8 'd' 'c' n8 (jU 'd') λp xs H9 s9 f9 e9 l9 n9=>k p xs H9 (OV.trans s9) (OV.free f9) e9 (Qr l9 'c') n9
theorem UX (h:l≠[]):("put " : aj)++(" " : aj).join (l.map bS)=eO "put" l:=jA (by
 have e:(" " : aj).cps.toList = [32]:=by rfl
 have e2:("put " : aj).cps.toList=("put" : aj).cps.toList++[32]:=by rfl
 unfold eO;rw [kK,gF,gF,Jb,e,jS (by simpa using h),e2])
theorem xF (i:Int):("take " : aj)++bS i=eO "take" [i]:=jA (by rfl)
theorem aFw (i:Int):("hands " : aj)++bS i=eO "hands" [i]:=jA (by rfl)
theorem aJe (i:Int):("put " : aj)++bS i++(" 0" : aj)=eO "put" [i,0]:=jA (by
 have e:(" " : aj).cps.toList = [32]:=by decide +kernel
 have e2:("put " : aj).cps.toList=("put" : aj).cps.toList++[32]:=by decide +kernel
 have e3:(" 0" : aj).cps.toList = [32]++(bS 0).cps.toList:=by rfl
 unfold eO;rw [kK,kK,gF,Jb,Xi,e,jS 'b',e2,e3];show _=_++jn [32] [(bS i).cps.toList,(bS 0).cps.toList];rw [jS 'b'];simp only [Xj]; rfl)
theorem jG.log {i:Int} (h:jG i):i.natAbs.log2 < 300:=by
 rcases h with h | rfl
 ·exact qW h.1 'a'
 ·decide
theorem mO {D:Ends} {σ:St} {tb:TS} (h:tl σ H λx H1=>∃ a,x=.ref a/\(∃ xs,dm K H1 a xs)/\∃ W:Nat->Nat->St->Hp->Prop,(∃ m,W 0 m σ H1)/\∀ i m σ H,W i m σ H ->
 ((A2 K a).stop i H/\D.nx σ H)∨((A2 K a).go i H/\∃ N:St->Hp->Prop,(∀ d9 H',N d9 H'->∃ m',m' < m/\W (i+1) m' d9 H')/\∀ x H',(A2 K a).m7 i H x H'->g x σ H' λfi H2=>tb { D with nx:=N,ct:=N,bk:=D.nx } fi H2)):G_ (LX K tl) g tb D σ H:=h
theorem oR {D:Ends} {σ:St} {t u:TS} {c:TT} (R:St->Hp->Prop) (body:(∀ d9 H',R d9 H'->u D d9 H')->BQ c t oU { D with nx:=λd9 H'=>u D d9 H' } σ H) (cC:∀ d9 H',R d9 H'->u D d9 H'):uI (BQ c t oU) u D σ H:=body cC
def Tq (K:Rb) (te:TE) (σ:St) (H:Hp) (l:LIn):Prop:=∀ H1,aD H H1->∀ Q:VK,(∀ p H',aD H1 H'->dt K H' p (l.map V.int)->Q (.ref p) H')->te σ H1 Q
section
variable {σ:St} {m:LIn} {p:ae} {q:Nat} {i:Int}
theorem pN (hv:σ[q]?=some (some (.ref p))) (h:dt K H p (l.map V.int)):Tq K (kW q) σ H l:=λH1 s Q k=>⟨_,hv,k p H1 (aD.refl _) (s.di h)⟩
theorem sK (ha:Tq K ta σ H l) (hb:Tq K tb σ H m) (hz:l.length+m.length<=1000):Tq K (ud (TJ K) ta tb) σ H (l++m):=λH1 s Q k=>ha H1 s _ λp1 H2 s2 h2=>hb H2 (s.trans s2) _ λp2 H3 s3 h3=>⟨p1,p2,_,_,rfl,rfl,s3.di h2,h3,by rw [Qa,Qa,Rf]; omega,λp H4 s4 h4=>k p H4 (s2.trans (s3.trans s4)) (by simp_all)⟩
theorem L4 (h:∀ (H1:Hp) (Q:VK),Q (.int i) H1->ta σ H1 Q):Tq K (G9 (gJ ta lU)) σ H [i]:=λH1 s Q k=>h H1 _ ⟨wm 1 'c' |> Jx,λp hp=>k p _ (aD.new hp) (dt.of aB)⟩
theorem SW (ha:Tq K ta σ H l) (hv:σ[q]?=some (some (.int i))) (h0:0<=i):Tq K (F4 (G5 K) ta tL (HF (kW q))) σ H (l.take i.toNat):=λH1 s Q k=>ha H1 s _ λp1 H2 s2 h2=>⟨_,hv,i,rfl,p1,_,rfl,h2,λp H3 s3 h3=>k p H3 (s2.trans s3) (by grind [VS,List.map_take])⟩
theorem UW (ha:Tq K ta σ H l) (hv:σ[q]?=some (some (.int i))) (h0:0<=i):Tq K (F4 (G5 K) ta (HF (kW q)) tL) σ H (l.drop i.toNat):=λH1 s Q k=>ha H1 s _ λp1 H2 s2 h2=>⟨_,hv,i,rfl,p1,_,rfl,h2,λp H3 s3 h3=>k p H3 (s2.trans s3) (by
 rw [show i=((i.toNat:Nat):Int) by omega,lC] at h3;rw [List.map_drop]; exact h3)⟩
theorem aHt (h:xs≠[]):mY xs (some (-1)) none=xs.drop (xs.length - 1):=by
 have:=Xk.mpr h;have e:=HT.jo (-1) xs.length 0;rw [if_pos 'c'] at e;have e2:HT.gj xs.length 0 (some (-1))=xs.length - 1:=by omega
 unfold mY;rw [e2,HT.mi];exact Jf (by simp_all)
theorem aJf (ha:Tq K ta σ H l) (hl:l≠[]):Tq K (F4 (G5 K) ta (HF (OE (rU λi=>V.int (-i)) (tC (V.int 1)))) tL) σ H (l.drop (l.length - 1)):=λH1 s Q k=>ha H1 s _ λp1 H2 s2 h2=>⟨1,rfl,-1,rfl,p1,_,rfl,h2,λp H3 s3 h3=>k p H3 (s2.trans s3) (by simp_all [aHt,Qa,List.map_drop])⟩
theorem aJg {l1 l2 l3:LIn} {Q:VK} (ha:Tq K ta σ H l1) (hb:Tq K tb σ H l2) (hc:Tq K tc σ H l3) (k:∀ p q1 q2 q3 H',aD H H'->H p=none->H' p=some (.lst [.ref q1,.ref q2,.ref q3])->dt K H' q1 (l1.map V.int)->dt K H' q2 (l2.map V.int)->dt K H' q3 (l3.map V.int)->Q (.ref p) H'):G8 (gJ ta (gJ tb (gJ tc lU))) σ H Q :=
 ha H (aD.refl _) _ λq1 H1 s1 h1=>hb H1 s1 _ λq2 H2 s2 h2=>hc H2 (s1.trans s2) _ λq3 H3 s3 h3=>⟨zb _ _ _,λp hp =>
  let s4:=aD.new (o:=.lst [.ref q1,.ref q2,.ref q3]) hp
  k p q1 q2 q3 _ (s1.trans (s2.trans (s3.trans s4))) ((s1.trans (s2.trans s3)).free hp) aB ((s2.trans (s3.trans s4)).di h1) ((s3.trans s4).di h2) (s4.di h3)⟩
theorem aJh {Q:VK} (ha:Tq K ta σ H l) (k:∀ p q1 H',aD H H'->H p=none->H' p=some (.lst [.ref q1])->dt K H' q1 (l.map V.int)->Q (.ref p) H'):G8 (gJ ta lU) σ H Q :=
 ha H (aD.refl _) _ λq1 H1 s1 h1=>⟨wm 1 'c' |> Jx,λp hp =>
  let s4:=aD.new (o:=.lst [.ref q1]) hp
  k p q1 _ (s1.trans s4) (s1.free hp) aB (s4.di h1)⟩
end
def Lw (S:SD) (f:aj) (l:LIn) (j:Nat):Prop:=SI S f l j/\(∀ i∈l,jG i)/\l.length<=19
def xG (K:Rb) (S:SD) (H:Hp) (x:V):Prop:=∃ r f l j t,x=.ref r/\dt K H r [.str (eO f l),.str t]/\j < 11/\words[j]?=some t/\Lw S f l j
section
variable {σ:St} {w:aj} {a rl:ae} {N N' M M':Nat}
theorem xG.same {x:V} (s:aD H H') (h:xG K S H x):xG K S H' x:=by
 obtain ⟨r,f,l,j,t,h1,h2,h3⟩:=h;exact ⟨r,f,l,j,t,h1,s.di h2,h3⟩
theorem xG.but {x:V} {b:ae} (e:H b=some (.lst xs)) (s:fg b H H') (h:xG K S H x):xG K S H' x:=by
 obtain ⟨r,f,l,j,t,h1,h2,h3⟩:=h;exact ⟨r,f,l,j,t,h1,s.di e h2,h3⟩
structure RI (K:Rb) (S:SD) (t a:ae) (ns:LIn) (rl:ae) (H0:Hp) (N M:Nat) (H:Hp):Prop where
 but:fg t H0 H
 m8:ik K H t a ns N
 has:∃ xs,H rl=some (.lst xs)/\xs.length<=M/\∀ x∈xs,xG K S H x
theorem RI.same (I:RI K S t a ns rl H0 N M H) (s:aD H H'):RI K S t a ns rl H0 N M H':=⟨I.but.trans (fg.of s),I.m8.same s,let ⟨xs,h1,h2,h3⟩:=I.has; ⟨xs,s _ _ h1,h2,λx hx=>(h3 x hx).same s⟩⟩
theorem RI.up (I:RI K S t a ns rl H0 N M H) (h:N<=N'/\M<=M':=by omega):RI K S t a ns rl H0 N' M' H:=⟨I.but,I.m8.more h.1,let ⟨xs,h1,h2,h3⟩:=I.has; ⟨xs,h1,Qr h2 h.2,h3⟩⟩
theorem aJi {x:V} {R:V->Hp->Prop} (J0:ik K H0 t a ns M') (h0:H0 rl=none) (n:rl≠t) (I:RI K S t a ns rl H0 N M H) (hM:M<=1000) (hx:xG K S H x) (k:∀ H2,fg rl H H2->RI K S t a ns rl H0 N (M+1) H2->R .fk H2):zZ (.ref rl) [x] H R:=by
 obtain ⟨xs,h1,h2,h3⟩:=I.has;have b:fg rl H (upd H rl (.lst (xs++[x]))):=fg.at;refine ⟨rl,xs,x,rfl,rfl,h1,by rw [Rf]; omega,k _ b ⟨λc u hc he=>?_,J0.fresh h0 I.m8 n.symm,_,aB,by rw [Qg]; show _+1<=_; omega,λy hy=>?_⟩⟩
 ·exact b c u (λz=>by rw [z,h0] at he; cases he) (I.but c u hc he)
 ·rcases Qp.mp hy with hy | hy
  ·exact (h3 y hy).but h1 b
  ·rw [Qi.mp hy]; exact hx.but h1 b
def X8 (S:SD) (te:TE) (σ:St) (H:Hp) (j:Nat):Prop:=∀ Q:VK,(∀ f l H',aD H H'->Lw S f l j->Q (.str (eO f l)) H')->te σ H Q
theorem sL {q:Nat} {Dn:Ends} (J0:ik K H0 t a ns M') (h0:H0 rl=none) (n:rl≠t) (I:RI K S t a ns rl H0 N M H) (hM:M<=1000) (hq:σ[q]?=some (some (.ref rl))) (hj:j < 11) (ht:words[j]?=some w) (he:X8 S te σ H j) (k:∀ H2,fg rl H H2->RI K S t a ns rl H0 N (M+1) H2->Dn.nx σ H2):LY (F5 K "list" zZ (kW q) (gJ (G9 (gJ te (gJ (tC (.str w)) lU))) lU)) Dn σ H:=by
 obtain ⟨Ox,e0,_⟩:=I.has;exact ⟨_,hq,.inl ⟨rfl,_,dm.of e0⟩,he _ λf l H1 s1 b=>⟨om _ _,λr hr=>aJi J0 h0 n ((I.same s1).same (aD.new hr)) hM ⟨r,f,l,j,w,rfl,dt.of aB,hj,ht,b⟩ λH2 b2 I2=>k H2 (((fg.of s1).trans (fg.of (aD.new hr))).trans b2) I2⟩⟩
abbrev aLD (K:Rb) (q:Nat):TE:=ud (λx y H Q=>∃ i j,x=V.str i/\y=V.str j/\i.length+j.length<=af/\Q (V.str (i++j)) H) (tC (V.str "put ")) (F5 K "str" (λx vs H Q=>∃ sep a ps,x=V.str sep/\vs = [V.ref a]/\dm K H a (List.map V.str ps)/\JoinOk sep ps=true/\Q (V.str (sep.join ps)) H) (tC (V.str " ")) (gJ (ET 1 [] (Hm K (kW q)) (gI 0) rJ (CG (λxs H Q=>∃ i,xs = [V.int i]/\i.natAbs.log2 < 1920/\Q (V.str (bS i)) H) (gJ (kW 0) lU))) lU))
theorem TU {q:Nat} {p:ae} (hb:σ[q]?=some (some (.ref p))) (hp:dt K H p (l.map V.int)) (gw:l≠[]) (b:Lw S "put" l j):X8 S (aLD K q) σ H j:=λQ k=>by
 obtain ⟨b1,b2,b3⟩:=id b;refine ⟨rfl,_,hb,p,rfl,⟨_,hp⟩,kB (K:=K) (a:=p) (xs:=l.map V.int) (λσ=>∃ v,σ = [v]) (λi ys H'=>H'=H/\ys=((l.take i).map bS).map V.str) (cK (by grind)) ⟨none,rfl⟩ ⟨rfl,rfl⟩ (λi ys H' z=>by rw [z.2,Qa,Qa,Qs]; omega) (λi ys H' z=>by rw [z.1]; exact hp) ?_ ?_⟩
 ·rintro i ys σ xv H' hx ⟨v,rfl⟩ ⟨rfl,rfl⟩ hz;rw [Qh] at hx;obtain ⟨x,CT,rfl⟩:=Qo.mp hx;refine bX ?_;refine ⟨_,rfl,x,rfl,Xh (b2 x (Qd CT)).log 'c',hz,⟨_,rfl⟩,rfl,?_⟩;rw [dA CT,Qm,Qm]; rfl
 ·rintro ys H' ⟨rfl,rfl⟩ r hr;rw [Qa,Qu];have e:=(xA (f := "put") (Ew 'd') b2 b3).1.len;have e2:=e;rw [<- UX gw,gG] at e2;refine ⟨" ",r,l.map bS,rfl,rfl,dm.of aB,nW (λy hy=>?_) (by grind), "put ",_,rfl,rfl,by rw [Rf]; omega,?_⟩
  ·obtain ⟨i,hi,rfl⟩:=Jc.mp hy;exact Qr (cX (b2 i hi).log) 'c'
  ·rw [UX gw];exact k "put" l _ (aD.new hr) b
def zy (K:Rb) (S:SD) (H:Hp) (x:V):Prop:=∃ p l,x=.ref p/\dt K H p (l.map V.int)/\l≠[]/\cA S.n (cR l)=false/\(∀ i∈l,jG i)/\l.length<=19
theorem zy.same {x:V} (s:aD H H') (h:zy K S H x):zy K S H' x:=by
 obtain ⟨p,l,h1,h2,h3⟩:=h;exact ⟨p,l,h1,s.di h2,h3⟩
theorem zy.but {x:V} {b:ae} (e:H b=some (.lst xs)) (s:fg b H H') (h:zy K S H x):zy K S H' x:=by
 obtain ⟨p,l,h1,h2,h3⟩:=h;exact ⟨p,l,h1,s.di e h2,h3⟩
end
theorem uG {n:Int} (h:l≠[]->(∀ x∈l,0<=x/\x < n)->l.Pairwise (· < ·)->False):cA n (cR l)=false:=by
 cases e:cA n (cR l) with
 | false=>rfl
 | true=>obtain ⟨a,b,c⟩:=bO e; exact (h a b c).elim
def zQ (K:Rb):Sp:=λvs H Q _=>∃ (t a:ae) (ns:LIn) (N:Nat) (sp:ae) (S:SD),vs = [.ref t,.ref sp]/\ik K H t a ns N/\N<=500000/\kj K H sp S/\u3 S/\S.fw<=100/\∀ rl xs H',H rl=none->fg t H H'->ik K H' t a ns (N+40)->H' rl=some (.lst xs)->xs.length<=400->(∀ x∈xs,xG K S H' x)->Q (.ref rl) H'
theorem fA:b_ ["jar", "state", "hands", "good", "at", "rows", "bads", "some", "taken", "number", "last"] ["jar", "state"] (aF jD):=.of
set_option maxHeartbeats 2000000 in
theorem aDw (G:Fn K mg "_law_e_refused" jD ["jar", "state"] f fd) (B:Bl mg) (ny:FF P w K mg base d_ 2 "_law_e_scoop" nR ["jar", "many"] (oM K)) (Fg:FF P w K mg base d_ 3 "_law_e_able" vZ ["jar", "hands"] (HI K)):c_ P w K mg base d_ 4 f fd ["jar", "state"] (zQ K):=by
 refine G.fn.oK fA λfe A outer s H vs Q E hr h=>?_;obtain ⟨t,a,ns,N,sp,S,rfl,hJ,hN,hS,hM,Fy,k⟩:=h;have r3:dj 3 _:=hr;have r2:dj 2 _:=hr.mono 'c';have hu:=dS hr;refine i6.ex (aL (bV (i:=2) fA.nd rfl eh ⟨(bL (dS hr) (pv 1) aJ gb)⟩)
   (aL (bV (i:=3) fA.nd rfl eh ⟨(bF Fg r3 rfl (aA (pv 0) (aA (pv 2) aC)))⟩)
   (aL (bV (i:=4) fA.nd rfl eh ⟨(bF ny r2 rfl (aA (pv 0) (aA (aS eD (aK aR rfl B.len cO (aA (pv 3) aC)) aH) aC)))⟩)
   (aL (bV (i:=5) fA.nd rfl eh (kR (aY (tQ (aY bZ (aY bZ gW bE) bE)) (aY (tQ (aY bZ (aY bZ gW bE) bE)) (aY (tQ (aY bZ (aY bZ gW bE) bE)) gW MG) MG) MG)))
   (aL (bV (i:=6) fA.nd rfl eh (kR (aY ⟨(aS (kD (K:=K) rfl) (aS (kD (K:=K) rfl) (eV (nG (K:=K) rfl) (pv 3) gS (gT (pv 4))) (cH (aA (pv 2) aC))) (eV (nG (K:=K) rfl) (pv 3) (gT (pv 4)) gS))⟩ (aY ⟨(aS (kD (K:=K) rfl) (aS (kD (K:=K) rfl) (eV (nG (K:=K) rfl) (pv 3) gS (gT (pv 4))) (cH (aA aH aC))) (eV (nG (K:=K) rfl) (pv 3) (gT (pv 4)) gS))⟩ (aY ⟨(aS (kD (K:=K) rfl) (pv 3) (eV (nG (K:=K) rfl) (pv 3) (gT (LV MO aH)) gS))⟩ gW uX) uX) uX)))
   (aL (sR bc.never rfl (UU fE ⟨(pv 6)⟩ (kR (aY ⟨(aS (kD (K:=K) rfl) (pv 3) (cH (aA aH aC)))⟩ gW uX))) (aM (i:=7) fA.nd rfl eh) (bI ⟨(bY (kN Rk Rp Rq eI (pv 5) (aA (cH (aA (aS dE aJ (kG (K:=K) rfl Rz Tr Ts (oC (K:=K) rfl) aJ (aA (cM (own:=["hand"]) (fr:=[]) (ff:=[]) (aX (aF jD) ["jar", "state", "hands", "good", "at", "rows", "bads", "some", "taken", "number", "last"] rfl rfl 'd') rfl (hG (pv 7)) (λ_ _ _ _=>(aM (i:=0) (show (["hand"]:List aj).Nodup by decide +kernel) rfl eh)) (λ_ _ _ _=>cQ) (λ_ _ _ _=>(aZ bR rfl B.str jE (aA (pv 0) aC)))) aC))) (aA aJ aC))) aC)))⟩) (λ_=>rfl))
   (aL (iO (aO oV (pv 2) aH ft) (bI ⟨(bY (kN Rk Rp Rq eI (pv 5) (aA (cH (aA (aS dE (aS dE aJ (aZ bR rfl B.str jE (aA (aS jZ (pv 2) aH) aC))) aJ) (aA aJ aC))) aC)))⟩) dZ)
   (aL ⟨(hU (i:=8) (own:=["number"]) (fr:=[1]) (ff:=["state"]) (aX (aF jD) ["jar", "state", "hands", "good", "at", "rows", "bads", "some", "taken", "number", "last"] rfl rfl 'd') rfl fA.nd rfl rfl rfl (hV rfl B.range (aA (bL (dS hr) (pv 1) aJ gb) aC)) (λ_ _ _ _=>(aM (i:=0) (show (["number", "state"]:List aj).Nodup by decide +kernel) rfl eh)) (λ_ _ _ _=>nE (rB (oB (dS hr) (pv 0) (bL (dS hr) (pv 1) aJ gb)) (by rfl))) (λ_ _ _ _=>(pv 0)))⟩
   (aL (sR bc.never rfl (UU fE ⟨(pv 8)⟩ (kR (aY ⟨(bL (dS hr) (pv 1) aJ gb)⟩ (aY MX gW bE) aJ2))) (aM (i:=9) fA.nd rfl eh) (bI ⟨(bY (kN Rk Rp Rq eI (pv 5) (aA (cH (aA (aS dE aJ (aZ bR rfl B.str jE (aA (pv 9) aC))) (aA aJ aC))) aC)))⟩) (λ_=>rfl))
   (aL (bV (i:=10) fA.nd rfl (Or.inr rfl) ⟨(aS jZ (pv 2) aH)⟩)
   (aL (iO (PW.pt (fP (aO cY (pv 10) aH ft) (eA (cD (aK (pT rfl) rfl B.any Ht (aA (vG (own:=["number"]) (fr:=[10,1]) (ff:=["last", "state"]) (aX (aF jD) ["jar", "state", "hands", "good", "at", "rows", "bads", "some", "taken", "number", "last"] rfl rfl 'd') rfl (bL (dS hr) (pv 1) aJ gb) (λ_ _ _ _=>(aM (i:=0) (show (["number", "last", "state"]:List aj).Nodup by decide +kernel) rfl eh)) (λ_ _ _ _=>cQ) (λ_ _ _ _=>(cL (iT (K:=K) rfl) (pv 1) (bL (dS hr) (bL (dS hr) (pv 2) aJ gb) (pv 0) su) (by rfl)))) aC)))))) (bI ⟨(bY (kN Rk Rp Rq eI (pv 5) (aA (cH (aA aJ (aA aJ aC))) aC)))⟩) dZ)
   (aL (iO (aO cY (aK lF rfl B.len cO (aA (bL (dS hr) (pv 1) aJ gb) aC)) aH ft) (bI ⟨(bY (kN Rk Rp Rq eI (pv 5) (aA (cH (aA (aS dE aJ (kG (K:=K) rfl Rz Tr Ts (oC (K:=K) rfl) aJ (aA (cM (own:=["hand"]) (fr:=[]) (ff:=[]) (aX (aF jD) ["jar", "state", "hands", "good", "at", "rows", "bads", "some", "taken", "number", "last"] rfl rfl 'd') rfl (hG (pv 3)) (λ_ _ _ _=>(aM (i:=0) (show (["hand"]:List aj).Nodup by decide +kernel) rfl eh)) (λ_ _ _ _=>cQ) (λ_ _ _ _=>(aZ bR rfl B.str jE (aA (pv 0) aC)))) aC))) (aA aJ aC))) aC)))⟩) dZ)
   (aL (iO (aO cY (pv 2) aH ft) (bI ⟨(bY (kN Rk Rp Rq eI (pv 5) (aA (cH (aA aJ (aA aJ aC))) aC)))⟩) dZ)
   (bI (fJ ⟨(pv 5)⟩))))))))))))))) ?_
 dsimp only [cB,Cx.gf];obtain ⟨n1,n6,gz,j5⟩:=aV hM.bk;have Ge:S.nums.length<=12:=by rw [<- hS.wl]; exact gz
 have Ai:=hM.fw;have lg:S.nums.Nodup:=Ju.mpr (hM.up.imp λh=>Yj h);obtain ⟨Ox,e0⟩:=hJ.lst;have hsz:=Rf;have big:∀ m:Int,0<=m->m<=1000->m.natAbs < 2^4000:=λm h0 h1=>Xo (show m.natAbs<=1000 by omega) 'd';refine bJ ⟨_,rfl,sp,_,rfl,hS.ic (k:=.inr "hands") (gE S),?_⟩;refine bJ ⟨_,rfl,_,rfl,t,a,ns,N,S.n,rfl,hJ,by omega,n1,n6,λgood gp H1 hw b1 J1 hg=>?_⟩;obtain ⟨w1,w2,w3⟩:=bO hw;obtain ⟨w4,w5,_⟩:=wN n6 hw;refine bJ ⟨_,rfl,_,rfl,gp,_,rfl,.inr hg,_,_,rfl,rfl,t,a,ns,_,_,rfl,J1,by omega,by omega,big _ 'a' (by grind),λat_ H2 a0 a1 b2 J2=>?_⟩;have AH:dt K H2 gp (good.map V.int):=by
  obtain ⟨ys,ey⟩:=J1.lst;exact b2.di ey hg
 refine aN λu hu=>?_;refine bJ ⟨om _ _,λp1 DZ=>⟨om _ _,λp2 um=>⟨om _ _,λp3 Bv=>⟨zb _ _ _,λrl wy=>?_⟩⟩⟩⟩;have s1:=aD.new (o:=.tup [.str "hands 0",.str "book"]) DZ;have s2:=aD.new (o:=.tup [.str "hands 7",.str "book"]) um;have s3:=aD.new (o:=.tup [.str "hands 999999",.str "book"]) Bv;have jf:=s1.trans (s2.trans s3);have BY:∀ {p:ae} {H':Hp} {i:Int} {t:aj},t=eO "hands" [i]->H' p=some (.tup [.str t,.str "book"])->eN (.int i)=false->jG i->xG K S H' (.ref p):=λe h q z=>⟨_, "hands",[_],0, "book",rfl,by rw [<- e]; exact dt.of h,by decide,rfl,.inl ⟨rfl,⟨_,rfl,q⟩,rfl⟩,λi hi=>by rw [Qi.mp hi]; exact z,by simp⟩
 have R3:∀ x∈[V.ref p1,.ref p2,.ref p3],xG K S _ x:=λx hx=>by
  rcases Ql.mp hx with rfl | hx
  ·exact BY (i:=0) 'd' ((s2.trans s3) _ _ aB) 'c' (.inl 'c')
  rcases Ql.mp hx with rfl | hx
  ·exact BY (i:=7) 'd' (s3 _ _ aB) 'c' (.inl 'c')
  ·rw [Qi.mp hx]; exact BY (i:=999999) 'd' aB 'c' (.inr rfl)
 generalize upd (upd (upd H2 p1 _) p2 _) p3 _=H3 at jf R3 wy ⊢;clear s1 s2 s3 DZ um Bv;have bt:fg t H H3:=(b1.trans b2).trans (fg.of jf);have J3:=J2.same jf;obtain ⟨zs,ez⟩:=J3.lst;have nt:rl≠t:=λz=>by rw [z,ez] at wy; cases wy
 have rf:H rl=none:=by
  cases hh:H rl with
  | none=>rfl
  | some u=>rw [bt rl u nt hh] at wy; cases wy
 have s4:=aD.new (o:=.lst [.ref p1,.ref p2,.ref p3]) wy;have I:RI K S t a ns rl H (N+10) 3 (upd H3 rl (.lst [.ref p1,.ref p2,.ref p3])):=⟨bt.trans (fg.of s4),(J3.same s4).more 'a',_,aB,by simp,λx hx=>(R3 x hx).same s4⟩
 have zm:=(jf.trans s4).di AH;generalize upd H3 rl (.lst [.ref p1,.ref p2,.ref p3])=H4 at I zm ⊢;clear s4 R3 AH hg J3 bt jf;have st:∀ {N M:Nat} {H2:Hp},RI K S t a ns rl H N M H2->kj K H2 sp S:=λI=>hS.but e0 I.but;have kd:∀ {N M:Nat} {H2 H3:Hp} {key:aj} {v:V},RI K S t a ns rl H N M H2->aD H2 H3->cP S.kv (.inr key)=some v->nI H3 sp (.str key) (some v):=λI s e=>((st I).same s).ic (k:=.inr _) e;subst hu;refine aN λu hu=>?_;have tk:∀ i∈good.take at_.toNat,i∈good:=λi=>Zf;have dr:∀ (m:Nat),∀ i∈good.drop m,i∈good:=λm i=>Ww;have gN:∀ i∈good,jG i:=λi hi=>.inl (by grind);have l1:(good.take at_.toNat).length<=6:=by rw [Qs]; omega
 have l2:∀ m,(good.drop m).length<=6:=λm=>by rw [Xa]; omega
 have bw:∀ {H':Hp} {p:ae} (x:Int),dt K H' p ((good.take at_.toNat++[x]++good.drop at_.toNat).map V.int)->jG x->S.n<=x->zy K S H' (.ref p):=λx h q z=>⟨_,_,rfl,h,by simp,uG λ_ h2 _=>by have:=h2 x 'b'; omega,λi hi=>by
  rcases Qp.mp hi with hi | hi
  ·rcases Qp.mp hi with hi | hi
   ·exact gN i (tk i hi)
   ·rw [Qi.mp hi]; exact q
  ·exact gN i (dr _ i hi),by
   have:=l2 at_.toNat;rw [Qg,Qg]; show _+1+_<=_; omega⟩
 refine bJ (aJg (sK (sK (SW (pN rfl zm) rfl a0) (L4 λ_ _ z=>⟨_,rfl,z⟩) (by show _+1<=_; omega)) (UW (pN rfl zm) rfl a0) (by have:=l2 at_.toNat; rw [Qg]; show _+1+_<=_; omega)) (sK (sK (SW (pN rfl zm) rfl a0) (L4 λ_ _ z=>z) (by show _+1<=_; omega)) (UW (pN rfl zm) rfl a0) (by have:=l2 at_.toNat; rw [Qg]; show _+1+_<=_; omega)) (sK (pN rfl zm) (aJf (pN rfl zm) w1) (by have:=l2 (good.length - 1); omega)) λbp q1 q2 q3 H5 s5 AL e5 g1 g2 g3=>?_);have I5:=I.same s5;have Bz:=s5.di zm;subst hu;refine aN λu hu=>?_;refine dO (mO ⟨_,rfl,aJh (sK (pN rfl Bz) (L4 λ_ _ z=>z) (by show _+1<=_; omega)) λlq q4 H6 s6 AD e6 g4=>⟨bp,lq,_,_,rfl,rfl,s6 _ _ e5,e6,by rw [hsz]; simp,λlr ot=>?_⟩⟩);have s7:=s6.trans (aD.new (o:=.lst ([.ref q1,.ref q2,.ref q3]++[.ref q4])) ot);have e7:upd H6 lr (.lst ([.ref q1,.ref q2,.ref q3]++[.ref q4])) lr=some (.lst ([.ref q1,.ref q2,.ref q3]++[.ref q4])):=aB;have Sd:=(aD.new (o:=.lst ([.ref q1,.ref q2,.ref q3]++[.ref q4])) ot).di g4;have JV:lr≠rl:=λz=>by
  obtain ⟨ys,h1,_⟩:=(I5.same s6).has;rw [z,h1] at ot; cases ot
 have Ax:∀ z∈[V.ref q1,.ref q2,.ref q3]++[.ref q4],zy K S (upd H6 lr (.lst ([.ref q1,.ref q2,.ref q3]++[.ref q4]))) z:=λz hz=>by
  rcases Qp.mp hz with hz | hz
  ·rcases Ql.mp hz with rfl | hz
   ·exact (bw _ g1 (.inl 'a') (Jz _)).same s7
   rcases Ql.mp hz with rfl | hz
   ·exact (bw _ g2 (.inr rfl) 'a').same s7
   ·rw [Qi.mp hz];refine ⟨_,_,rfl,s7.di g3,by simp [w1],uG λ_ _ h3=>?_,λi hi=>(Qp.mp hi).elim (gN i) λh=>gN i (dr _ i h),by have:=l2 (good.length - 1); rw [Qg]; omega⟩;have hp:=Xk.mpr w1;have hm:good[good.length - 1]''a'∈good.drop (good.length - 1):=by
     rw [Zw 'a']; exact Qk ..
    have:=(Zg.mp h3).2.2 _ (dr _ _ hm) _ hm;omega
  ·rw [Qi.mp hz];refine ⟨_,_,rfl,Sd,by simp,uG λ_ _ h3=>?_,λi hi=>(Qp.mp hi).elim (gN i) λh=>by rw [Qi.mp h]; exact .inl 'c',by rw [Qg]; show _+1<=_; omega⟩;have hp:=Xk.mpr w1;have hm:good[0]∈good:=Zl hp;have:=(Zg.mp h3).2.2 _ hm 0 'b';have:=w4 _ hm;omega
 have I7:=I5.same s7;have By:=s7.di Bz;have xl:([V.ref q1,.ref q2,.ref q3]++[V.ref q4]).length=4:=rfl;generalize upd H6 lr (.lst ([.ref q1,.ref q2,.ref q3]++[.ref q4]))=H7 at e7 Ax I7 By ⊢;generalize [V.ref q1,.ref q2,.ref q3]++[V.ref q4]=xs at e7 Ax xl ⊢;clear g1 g2 g3 g4 Sd e5 e6 ot AD AL bw s5 s6 s7;refine ⟨lr,rfl,⟨_,dm.of e7⟩,gR .l (K:=K) (a:=lr) (xs:=xs) (λi σ H'=>∃ v7,σ = [some (.ref t),some (.ref sp),some (.int S.n),some (.ref gp),some (.int at_),some (.ref rl),some (.ref bp),v7,none,none,none]/\RI K S t a ns rl H (N+10) (3+i) H'/\dt K H' gp (good.map V.int)/\H' lr=some (.lst xs)/\∀ z∈xs,zy K S H' z) ⟨none,rfl,I7,By,e7,Ax⟩ (λi σ H' _ ⟨_,_,_,_,h,_⟩=>dm.of h) ?_ ?_⟩
 ·rintro i z σ H' hz ⟨v7,rfl,I',AI,e',kr⟩;have hi:i < xs.length:=(Qb.mp hz).1;obtain ⟨p,l,rfl,hp,gw,jh,j!,hl⟩:=kr z (Qd hz);obtain ⟨ys,ey,_⟩:=I'.has;dsimp only [gI];exact sL hJ rf nt I' 'a' rfl (j:=0) 'c' rfl (TU rfl hp gw ⟨.inr (.inl ⟨rfl,gw,.inl ⟨jh,rfl⟩⟩),j!,hl⟩) λxi Dp Fd=>⟨_,rfl,Fd,Dp.di ey AI,Dp _ _ JV e',λy hy=>(kr y hy).but ey Dp⟩
 clear I I5 I7 zm Bz By e7 Ax;rintro σ H8 ⟨v7,rfl,I8,Bx,_,_⟩;replace I8:=I8.up (N':=N+10) (M':=7);dsimp only;subst hu;refine aN λu hu=>?_;refine oR (λd9 H'=>d9 = [some (.ref t),some (.ref sp),some (.int S.n),some (.ref gp),some (.int at_),some (.ref rl),some (.ref bp),v7,none,none,none]/\RI K S t a ns rl H (N+10) 8 H'/\dt K H' gp (good.map V.int)) (λcC=>?_) ?_
 ·refine ⟨_,rfl,S.n,1,rfl,rfl,_,rfl,?_⟩;by_cases h1:1 < S.n
  ·obtain ⟨ys,ey,_⟩:=I8.has;have hq:jG (S.n - 1):=.inl 'a';have:=cX hq.log;refine dM (decide_eq_true h1) (sL hJ rf nt I8 'a' rfl (j:=0) 'c' rfl (λQ k=>⟨_,rfl,S.n,1,rfl,rfl,S.n - 1,rfl,Xh hq.log 'c', "put ",_,rfl,rfl,by rw [hsz]; exact Qr (Yx (show ("put " : aj).length<=4 by decide +kernel) this) 'c',_, " 0",rfl,rfl,by rw [hsz,gG]; exact Qr (Yx (Yx (show ("put " : aj).length<=4 by decide +kernel) this) (show (" 0" : aj).length<=2 by decide +kernel)) 'c',by show Q (.str ("put " ++ bS (S.n - 1) ++ " 0")) _; rw [aJe]; exact k "put" [S.n - 1,0] _ (aD.refl _) ⟨.inr (.inl ⟨rfl,by simp,.inl ⟨uG λ_ _ h3=>by have:=(Yb.mp h3).1 0 'b'; omega,rfl⟩⟩),λi hi=>by
    rcases Ql.mp hi with rfl | hi
    ·exact hq
    ·rw [Qi.mp hi]; exact .inl 'c',by simp⟩⟩) λH9 b9 I9=>cC _ _ ⟨rfl,I9,b9.di ey Bx⟩)
  ·exact cS (decide_eq_false h1) (cC _ _ ⟨rfl,I8.up,Bx⟩)
 clear I8 Bx;rintro σ H9 ⟨rfl,I9,Eh⟩;subst hu;refine aN λu hu=>?_;have K2:=st I9;refine bJ ⟨_,rfl,sp,_,rfl,kd I9 (aD.refl _) (mI S),S.fw,rfl,by omega,by omega,?_⟩;refine kC (n:=S.fw.toNat) (lo:=0) (λσ=>∃ u,σ = [u,some (.ref sp)]) (λi ys H'=>H'=H9/\ys.length<=i/\∀ y∈ys,∃ k,y=.int k/\jG k/\k∉S.nums) (cK 'a') ⟨none,rfl⟩ ⟨rfl,Qe _,λy h=>absurd h 'b'⟩ (λi ys H' h=>h.2.1) ?_ ?_
 ·rintro i ys σ H' hi ⟨u,rfl⟩ ⟨rfl,hl,hy⟩ hz;dsimp only [gI]; rw [Wr];refine ⟨_,rfl,_,rfl,sp,_,rfl,kd I9 (aD.refl _) (gO S),S.ap,_,rfl,nI.k (k:=.inl (i:Int)) K2.dz,_,rfl,?_⟩;by_cases hk:(i:Int)∈S.nums
  ·have yr:=Nf hk;obtain ⟨t0,yo⟩:∃ t0,S.ts[S.nums.idxOf (i:Int)]?=some t0:=⟨_,Qc (by rw [K2.tl]; exact (Qb.mp yr).1)⟩
   have va:cP (fm S.nums S.ts) (.inl (i:Int))=some (.ref t0):=iU lg yr yo;exact cS (by rw [va]; rfl) ⟨⟨_,rfl⟩,rfl,by omega,hy⟩
  ·have va:cP (fm S.nums S.ts) (.inl (i:Int))=none:=jX (f:=V.ref) hk;refine dM (by rw [va]; rfl) ⟨_,rfl,hz,⟨_,rfl⟩,rfl,by rw [Qg]; show _+1<=_; omega,λy DV=>?_⟩;rcases Qp.mp DV with DV | DV
   ·exact hy y DV
   ·exact ⟨i,Qi.mp DV,.inl 'a',hk⟩
 rintro vi H' ⟨rfl,tl,tk⟩ tp k8;have s5:=aD.new (o:=.lst vi) k8;have I5:=I9.same s5;have Bz:=s5.di Eh;have Dl:upd H' tp (.lst vi) tp=some (.lst vi):=aB;generalize upd H' tp (.lst vi)=H5 at s5 I5 Bz Dl ⊢;clear K2 I9 Eh;subst hu;refine aN λu hu=>?_;refine dO (mO ⟨_,rfl,_,rfl,sp,_,rfl,kd I5 (aD.refl _) (mI S),om _ _,λlq AD=>⟨tp,lq,vi,_,rfl,rfl,(aD.new AD) _ _ Dl,aB,by rw [hsz]; simp; omega,λlr ot=>?_⟩⟩);have s7:=(aD.new (o:=.lst [.int S.fw,.int 999999]) AD).trans (aD.new (o:=.lst (vi++[.int S.fw,.int 999999])) ot);have e7:upd (upd H5 lq (.lst [.int S.fw,.int 999999])) lr (.lst (vi++[.int S.fw,.int 999999])) lr=some (.lst (vi++[.int S.fw,.int 999999])):=aB;have JV:lr≠rl:=λz=>by
  obtain ⟨ys,h1,_⟩:=(I5.same (aD.new (o:=.lst [.int S.fw,.int 999999]) AD)).has;rw [z,h1] at ot; cases ot
 have I7:=I5.same s7;have By:=s7.di Bz;have Fl:∀ {k:Int},S.fw<=k->k∉S.nums:=λh z=>by have:=hM.kh _ z; omega
 have Ax:∀ y∈vi++[V.int S.fw,.int 999999],∃ k,y=.int k/\jG k/\k∉S.nums:=λy hy=>by
  rcases Qp.mp hy with h | h
  ·exact tk y h
  rcases Ql.mp h with rfl | h
  ·exact ⟨_,rfl,.inl 'a',Fl (Jz _)⟩
  ·exact ⟨_,Qi.mp h,.inr rfl,Fl 'a'⟩
 have xl:(vi++[V.int S.fw,.int 999999]).length<=110:=by rw [Qg]; show _+2<=_; omega
 generalize upd (upd H5 lq (.lst [.int S.fw,.int 999999])) lr (.lst (vi++[.int S.fw,.int 999999]))=H7 at e7 I7 By ⊢;generalize vi++[V.int S.fw,.int 999999]=xs at e7 Ax xl ⊢;clear s7 ot AD Dl Bz I5 s5 k8 tl tk;refine ⟨lr,rfl,⟨_,dm.of e7⟩,gR .l (K:=K) (a:=lr) (xs:=xs) (λi σ H'=>∃ v9,σ = [some (.ref t),some (.ref sp),some (.int S.n),some (.ref gp),some (.int at_),some (.ref rl),some (.ref bp),v7,some (.ref tp),v9,none]/\RI K S t a ns rl H (N+10) (8+i) H'/\dt K H' gp (good.map V.int)/\H' lr=some (.lst xs)) ⟨none,rfl,I7,By,e7⟩ (λi σ H' _ ⟨_,_,_,_,h⟩=>dm.of h) ?_ ?_⟩
 ·rintro i z σ H' hz ⟨v9,rfl,I',AI,e'⟩;have hi:i < xs.length:=(Qb.mp hz).1;obtain ⟨m,rfl,hm,jh⟩:=Ax z (Qd hz);obtain ⟨ys,ey,_⟩:=I'.has;have:=cX hm.log;dsimp only [gI];exact sL hJ rf nt I' 'a' rfl (j:=9) 'c' rfl (λQ k=>⟨_,rfl,m,rfl,Xh hm.log 'c', "take ",_,rfl,rfl,by rw [hsz]; exact Qr (Yx (show ("take " : aj).length<=5 by decide +kernel) this) 'c',by show Q (.str ("take " ++ bS m)) _; rw [xF]; exact k "take" [m] _ (aD.refl _) ⟨.inr (.inr (.inl ⟨rfl,⟨m,rfl,jh⟩,rfl⟩)),λi hi=>by rw [Qi.mp hi]; exact hm,by simp⟩⟩) λxi Dp Fd=>⟨_,rfl,Fd,Dp.di ey AI,Dp _ _ JV e'⟩
 clear I7 By e7 Ax;rintro σ H8 ⟨v9,rfl,I8,Bx,_⟩;replace I8:=I8.up (N':=N+10) (M':=118);dsimp only;subst hu;refine aN λu hu=>?_;refine bJ ⟨_,rfl,S.n,1,rfl,rfl,?_⟩;subst hu;refine aN λu hu=>?_;refine oR (λd9 H'=>d9 = [some (.ref t),some (.ref sp),some (.int S.n),some (.ref gp),some (.int at_),some (.ref rl),some (.ref bp),v7,some (.ref tp),v9,some (.int (S.n - 1))]/\RI K S t a ns rl H (N+10) 119 H'/\dt K H' gp (good.map V.int)) (λcC=>?_) ?_
 ·refine sZ (decide (V.int (S.n - 1)=V.int 0) || (S.ws.any λl=>decide (S.n - 1∈l))) (G4 (λQ' q=>⟨_,rfl,rfl,_,rfl,q _ (aD.refl _)⟩) (λ_ H3 s3=>?Ct)) (λhb Ha sa=>?yes) (λhb Ha sa=>cC _ _ ⟨rfl,(I8.same sa).up,sa.di Bx⟩)
  case yes =>
   obtain ⟨ys,ey,_⟩:=(I8.same sa).has;refine sL hJ rf nt (I8.same sa) 'a' rfl (j:=3) 'c' rfl (λQ k=>?_) λHb bb Ib=>cC _ _ ⟨rfl,Ib,bb.di ey (sa.di Bx)⟩;have e:("go" : aj)=eO "go" []:=by rfl
   show Q (.str "go") _;rw [e];refine k "go" [] _ (aD.refl _) ⟨.inr (.inr (.inr (.inl ⟨rfl,rfl,?_,rfl⟩))),λi hi=>(Qv hi).elim,by simp⟩;rcases Wq .. |>.mp hb with z | z
   ·grind
   ·simp_all
  case Ct=>exact S0 ((st I8).same s3) hM rfl rfl
 clear I8 Bx;rintro σ H9 ⟨rfl,I9,Eh⟩;subst hu;refine aN λu hu=>?_;refine oR (λd9 H'=>d9 = [some (.ref t),some (.ref sp),some (.int S.n),some (.ref gp),some (.int at_),some (.ref rl),some (.ref bp),v7,some (.ref tp),v9,some (.int (S.n - 1))]/\RI K S t a ns rl H (N+10) 120 H') (λcC=>?_) ?_
 ·refine ⟨_,rfl,sp,_,rfl,kd I9 (aD.refl _) (gO S),S.ap,_,rfl,(st I9).dz,rfl,_,rfl,?_⟩;have w_:(fm S.nums S.ts).length=S.nums.length:=mH hS.tl;by_cases oi:S.nums.length=12
  ·exact dM (decide_eq_true (by simp_all)) (sL hJ rf nt I9 'a' rfl (j:=10) 'c' rfl (TU rfl Eh w1 ⟨.inr (.inl ⟨rfl,w1,.inr ⟨hw,oi,rfl⟩⟩),gN,by omega⟩) λHb _ Ib=>cC _ _ ⟨rfl,Ib⟩)
  ·exact cS (decide_eq_false λz=>oi (by grind)) (cC _ _ ⟨rfl,I9.up⟩)
 clear I9 Eh;rintro σ H9 ⟨rfl,I9⟩;subst hu;refine oR (λd9 H'=>d9 = [some (.ref t),some (.ref sp),some (.int S.n),some (.ref gp),some (.int at_),some (.ref rl),some (.ref bp),v7,some (.ref tp),v9,some (.int (S.n - 1))]/\RI K S t a ns rl H (N+10) 121 H') (λcC=>?_) ?_
 ·refine ⟨_,rfl,rfl,_,rfl,?_⟩;by_cases h6:S.n=6
  ·refine dM (decide_eq_true (by rw [h6])) (sL hJ rf nt I9 'a' rfl (j:=10) 'c' rfl (λQ k=>?_) λHb _ Ib=>cC _ _ ⟨rfl,Ib⟩);have e:("come" : aj)=eO "come" []:=by rfl
   show Q (.str "come") _;rw [e];exact k "come" [] _ (aD.refl _) ⟨.inr (.inr (.inr (.inr ⟨rfl,rfl,h6,rfl⟩))),λi hi=>(Qv hi).elim,by simp⟩
  ·exact cS (decide_eq_false λz=>h6 (by injection z)) (cC _ _ ⟨rfl,I9.up⟩)
 rintro σ Ha ⟨rfl,Ia⟩;obtain ⟨zs,h1,h2,h3⟩:=Ia.has;exact ⟨_,rfl,k rl zs Ha rf Ia.but (Ia.m8.more 'a') h1 'a' h3⟩
structure Wd (K:Rb) (H:Hp) (C Cd t a:ae) (ns:LIn) (N:Nat) (Pt d fj x sp:ae) (D:DD) (S:SD):Prop where
 m8:ik K H t a ns N
 pt:H Pt=some (.tab xT)
 dk:m5 Cd H d fj (.ref x)
 dh:ip K H C x D
 sh:kj K H sp S
 nd : [D.da,D.dh,sp,S.ap].Nodup
section
variable {a x sp:ae} {N M:Nat} {S':SD}
theorem Wd.same (h:Wd K H C Cd t a ns N Pt d fj x sp D S) (q:aD H H1):Wd K H1 C Cd t a ns N Pt d fj x sp D S:=⟨h.m8.same q,q _ _ h.pt,q _ _ h.dk,h.dh.same q,h.sh.same q,h.nd⟩
theorem Wd.but (h:Wd K H C Cd t a ns N Pt d fj x sp D S) (b:fg t H H1) (J:ik K H1 t a ns M):Wd K H1 C Cd t a ns M Pt d fj x sp D S:=by
 obtain ⟨xs,et⟩:=h.m8.lst;have n:∀ {c:ae} {u:HO},H c=some u->(∀ xs,u≠.lst xs)->H1 c=some u:=λhc hu=>b _ _ (λz=>by rw [z,et] at hc; exact hu _ (Option.some.inj hc).symm) hc;exact ⟨J,n h.pt (λ_ z=>by cases z),n h.dk (λ_ z=>by cases z),h.dh.but et b,h.sh.but et b,h.nd⟩
theorem Wd.ne (h:Wd K H C Cd t a ns N Pt d fj x sp D S):d≠x:=λz=>by
 have e:=h.dk;unfold m5 at e;rw [z,h.dh.ins] at e;injection e with e;injection e with _ _ e;exact absurd (congrArg Qac e) (show (6:Nat)≠1 by decide)
theorem Wd.Sz (h:Wd K H C Cd t a ns N Pt d fj x sp D S):D.da≠sp/\D.da≠S.ap/\D.dh≠sp/\D.dh≠S.ap:=by
 have N:∀ {i j:Nat} {a b:ae},[D.da,D.dh,sp,S.ap][i]?=some a->[D.da,D.dh,sp,S.ap][j]?=some b->i≠j->a≠b:=λa b c=>aLz h.nd a b c;exact ⟨N (i:=0) (j:=2) rfl rfl 'c',N (i:=0) (j:=3) rfl rfl 'c',N (i:=1) (j:=2) rfl rfl 'c',N (i:=1) (j:=3) rfl rfl 'c'⟩
theorem Wd.step (h:Wd K H C Cd t a ns N Pt d fj x sp D S) (b:cF sp S.ap S.ap H H1) (hS:kj K H1 sp S') (ea:S'.ap=S.ap):Wd K H1 C Cd t a ns N Pt d fj x sp D S':=by
 have ms:Md H sp:=.inr ⟨_,h.sh.st⟩;have mp:Md H S.ap:=.inr ⟨_,h.sh.dz⟩;obtain ⟨q1,q2,q3,q4⟩:=h.Sz;refine ⟨b.m8 ms mp mp h.m8,b.tab ms mp mp h.pt,b _ _ (jK h.dk h.sh.st) (jK h.dk h.sh.dz) (jK h.dk h.sh.dz) h.dk,h.dh.keep b ms.nt mp.nt mp.nt λq hq=>?_,hS,by rw [ea]; exact h.nd⟩;rcases hq with rfl | rfl | rfl
 ·exact ⟨jK h.dh.ins h.sh.st,jK h.dh.ins h.sh.dz,jK h.dh.ins h.sh.dz⟩
 ·exact ⟨q1,q2,q2⟩
 ·exact ⟨q3,q4,q4⟩
theorem Wd.u_ (h:Wd K H C Cd t a ns N Pt d fj x sp D S) (b:cF x D.da D.dh H H1) (da:D'.da=D.da) (dh:D'.dh=D.dh) (hD:ip K H1 C x D'):Wd K H1 C Cd t a ns N Pt d fj x sp D' S:=by
 have mx:Md H x:=.inl ⟨_,_,_,h.dh.ins⟩;have ma:Md H D.da:=.inr ⟨_,h.dh.dz⟩;have mh:Md H D.dh:=.inr ⟨_,h.dh.hand⟩;obtain ⟨q1,q2,q3,q4⟩:=h.Sz;exact ⟨b.m8 mx ma mh h.m8,b.tab mx ma mh h.pt,b _ _ h.ne (jK h.dk h.dh.dz) (jK h.dk h.dh.hand) h.dk,hD,h.sh.keep b mx.nt ma.nt mh.nt ⟨(jK h.dh.ins h.sh.st).symm,q1.symm,q3.symm⟩ ⟨(jK h.dh.ins h.sh.dz).symm,q2.symm,q4.symm⟩,by rw [da,dh]; exact h.nd⟩
end
theorem Nl (S:SD) (e:i7):(S.step e).ap=S.ap:=by cases e <;> rfl
theorem LJ {n:Int} (h:1<=n):cA n (cR [0])=true:=by
 exact mC 'b' (λx hx=>by rw [Qi.mp hx]; omega) 'b'
theorem WC {p:ae} {us:List aj} (h:H p=some (.lst (us.map V.str))):Den K H (.list (us.map .str)) (.ref p):=by
 refine uU.mpr ⟨p,_,rfl,dm.of h,?_⟩;clear h
 induction us with
 | nil=>exact bB.mpr rfl
 | cons u us ih=>exact aQ.mpr ⟨_,_,rfl,MZ.mpr rfl,ih⟩
theorem nY {us:List aj} (h:∀ u∈us,il u):SeqAt.shaped (.list (us.map .str))=true:=by
 refine yW ?_ ?_
 ·unfold au.canLay0
  induction us with
  | nil=>unfold List.map au.canLayAll0; rfl
  | cons u us ih =>
   rw [Jb];unfold au.canLayAll0;rw [ih λx hx=>h x (Qj _ hx),Wl];unfold au.canLay0 au.strOk;rw [Array.all_eq_true_iff_forall_mem];exact λc hc=>decide_eq_true (Xh ((h u (Qk ..)).lt (by simp_all)) 'c')
 ·unfold au.depth;have:=rS (k:=1) au.str (λ_=>by unfold au.depth; decide) us;omega
theorem tE (us:List aj):fT (.list (us.map .str))=true:=by
 unfold fT
 induction us with
 | nil=>unfold List.map jO; rfl
 | cons n r ih=>rw [Jb]; unfold jO; rw [ih]; unfold fT; rfl
theorem qY {i:Int} (h0:0<=i) (h1:i<=1000):il (bS i):=by
 have h:∀ k:Nat,k < 1001->(bS (k:Int)).cps.all (· < 128)=true:=by decide +kernel
 have:=h i.toNat 'a';rwa [Zk h0] at this
theorem WB (h:∀ p∈ps,il p):il ((" " : aj).join ps):=kZ λc hc=>by
 rw [gF] at hc;rcases HS hc with hc | ⟨p,hp,hc⟩
 ·exact il.lt (show il " " by unfold il; decide +kernel) hc
 ·obtain ⟨q,hq,rfl⟩:=Jc.mp hp;exact (h q hq).lt hc
theorem aHv (hM:Dz D):∀ u∈xC D,il u:=by
 obtain ⟨_,ie,oi,_⟩:=aV hM.m.bk;have dl:=(fY hM.m.dl).1;intro u hu;unfold xC at hu;simp only [Ql,Qv,or_false] at hu;rcases hu with rfl | rfl | rfl | rfl
 ·refine WB λp hp=>?_;obtain ⟨l,hl,rfl⟩:=Jc.mp hp;have:=iJ hl;exact qY this.1 'a'
 ·unfold wX;split
  ·unfold il; decide +kernel
  ·refine WB λp hp=>?_;obtain ⟨q,hq,rfl⟩:=Jc.mp hp;obtain ⟨⟨a0,a1⟩,b0,b1⟩:=T9 hM q hq;exact oQ (oQ (qY a0 'a') (by unfold il; decide +kernel)) (qY b0 'a')
 ·exact qY hM.DS hM.ma
 ·simp_all [WN,qY]
theorem xH {p:ae} {us:List aj} (hp:H p=some (.lst (us.map V.str))) (hq:H q=some (.lst (us.map V.str))) (ha:∀ u∈us,il u) {R:Bool->Prop} (k:R true):∃ d e,Den K H d (.ref p)/\Den K H e (.ref q)/\fT d=true/\fT e=true/\SeqAt.shaped d=true/\SeqAt.shaped e=true/\R (au.eqv d e) :=
 ⟨_,_,WC hp,WC hq,tE us,tE us,nY ha,nY ha,by rw [PySem.SeqAt.eqv_refl _ (SeqAt.canLay_of_shaped (nY ha))]; exact k⟩
section
variable {c:Nat->ae}
def VF (K:Rb) (C Cd Pt:ae):Sp:=λvs H Q _=>∃ (t a:ae) (ns:LIn) (N:Nat) (d fj x sp:ae) (D:DD) (S:SD) (j:Nat),vs = [.ref d,.ref sp]/\Wd K H C Cd t a ns N Pt d fj x sp D S/\u3 S/\qz D j/\j<=70/\lu D S/\S.nums.length=12/\S.fw=12/\(0:Int)∈S.nums/\∀ H' D' S',Wd K H' C Cd t a ns N Pt d fj x sp D' S'->u3 S'->qz D' (j+2)->lu D' S'->S'.fw<=13->Q (.bl true) H'
theorem aJj:b_ ["desk", "state"] ["desk", "state"] (aF HM):=.of
set_option maxHeartbeats 2000000 in
theorem aHw (G:Fn K mg "_law_e_thirteenth" HM ["desk", "state"] f fd) (T:A7 K Cd) (ia:FD P w K mg base (gk P w) 10 Cd "say" xR ["self", "row"] (jF K C Cd c (qy K C Pt c))) (A4:FF P w K mg base d_ 1 "_law_e_step" wA ["state", "deed"] (MA K)) (A3:FF P w K mg base d_ 11 "_law_e_word" vP ["desk", "row"] (qX Cd c (jF K C Cd c (qy K C Pt c)))):c_ P w K mg base d_ 12 f fd ["desk", "state"] (VF K C Cd Pt):=by
 refine G.fn.oK aJj λfe A outer s H vs Q E hr h=>?_;obtain ⟨t,a,ns,N,d,fj,x,sp,D,S,j,rfl,W,hM,hC,hj,hL,hlen,Fy,h0,k⟩:=h;have wo:dj 11 _:=hr;have ql:dj 10 _:=hr.mono 'c';have r1:dj 1 _:=hr.mono 'c';refine i6.ex (aL ⟨(bY (bF A4 r1 rfl (aA (pv 1) (aA (cH (aA aJ (aA aH aC))) aC))))⟩
   (aL ⟨(bY (bF A4 r1 rfl (aA (pv 1) (aA (cH (aA aJ (aA (cH (aA aH aC)) aC))) aC))))⟩
   (bI (fJ ⟨(lR (cL (MJ hr.F2) (eG (aA (dX (pv 0) T.cl ia.g.me ia.o ql ia.g.bd .nil kE (aA aJ aC)) (aA (dX (pv 0) T.cl ia.g.me ia.o ql ia.g.bd .nil kE (aA aJ aC)) aC))) (eG (aA aJ (aA aJ aC))) ft) (kX (cL cY (bF A3 wo rfl (aA (pv 0) (aA aJ aC))) aJ ft)))⟩)))) ?_
 dsimp only [cB,Cx.gf];obtain ⟨ju,_⟩:=aV hM.bk;refine dO ⟨_,rfl,om _ _,λdp m_=>⟨sp,dp,S,.take 0,rfl,W.sh.same (aD.new m_),hM,dt.of aB,h0,λH1 b1 S1=>?_⟩⟩;have W1:=(W.same (aD.new (o:=.tup [.str "take",.int 0]) m_)).step b1 S1 (Nl _ _);have M1:u3 (S.step (.take 0)):=L8 hM h0;refine dO ⟨_,rfl,wm 1 'c' |> Jx,λtp k8=>⟨om _ _,λLj xx=>?_⟩⟩;have s2:=(aD.new (o:=.tup [.int 0]) k8).trans (aD.new (o:=.tup [.str "put",.ref tp]) xx);have Ec:(S.step (.take 0)).nums.length=11:=by
  show (S.nums.eraseIdx _).length=11;rw [Ys (Zq h0),hlen]
 have m2:qP (S.step (.take 0)) (.put tp [0]):=⟨LJ ju,by omega⟩
 refine ⟨sp,Lj,S.step (.take 0),.put tp [0],rfl,(W1.same s2).sh,M1,⟨dt.of aB,(aD.new xx).di (dt.of aB)⟩,m2,λH2 b2 S2=>?_⟩;have W2:=(W1.same s2).step b2 S2 (Nl _ _);have e1:("take 0" : aj)=zO (.take 0):=by rfl
 have e2:("put 0" : aj)=zO (.put tp [0]):=by rfl
 refine ⟨_,rfl,d,fj,_,rfl,W2.dk,rfl,?_⟩;rw [e1,e2];refine lO W2.dk W2.pt W2.dh hC 'a' hL (e:=.take 0) h0 λD1 H3 b3 da dh nv C1 L1=>?_;have W3:=W2.u_ b3 da dh nv;refine ⟨_,rfl,d,fj,_,rfl,W3.dk,rfl,lO W3.dk W3.pt W3.dh C1 'a' L1 m2 λD2 H4 b4 da2 dh2 Dj C2 L2=>?_⟩;have CZ:D1.nx=12:=by rw [L1.nx]; exact Fy
 have ea:Ly D1 (.put tp [0]) = "12" := by
  have q:bS 12 = "12" := by rfl
  show bS D1.nx = "12";rw [CZ,q]
 rw [ea,show Ly D (.take 0) = "ok" from rfl];refine ⟨wm 2 'c' |> Jx,λp hp=>⟨om _ _,λq hq=>?_⟩⟩;have s5:=(aD.new (o:=.lst [.str "ok",.str "12"]) hp).trans (aD.new (o:=.lst [.str "ok",.str "12"]) hq);obtain ⟨u1,u2,q1,q2,q3,q4,q5,q6,q7⟩:=xH (K:=K) (R:=λb=>b=true) (us:=["ok", "12"]) (H:=upd (upd H4 p (.lst [.str "ok",.str "12"])) q (.lst [.str "ok",.str "12"])) ((aD.new hq) _ _ aB) aB (by unfold il; decide +kernel) rfl;refine ⟨u1,u2,q1,q2,q3,q4,q5,q6,?_⟩;have W5:=(W3.u_ b4 da2 dh2 Dj).same s5;refine ⟨_,rfl,dM q7 ?_⟩;have l2:((S.step (.take 0)).step (.put tp [0])).nums.length=12:=by
  show ((S.step (.take 0)).nums++[_]).length=12;rw [Qg,Ec]; rfl
 refine ⟨_,rfl,d,fj,_,_,10, "many",rfl,W5.dk,by decide,rfl,λQ E k'=>?_,λH6 s6=>?_⟩
 ·exact U1 (f := "put") (l:=[0]) (j:=10) W5.dk W5.dh C2.m L2 (λi hi=>by rw [Qi.mp hi]; exact .inl 'c') 'c' (.inr (.inl ⟨rfl,by simp,.inr ⟨LJ ju,l2,rfl⟩⟩)) k'
 ·have e:=k _ _ _ (W5.same s6) (L8 M1 m2) C2 L2 (by show (S.fw+1:Int)<=13; omega);have q:decide (V.str "many" = V.str "many")=true:=tK;rw [<- q] at e;exact ⟨rfl,e⟩
end
def LI (t:aj):Prop:=ji t/\(qV (Txt.split t " ")=false∨(Txt.split t " ").head?≠some "hands")
noncomputable def SE:ay->Bool
 | .Constant (.str t) _ _=>t.cps.all (· < 128) && (decide (t.length<=900) && !decide ((Txt.split t " ").head?=some "hands"))
 | _=>false
theorem VE (h:es.all SE=true):∀ x∈es.map Dq,LI x:=λx hx=>by
 obtain ⟨e,he,rfl⟩:=Jc.mp hx;have h:=Jo.mp h e he;unfold SE at h;split at h
 ·rw [Qt,Qt,Zs,decide_eq_true_iff,decide_eq_false_iff_not] at h;exact ⟨sI h.1 h.2.1,.inr h.2.2⟩
 ·cases h
section
variable {c:Nat->ae} {Q:VK} {E:XK} {a sp ap x da dh:ae} {FS:aj->Sp->Prop} {N:Nat} {n:Int}
theorem WA {t:aj} (hd:m5 Cd H d fj .fk) (h:LI t) (k:∀ H',aD H H'->E (.ref (c 5)) none H'):jF K C Cd c FS [.ref d,.str t] H Q E:=by
 obtain ⟨f,r,e⟩:=sF t;refine ⟨d,fj,.fk,t,f,r,rfl,h.1,e,hd,?_⟩;cases hb:qV (f::r) with
 | false=>exact .inl ⟨hb,k⟩
 | true =>
  refine .inr ⟨hb,.inr ⟨λz=>?_,.inl ⟨rfl,k⟩⟩⟩;rcases h.2 with h | h
  ·rw [e,hb] at h; cases h
  ·rw [e,z] at h; exact h rfl
theorem aFx {t:aj} (hd:m5 Cd H d fj y) (h:sJ t) (k:∀ H',aD H H'->E (.ref (c 5)) none H'):jF K C Cd c FS [.ref d,.str t] H Q E:=by
 obtain ⟨f,r,e⟩:=sF t;exact ⟨d,fj,y,t,f,r,rfl,h.1,e,hd,.inl ⟨by rw [<- e]; exact h.2,k⟩⟩
theorem zR (hd:m5 Cd H d fj y) (h1:1<=n) (h6:n<=6) (k:∀ x dx da dh H',fg d H H'->H x=none->H da=none->H dh=none->ip K H' C x (DD.begun n dx da dh)->m5 Cd H' d fj (.ref x)->Q (.str "ok") H'):jF K C Cd c FS [.ref d,.str (eO "hands" [n])] H Q E:=by
 obtain ⟨q1,q2,q3,q4⟩:=xA (f := "hands") (l:=[n]) (Ew 'd') (λi hi=>by rw [Qi.mp hi]; exact .inl 'a') 'b';exact ⟨d,fj,y,_,_,_,rfl,q1,q2,hd,.inr ⟨q3.trans (nX (.inl rfl)),.inl ⟨rfl,n,q4,.inr ⟨h1,h6,λx dx da dh H' b e1 e2 e3 _=>k x dx da dh H' b e1 e2 e3⟩⟩⟩⟩
theorem tG (hd:m5 Cd H d fj y) (h:eN (.int n)=false) (hn:jG n) (k:∀ H',aD H H'->E (.ref (c 0)) none H'):jF K C Cd c FS [.ref d,.str (eO "hands" [n])] H Q E:=by
 obtain ⟨q1,q2,q3,q4⟩:=xA (f := "hands") (l:=[n]) (Ew 'd') (λi hi=>by rw [Qi.mp hi]; exact hn) 'b';exact ⟨d,fj,y,_,_,_,rfl,q1,q2,hd,.inr ⟨q3.trans (nX (.inl rfl)),.inl ⟨rfl,n,q4,.inl ⟨h,k⟩⟩⟩⟩
theorem Wd.more {M:Nat} (h:Wd K H C Cd t a ns N Pt d fj x sp D S) (le:N<=M):Wd K H C Cd t a ns M Pt d fj x sp D S:=⟨h.m8.more le,h.pt,h.dk,h.dh,h.sh,h.nd⟩
theorem Nk {u:aj} {i:Int} (hu:u.length<=9) (h0:0<=i) (h1:i<=1000):u.length+(bS i).length<=af:=by grind [cX,qW,Rf]
theorem Wd.made (J:ik K H t a ns N) (hT:H Pt=some (.tab xT)) (es:H sp=some (.dK (⟨n,0,[],[],ap,[]⟩:SD).kv)) (ea:H ap=some (.dK [])) (wq:sp≠ap) (hd:m5 Cd H d fj y) (b:fg d H H') (vy:H da=none) (tj:H dh=none) (hD:ip K H' C x (DD.begun n dx da dh)) (hk:m5 Cd H' d fj (.ref x)):Wd K H' C Cd t a ns N Pt d fj x sp (DD.begun n dx da dh) ⟨n,0,[],[],ap,[]⟩:=by
 have md:Md H d:=.inl ⟨_,_,_,hd⟩;have b3:cF d d d H H':=λc u h _ _ e=>b c u h e;have ZI:kj K H sp ⟨n,0,[],[],ap,[]⟩:=⟨es,ea,rfl,rfl,λi t l q=>by simp at q,wq⟩
 have n1:=(jK hd es).symm;have n2:=(jK hd ea).symm;refine ⟨b3.m8 md md md J,b3.tab md md md hT,hk,hD,ZI.keep b3 md.nt md.nt md.nt ⟨n1,n1,n1⟩ ⟨n2,n2,n2⟩,?_⟩;simp only [Jq,Ql,Qv,or_false,not_or,Wy,and_true,not_false_eq_true];exact ⟨⟨hD.ne,(cI es vy).symm,(cI ea vy).symm⟩,⟨(cI es tj).symm,(cI ea tj).symm⟩,wq⟩
end
section
variable {c:Nat->ae} {σ:St} {p:ae} {y0 v0:V}
theorem HZ {tw:TE} {u w:aj} (hv:σ[2]?=some (some (.ref d))) (hd:m5 Cd H d fj y0) (Ξ:∀ Q:VK,Q (.str u) H->te σ H Q) (hj:j < 11) (ht:words[j]?=some w) (hs:∀ (Q:VK) (E:XK),(∀ H',aD H H'->E (.ref (c j)) none H')->sp [.ref d,.str u] H Q E) (Δ:∀ (H':Hp) (Q:VK),Q (.str w) H'->tw σ H' Q):xg (HG (ud JH (yB (qX Cd c sp) [] E0 (gJ (kW 2) (gJ te lU))) tw)) σ H false:=λQ' q =>
 ⟨_,hv,Ξ _ ⟨d,fj,y0,_,j,w,rfl,hd,hj,ht,hs,λH' s'=>Δ H' _ ⟨rfl,_,rfl,by rw [tK]; exact q H' s'⟩⟩⟩
theorem VD {Q:VK} {xs us:List aj} {R:aj->Prop} (ep:H p=some (.lst (xs.map V.str))) (eq:H q=some (.lst (us.map V.str))) (lx:xs.length<=100) (hu:us.length<=100) (nx:∀ x∈xs,R x) (h2:∀ x∈us,R x) (k:∀ (p':ae) (CC:List aj) (H':Hp),aD H H'->H' p'=some (.lst (CC.map V.str))->(∀ x∈CC,R x)->Q (.ref p') H'):Lz (.ref p) (.ref q) H Q :=
 ⟨p,q,_,_,rfl,rfl,ep,eq,by rw [Qa,Qa,Rf]; omega,λr hr=>k r (xs++us) _ (aD.new hr) (by simp [Qm,aB]) λx hx=>(Qp.mp hx).elim (nx x) (h2 x)⟩
theorem sM {xs:List aj} {D:Ends} {S:Option V->St} {v:Option V} {tr:TS} (e:H p=some (.lst (xs.map V.str))) (h2:∀ v,(S v)[2]?=some (some (.ref d))) (h3:∀ v u,(S v).set 3 (some u)=S (some u)) (h4:∀ u,(S (some u))[3]?=some (some u)) (hd:m5 Cd H d fj y0) (hx:∀ x∈xs,∀ H',aD H H'->∀ (Q:VK) (E:XK),(∀ xi,aD H' xi->E (.ref (c 5)) none xi)->sp [.ref d,.str x] H' Q E) (k:∀ v H',aD H H'->D.nx (S v) H'):∃ W:Nat->Nat->St->Hp->Prop,(∃ m,W 0 m (S v) H)/\∀ i m σ H,W i m σ H ->
   ((A2 K p).stop i H/\D.nx σ H)∨((A2 K p).go i H/\∃ N:St->Hp->Prop,(∀ d9 H',N d9 H'->∃ m',m' < m/\W (i+1) m' d9 H')/\∀ x H',(A2 K p).m7 i H x H'->gI 3 x σ H' λfi H2=>BQ (HG (ud JH (yB (qX Cd c sp) [] E0 (gJ (kW 2) (gJ (kW 3) lU))) (tC (.str "row")))) tr oU { D with nx:=N,ct:=N,bk:=D.nx } fi H2):=by
 refine gR .l (K:=K) (a:=p) (xs:=xs.map V.str) (λi σ H'=>(∃ v,σ=S v)/\aD H H') ⟨⟨_,rfl⟩,aD.refl _⟩ (λi σ H' _ h=>dm.of (h.2 _ _ e)) ?_ ?_
 ·rintro i x σ H' hi ⟨⟨v,rfl⟩,s'⟩;rw [Qh] at hi;obtain ⟨u,hu,rfl⟩:=Qo.mp hi;show BQ _ _ _ _ ((S v).set 3 (some (.str u))) H';rw [h3];exact sZ false (HZ (h2 _) (s' _ _ hd) (λQ q=>⟨_,h4 _,q⟩) 'c' rfl (hx u (Qd hu) H' s') λ_ _ q=>q) (λz=>by cases z) λ_ xi og=>⟨⟨_,rfl⟩,s'.trans og⟩
 ·rintro σ H' ⟨⟨v,rfl⟩,s'⟩;exact k v H' s'
end
section
variable {c:Nat->ae}
def Hu (K:Rb) (Pt:ae):Sp:=λvs H Q _=>∃ (a:ae) (ns:LIn),vs = [.ref a]/\dm K H a (ns.map V.int)/\H Pt=some (.tab xT)/\∀ H',H' Pt=some (.tab xT)->Q (.bl true) H'
theorem jM:b_ ["script", "jar", "desk", "row", "full", "state", "turn", "deed", "ahead", "parts", "due", "number"] ["script"] (aF Lu):=.of
set_option maxHeartbeats 4000000 in
theorem aKO {EA:ae} {GZ:bh} (G:Fn K mg "law" Lu ["script"] f fd) (T:A7 K Cd) (B:Bl mg) (Nu:Mk K Cd EA) (Ky:mg "Desk" = some (.ref Cd)) (ny:FF P w K mg base d_ 2 "_law_e_scoop" nR ["jar", "many"] (oM K)) (GBg:FF P w K mg base d_ 1 "_law_e_begun" HJ ["hands"] U') (GDI:we K Cd "__init__" yR ["self"] EA GZ) (Nr:c_ P w K mg base d_ 1 EA GZ ["self"] (M4 Cd)) (ia:FD P w K mg base (gk P w) 10 Cd "say" xR ["self", "row"] (jF K C Cd c (qy K C Pt c))) (GDd:FF P w K mg base d_ 4 "_law_e_deed" EW ["jar", "state"] (UH K)) (Fg:FF P w K mg base d_ 3 "_law_e_able" vZ ["jar", "hands"] (HI K)) (A4:FF P w K mg base d_ 1 "_law_e_step" wA ["state", "deed"] (MA K)) (A3:FF P w K mg base d_ 11 "_law_e_word" vP ["desk", "row"] (qX Cd c (jF K C Cd c (qy K C Pt c)))) (A5:FF P w K mg base d_ 1 "_law_e_no_rows" tU [] WE) (GBr:FF P w K mg base d_ 3 "_law_e_bent_rows" vV ["jar"] (U0 K)) (GRf:FF P w K mg base d_ 4 "_law_e_refused" jD ["jar", "state"] (zQ K)) (NA:FF P w K mg base d_ 11 "_law_e_told" E1 ["desk"] (T1 K C Cd)) (GRo:FF P w K mg base d_ 1 "_law_e_row" EZ ["deed"] (TZ K)) (GTh:FF P w K mg base d_ 12 "_law_e_thirteenth" HM ["desk", "state"] (VF K C Cd Pt)):c_ P w K mg base d_ 13 f fd ["script"] (Hu K Pt):=by
 refine G.fn.oK jM λfe A outer s H vs Q E hr h=>?_;obtain ⟨a,ns,rfl,ha,hT,k⟩:=h;have ZO:dj 12 _:=hr;have wo:dj 11 _:=hr.mono 'c';have ql:dj 10 _:=hr.mono 'c';have r4:dj 4 _:=hr.mono 'c';have r3:dj 3 _:=hr.mono 'c';have r2:dj 2 _:=hr.mono 'c';have r1:dj 1 _:=hr.mono 'c';refine i6.ex (aL (bV (i:=1) jM.nd rfl eh (kR (aY ⟨(pv 0)⟩ (aY MX (aY MX gW bE) bE) aHW)))
   (aL (bV (i:=2) jM.nd rfl eh ⟨(aFN (E:=E0) Nu Nr r2 rfl Ky GDI.bd .nil hX)⟩)
   (aL (mM bc.never rfl (cZ (aS fE (XG A5.o r1 rfl A5.g.ue A5.g.kp A5.g.bd .nil hX) (gY 'd'))) (aM (i:=3) jM.nd rfl eh) (bI (iO (aO iB (bF A3 wo rfl (aA (pv 2) (aA (pv 3) aC))) aJ ft) (bI (fJ lX)) dZ)) (λ_=>rfl))
   (aL (iO (PW.pt (fP (aO iB (bF A3 wo rfl (aA (pv 2) (aA aJ aC))) aJ ft) (eA (aO iB (bF A3 wo rfl (aA (pv 2) (aA aJ aC))) aJ ft)))) (bI (fJ lX)) dZ)
   (aL (mM bc.never rfl (cZ (gY 'd')) (aM (i:=3) jM.nd rfl eh) (bI (iO (aO iB (bF A3 wo rfl (aA (pv 2) (aA (pv 3) aC))) aJ ft) (bI (fJ lX)) dZ)) (λ_=>rfl))
   (aL (bV (i:=4) jM.nd rfl eh ⟨(cL cY (bF ny r2 rfl (aA (pv 1) (aA aH aC))) aH ft)⟩)
   (aL (bV (i:=5) jM.nd rfl eh ⟨(bF GBg r1 rfl (aA (bM bU (eG (aA (aS eD aH (bF ny r2 rfl (aA (pv 1) (aA aH aC)))) (aA aH aC))) (aZ rE rfl B.int E3 (aA (lR (pv 4) (kX (cL cY (bF ny r2 rfl (aA (pv 1) (aA aH aC))) aH ft))) aC)) (λ_ _=>rfl)) aC))⟩)
   (aL ⟨(bY (dX (pv 2) T.cl ia.g.me ia.o ql ia.g.bd .nil kE (aA (aS dE aJ (aZ bR rfl B.str jE (aA (bL (dS hr) (pv 5) aJ gb) aC))) aC)))⟩
   (aL (mM bc.never rfl (hV rfl B.range (aA (bM bU (eG (aA (bF ny r2 rfl (aA (pv 1) (aA aH aC))) (aA aH aC))) (aZ rE rfl B.int E3 (aA (pv 4) aC)) (λ_ _=>rfl)) aC)) (aM (i:=6) jM.nd rfl eh) (aL (bV (i:=7) jM.nd rfl eh ⟨(bF GDd r4 rfl (aA (pv 1) (aA (pv 5) aC)))⟩)
   (aL (iO (cD (pv 4)) (bI (bV (i:=7) jM.nd rfl eh (tQ (aY bZ (aY ⟨(bF Fg r3 rfl (aA (pv 1) (aA (bL (dS hr) (pv 5) aJ gb) aC)))⟩ gW aHX) bE)))) dZ)
   (aL ⟨(bY (bF A4 r1 rfl (aA (pv 5) (aA (pv 7) aC))))⟩
   (bI ⟨(bY (dX (pv 2) T.cl ia.g.me ia.o ql ia.g.bd .nil kE (aA (bF GRo r1 rfl (aA (pv 7) aC)) aC)))⟩)))) (λ_=>rfl))
   (aL (bV (i:=8) jM.nd rfl eh ⟨(bF NA wo rfl (aA (pv 2) aC))⟩)
   (aL (bV (i:=9) jM.nd rfl eh ⟨(dX (pv 2) T.cl ia.g.me ia.o ql ia.g.bd .nil kE (aA aJ aC))⟩)
   (aL (mM bc.never rfl (cZ (aS fE (XG A5.o r1 rfl A5.g.ue A5.g.kp A5.g.bd .nil hX) (bF GBr r3 rfl (aA (pv 1) aC)))) (aM (i:=3) jM.nd rfl eh) (bI (iO (aO iB (bF A3 wo rfl (aA (pv 2) (aA (pv 3) aC))) aJ ft) (bI (fJ lX)) dZ)) (λ_=>rfl))
   (aL (mM bc.never rfl (cZ (bF GRf r4 rfl (aA (pv 1) (aA (pv 5) aC)))) (lS rfl (bD (aM (i:=3) jM.nd rfl eh) (bD (aM (i:=10) jM.nd rfl eh) eT))) (bI (iO (PW.pt (fP (aO iB (bF A3 wo rfl (aA (pv 2) (aA (pv 3) aC))) (pv 10) ft) (eA (aO (aJ0 hr.F2) (bF NA wo rfl (aA (pv 2) aC)) (pv 8) ft)))) (bI (fJ lX)) dZ)) (λ_=>rfl))
   (aL (iO (aO iB (dX (pv 2) T.cl ia.g.me ia.o ql ia.g.bd .nil kE (aA aJ aC)) (pv 9) ft) (bI (fJ lX)) dZ)
   (aL (iO (PW.pt (mU (cD (pv 4)) (lQ (cV (cD (bF GTh ZO rfl (aA (pv 2) (aA (pv 5) aC)))))))) (bI (fJ lX)) dZ)
   (aL (mM bc.never rfl (cZ (eV tN (aK (nJ rfl) rfl B.sorted XX (aA (bL (dS hr) (pv 5) aJ gb) aC)) gS (gT aH))) (aM (i:=11) jM.nd rfl eh) (bI (iO (aO iB (dX (pv 2) T.cl ia.g.me ia.o ql ia.g.bd .nil kE (aA (aS dE aJ (aZ bR rfl B.str jE (aA (pv 11) aC))) aC)) aJ ft) (bI (fJ lX)) dZ)) (λ_=>rfl))
   (aL (iO (PW.pt (fP (aO iB (dX (pv 2) T.cl ia.g.me ia.o ql ia.g.bd .nil kE (aA aJ aC)) (aZ bR rfl B.str jE (aA (bL (dS hr) (pv 5) aJ gb) aC)) ft) (eA (aO iB (dX (pv 2) T.cl ia.g.me ia.o ql ia.g.bd .nil kE (aA (aS dE aJ (aZ bR rfl B.str jE (aA (bL (dS hr) (pv 5) aJ gb) aC))) aC)) aJ ft)))) (bI (fJ lX)) dZ)
   (bI (fJ ⟨(lR (cL cY (dX (pv 2) T.cl ia.g.me ia.o ql ia.g.bd .nil kE (aA aJ aC)) aJ ft) (kX (cL (MJ hr.F2) (bF NA wo rfl (aA (pv 2) aC)) (gY 'd') ft)))⟩))))))))))))))))))) ?_
 dsimp only [cB,Cx.gf];have bn:∀ m:Int,0<=m->m<=1000->m.natAbs < 2^4000:=λm h0 h1=>Xo (show m.natAbs<=1000 by omega) 'd';refine bJ ⟨_,rfl,wm 3 'c' |> Jx,λt ht=>?_⟩;have q1:=aD.new (o:=.lst [.ref a,.int 0,.int 0]) ht;have J1:ik K (upd H t (.lst [.ref a,.int 0,.int 0])) t a ns 0:=⟨⟨0,0,Jz _,Jz _,aB⟩,q1.iq ha⟩
 have KY:=q1 _ _ hT;generalize upd H t (.lst [.ref a,.int 0,.int 0])=H1 at q1 J1 KY ⊢;refine aN λu hu=>bJ λd fj hd Em DN=>⟨d,fj,rfl,aB,rfl,?_⟩
 have qd:aD H1 (upd (upd (upd H1 fj (.own d)) d (.ins Cd fj [])) d (.ins Cd fj [("dealing",.fk)])):=λb u hb=>by
  have c1:b≠d:=cI hb hd;have c2:b≠fj:=cI hb Em;rw [aG c1,aG c1,aG c2]; exact hb
 have dk:m5 Cd (upd (upd (upd H1 fj (.own d)) d (.ins Cd fj [])) d (.ins Cd fj [("dealing",.fk)])) d fj .fk:=aB;generalize upd (upd (upd H1 fj (.own d)) d (.ins Cd fj [])) d (.ins Cd fj [("dealing",.fk)])=H2 at qd dk ⊢;have J2:=J1.same qd;have GI:=qd _ _ KY;clear J1 KY qd hd Em DN ht q1 hT ha;subst hu;refine aN λu hu=>dO (mO ⟨rfl,λp1 xs H3 s3 _ ep lx nx=>λp2 um=>?_⟩);refine VD (R:=LI) ((aD.new um) _ _ ep) aB lx 'd' (λx hx=>⟨(nx x hx).1,.inl (nx x hx).2⟩) (VE 'd') λp xs H4 s4 e4 n4=>⟨p,rfl,⟨_,dm.of e4⟩,?_⟩
 have q4:=s3.trans ((aD.new um).trans s4);refine sM (S:=λv=>[some (.ref a),some (.ref t),some (.ref d),v,none,none,none,none,none,none,none,none]) e4 (λ_=>rfl) (λ_ _=>rfl) (λ_=>rfl) (q4 _ _ dk) (λx hx H' s' Q E k'=>WA ((q4.trans s') _ _ dk) (n4 x hx) k') λv3 H5 s5=>?_;replace q4:=q4.trans s5;have J4:=J2.same q4;have QJ:=q4 _ _ GI;replace dk:=q4 _ _ dk;clear J2 GI q4 s4 s5 e4 n4 ep s3 um nx lx;dsimp only;subst hu;refine aN λu hu=>oR (λd9 H'=>d9 = [some (.ref a),some (.ref t),some (.ref d),v3,none,none,none,none,none,none,none,none]/\aD H5 H') (λcC=>?_) ?_
 ·refine sZ (false || false) (G4 (HZ (u := "hands 0") (j:=0) rfl dk (λQ q=>q) 'c' rfl (λQ E k'=>?_) λ_ _ q=>q) λ_ Ha sa=>HZ (u := "hands 7") (j:=0) rfl (sa _ _ dk) (λQ q=>q) 'c' rfl (λQ E k'=>?_) λ_ _ q=>q) (λz=>by cases z) λ_ H' s'=>cC _ _ ⟨rfl,s'⟩
  ·rw [show ("hands 0" : aj)=eO "hands" [0] by decide +kernel];exact tG dk 'c' (.inl 'c') k'
  ·rw [show ("hands 7" : aj)=eO "hands" [7] by decide +kernel];exact tG (sa _ _ dk) 'c' (.inl 'c') k'
 rintro σ H6 ⟨rfl,s6⟩;subst hu;refine aN λu hu=>dO (mO λp hp=>⟨p,rfl,⟨_,dm.of aB⟩,?_⟩);refine sM (S:=λv=>[some (.ref a),some (.ref t),some (.ref d),v,none,none,none,none,none,none,none,none]) aB (λ_=>rfl) (λ_ _=>rfl) (λ_=>rfl) ((s6.trans (aD.new hp)) _ _ dk) (λx hx H' s' Q E k'=>WA ((s6.trans ((aD.new hp).trans s')) _ _ dk) (VE 'd' x hx) k') λv3 H7 s7=>?_;have q7:=s6.trans ((aD.new hp).trans s7);replace dk:=q7 _ _ dk;have J7:=J4.same q7;have Dg:=q7 _ _ QJ;clear J4 QJ q7 s7 s6 hp;dsimp only;subst hu;refine aN λu hu=>bJ ⟨_,rfl,t,a,ns,_,_,rfl,J7,by omega,by decide,by decide +kernel,λr0 H8 _ _ b8 J8=>⟨rfl,?_⟩⟩;have bt:∀ {H2 H3:Hp} {M:Nat} {c:ae} {u:HO},ik K H2 t a ns M->fg t H2 H3->H2 c=some u->(∀ xs,u≠.lst xs)->H3 c=some u:=λJ b h n=>b _ _ (λz=>by obtain ⟨_,e⟩:=J.lst; rw [z,e] at h; exact n _ (Option.some.inj h).symm) h;have BJ:=bt J7 b8 dk (λ_ z=>by cases z);have Es:=bt J7 b8 Dg (λ_ z=>by cases z);generalize decide (V.int r0=V.int 0)=full;clear J7 Dg dk b8;subst hu;refine aN λu hu=>lP (λd9 H'=>∃ n sp ap,d9 = [some (.ref a),some (.ref t),some (.ref d),v3,some (.bl full),some (.ref sp),none,none,none,none,none,none]/\1<=n/\n<=6/\ik K H' t a ns 9/\H' Pt=some (.tab xT)/\m5 Cd H' d fj .fk/\H' sp=some (.dK (⟨n,0,[],[],ap,[]⟩:SD).kv)/\H' ap=some (.dK [])/\sp≠ap) (λN' cC=>?_) ?_
 ·refine ⟨_,rfl,t,a,ns,_,_,rfl,J8,by omega,by decide,by decide +kernel,λr1 H9 a0 a1 b9 J9=>⟨1,r1,rfl,rfl,om _ _,λlp mr=>⟨_,rfl,full,rfl,?_⟩⟩⟩;have Ss:=bt J8 b9 BJ (λ_ z=>by cases z);have QH:=bt J8 b9 Es (λ_ z=>by cases z);have sl:=aD.new (o:=.lst [.int (1+r1),.int 6]) mr;have el:upd H9 lp (.lst [.int (1+r1),.int 6]) lp=some (.lst [.int (1+r1),.int 6]):=aB;have E_:=J9.same sl;generalize upd H9 lp (.lst [.int (1+r1),.int 6])=IQ at sl el E_ ⊢;refine eP (λ_=>?_) (λ_=>?_)
  ·refine ⟨_,rfl,t,a,ns,_,_,rfl,E_,by omega,by decide,by decide +kernel,λr2 z_ _ _ Lp J11=>⟨rfl,?_⟩⟩;generalize decide (V.int r2=V.int 0)=z;refine .inr ⟨z,rfl,lp,_,_,.int (if z=true then 6 else 1+r1),rfl,rfl,dm.of (Lp _ _ (J9.ne mr) el),by cases z <;> rfl,_,rfl,λsp ap IP jd _ _ wq e1 e2=>cC _ _ ⟨_,sp,ap,rfl,by split <;> omega,by split <;> omega,(J11.same jd).more 'a',jd _ _ (bt E_ Lp (sl _ _ QH) (λ_ z=>by cases z)),jd _ _ (bt E_ Lp (sl _ _ Ss) (λ_ z=>by cases z)),e1,e2,wq⟩⟩
  ·exact .inr ⟨false,rfl,lp,_,_,_,rfl,rfl,dm.of el,rfl,_,rfl,λsp ap IP jd _ _ wq e1 e2=>cC _ _ ⟨_,sp,ap,rfl,by omega,by omega,(E_.same jd).more 'a',jd _ _ (sl _ _ QH),jd _ _ (sl _ _ Ss),e1,e2,wq⟩⟩
 clear J8 BJ Es;rintro σ H8 ⟨n,sp,ap,rfl,n1,n6,J8,Es,BJ,es,ea,wq⟩;subst hu;refine aN λu hu=>dO ⟨_,rfl,d,fj,_,rfl,BJ,rfl,_,rfl,sp,_,rfl,.inl ⟨_,.inr "hands",.inl es,rfl,(gE _).symm⟩,n,rfl,lN 'a' 'a', "hands ",_,rfl,rfl,Nk 'd' 'a' 'a',?_⟩;show jF K C Cd c (qy K C Pt c) [.ref d,.str ("hands " ++ bS n)] H8 _ _;rw [aFw];refine zR BJ n1 n6 λx dx da dh H9 b9 hx vy tj hD hk=>?_;have W:=Wd.made J8 Es es ea wq BJ b9 vy tj hD hk;have M0:u3 ⟨n,0,[],[],ap,[]⟩:=⟨iZ n1 n6 (Ji _) λl hl=>(Qv hl).elim,List.Pairwise.nil,λk hk=>(Qv hk).elim,Jz _,rfl⟩
 have C0:qz (DD.begun n dx da dh) 0:=⟨U_ n1 n6,Jz _,Jz _,Jz _⟩
 clear J8 Es es ea wq BJ b9 hx vy tj hD hk;dsimp only;subst hu;refine aN λu hu=>lP (λd9 H'=>(∃ v6 v7,d9 = [some (.ref a),some (.ref t),some (.ref d),v3,some (.bl full),some (.ref sp),v6,v7,none,none,none,none])/\∃ D S j,Wd K H' C Cd t a ns 600 Pt d fj x sp D S/\u3 S/\qz D j/\j<=12/\lu D S/\S.fw<=12/\(full=true->S.nums.length=12/\S.fw=12/\(0:Int)∈S.nums)) (λN' cC=>?_) ?_
 ·refine ⟨_,rfl,t,a,ns,_,_,rfl,W.m8,by omega,by decide,by decide +kernel,λr Ha r0 r1 ba Ja=>⟨om _ _,λlp mr=>⟨_,rfl,.inr ⟨full,rfl,lp,_,_,.int (if full=true then 12 else r),rfl,rfl,dm.of aB,by cases full <;> rfl,?_⟩⟩⟩⟩;replace W:=(W.but ba Ja).same (aD.new (o:=.lst [.int r,.int 12]) mr);generalize upd Ha lp (.lst [.int r,.int 12])=Hb at W ⊢;obtain ⟨m,hm⟩:∃ m:Int,m=if full=true then 12 else r:=⟨_,rfl⟩
  have N9:0<=m/\m<=12/\(full=true->m=12):=by
   rw [hm];split
   ·simp
   ·rename_i h;exact ⟨r0,by omega,λz=>absurd z h⟩
  refine ⟨m,by rw [hm],by omega,by omega,rD (lo:=0) (n:=m.toNat) (λi d9 H'=>(∃ v6 v7,d9 = [some (.ref a),some (.ref t),some (.ref d),v3,some (.bl full),some (.ref sp),v6,v7,none,none,none,none])/\∃ D S,Wd K H' C Cd t a ns (20+40*i) Pt d fj x sp D S/\u3 S/\qz D i/\lu D S/\S.fw<=i/\(full=true->S.fw=i/\S.nums.length=i/\(0 < i->(0:Int)∈S.nums))) ⟨⟨_,_,rfl⟩,_,_,W.more 'a',M0,C0,⟨rfl,rfl,rfl,rfl⟩,Jz _,λ_=>⟨rfl,rfl,λz=>absurd z 'a'⟩⟩ ?_ ?_⟩
  ·clear W M0 C0;rintro i σ Hc hi ⟨⟨v6,v7,rfl⟩,D,S,W,M,Cn,L,du,fl⟩;obtain ⟨s1,s6,_,_⟩:=aV M.bk;dsimp only [gI];refine WJ λD0 kn _=>bJ ⟨_,rfl,_,rfl,t,a,ns,_,sp,S,rfl,W.m8,by omega,W.sh,M,λdp e Hd bd Jd hE AR=>?_⟩;replace W:=W.but bd Jd;refine aN λu hu=>lP (λd9 H'=>∃ dp e,d9 = [some (.ref a),some (.ref t),some (.ref d),v3,some (.bl full),some (.ref sp),some (.int (0+i)),some (.ref dp),none,none,none,none]/\Wd K H' C Cd t a ns (60+40*i) Pt d fj x sp D S/\sY K H' dp e/\qP S e/\(full=true->∃ q l,e=.put q l)) (λN2 A9=>?_) ?_
   ·refine ⟨_,rfl,full,rfl,eP (λhf=>?_) (λhf=>A9 _ _ ⟨dp,e,rfl,W.more 'a',hE,AR,λz=>absurd z hf⟩)⟩;refine ⟨_,rfl,_,rfl,sp,_,rfl,W.sh.ic (k:=.inr "hands") (gE S),t,a,ns,_,S.n,rfl,W.m8,by omega,s1,s6,λl q He hw be Je hq=>⟨om _ _,λLj xx=>A9 _ _ ⟨Lj,.put q l,rfl,((W.but be Je).same (aD.new xx)).more 'a',⟨dt.of aB,(aD.new xx).di hq⟩,⟨hw,by have:=(fl hf).2.1; omega⟩,λ_=>⟨q,l,rfl⟩⟩⟩⟩
   clear W hE AR bd Jd;rintro σ Hd ⟨dp,e,rfl,W,hE,AR,B6⟩;subst hu;have hN:LM S.n e:=by
    cases e with
    | i5=>trivial
    | go=>trivial
    | take num=>have:=M.kh num AR; exact ⟨by omega,by omega⟩
    | put q l=>exact ⟨AR.1,s6⟩
   have ms:Md Hd sp:=.inr ⟨_,W.sh.st⟩;have mp:Md Hd S.ap:=.inr ⟨_,W.sh.dz⟩;refine dO ⟨_,rfl,_,rfl,sp,dp,S,e,rfl,W.sh,M,hE,AR,λHe be Se=>?_⟩;replace W:=W.step be Se (Nl _ _);replace hE:=hE.keep be ms.nt mp.nt mp.nt;refine ⟨_,rfl,d,fj,_,rfl,W.dk,rfl,_,rfl,dp,e,S.n,rfl,hE,hN,λHf sf=>?_⟩;replace W:=W.same sf;refine lO W.dk W.pt W.dh Cn 'a' L AR λD' Hg bg da dh qv Cn' L'=>kn _ _ ⟨⟨_,_,rfl⟩,D',S.step e,(W.u_ bg da dh qv).more 'a',L8 M AR,Cn',L',?_,λz=>?_⟩
   ·cases e <;> (try simp only [SD.step]) <;> omega
   ·obtain ⟨q,l,rfl⟩:=B6 z;obtain ⟨f1,f2,f3⟩:=fl z;refine ⟨by show S.fw+1=_; omega,by show (S.nums++[S.fw]).length=_; rw [Qg,f2]; rfl,λ_=>Qp.mpr ?_⟩;by_cases h0:0 < i
    ·exact .inl (f3 h0)
    ·grind
  ·rintro σ Hc ⟨⟨v6,v7,rfl⟩,D,S,W,M,Cn,L,du,fl⟩;refine cC _ _ ⟨⟨_,_,rfl⟩,D,S,_,W.more 'a',M,Cn,by omega,L,by omega,λz=>?_⟩;obtain ⟨f1,f2,f3⟩:=fl z;have:=N9.2.2 z;exact ⟨by omega,by omega,f3 'a'⟩
 clear W M0 C0;rintro σ H9 ⟨⟨v6,v7,rfl⟩,D,S,j,W,M,Cn,hj,L,du,fl⟩;subst hu;have hk:=Cn.dk (show j<=80 by omega);refine bJ ⟨_,rfl,d,fj,x,D,rfl,W.dk,W.dh,hk,λal Ha sa Z6 ea=>?_⟩;have Fm:al≠t:=W.m8.ne Z6;replace W:=W.same sa;have te:("parts" : aj)=eO "parts" []:=by rfl
 refine aN λu hu=>bJ ⟨_,rfl,d,fj,_,rfl,W.dk,rfl,?_⟩;rw [te];refine sG W.dk W.dh hk 'd' λpt Hb sb k8=>?_;replace W:=W.same sb;replace ea:=sb _ _ ea;subst hu;refine aN λu hu=>dO (mO ⟨rfl,λp1 xs Hc sc np ep lx nx=>⟨_,rfl,t,a,ns,_,rfl,(W.same sc).m8,by omega,λp2 us Hd bd Jd f2 e2 l2 n2=>?_⟩⟩);have W4:=(W.same sc).but bd Jd;have F_:p1≠t:=W.m8.ne np;refine VD (R:=sJ) (bd _ _ F_ ep) e2 lx 'a' nx n2 λp xs He se e4 n4=>⟨p,rfl,⟨_,dm.of e4⟩,?_⟩
 replace W4:=W4.same se;replace ea:=se _ _ (bd _ _ Fm (sc _ _ ea));refine sM (S:=λv=>[some (.ref a),some (.ref t),some (.ref d),v,some (.bl full),some (.ref sp),v6,v7,some (.ref al),some (.str pt),none,none]) e4 (λ_=>rfl) (λ_ _=>rfl) (λ_=>rfl) W4.dk (λx hx H' s' Q E k'=>aFx (s' _ _ W4.dk) (n4 x hx) k') λv3 Hf sf=>?_;replace W4:=W4.same sf;replace ea:=sf _ _ ea;clear W e4 n4 ep e2 l2 n2 lx nx bd Jd sc se sf;dsimp only;subst hu;refine aN λu hu=>dO (mO ⟨_,rfl,_,rfl,t,a,ns,_,sp,S,rfl,W4.m8,by omega,W4.sh,M,by omega,λrl rws Hg wy bg Jg Le lrl Ba=>⟨rl,rfl,⟨_,dm.of Le⟩,?_⟩⟩);have W:=W4.but bg Jg;replace ea:=bg _ _ Fm ea;refine gR .l (K:=K) (a:=rl) (xs:=rws) (λi d9 H'=>(∃ v3 v10,d9 = [some (.ref a),some (.ref t),some (.ref d),v3,some (.bl full),some (.ref sp),v6,v7,some (.ref al),some (.str pt),v10,none])/\aD Hg H') ⟨⟨_,_,rfl⟩,aD.refl _⟩ (λ_ _ _ _ h=>dm.of (h.2 _ _ Le)) ?_ ?_
 ·rintro i y σ H' hy ⟨⟨w3,CD,rfl⟩,s'⟩;obtain ⟨r,f,l,jj,tt,rfl,wz,AF,ht,hb,hn,hl⟩:=Ba y (Qd hy);replace W:=W.same s';refine ⟨r,_,rfl,s'.di wz,rfl,_,_,rfl,_,_,rfl,rfl,?_⟩;refine sZ (false || false) (G4 (HZ (u:=eO f l) (j:=jj) rfl W.dk (λQ q=>⟨_,rfl,q⟩) AF ht (λQ E k'=>U1 W.dk W.dh Cn.m L hn hl hb k') λH' Q q=>⟨_,rfl,q⟩) λ_ Hh sh Q' q=>?_) (λz=>by cases z) λ_ xi og=>⟨⟨_,_,rfl⟩,s'.trans og⟩
  replace W:=W.same sh;refine ⟨_,rfl,d,fj,x,D,rfl,W.dk,W.dh,hk,λp2 Hi si _ e2=>⟨_,rfl,?_⟩⟩;obtain ⟨u1,u2,q1,q2,q3,q4,q5,q6,q7⟩:=xH (K:=K) (R:=λb=>b=true) e2 (si _ _ (sh _ _ (s' _ _ ea))) (aHv hk) rfl;exact ⟨u1,u2,q1,q2,q3,q4,q5,q6,_,rfl,by rw [q7]; exact q _ si⟩
 clear W4;rintro σ Hh ⟨⟨w3,CD,rfl⟩,s'⟩;replace W:=W.same s';clear ea Ba Le;dsimp only;subst hu;refine aN λu hu=>oR (λd9 H'=>d9 = [some (.ref a),some (.ref t),some (.ref d),w3,some (.bl full),some (.ref sp),v6,v7,some (.ref al),some (.str pt),CD,none]/\aD Hh H') (λcC=>?_) ?_
 ·refine sZ false (λQ' q=>⟨_,rfl,d,fj,_,rfl,W.dk,rfl,?_⟩) (λz=>by cases z) λ_ H' s'=>cC _ _ ⟨rfl,s'⟩;rw [te];refine sG W.dk W.dh hk 'd' λpt' Hi si NU=>⟨_,rfl,rfl,_,rfl,?_⟩
  rw [NU.uniq k8,tK];exact q _ si
 rintro σ Hi ⟨rfl,si⟩;replace W:=W.same si;subst hu;refine aN λu hu=>lP (λd9 H'=>d9 = [some (.ref a),some (.ref t),some (.ref d),w3,some (.bl full),some (.ref sp),v6,v7,some (.ref al),some (.str pt),CD,none]/\∃ D S j N,Wd K H' C Cd t a ns N Pt d fj x sp D S/\u3 S/\qz D j/\j<=20/\lu D S/\S.fw<=20) (λN' cC=>?_) ?_
 ·refine ⟨_,rfl,full,rfl,eP (λhf=>?_) (λhf=>iQ (cC _ _ ⟨rfl,D,S,j,_,W,M,Cn,by omega,L,by omega⟩))⟩;obtain ⟨f1,f2,f3⟩:=fl hf;exact ⟨_,rfl,_,rfl,t,a,ns,_,d,fj,x,sp,D,S,j,rfl,W,M,Cn,by omega,L,f1,f2,f3,λH' D' S' W' M' C' L' d'=>⟨true,rfl,cS rfl (cC _ _ ⟨rfl,D',S',_,_,W',M',C',by omega,L',by omega⟩)⟩⟩
 clear W M Cn L du fl hk hj k8 D S j;rintro σ Hj ⟨rfl,D,S,j,N,W,M,Cn,hj,L,du⟩;subst hu;refine aN λu hu=>?_;have nn:S.nums.length<=12:=by rw [<- M.len]; exact (aV M.bk).2.2.1
 obtain ⟨s1,s6,_,_⟩:=aV M.bk;have Ai:=M.fw;refine lP (λd9 H'=>(∃ v11,d9 = [some (.ref a),some (.ref t),some (.ref d),w3,some (.bl full),some (.ref sp),v6,v7,some (.ref al),some (.str pt),CD,v11])/\∃ D S' j N,Wd K H' C Cd t a ns N Pt d fj x sp D S/\qz D j/\j<=21/\lu D S'/\S'.n=S.n/\S'.fw=S.fw/\S'.nums.length < 12) (λN' cC=>?_) ?_
 ·refine mO ⟨_,rfl,sp,_,rfl,W.sh.ic (k:=.inr "able") (gO S),S.ap,_,S.nums,rfl,.inl W.sh.dz,qN W.sh.tl,by omega,λp0 ms Kr o9 _=>⟨1,rfl,p0,_,rfl,dm.of aB,λp hp=>?_⟩⟩;rw [show (1:Int)=((1:Nat):Int) from rfl,VS,<- List.map_take];have W1:=(W.same (aD.new Kr)).same (aD.new (o:=.lst ((ms.take 1).map V.int)) hp);have ep:upd (upd Hj p0 (.lst (ms.map V.int))) p (.lst ((ms.take 1).map V.int)) p=some (.lst ((ms.take 1).map V.int)):=aB;generalize upd (upd Hj p0 (.lst (ms.map V.int))) p (.lst ((ms.take 1).map V.int))=Hk at W1 ep ⊢;have xl:((ms.take 1).map V.int).length<=1:=by grind
  refine ⟨p,rfl,⟨_,dm.of ep⟩,gR .l (K:=K) (a:=p) (xs:=(ms.take 1).map V.int) (λi d9 H'=>(∃ v11,d9 = [some (.ref a),some (.ref t),some (.ref d),w3,some (.bl full),some (.ref sp),v6,v7,some (.ref al),some (.str pt),CD,v11])/\H' p=some (.lst ((ms.take 1).map V.int))/\((i=0/\Wd K H' C Cd t a ns N Pt d fj x sp D S)∨(0 < i/\∃ m D',m∈S.nums/\Wd K H' C Cd t a ns N Pt d fj x sp D' S/\qz D' (j+1)/\lu D' (S.step (.take m))))) ⟨⟨_,rfl⟩,ep,.inl ⟨rfl,W1⟩⟩ (λ_ _ _ _ h=>dm.of h.2.1) ?_ ?_⟩
  ·rintro i z σ H' hz ⟨⟨v11,rfl⟩,eq,h⟩;have hi:i < ((ms.take 1).map V.int).length:=(Qb.mp hz).1;rcases h with ⟨rfl,W2⟩ | ⟨h0,_⟩
   ·rw [Qh] at hz;obtain ⟨m,hm,rfl⟩:=Qo.mp hz;have jb:m∈S.nums:=o9.mem_iff.mp (Zf (Qd hm));have:=M.kh m jb;dsimp only [gI];refine ⟨_,rfl,d,fj,_,rfl,W2.dk,rfl,_,rfl,m,rfl,lN 'a' 'a', "take ",_,rfl,rfl,Nk 'd' 'a' 'a',?_⟩;show jF K C Cd c (qy K C Pt c) [.ref d,.str ("take " ++ bS m)] H' _ _;rw [xF];refine lO (e:=.take m) W2.dk W2.pt W2.dh Cn 'a' L jb λD' xi b da dh qv C' L'=>⟨rfl,_,rfl,cS (by rfl) ⟨⟨_,rfl⟩,b.lst (.inl ⟨_,_,_,W2.dh.ins⟩) (.inr ⟨_,W2.dh.dz⟩) (.inr ⟨_,W2.dh.hand⟩) eq,.inr ⟨by omega,m,D',jb,W2.u_ b da dh qv,C',L'⟩⟩⟩
   ·omega
  ·rintro σ H' ⟨⟨v11,rfl⟩,_,h⟩;rcases h with ⟨h0,W2⟩ | ⟨_,m,D',hm,W2,C',L'⟩
   ·have:=o9.length_eq;rw [Qa,Qs] at h0;exact cC _ _ ⟨⟨_,rfl⟩,D,S,j,_,W2,Cn,by omega,L,rfl,rfl,by omega⟩
   ·refine cC _ _ ⟨⟨_,rfl⟩,D',_,_,_,W2,C',by omega,L',rfl,rfl,?_⟩;show (S.nums.eraseIdx _).length < 12;have:=Wn hm;rw [Ys (Zq hm)];omega
 clear W Cn L;rintro σ Hk ⟨⟨v11,rfl⟩,D,S',j,N,W,Cn,hj,L,e1,e2,e3⟩;subst hu;refine lP (λd9 H'=>d9 = [some (.ref a),some (.ref t),some (.ref d),w3,some (.bl full),some (.ref sp),v6,v7,some (.ref al),some (.str pt),CD,v11]/\∃ D N,Wd K H' C Cd t a ns N Pt d fj x sp D S) (λN' cC=>?_) ?_
 ·have m1:qP S' (.put t [0]):=⟨by rw [e1]; exact LJ s1,e3⟩
  have m2:qP (S'.step (.put t [0])) (.take S'.fw):=Qp.mpr (.inr (Qi.mpr rfl));have ZD:("put 0" : aj)=zO (.put t [0]):=by rfl
  refine ⟨_,rfl,d,fj,_,rfl,W.dk,rfl,?_⟩;rw [ZD];refine lO W.dk W.pt W.dh Cn 'a' L m1 λD1 H1 b1 da dh nv C1 L1=>?_;replace W:=W.u_ b1 da dh nv;have CZ:bS D.nx=bS S.fw:=by rw [L.nx,e2]
  refine ⟨_,rfl,sp,_,rfl,W.sh.ic (k:=.inr "due") (mI S),S.fw,rfl,lN Ai 'a',rfl,_,rfl,cS (by show (!decide (V.str (bS D.nx)=V.str (bS S.fw)))=false; rw [CZ,tK]; rfl) ⟨_,rfl,d,fj,_,rfl,W.dk,rfl,_,rfl,sp,_,rfl,W.sh.ic (k:=.inr "due") (mI S),S.fw,rfl,lN Ai 'a', "take ",_,rfl,rfl,Nk 'd' Ai 'a',?_⟩⟩;show jF K C Cd c (qy K C Pt c) [.ref d,.str ("take " ++ bS S.fw)] H1 _ _;rw [xF,<- e2];exact lO (e:=.take S'.fw) W.dk W.pt W.dh C1 'a' L1 m2 λD2 H2 b2 da dh Dj C2 L2=>⟨rfl,_,rfl,cS (by rfl) (cC _ _ ⟨rfl,D2,_,W.u_ b2 da dh Dj⟩)⟩
 clear W Cn L;rintro σ Hl ⟨rfl,D,N,W⟩;refine ⟨_,rfl,d,fj,_,rfl,W.dk,rfl,?_⟩;rw [show ("hands 1" : aj)=eO "hands" [1] by decide +kernel];refine zR W.dk 'c' 'c' λx' dx da dh H' b _ vy tj hD hk=>⟨rfl,_,rfl,dM tK ?_⟩
 have C0:qz (DD.begun 1 dx da dh) 0:=⟨U_ 'c' 'c',Jz _,Jz _,Jz _⟩
 have hp:=b _ _ (λz=>by have:=W.dk; unfold m5 at this; rw [<- z,W.pt] at this; cases this) W.pt;refine ⟨_,rfl,d,fj,x',_,rfl,hk,hD,C0.dk 'c',λp Ha sa _ ea=>λq hq=>?_⟩;have et:xC (DD.begun 1 dx da dh)=(["0", "none", "0", "0"]:List aj):=by
  show xC (DD.begun 1 0 0 0)=_
  decide +kernel
 rw [et] at ea;obtain ⟨u1,u2,q1,q2,q3,q4,q5,q6,q7⟩:=xH (K:=K) (R:=λb=>b=true) (us:=["0", "none", "0", "0"]) ((aD.new hq) _ _ ea) aB (by unfold il; decide +kernel) rfl;refine ⟨u1,u2,q1,q2,q3,q4,q5,q6,?_⟩;rw [q7];exact k _ ((aD.new hq) _ _ (sa _ _ hp))
end
end Ab
namespace Ab
open PySem L2 PyProof.Rows
theorem Kb (h:us.length=1):∃ a,us = [a]:=by
 match us,h with
 | [a],_=>exact ⟨a,rfl⟩
theorem ln2 (h:us.length=2):∃ a b,us = [a,b]:=by
 match us,h with
 | [a,b],_=>exact ⟨a,b,rfl⟩
theorem Z' (h:us.length=3):∃ a b c,us = [a,b,c]:=by
 match us,h with
 | [a,b,c],_=>exact ⟨a,b,c,rfl⟩
theorem Z9 (h:us.length=4):∃ a b c d,us = [a,b,c,d]:=by
 match us,h with
 | [a,b,c,d],_=>exact ⟨a,b,c,d,rfl⟩
theorem aLF (X:K.In h) (G:h.Ns ai mg) {x:aj} {st:ax} {kV:aa} (hb:∀ (kV doc pm:aa) (an:Option ae) (fe ct:aa) (us:List aa),us.length=ps.length->c7 (Ta x x (gU st) (dQ st) (aF st) .none kV doc pm an fe ct) ⟨us,[]⟩=pure (ps.zip us)) (a:Rg K ai x=some (some (.ref f))) (l:K.lookup f=some ⟨oc,od,.func (Ta x x (gU st) (dQ st) (aF st) .none kV doc pm an fe ct),sv⟩) (c:Ub K fe x=true) (k:Ri K (.ref f)=true) :
  ∃ f fd,Fn K mg x st ps f fd:=by
 have F:=HQ (st:=st) l c k;exact ⟨f,_,F,Rh X G a,k,F.binds hb⟩
theorem aKP (X:K.In h) (G:h.Ns ai mg) {x:aj} {st:ax} {kV:aa} (hb:∀ (kV doc pm:aa) (an:Option ae) (fe ct:aa) (us:List aa),us.length=ps.length->c7 (Ta x x (gU st) (dQ st) (aF st) .none kV doc pm an fe ct) ⟨us,[]⟩=pure (ps.zip us)) (a:Rg K ai x=some (some (.ref f))) (l:K.lookup f=some ⟨oc,od,.func (Ta x x (gU st) (dQ st) (aF st) .none kV doc pm an fe ct),sv⟩) (c:Ub K fe x=true) (k:Ri K (.ref f)=true) :
  ∃ f fd,Fn K mg x st ps f fd/\fd.code=fe:=by
 have F:=HQ (st:=st) l c k;exact ⟨f,_,⟨F,Rh X G a,k,F.binds hb⟩,rfl⟩
theorem aLG (X:K.In h) (G:h.Ns ai mg) {t6 JB t7 t8 t9:df} (z0:Rg K ai "isinstance" = some none) (z1:Rg K ai "int" = some none) (z2:Rg K ai "bool" = some none) (z3:Rg K ai "tuple" = some none) (z4:Rg K ai "list" = some none) (z5:Rg K ai "len" = some none) (z6:Rg K ai "all" = some none) (z7:Rg K ai "zip" = some none) (z8:Rg K ai "range" = some none) (z9:Rg K ai "sorted" = some none) (DH:Rg K ai "set" = some none) (YY:Rg K ai "sum" = some none) (YX:Rg K ai "repr" = some none) (YW:Rg K ai "enumerate" = some none) (YV:Rg K ai "min" = some none) (YU:Rg K ai "any" = some none) (YT:Rg K ai "dict" = some none) (YS:Rg K ai "ValueError" = some none) (YR:Rg K ai "str" = some none) (YQ:Rg K ai "max" = some none) (zA:Rg K ai "MOST_HANDS" = some (some (.int 6 t6))) (zB:Rg K ai "MOST_WORKS" = some (some (.int 12 JB))) (zC:Rg K ai "FIGURES" = some (some (.str "0123456789" t7))) (zD:Rg K ai "MOST_FIGURES" = some (some (.int 6 t8))) (zE:Rg K ai "MOST_WEIGHT" = some (some (.int 99 t9))):Bl mg :=
 ⟨Rj X G z0,Rj X G z1,Rj X G z2,Rj X G z3,Rj X G z4,Rj X G z5,Rj X G z6,Rj X G z7,Rj X G z8,Rj X G z9,Rj X G DH,Rj X G YY,Rj X G YX,Rj X G YW,Rj X G YV,Rj X G YU,Rj X G YT,Rj X G YS,Rj X G YR,Rj X G YQ,⟨_,Rh X G zA⟩,⟨_,Rh X G zB⟩,⟨_,Rh X G zC⟩,⟨_,Rh X G zD⟩,⟨_,Rh X G zE⟩⟩
def SA (K:Rb) (mg:aj->Option aa):Prop:=∃ Cc,Dc K Cc/\mg "Dealing" = some (.ref Cc)/\(∃ f fd,Mk K Cc f/\Mt K Cc "__init__" yS ["self", "hands"] f fd)/\(∃ f fd,Mt K Cc "book_now" sT ["self"] f fd)/\(∃ f fd,Mt K Cc "deal_now" nN ["self"] f fd)/\(∃ f fd,Mt K Cc "count_moved" nO ["self", "many"] f fd)/\(∃ f fd,Mt K Cc "put" Du ["self", "able"] f fd)/\(∃ f fd,Mt K Cc "take" yT ["self", "number"] f fd)/\(∃ f fd,Mt K Cc "come" yU ["self"] f fd)/\(∃ f fd,Mt K Cc "go" vo ["self"] f fd)/\(∃ f fd,Mt K Cc "deal" EY ["self"] f fd)/\(∃ f fd,Mt K Cc "loads" rQ ["self"] f fd)/\(∃ f fd,Mt K Cc "moved" vW ["self"] f fd)
theorem aLI {x:aj} {st:ax} {kV:aa} (hb:∀ (kV doc pm:aa) (an:Option ae) (fe ct:aa) (us:List aa),us.length=ps.length->c7 (Ta x (("Dealing." : aj)++x) (gU st) (dQ st) (aF st) .none kV doc pm an fe ct) ⟨us,[]⟩=pure (ps.zip us)) (a:Rm K (.ref C) x=some (some (.ref f))) (i:Um K (.ref f)=true) (l:K.lookup f=some ⟨oc,od,.func (Ta x (("Dealing." : aj)++x) (gU st) (dQ st) (aF st) .none kV doc pm an fe ct),sv⟩) (c:Ub K fe (("Dealing." : aj)++x)=true) (k:Ri K (.ref f)=true) :
  ∃ f fd,Mt K C x st ps f fd:=by
 have F:=HQ (st:=st) l c k;exact ⟨f,_,F,⟨a,i,k⟩,F.binds hb⟩
theorem aLJ (X:K.In h) (G:h.Ns ai mg) {f0:ae} (cg:Rg K ai "Dealing" = some (some (.ref C))) (pg:Ue K C aj.empty=true) (hd:Ul K C=true) (po:Vb K C=true) (sa:Rm K (.ref C) "__setattr__" = some (some (.builtin "object.__setattr__"))) (n1:Rm K (.ref C) "many_hands" = some none) (n2:Rm K (.ref C) "able_of" = some none) (n3:Rm K (.ref C) "hand_of" = some none) (n4:Rm K (.ref C) "next_number" = some none) (n5:Rm K (.ref C) "moved_last" = some none) (n6:Rm K (.ref C) "moved_in_all" = some none) (m1:Vj K C=true) (m2:Rm K (.ref C) "__init__" = some (some (.ref f0))) (m3:Um K (.ref f0)=true) (m4:Ri K (.ref C)=true) (hIn:∃ f fd,Mt K C "__init__" yS ["self", "hands"] f fd) (RU:∃ f fd,Mt K C "book_now" sT ["self"] f fd) (RJ:∃ f fd,Mt K C "deal_now" nN ["self"] f fd) (RQ:∃ f fd,Mt K C "count_moved" nO ["self", "many"] f fd) (QV:∃ f fd,Mt K C "put" Du ["self", "able"] f fd) (QE:∃ f fd,Mt K C "take" yT ["self", "number"] f fd) (RP:∃ f fd,Mt K C "come" yU ["self"] f fd) (RB:∃ f fd,Mt K C "go" vo ["self"] f fd) (RK:∃ f fd,Mt K C "deal" EY ["self"] f fd) (Q2:∃ f fd,Mt K C "loads" rQ ["self"] f fd) (Q1:∃ f fd,Mt K C "moved" vW ["self"] f fd):SA K mg:=by
 obtain ⟨f,fd,M⟩:=hIn;have e:f=f0:=by
  have:=M.me.at_.symm.trans m2;injection this with this;injection this with this;injection this
 subst e;exact ⟨C,⟨⟨pg,hd,po,sa⟩,n1,n2,n3,n4,n5,n6⟩,Rh X G cg,⟨f,fd,⟨m1,m2,m3,m4⟩,M⟩,RU,RJ,RQ,QV,QE,RP,RB,RK,Q2,Q1⟩
theorem aLK (X:K.In h) (G:h.Ns ai mg) {a9 uz:ae} (zE:Rg K ai "DealError" = some (some (.ref cE))) (qE:qf K cE kq=true) (z0:Rg K ai "NoBook" = some (some (.ref a0))) (q0:qf K a0 (.ref cE::kq)=true) (z1:Rg K ai "NoCosts" = some (some (.ref a1))) (q1:qf K a1 (.ref cE::kq)=true) (z2:Rg K ai "NoDeal" = some (some (.ref a2))) (q2:qf K a2 (.ref cE::kq)=true) (z3:Rg K ai "NoHand" = some (some (.ref a3))) (q3:qf K a3 (.ref cE::kq)=true) (z4:Rg K ai "NoRooms" = some (some (.ref a4))) (q4:qf K a4 (.ref cE::kq)=true) (z5:Rg K ai "NoRow" = some (some (.ref a5))) (q5:qf K a5 (.ref cE::kq)=true) (z6:Rg K ai "NoText" = some (some (.ref a6))) (q6:qf K a6 (.ref cE::kq)=true) (z7:Rg K ai "NoWay" = some (some (.ref a7))) (q7:qf K a7 (.ref cE::kq)=true) (z8:Rg K ai "NoWeights" = some (some (.ref a8))) (q8:qf K a8 (.ref cE::kq)=true) (z9:Rg K ai "NoWork" = some (some (.ref a9))) (q9:qf K a9 (.ref cE::kq)=true) (DH:Rg K ai "TooMany" = some (some (.ref uz))) (JI:qf K uz (.ref cE::kq)=true) (nd : [cE,a0,a1,a2,a3,a4,a5,a6,a7,a8,a9,uz].Nodup):∃ cE c,Cl K mg cE c:=by
 have hl:∀ i,i < 11->∃ a,[a0,a1,a2,a3,a4,a5,a6,a7,a8,a9,uz][i]?=some a:=λi hi=>⟨_,Qc (l:=[a0,a1,a2,a3,a4,a5,a6,a7,a8,a9,uz]) (i:=i) hi⟩
 have hc:∀ (i:Nat) (a:ae),[a0,a1,a2,a3,a4,a5,a6,a7,a8,a9,uz][i]?=some a->(λi:Nat=>([a0,a1,a2,a3,a4,a5,a6,a7,a8,a9,uz][i]?).getD 0) i=a:=λi a e=>by show ([a0,a1,a2,a3,a4,a5,a6,a7,a8,a9,uz][i]?).getD 0=a; rw [e]; rfl
 have Z4 : [a0,a1,a2,a3,a4,a5,a6,a7,a8,a9,uz].Nodup:=(Jq.mp nd).2;have Z2:cE∉[a0,a1,a2,a3,a4,a5,a6,a7,a8,a9,uz]:=(Jq.mp nd).1;refine ⟨cE,λi=>([a0,a1,a2,a3,a4,a5,a6,a7,a8,a9,uz][i]?).getD 0,⟨λi n e=>?_,λi hi=>?_,λi j hi hj e=>?_,λi hi e=>?_,Rh X G zE,aF4 qE⟩⟩
 ·match i,e with
  | 0,e=>injection e with e; subst e; exact Rh X G z0
  | 1,e=>injection e with e; subst e; exact Rh X G z1
  | 2,e=>injection e with e; subst e; exact Rh X G z2
  | 3,e=>injection e with e; subst e; exact Rh X G z3
  | 4,e=>injection e with e; subst e; exact Rh X G z4
  | 5,e=>injection e with e; subst e; exact Rh X G z5
  | 6,e=>injection e with e; subst e; exact Rh X G z6
  | 7,e=>injection e with e; subst e; exact Rh X G z7
  | 8,e=>injection e with e; subst e; exact Rh X G z8
  | 9,e=>injection e with e; subst e; exact Rh X G z9
  | 10,e=>injection e with e; subst e; exact Rh X G DH
  | n+11,e=>exact absurd (Qb.mp e).1 (by show ¬ n+11 < 11; omega)
 ·match i,hi with
  | 0,_=>exact iF qE q0
  | 1,_=>exact iF qE q1
  | 2,_=>exact iF qE q2
  | 3,_=>exact iF qE q3
  | 4,_=>exact iF qE q4
  | 5,_=>exact iF qE q5
  | 6,_=>exact iF qE q6
  | 7,_=>exact iF qE q7
  | 8,_=>exact iF qE q8
  | 9,_=>exact iF qE q9
  | 10,_=>exact iF qE JI
  | n+11,hi=>omega
 ·obtain ⟨a,ea⟩:=hl i hi;obtain ⟨b,eb⟩:=hl j hj;have e':a=b:=(hc i a ea).symm.trans (e.trans (hc j b eb));subst e';have yr:i < [a0,a1,a2,a3,a4,a5,a6,a7,a8,a9,uz].length:=hi;exact (Wc yr Z4).mp (ea.trans eb.symm)
 ·obtain ⟨a,ea⟩:=hl i hi;have e':a=cE:=(hc i a ea).symm.trans e;subst e';exact Z2 (Qd ea)
noncomputable def qm (a0 a1 a2 a3 a4 a5 a6 a7 a8:ae):List (Key×aa):=[(.inr "put",.ref a0),(.inr "take",.ref a1),(.inr "come",.ref a2),(.inr "go",.ref a3),(.inr "loads",.ref a4),(.inr "parts",.ref a5),(.inr "deal",.ref a6),(.inr "moved",.ref a7),(.inr "waits",.ref a8)]
theorem TR:valueAt (qm a0 a1 a2 a3 a4 a5 a6 a7 a8) (.inr "put")=some (.ref a0)/\valueAt (qm a0 a1 a2 a3 a4 a5 a6 a7 a8) (.inr "take")=some (.ref a1)/\valueAt (qm a0 a1 a2 a3 a4 a5 a6 a7 a8) (.inr "come")=some (.ref a2)/\valueAt (qm a0 a1 a2 a3 a4 a5 a6 a7 a8) (.inr "go")=some (.ref a3)/\valueAt (qm a0 a1 a2 a3 a4 a5 a6 a7 a8) (.inr "loads")=some (.ref a4)/\valueAt (qm a0 a1 a2 a3 a4 a5 a6 a7 a8) (.inr "parts")=some (.ref a5)/\valueAt (qm a0 a1 a2 a3 a4 a5 a6 a7 a8) (.inr "deal")=some (.ref a6)/\valueAt (qm a0 a1 a2 a3 a4 a5 a6 a7 a8) (.inr "moved")=some (.ref a7)/\valueAt (qm a0 a1 a2 a3 a4 a5 a6 a7 a8) (.inr "waits")=some (.ref a8):=by
 refine ⟨?_,?_,?_,?_,?_,?_,?_,?_,?_⟩ <;> kernel_rfl
theorem aHy (x:aj):(valueAt (qm a0 a1 a2 a3 a4 a5 a6 a7 a8) (.inr x)).isSome=sB x:=by
 obtain ⟨v0,v1,v2,v3,v4,v5,v6,v7,v8⟩:=@TR a0 a1 a2 a3 a4 a5 a6 a7 a8;rw [Xb];unfold sB;rw [decide_eq_true_iff];constructor
 ·intro h;unfold valueAt at h;rw [Yg,List.find?_isSome] at h;obtain ⟨kv,hm,e⟩:=h;have e:=of_decide_eq_true e;unfold qm at hm;simp only [Ql,Qv,or_false] at hm;rcases hm with rfl | rfl | rfl | rfl | rfl | rfl | rfl | rfl | rfl <;> (injection e with e; subst e; simp)
 ·intro h;simp only [Ql,Qv,or_false] at h;rcases h with rfl | rfl | rfl | rfl | rfl | rfl | rfl | rfl | rfl <;> simp [v0,v1,v2,v3,v4,v5,v6,v7,v8]
theorem dG.imp {f g:DD->aj->Prop} (h:∀ D t,f D t->g D t):∀ vs H Q E,dG K C g vs H Q E->dG K C f vs H Q E:=λvs H Q E ⟨x,v,D,e,hD,hM,k⟩=>⟨x,v,D,e,hD,hM,λt H' s ht=>k t H' s (h D t ht)⟩
theorem aKQ {c:Nat->ae} {d0 d1 d2 d3 d4 d5 d6 d7 d8:bh} (h0:(c_ P w K mg base (gk P w) 9 a0 d0 ["dealing", "numbers"] (wW K C (zx (Hq K C Pt) (L_ K C c)))/\dU K d0 ["dealing", "numbers"] []/\Ri K (.ref a0)=true)) (h1:(c_ P w K mg base (gk P w) 9 a1 d1 ["dealing", "numbers"] (sD K C (zx (HY K C) (Nb K C c)))/\dU K d1 ["dealing", "numbers"] []/\Ri K (.ref a1)=true)) (h2:(c_ P w K mg base (gk P w) 9 a2 d2 ["dealing", "numbers"] (sE C (zx (uD K C) (Nc C c)))/\dU K d2 ["dealing", "numbers"] []/\Ri K (.ref a2)=true)) (h3:(c_ P w K mg base (gk P w) 9 a3 d3 ["dealing", "numbers"] (M5 C (zx (Hs K C) (LQ K C c)))/\dU K d3 ["dealing", "numbers"] []/\Ri K (.ref a3)=true)) (h4:(c_ P w K mg base (gk P w) 9 a4 d4 ["dealing", "numbers"] (dG K C λD t=>t=HU D)/\dU K d4 ["dealing", "numbers"] []/\Ri K (.ref a4)=true)) (h5:(c_ P w K mg base (gk P w) 9 a5 d5 ["dealing", "numbers"] (dG K C λD t=>∃ bs,kT (fN D.n.toNat) (D.ws.zip (wY D.ws)) bs/\t=L7 D.n bs)/\dU K d5 ["dealing", "numbers"] []/\Ri K (.ref a5)=true)) (h6:(c_ P w K mg base (gk P w) 9 a6 d6 ["dealing", "numbers"] (dG K C λD t=>t=wX D)/\dU K d6 ["dealing", "numbers"] []/\Ri K (.ref a6)=true)) (h7:(c_ P w K mg base (gk P w) 9 a7 d7 ["dealing", "numbers"] (dG K C λD t=>t=bS D.ma)/\dU K d7 ["dealing", "numbers"] []/\Ri K (.ref a7)=true)) (h8:(c_ P w K mg base (gk P w) 9 a8 d8 ["dealing", "numbers"] (dG K C λD t=>t=bS (pK D.n D.hs))/\dU K d8 ["dealing", "numbers"] []/\Ri K (.ref a8)=true)) :
  ∀ x sp,qy K C Pt c x sp->∃ fS fd,valueAt (qm a0 a1 a2 a3 a4 a5 a6 a7 a8) (.inr x)=some (.ref fS)/\c_ P w K mg base (gk P w) 9 fS fd ["dealing", "numbers"] sp/\dU K fd ["dealing", "numbers"] []/\Ri K (.ref fS)=true:=by
 obtain ⟨v0,v1,v2,v3,v4,v5,v6,v7,v8⟩:=@TR a0 a1 a2 a3 a4 a5 a6 a7 a8;rintro x sp (⟨rfl,rfl⟩ | ⟨rfl,rfl⟩ | ⟨rfl,rfl⟩ | ⟨rfl,rfl⟩ | ⟨hx,rfl⟩)
 ·exact ⟨_,_,v0,h0⟩
 ·exact ⟨_,_,v1,h1⟩
 ·exact ⟨_,_,v2,h2⟩
 ·exact ⟨_,_,v3,h3⟩
 ·unfold zN at hx;simp only [Ql,Qv,or_false] at hx;rcases hx with rfl | rfl | rfl | rfl | rfl
  ·exact ⟨_,_,v4,h4.1.imp (dG.imp λD t e=>.inl ⟨rfl,e⟩),h4.2⟩
  ·exact ⟨_,_,v6,h6.1.imp (dG.imp λD t e=>.inr (.inl ⟨rfl,e⟩)),h6.2⟩
  ·exact ⟨_,_,v7,h7.1.imp (dG.imp λD t e=>.inr (.inr (.inl ⟨rfl,e⟩))),h7.2⟩
  ·exact ⟨_,_,v8,h8.1.imp (dG.imp λD t e=>.inr (.inr (.inr (.inl ⟨rfl,e⟩)))),h8.2⟩
  ·exact ⟨_,_,v5,h5.1.imp (dG.imp λD t e=>.inr (.inr (.inr (.inr ⟨rfl,e⟩)))),h5.2⟩
theorem TV {x:aj} {st:ax} {kV:aa} (hb:∀ (kV doc pm:aa) (an:Option ae) (fe ct:aa) (us:List aa),us.length=ps.length->c7 (Ta x (("Desk." : aj)++x) (gU st) (dQ st) (aF st) .none kV doc pm an fe ct) ⟨us,[]⟩=pure (ps.zip us)) (a:Rm K (.ref C) x=some (some (.ref f))) (i:Um K (.ref f)=true) (l:K.lookup f=some ⟨oc,od,.func (Ta x (("Desk." : aj)++x) (gU st) (dQ st) (aF st) .none kV doc pm an fe ct),sv⟩) (c:Ub K fe (("Desk." : aj)++x)=true) (k:Ri K (.ref f)=true) :
  ∃ f fd,we K C x st ps f fd:=by
 have F:=HQ (st:=st) l c k;exact ⟨f,_,F,⟨a,i,k⟩,F.binds hb⟩
theorem aLL (X:K.In h) (G:h.Ns ai mg) {f0:ae} (cg:Rg K ai "Desk" = some (some (.ref C))) (pg:Ue K C aj.empty=true) (hd:Ul K C=true) (po:Vb K C=true) (sa:Rm K (.ref C) "__setattr__" = some (some (.builtin "object.__setattr__"))) (n1:Rm K (.ref C) "dealing" = some none) (m1:Vj K C=true) (m2:Rm K (.ref C) "__init__" = some (some (.ref f0))) (m3:Um K (.ref f0)=true) (m4:Ri K (.ref C)=true) (hIn:∃ f fd,we K C "__init__" yR ["self"] f fd) (KZ:∃ f fd,we K C "say" xR ["self", "row"] f fd):∃ Ck,A7 K Ck/\mg "Desk" = some (.ref Ck)/\(∃ f fd,Mk K Ck f/\we K Ck "__init__" yR ["self"] f fd)/\(∃ f fd,we K Ck "say" xR ["self", "row"] f fd):=by
 obtain ⟨f,fd,M⟩:=hIn;have e:f=f0:=by
  have:=M.me.at_.symm.trans m2;injection this with this;injection this with this;injection this
 subst e;exact ⟨C,⟨⟨pg,hd,po,sa⟩,n1⟩,Rh X G cg,⟨f,fd,⟨m1,m2,m3,m4⟩,M⟩,KZ⟩
theorem aLM (X:K.In h) (G:h.Ns ai mg) {t0 t1 t2 t3 t4 t5 t6 t7 t8:df} (g:Rg K ai "DEEDS" = some (some (.ref dd))) (g0:Rg K ai "say_put" = some (some (.ref a0))) (g1:Rg K ai "say_take" = some (some (.ref a1))) (g2:Rg K ai "say_come" = some (some (.ref a2))) (g3:Rg K ai "say_go" = some (some (.ref a3))) (g4:Rg K ai "say_loads" = some (some (.ref a4))) (g5:Rg K ai "say_parts" = some (some (.ref a5))) (g6:Rg K ai "say_deal" = some (some (.ref a6))) (g7:Rg K ai "say_moved" = some (some (.ref a7))) (g8:Rg K ai "say_waits" = some (some (.ref a8))) (l:K.lookup dd=some ⟨.type "dict",none,.dict #[⟨au.keyHash w.params "put",.str "put" t0,.ref a0⟩,⟨au.keyHash w.params "take",.str "take" t1,.ref a1⟩,⟨au.keyHash w.params "come",.str "come" t2,.ref a2⟩,⟨au.keyHash w.params "go",.str "go" t3,.ref a3⟩,⟨au.keyHash w.params "loads",.str "loads" t4,.ref a4⟩,⟨au.keyHash w.params "parts",.str "parts" t5,.ref a5⟩,⟨au.keyHash w.params "deal",.str "deal" t6,.ref a6⟩,⟨au.keyHash w.params "moved",.str "moved" t7,.ref a7⟩,⟨au.keyHash w.params "waits",.str "waits" t8,.ref a8⟩] ep,#[]⟩) (ns:(dd==br)=false):∃ dd a0 a1 a2 a3 a4 a5 a6 a7 a8,BD P w K dd (qm a0 a1 a2 a3 a4 a5 a6 a7 a8)/\mg "DEEDS" = some (.ref dd)/\mg "say_put" = some (.ref a0)/\mg "say_take" = some (.ref a1)/\mg "say_come" = some (.ref a2)/\mg "say_go" = some (.ref a3)/\mg "say_loads" = some (.ref a4)/\mg "say_parts" = some (.ref a5)/\mg "say_deal" = some (.ref a6)/\mg "say_moved" = some (.ref a7)/\mg "say_waits" = some (.ref a8):=by
 refine ⟨dd,a0,a1,a2,a3,a4,a5,a6,a7,a8,⟨λh' X'=>⟨_,_,_,X' dd _ l,⟨rfl,rfl,rfl⟩,rfl,?_,?_,(show ([.inr "put",.inr "take",.inr "come",.inr "go",.inr "loads",.inr "parts",.inr "deal",.inr "moved",.inr "waits"]:List Key).Nodup by decide +kernel)⟩,ns⟩,Rh X G g,Rh X G g0,Rh X G g1,Rh X G g2,Rh X G g3,Rh X G g4,Rh X G g5,Rh X G g6,Rh X G g7,Rh X G g8⟩
 ·intro e he;simp only [List.mem_toArray,Ql,Qv,or_false] at he;rcases he with rfl | rfl | rfl | rfl | rfl | rfl | rfl | rfl | rfl
  ·exact ⟨.inr "put",bH P w _ _,rfl⟩
  ·exact ⟨.inr "take",bH P w _ _,rfl⟩
  ·exact ⟨.inr "come",bH P w _ _,rfl⟩
  ·exact ⟨.inr "go",bH P w _ _,rfl⟩
  ·exact ⟨.inr "loads",bH P w _ _,rfl⟩
  ·exact ⟨.inr "parts",bH P w _ _,rfl⟩
  ·exact ⟨.inr "deal",bH P w _ _,rfl⟩
  ·exact ⟨.inr "moved",bH P w _ _,rfl⟩
  ·exact ⟨.inr "waits",bH P w _ _,rfl⟩
 ·exact .cons (bH P w _ _) rfl (.cons (bH P w _ _) rfl (.cons (bH P w _ _) rfl (.cons (bH P w _ _) rfl (.cons (bH P w _ _) rfl (.cons (bH P w _ _) rfl (.cons (bH P w _ _) rfl (.cons (bH P w _ _) rfl (.cons (bH P w _ _) rfl (.nil)))))))))
theorem aJk {l:Ic} {fa:ae} (t!:mg "law" = some (.ref fa)) (B:Bl mg) (J!:∃ Ck,A7 K Ck/\mg "Desk" = some (.ref Ck)/\(∃ f fd,Mk K Ck f/\we K Ck "__init__" yR ["self"] f fd)/\(∃ f fd,we K Ck "say" xR ["self", "row"] f fd)) (K!:∃ dd a0 a1 a2 a3 a4 a5 a6 a7 a8,BD l.prog w K dd (qm a0 a1 a2 a3 a4 a5 a6 a7 a8)/\mg "DEEDS" = some (.ref dd)/\mg "say_put" = some (.ref a0)/\mg "say_take" = some (.ref a1)/\mg "say_come" = some (.ref a2)/\mg "say_go" = some (.ref a3)/\mg "say_loads" = some (.ref a4)/\mg "say_parts" = some (.ref a5)/\mg "say_deal" = some (.ref a6)/\mg "say_moved" = some (.ref a7)/\mg "say_waits" = some (.ref a8)) (I?:∃ cE c,Cl K mg cE c) (I!:SA K mg) (K1:∃ f fd,Fn K mg "steps_to_least" lI ["book", "deal", "able", "measures"] f fd/\fd.code=.ref c) (hZ:∀ base:ag,base.BuiltinsAt mg Pt->Lm K mg base c Pt) (hW:∃ f fd,Fn K mg "is_whole" lZ ["thing"] f fd) (hH:∃ f fd,Fn K mg "are_hands" pI ["thing"] f fd) (Q6:∃ f fd,Fn K mg "is_work" pJ ["hands", "thing"] f fd) (RX:∃ f fd,Fn K mg "is_book" vX ["thing"] f fd) (RM:∃ f fd,Fn K mg "is_deal" HL ["book", "thing"] f fd) (Q0:∃ f fd,Fn K mg "need_book" MR ["book"] f fd) (QZ:∃ f fd,Fn K mg "need_deal" MQ ["book", "deal"] f fd) (hC:∃ f fd,Fn K mg "counted" kF ["hands", "deal"] f fd) (hL:∃ f fd,Fn K mg "loads" MP ["book", "deal"] f fd) (BG:∃ f fd,Fn K mg "handing" lH ["book", "deal"] f fd) (QS:∃ f fd,Fn K mg "reached" nQ ["rows", "first"] f fd) (QA:∃ f fd,Fn K mg "way_to" vY ["found", "last"] f fd) (QF:∃ f fd,Fn K mg "steps_of_take" qG ["book", "deal", "work"] f fd) (P_:∃ f fd,Fn K mg "waits" vQ ["book", "deal"] f fd) (RT:∃ f fd,Fn K mg "common" tR ["a", "b"] f fd) (Q5:∃ f fd,Fn K mg "lowest" tS ["a", "b"] f fd) (R0:∃ f fd,Fn K mg "are_weights" vR ["book", "thing"] f fd) (FH:∃ f fd,Fn K mg "need_weights" tT ["book", "weights"] f fd) (QB:∃ f fd,Fn K mg "is_within" oF ["able", "some"] f fd) (QL:∃ f fd,Fn K mg "sets_of" E2 ["hands"] f fd) (Q_:∃ f fd,Fn K mg "heaviest" lG ["hands", "rows"] f fd) (RY:∃ f fd,Fn K mg "blocks" jR ["book", "weights"] f fd) (QW:∃ f fd,Fn K mg "part_loads" rN ["book", "weights"] f fd) (QY:∃ f fd,Fn K mg "is_number" qB ["word"] f fd) (QM:∃ f fd,Fn K mg "show_fraction" HN ["fraction"] f fd) (P4:∃ f fd,Fn K mg "say_put" MW ["dealing", "numbers"] f fd) (PZ:∃ f fd,Fn K mg "say_take" vS ["dealing", "numbers"] f fd) (P':∃ f fd,Fn K mg "say_come" vT ["dealing", "numbers"] f fd) (P8:∃ f fd,Fn K mg "say_go" MS ["dealing", "numbers"] f fd) (P7:∃ f fd,Fn K mg "say_loads" oG ["dealing", "numbers"] f fd) (P0:∃ f fd,Fn K mg "say_parts" oH ["dealing", "numbers"] f fd) (P9:∃ f fd,Fn K mg "say_deal" qC ["dealing", "numbers"] f fd) (P5:∃ f fd,Fn K mg "say_moved" rO ["dealing", "numbers"] f fd) (PY:∃ f fd,Fn K mg "say_waits" rP ["dealing", "numbers"] f fd) (QP:∃ f fd,Fn K mg "is_row" vU ["words"] f fd) (QC:∃ f fd,Fn K mg "_law_e_whirl" HK ["cell", "at"] f fd) (QN:∃ f fd,Fn K mg "_law_e_scoop" nR ["jar", "many"] f fd) (R1:∃ f fd,Fn K mg "_law_e_able" vZ ["jar", "hands"] f fd) (RN:∃ f fd,Fn K mg "_law_e_deed" EW ["jar", "state"] f fd) (RE:∃ f fd,Fn K mg "_law_e_step" wA ["state", "deed"] f fd) (RZ:∃ f fd,Fn K mg "_law_e_begun" HJ ["hands"] f fd) (Q8:∃ f fd,Fn K mg "_law_e_kind" Hy ["caught"] f fd) (QD:∃ f fd,Fn K mg "_law_e_word" vP ["desk", "row"] f fd) (QX:∃ f fd,Fn K mg "_law_e_no_rows" tU [] f fd) (RG:∃ f fd,Fn K mg "_law_e_is_number" nM ["word"] f fd) (RD:∃ f fd,Fn K mg "_law_e_is_row" qF ["row"] f fd) (RV:∃ f fd,Fn K mg "_law_e_bent_rows" vV ["jar"] f fd) (QR:∃ f fd,Fn K mg "_law_e_refused" jD ["jar", "state"] f fd) (qe:∃ f fd,Fn K mg "_law_e_told" E1 ["desk"] f fd) (QQ:∃ f fd,Fn K mg "_law_e_row" EZ ["deed"] f fd) (QG:∃ f fd,Fn K mg "_law_e_thirteenth" HM ["desk", "state"] f fd) (Q3:∃ f fd,Fn K mg "law" Lu ["script"] f fd)
  : ∃ fd:bh,(∀ (s:ah) (v:aa),BindsTo s fd ⟨[v],[]⟩ [("script",v)])/\∀ base:ag,K.In base->base.Ns ai mg->base.BuiltinsAt mg Pt->c_ l.prog w K mg base d_ 13 fa fd ["script"] (Hu K Pt):=by
 obtain ⟨fST,dST,ST,hc⟩:=K1;obtain ⟨fW,dW,W⟩:=hW;obtain ⟨fH,dH,H⟩:=hH;obtain ⟨T?,dKw,Kw⟩:=Q6;obtain ⟨V?,dBP,BP⟩:=RX;obtain ⟨U?,dDP,DP⟩:=RM;obtain ⟨uw,uy,NB⟩:=Q0;obtain ⟨wa,wb,ND⟩:=QZ;obtain ⟨fC,dC,C⟩:=hC;obtain ⟨fL,dL,L⟩:=hL;obtain ⟨fHD,dHD,HD⟩:=BG;obtain ⟨fRC,dRC,RC⟩:=QS;obtain ⟨fWT,dWT,WT⟩:=QA;obtain ⟨fTK,dTK,TK⟩:=QF;obtain ⟨fWa,dWa,Wa⟩:=P_;obtain ⟨fCM,dCM,CM⟩:=RT;obtain ⟨fLL,dLL,LL⟩:=Q5;obtain ⟨fAW,dAW,AW⟩:=R0;obtain ⟨aan,aao,YG⟩:=FH;obtain ⟨fWI,dWI,WI⟩:=QB;obtain ⟨fSS,dSS,SS⟩:=QL;obtain ⟨fHV,dHV,HV⟩:=Q_;obtain ⟨fBK,dBK,BK⟩:=RY;obtain ⟨fPL,dPL,PL⟩:=QW;obtain ⟨fNM,dNM,NM⟩:=QY;obtain ⟨fSF,dSF,SF⟩:=QM;obtain ⟨P?,dXp,Xp⟩:=P4;obtain ⟨O?,dXt,Xt⟩:=PZ;obtain ⟨S!,dXc,Xc⟩:=P';obtain ⟨R!,dXg,Xg⟩:=P8;obtain ⟨Q?,dXl,Xl⟩:=P7;obtain ⟨P!,dXr,Xr⟩:=P0;obtain ⟨R?,dXd,Xd⟩:=P9;obtain ⟨Q!,dXm,Xm⟩:=P5;obtain ⟨O!,dXw,Xw⟩:=PY;obtain ⟨fRW,dRW,RW⟩:=QP;obtain ⟨fWH,dWH,WH⟩:=QC;obtain ⟨fSC,dSC,SC⟩:=QN;obtain ⟨fAB,dAB,AB⟩:=R1;obtain ⟨fDD,dDD,DD⟩:=RN;obtain ⟨fEP,dEP,EP⟩:=RE;obtain ⟨fBE,dBE,BE⟩:=RZ;obtain ⟨fKI,dKI,KI⟩:=Q8;obtain ⟨fWD,dWD,WD⟩:=QD;obtain ⟨fNR,dNR,NR⟩:=QX;obtain ⟨fEN,dEN,EN⟩:=RG;obtain ⟨fER,dER,ER⟩:=RD;obtain ⟨fBR,dBR,BR⟩:=RV;obtain ⟨fRF,dRF,RF⟩:=QR;obtain ⟨fTO,dTO,TO⟩:=qe;obtain ⟨fRO,dRO,RO⟩:=QQ;obtain ⟨fTH,dTH,TH⟩:=QG;obtain ⟨fLW,dLW,LW⟩:=Q3;obtain ⟨Cc,T,Kz,⟨Si,Sv,MK,J_⟩,⟨fBn,dBn,Pm⟩,⟨fDn,dDn,Ph⟩,⟨fCm,dCm,Pl⟩,⟨T!,dPu,JZ⟩,⟨S?,dTa,JY⟩,⟨V!,dCo,Ka⟩,⟨U!,dGo,vo⟩,⟨fDe,dDe,Pj⟩,⟨fLo,dLo,Pf⟩,⟨fMo,dMo,Pe⟩⟩:=I!;obtain ⟨Ck,Td,Ky,⟨EA,GZ,Nu,Pk⟩,⟨fSy,dSy,Pd⟩⟩:=J!;obtain ⟨dd,a0,a1,a2,a3,a4,a5,a6,a7,a8,DA,C3,g0,g1,g2,g3,g4,g5,g6,g7,g8⟩:=K!;have e0:=g0.symm.trans Xp.ue;cases e0;have e1:=g1.symm.trans Xt.ue;cases e1;have e2:=g2.symm.trans Xc.ue;cases e2;have e3:=g3.symm.trans Xg.ue;cases e3;have e4:=g4.symm.trans Xl.ue;cases e4;have e5:=g5.symm.trans Xr.ue;cases e5;have e6:=g6.symm.trans Xd.ue;cases e6;have e7:=g7.symm.trans Xm.ue;cases e7;have e8:=g8.symm.trans Xw.ue;cases e8;have e:=t!.symm.trans LW.ue;cases e;have R:Pr K mg fW fH T? V? uw U? wa fL dW dH dKw dBP uy dDP wb dL:=⟨W,H,Kw,BP,NB,DP,ND,⟨fC,dC,C⟩,L⟩
 refine ⟨dLW,λs v=>?_,λbase _ _ La=>?_⟩
 ·obtain ⟨oc,od,kV,doc,pm,an,fe,ct,sv,rfl,lk,ku⟩:=LW.fn.ex;exact .of_eq rfl
 ·have Z:=hZ base La;have mk:∀ {k nm st ps sp f d},Fn K mg nm st ps f d->c_ l.prog w K mg base d_ k f d ps sp->FF l.prog w K mg base d_ k nm st ps sp:=λg o=>⟨_,_,g,o⟩
  have mm:∀ {k C nm st ps sp f d},Mt K C nm st ps f d->c_ l.prog w K mg base d_ k f d ps sp->FM l.prog w K mg base d_ k C nm st ps sp:=λg o=>⟨_,_,g,o⟩
  have Z8:∀ {k C nm st ps sp f d},we K C nm st ps f d->c_ l.prog w K mg base (gk l.prog w) k f d ps sp->FD l.prog w K mg base (gk l.prog w) k C nm st ps sp:=λg o=>⟨_,_,g,o⟩
  have OW:=mk W (nU W B);have OH:=mk H (XW H B W);have YE:=mk Kw (XU Kw B W);have OC:=mk C (pL C B);have OST:=mk ST (aGz ST hc Z B HD RC WT);have OTK:=mk TK (aGA TK B C HD RC WT);have IE:=mm Pm (aGD Pm T B);have IC:=mm Ph (aGE Ph T B);have ID:=mm Pl (aGF Pl T);have YD:=mm Pf (aE7 Pf T IC OC);have OPu:c_ l.prog w K mg base d_ 3 T! dPu ["self", "able"] (Hq K Cc Pt):=aKs JZ T B YE IE IC YD OST ID;have OTa:c_ l.prog w K mg base d_ 3 S? dTa ["self", "number"] (HY K Cc):=aIy JY T B OW IE IC OTK ID;have OCo:c_ l.prog w K mg base d_ 2 V! dCo ["self"] (uD K Cc):=aGJ Ka T B ID;have OGo:c_ l.prog w K mg base d_ 2 U! dGo ["self"] (Hs K Cc):=aKr vo T B ID;have ODe:=mm Pj (aGI Pj T B);have OMo:=mm Pe (aGH Pe T);have Nq:c_ l.prog w K mg base d_ 3 Si Sv ["self", "hands"] (MB K Cc):=aIz J_ T B OH;have OWa:=mk Wa (aGV Wa B R);have OLL:=mk LL (aFh LL B CM);have OAW:=mk AW (aG5 AW B R);have Om:=mk YG (aFj YG OAW);have YB:=mk WI (aFk WI B);have OSS:=mk SS (aIU SS B);have OHV:=mk HV (aIV HV B OSS YB);have OBK:=mk BK (aFl BK B Om OHV OLL YB);have OPL:=mk PL (aHd PL B OBK);have ONM:=mk NM (aFa NM B);have OSF:=mk SF (aGW SF B);have E9:=mk SC (aGy SC B WH);have Nt:=mk AB (aIs AB B E9);have OBE:=mk BE (aGN BE);have YF:=mk EP (aID EP);have ODD:=mk DD (aIF DD B E9 Nt);obtain ⟨cE,c',Zc⟩:=I?;have Oo:c_ l.prog w K mg base (gk l.prog w) 3 Si Sv ["self", "hands"] (Nd K c'):=aGR J_ Zc OH;have OXp:=aFo Xp T B ⟨_,_,JZ,(OPu.yw.or (aIH JZ T B Zc YE))⟩;have OXt:=aDj Xt T ⟨_,_,JY,(OTa.yw.or (aGT JY T Zc OW))⟩;have OXc:=aDk Xc T B ⟨_,_,Ka,(OCo.yw.or (aGS Ka T B Zc))⟩;have OXg:=aHf Xg T ⟨_,_,vo,(OGo.yw.or (aKt vo T B Zc))⟩;have OXl:=aCj (P:=l.prog) (w:=w) (base:=base) Xl T B YD;have OXr:=aCm Xr T B IE OPL OSF;have OXd:=aDq Xd T B ODe;have OXm:=aCk Xm T B OMo;have OXw:=aCl Xw T B IE IC OWa;have ORW:=mk RW (aHe RW B ONM DA C3 aHy);have GQ:∀ x sp,qy K Cc Pt c' x sp->∃ fS fd,valueAt (qm P? O? S! R! Q? P! R? Q! O!) (.inr x)=some (.ref fS)/\c_ l.prog w K mg base (gk l.prog w) 9 fS fd ["dealing", "numbers"] sp/\dU K fd ["dealing", "numbers"] []/\Ri K (.ref fS)=true:=aKQ (c:=c') ⟨OXp.mono 'c',Xp.bd,Xp.kp⟩ ⟨OXt.mono 'c',Xt.bd,Xt.kp⟩ ⟨OXc.mono 'c',Xc.bd,Xc.kp⟩ ⟨OXg.mono 'c',Xg.bd,Xg.kp⟩ ⟨OXl.yw.mono 'c',Xl.bd,Xl.kp⟩ ⟨OXr.yw.mono 'c',Xr.bd,Xr.kp⟩ ⟨OXd.yw.mono 'c',Xd.bd,Xd.kp⟩ ⟨OXm.yw.mono 'c',Xm.bd,Xm.kp⟩ ⟨OXw.yw.mono 'c',Xw.bd,Xw.kp⟩;have Nr:c_ l.prog w K mg base d_ 1 EA GZ ["self"] (M4 Ck):=aHi Pk Td;have IB:=Z8 Pd (aKE Pd Td B Zc ORW DA C3 MK Kz J_ Nq Oo GQ);have OKI:=mk KI (aIG KI B Zc);have YC:=mk WD (aHk WD Zc Td IB OKI);have OTO:=mk TO (aI6 TO Td IB);have ONR:=mk NR (aFv NR);have OEN:=mk EN (aDt EN B);have OER:=mk ER (aFs ER B OEN);have OBR:=mk BR (aHp BR B E9 OER);have ORF:=mk RF (aDw RF B E9 Nt);have ORO:=mk RO (aI7 RO B);have OTH:=mk TH (aHw TH Td IB YF YC);exact aKO LW Td B Nu Ky E9 OBE Pk Nr IB ODD Nt YF YC ONR OBR ORF OTO ORO OTH
theorem walk {l:Ic} {q:bq} {d:DefRec} {K:Params->Rb} (hn:l.most=some 63) (El:d.params.defaults = []) (hq:importsNone q=true) (hY:∀ (w:bx) (h:ag),YP w h->(K w.params).In h) (hT:∀ (w:bx) (h:ag),YP w h->h.get? Pt=some (Ti #[])) (F:(∀ w:bx,Vy (K w.params) c Pt=true)->∀ (w:bx) (mg:aj->Option aa) (fa:ae) (h:ag),(K w.params).In h->h.Ns ai mg->mg d.name=some (.ref fa) ->
   ∃ fd:bh,(∀ (s:ah) (u:aa),BindsTo s fd ⟨[u],[]⟩ [("script",u)])/\∀ base:ag,(K w.params).In base->base.Ns ai mg->base.BuiltinsAt mg Pt->c_ l.prog w (K w.params) mg base d_ 13 fa fd ["script"] (Hu (K w.params) Pt)) (G!:∀ w:bx,(K w.params).lookup Pt=none) (hC:∀ w:bx,Vy (K w.params) c Pt=true) :
  Rac q loose XP YP l.row.toRowW d [] (λf vs=>Mv f vs) :=
 L2.aGe (n:=63) (k:=13) (x := "script") (CX:=λ_=>d_) (sp:=λw=>Hu (K w.params) Pt) (ts:=[(Pt,xT)]) hn 'c' El ⟨rfl,by decide,by decide,rfl⟩ hq hY
  (λw h Y p hp=>by rw [Qi.mp hp]; exact ⟨hT w h Y,G! w,c,Ml (hY w h Y) (hC w)⟩) (λb q q' h h'=>by simp_all) (λw mg fa h a b d=>let ⟨fd,h1,h2⟩:=F hC w mg fa h a b d; ⟨fd,h1,λbase k1 k2 k3=>h2 base k1 k2 (k3 _ (Qk ..))⟩)
  (λ_ _ a ns _ hO hS=>⟨a,ns,rfl,hS,hO.2 _ (Qk ..),λH' h=>⟨rfl,λp hp=>by rw [Qi.mp hp]; exact h⟩⟩) λ_ _ _ _ _ z=>z
end Ab
open PySem PySem.W PyProof.Rows
set_option maxRecDepth 100000 in
set_option maxHeartbeats 0 in
theorem PySem.Challenge.cw_ablehands_k54_desk_refuses_holds : PySem.Challenge.rw_ablehands_k54_desk_refuses.Holds := by
 w_on; o_law; k_head; (case hw=>w_witness2)
 k_fill
 refine' Ab.walk (l:=PySem.Challenge.rw_ablehands_k54_desk_refuses) rfl rfl 'd' (λw h Y=>PySem.W.km_in_of Y) (λw h Y=>PySem.W.km_tabs_of Y _ (Qj _ (Qk ..))) ?F ?KP ?HC
 case F =>
  intro hC w mg fa h KX G AA;refine' Ab.aJk AA ?B ?Cd ?BD ?Ce ?Cl ?K1 ?Z ?hW ?hH ?Q6 ?RX ?RM ?Q0 ?QZ ?hC ?hL ?BG ?QS ?QA ?QF ?P_ ?RT ?Q5 ?R0 ?FH ?QB ?QL ?Q_ ?RY ?QW ?QY ?QM ?P4 ?PZ ?P' ?P8 ?P7 ?P0 ?P9 ?P5 ?PY ?QP ?QC ?QN ?R1 ?RN ?RE ?RZ ?Q8 ?QD ?QX ?RG ?RD ?RV ?QR ?qe ?QQ ?QG ?Q3
  case Z =>
   intro base hb;exact ⟨hC w,by decide,hb⟩
  case K1 =>
   refine' Ab.aKP KX G (by intro _ _ _ _ _ _ us hl; obtain ⟨_,_,_,_,rfl⟩:=Ab.Z9 hl; rfl) ?a ?l ?c ?k
   (case a=>k_is); (case l=>k_is); (case c=>k_is); (case k=>k_is)
  case Cd =>
   refine' Ab.aLL KX G ?cg ?pg ?hd ?po ?sa ?n1 ?m1 ?m2 ?m3 ?m4 ?hIn ?KZ
   (case cg | pg | hd | po | sa | n1 | m1 | m2 | m3 | m4=>k_is)
   case hIn =>
    refine' Ab.TV (by intro _ _ _ _ _ _ us hl; obtain ⟨_,rfl⟩:=Ab.Kb hl; rfl) ?a ?i ?l ?c ?k
    (case a=>k_is); (case i=>k_is); (case l=>k_is); (case c=>k_is); (case k=>k_is)
   case KZ =>
    refine' Ab.TV (by intro _ _ _ _ _ _ us hl; obtain ⟨_,_,rfl⟩:=Ab.ln2 hl; rfl) ?a ?i ?l ?c ?k
    (case a=>k_is); (case i=>k_is); (case l=>k_is); (case c=>k_is); (case k=>k_is)
  case BD =>
   refine' Ab.aLM KX G ?g ?y0 ?y1 ?y2 ?y3 ?y4 ?y5 ?y6 ?y7 ?y8 ?l ?ns
   (case g=>k_is); (case y0 | y1 | y2 | y3 | y4 | y5 | y6 | y7 | y8=>k_is); (case l=>k_is); (case ns=>rfl)
  case Ce =>
   refine' Ab.aLK KX G ?zE ?qE ?z0 ?q0 ?z1 ?q1 ?z2 ?q2 ?z3 ?q3 ?z4 ?q4 ?z5 ?q5 ?z6 ?q6 ?z7 ?q7 ?z8 ?q8 ?z9 ?q9 ?DH ?JI ?nd
   (case zE=>k_is); (case qE=>kernel_rfl)
   (case z0 | z1 | z2 | z3 | z4 | z5 | z6 | z7 | z8 | z9 | DH=>k_is); (case q0 | q1 | q2 | q3 | q4 | q5 | q6 | q7 | q8 | q9 | JI=>kernel_rfl); (case nd=>decide)
  case Cl =>
   refine' Ab.aLJ KX G ?cg ?pg ?hd ?po ?sa ?n1 ?n2 ?n3 ?n4 ?n5 ?n6 ?m1 ?m2 ?m3 ?m4 ?hIn ?RU ?RJ ?RQ ?QV ?QE ?RP ?RB ?RK ?Q2 ?Q1
   (case cg | pg | hd | po | sa | n1 | n2 | n3 | n4 | n5 | n6 | m1 | m2 | m3 | m4=>k_is)
   all_goals (refine' Ab.aLI ?b ?a ?i ?l ?c ?k; (case a=>k_is); (case i=>k_is); (case l=>k_is); (case c=>k_is); (case k=>k_is); (case b=>(intro _ _ _ _ _ _ us hl; first | (obtain ⟨_,rfl⟩:=Ab.Kb hl; rfl) | (obtain ⟨_,_,rfl⟩:=Ab.ln2 hl; rfl))))
  case B =>
   apply Ab.aLG KX G <;> k_is
  all_goals (refine' Ab.aLF KX G ?b ?a ?l ?c ?k; (case a=>k_is); (case l=>k_is); (case c=>k_is); (case k=>k_is); (case b=>(intro _ _ _ _ _ _ us hl; first | exact (match us,hl with | [],_=>rfl) | (obtain ⟨_,rfl⟩:=Ab.Kb hl; rfl) | (obtain ⟨_,_,rfl⟩:=Ab.ln2 hl; rfl) | (obtain ⟨_,_,_,rfl⟩:=Ab.Z' hl; rfl))))
 case KP=>intro w; first | k_is | kernel_rfl
 case HC=>intro w; kernel_rfl
