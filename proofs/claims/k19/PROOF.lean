import PyProof.Rows.All
import Wide.All
import OpenK.AllK
import Wide.FinOn
import PyProof.EqAt
import PyProof.EqKinds
import PyProof.TupleCall
import PyProof.Rows.TupDisplay
import PyProof.DictCompW
import PyProof.WalksMore
import PyProof.MinMaxWalk
import PyProof.DictDisplay
import PyProof.DictWalks
import Lean
import PySem.Challenge.RW_ablehands_k19_handed_by_names
open List renaming length_map -> Qa,getElem?_eq_some_iff -> Qb,getElem?_eq_getElem -> Qc,getElem?_map -> Qd,mem_of_getElem? -> Qe,mem_cons_of_mem -> Qg,mem_cons_self -> Qi,length_append -> Qj,size_toArray -> Qk,mem_cons -> Ql,getD_eq_getElem?_getD -> Qn,map_append -> Qo,not_mem_nil -> Qp,length_take -> Qq,mem_singleton -> Qr,getElem?_append_left -> Qs,mem_iff_getElem? -> Qu,mem_map -> Qv,map_cons -> Qw,all_eq_true -> Qy,getElem?_zip_eq_some -> Qz,length_cons -> Ja,take_of_length_le -> Jb,take_succ -> Je,mem_append_right -> Jg,getElem?_append_right -> Ji,take_length -> Jj,mem_append -> Jk,mem_range -> Jm,map_map -> Jn,mem_append_left -> Jp,length_eq_zero_iff -> Jq,getElem_mem -> Jr,lookup_cons -> Jt,nodup_cons -> Jv,length_replicate -> Jw,length_drop -> Jy,getElem?_replicate -> Jz,mem_filter -> Xa,filter_append -> Xb,count_cons -> Xc,length_filter_le -> Xd,length_range -> Xe,any_eq_true -> Xg,getElem?_range -> Xh,find?_cons -> Xi,filter_cons_of_pos -> Xj,filter_cons_of_neg -> Xk,mem_of_mem_take -> Xl,foldl_append -> Xn,pairwise_iff_getElem -> Xo,append_nil -> Xq,filter_cons -> Xt,dropLast_concat_getLast -> Xu,getElem?_set -> Xv,map_congr_left -> Xw,length_nil -> Xx,any_cons -> Xz,take_append_drop -> Za,all_map -> Zb,flatten_replicate_singleton -> Zd,length_set -> Ze,eq_of_mem_replicate -> Zg,filterMap_cons -> Zh,replicate_succ -> Zi,length_pos_iff -> Zj,forIn_nil -> Zn,take_zero -> Zo,pairwise_cons -> Zp,length_singleton -> Zq,nil_append -> Zr,forIn_cons -> Zs,flatten_cons -> Zu,append_assoc -> Zv,count_append -> Zw,nodup_nil -> Zx,length_reverse -> Zy,contains_cons -> Yc,mem_singleton_self -> Yd,length -> Ye,ext_getElem? -> Yf,nodup_append -> Yg,pairwise_reverse -> Yj,cons_append -> Yk,isEmpty_nil -> Yl,getElem?_set_ne -> Ym,count_le_length -> Yn,of_mem_zip -> Yo,foldr_cons -> Yp,toList_toArray -> Yq,drop_zero -> Yv,drop_eq_getElem_cons -> Yw,getElem?_eq_none_iff -> Yx,count_singleton_self -> Yy,getElem?_take_of_lt -> Wa,length_erase_of_mem -> Wd,getElem?_inj -> We,all_cons -> Wf,getElem?_cons_zero -> Wh,getElem?_cons_succ -> Wi,countP_cons -> Wj,getElem?_set_self -> Wk,drop_of_length_le -> Wl,singleton_append -> Wo,any_map -> Wp,length_zip -> Wq,range_succ -> Wr,getElem?_of_mem -> Wu,count_singleton -> Wv,reverse_reverse -> Ww,mem_of_mem_drop -> Wx,getElem?_append -> Wy,count_cons_self -> Wz,reverse_append -> Qab,flatten_append -> Qac,mergeSort_perm -> Qae,mem_filterMap -> Qaf,filterMap_map -> Qag,getElem?_drop -> Qaj,map_take -> Qal,map_drop -> Qam,map_replicate -> Qan,count_eq_zero -> Qao,map_nil -> Qap
open Nat renaming le_refl -> Qh,lt_of_lt_of_le -> Qt,ne_of_lt -> Qx,le_trans -> Jd,zero_le -> Jl,lt_irrefl -> Jo,lt_succ_of_lt -> Ju,ne_of_gt -> Xm,le_add_right -> Xs,lt_succ_self -> Xy,le_succ_of_le -> Zf,succ_le_succ -> Zk,not_lt_zero -> Zt,lt_of_le_of_lt -> Ya,le_of_lt -> Yh,lt_trans -> Yi,lt_or_ge -> Ys,eq_zero_or_pos -> Yu,le_succ -> Qaa,sub_zero -> Qaq,min_self -> Qar,zero_add -> Qat,sub_self -> Qau
open Bool renaming false_ne_true -> Qm,and_eq_true -> Jf,false_eq_true -> Jh,true_and -> Jx,eq_iff_iff -> Xf,and_false -> Xp,not_eq_true -> Zl,false_and -> Zm,not_eq_true' -> Wb,not_true -> Wg,or_eq_true -> Wm,false_or -> Qai,and_true -> Qak,true_or -> Qas
open Int renaming toNat_natCast -> Jc,le_refl -> Js,zero_add -> Zz,natCast_add -> Yb,toNat_of_nonneg -> Yr,emod_lt_of_pos -> Yt,emod_nonneg -> Wn,add_mul -> Qad,le_trans -> Qav
open Option renaming map_some -> Xr,isSome_iff_exists -> Yz,isSome_map -> Wc,isSome_some -> Qah
open PySem renaming Value -> aa,Addr -> ae,Heap -> af,wpAny -> ag,Shared -> ah,Builtin -> ai,SetTable -> aj,sizeLine -> ak,model -> ao,mainGlobals -> aq,PyData -> ar,starEach -> au,Str -> ax,bootBuiltins -> ay,PassesOwn -> az,compareOp -> bc,World -> bf,sysModules -> bg,NameKind -> bj,FuncData -> bo,Expr -> bq,Program -> br,Stmt -> bt,Around -> bw,Obj -> bz,IsPair -> cb,IsEnum -> cg,Paired -> cm,cLine -> cn,getItem -> cp,keywordEach -> cq,bindArgs -> cu,backTo -> cy,Walks -> cz,Scope -> c7,Env -> c8,DictEntry -> c9,Tok -> dc,backToKw -> dg,IsPart -> dj,IsEnumOut -> dk,ZipApart -> dm,Keyword -> dr,BindsTo -> dt
open PySem renaming wpAny_bind -> Ra,wpAny_pure -> Rb,sizeLine_eq -> Rf,wpAny_callSpecial?_slot -> Rg,wpAny_call_entry -> Ri,wpAny_setField_rec -> Rj,wpAny_newObj_type -> Rk,wpAny_holding -> Rm,wpAny_field -> Rn,wpAny_mono -> Rp,wpAny_loadPart' -> Ru,wpAny_truthy_bool -> Rv,wpAny_loadPart_at -> Rw,wpAny_standAt -> Td,wpAny_Call_Name_kw -> Tf,wpAny_attempt -> Tg,wpAny_seqItems -> Th,codeAny_builtin -> Ti,wpAny_fieldsOf -> Tj,wpAny_setState_of -> Tn,wpAny_ite_split -> Tq,wpAny_pyIter_list -> Tr,plainId_quiet -> Tt,wpAny_rule -> Tu,wpAny_isInstance -> Tw,wpAny_typeNameOfWhole_keyiter -> Tx,wpAny_typeNameOfWhole_valiter -> Ua,wpAny_passesOwn -> Ub,size_of_entries -> Uc,wpAny_dictEntries -> Ud,mem_of_lookup -> Ue,call_meets -> Ui,wpAny_letGo -> Uj,codeAny_mono -> Um,wpAny_askSetting -> Uo,wpAny_typeNameOf_keyiter -> Us,wpAny_typeNameOf_valiter -> Ut,wpAny_dictEpoch -> Uu,tupleKind_room_in1 -> Uv,wpAny_setField -> Uy,isSubtype_stop -> Uz,wpAny_tryCatch -> Va,wpAny_isOneOf_valiter -> Vc,wpAny_pyIter_zip -> Vd,wpAny_of_eq -> Vf,codeAny_call_builtin -> Vg,wpAny_ite_false -> Vh,wpAny_updateSeq -> Vi,wpAny_pyIter_enum -> Vj,wpAny_pyIter_slot -> Vk,noFill_tuple_add -> Vm,concat_meets -> Vo,wpAny_typeOf -> Vp,wpAny_execs_nil -> Vr,codeAny_of_tree -> Vs,builtinLookup_eq_fast -> Vu,wpAny_isOneOf_keyiter -> Vv,wpAny_loadName_local -> Vy,wpAny_updateSeq_pair -> Vz,wpAny_newTuple -> Ia,seq_tuple_add -> Ie,evalPart_none -> Ig,wpAny_handled -> Ih,wpAny_onRaise -> Ii,wpAny_Name -> Il,wpAny_pyIter_tuple -> Im,wpAny_call -> Io,typeIs_int -> Iq,callType_new -> Iz,wpAny_throw -> Ml,typeLookup_type -> Mu,isSubtype_type -> Mv,wpAny_letOwnedTupleGo_enum -> Mw,intKind_is -> Mx,wpAny_binaryOp_repeat_ref -> Rab,call -> Rac,seqIndex_neg -> Rad,codeAny_compStart_list -> Rae,seqSlot_of -> Raf,wpAny_isTrue_Compare1 -> Rag,wpAny_notOrdered_dict -> Rah,seqIndex_of -> Raj,wpAny_newFunctionEnv -> Rak,wpAny_alloc -> Ral,wpAny_pyIter_keyiter -> Ram,wpAny_loadName_cell -> Ran,wpAny_loadName_free -> Rao,argBest_lt -> Rar,wpAny_getItem_list -> Ras,wpAny_dictSet_heap -> Rau,wpAny_assign_Name -> Rav,wpAny_sequenceKey -> Rax,wpAny_collect_seq -> Ray,wpAny_pyIter_dict -> Raz,wpAny_execs_cons -> RaA,lookupAlong_cons -> RaB,wpAny_Dict_empty -> RaC,wpAny_stack_any -> RaM,wpAny_specialOf -> RaN
open PySem.W renaming Frag -> Rc,nsIn -> Rh,mg_none_of -> Rl,keepIn -> Ro,mg_of -> Rq,tabObj -> Rx,fnOf -> Tc,kla_fn -> Ur,codeHdIn -> Uw,codeIn -> Ve,CodeHd -> Vl,codeHd_of_K -> Vn,methodObj -> Vx,OpenLaw -> Ic,cellsFrom_some -> Mj,callWith_K -> My,km_tabs_of -> Raa,WalkO -> Rai
open PySem.F renaming slot_enumerate_next -> Rr,plainAttrs_list -> Rt,slot_zip_next -> Ry,slot_list_append -> Rz,type_list_append -> Ta,slot_tuple_iterator_next -> To,args_enumerate_next_1 -> Ts,entry_enumerate_next -> Tv,args_tuple_add_2 -> Ug,slot_tuple_count -> Uh,entry_tuple_add -> Uk,args_zip_next_1 -> Ul,slot_tuple_add -> Up,entry_zip_next -> Uq,typeOf_object_class -> Vb,args_tuple_iterator_next_1 -> Vq,entry_tuple_iterator_next -> Vt,typeCall_enumerate_1 -> Ib,newCall_enumerate_1 -> Ij,entry_enumerate_new -> Ik,args_tuple_count_2 -> Ir,args_object_init_3 -> Iu,args_object_init_2 -> Iv,entry_tuple_count -> Iw,plain_extend_loop -> Iy,called_enumerate -> Ma,slot_dict_values -> Mb,args_tuple_mul_2 -> Mc,plainAttrs_tuple -> Md,type_tuple_count -> Me,plain_list_iadd -> Mf,slot_list_count -> Mg,plainAttrs_dict -> Mh,entry_tuple_mul -> Mi,typeCall_zip_2 -> Mk,plain_set_new -> Mm,newCall_zip_2 -> Mn,entry_zip_new -> Mp,slot_set_iter -> Mq,slot_dict_get -> Mr,slot_int_rmul -> Mt,called_zip -> Mz
open PyProof.Rows renaming subscriptTail_builtinR -> Ux,Subscript_ -> Ip,entry_tuple_getitem -> Rap,args_tuple_getitem -> Raq,entry_list_sort -> RaL
open PySem.EqMixed renaming eq_bool_str -> RaD,eq_int_str -> RaE,eq_str_bool -> RaF,eq_str_int -> RaG,ne_bool_str -> RaH,ne_int_str -> RaI,ne_str_bool -> RaJ,ne_str_int -> RaK
open PySem.EqNone renaming eq_none_none -> RaO,eq_none_bool -> RaP,eq_none_int -> RaQ,eq_none_str -> RaR,eq_bool_none -> RaS,eq_int_none -> RaT,eq_str_none -> RaU,ne_none_none -> RaV,ne_none_bool -> RaW,ne_none_int -> RaX,ne_none_str -> RaY,ne_bool_none -> RaZ,ne_int_none -> Ra0,ne_str_none -> Ra1
open PySem
variable {XP:(ax->Option aa)->af->Prop} {a b it c f C dx sl I S i1 i2 l1 l2 C' fW fH fK fB jn fD jy fL Pt fN Cr Ct fE Cs fA:ae} {params:Arguments} {A:bw} {uo:Array (Option aa)} {items:Array aa} {L f1:Bool} {op:CmpOp} {bd:c8->ae->Sem Unit} {e tg iter value d elt oo fw kx vx:bq} {fd DK dW dH dK dB jo dD jz dL dN Bk Bn dE Bm dA:bo} {h h' base:af} {n lo:Int} {a_:List (ae×bz)} {ks:List (Int×dc)} {Ws:List (List (Nat×Int×Int))} {m:List (List Int×Int)} {ws:List (List Int)} {ss:List (Nat×Int×Int)} {cl:List (ax×ae)} {ch fp qs:List ae} {es ifs:List bq} {l ns os U hs rs ms hs' lv:List Int} {φ:List Int->Int} {fr:List Nat} {ds:List ar} {body:List bt} {N ps loose own fm:List ax} {us bm:List aa} {M:Model} {t' i j ep n2 x1:Nat} {qe ja:Nat->af->Prop} {P1 P2:Nat->aa->Prop} {o ob:bz} {an od:Option ae} {hi:Option Int} {z:Option ax} {pos pos' vo p apos yu p2 ir p1 p3:Pos} {P prog:br} {B:Prop} {K:Rc} {R:Result->ah->Prop} {sc scope:c7} {s s':ah} {st:bt} {x name qual q vn xn:ax} {kindOf:ax->Option bj} {mg:ax->Option aa} {T:String} {κ α β:Type} {u doc pm ft ct oc vl vu f0:aa} {E Q:aa->ah->Prop} {w:bf} {YP:bf->af->Prop}
namespace PySem.W.Fast
def tw12293498864094899172:=True
def tw6810267032075805911:=True
def tw12950364280334598174:=True
def tw1223953601370800838:=True
def tw15336003690758781010:=True
def tw17986466380397026946:=True
def tw6522971695586380592:=True
def tw366907242558971704:=True
def tw16245324694973024637:=True
def tw9943595284755665101:=True
def tw14979878828702837575:=True
def tw2547583840338158482:=True
def tw16436657496977976367:=True
def tw4493101207199670621:=True
def tw6824116750373732260:=True
def tw17759394373459811354:=True
def tw14338575127651857453:=True
def tw14824127489505305821:=True
def tw15858299910799306913:=True
def tw4343253992917437441:=True
def tw9783821888751696465:=True
def tw8115583473483904275:=True
def tw2773696228490632199:=True
def tw12701506758480285784:=True
def tw11223095044627642020:=True
def tw14955396327812077377:=True
def tw9086712576104546212:=True
def tw9468769403420405397:=True
def tw14697599939929062244:=True
def tw6717109294587401591:=True
def tw2505652921804439522:=True
def tw15090434151710330463:=True
def tw1279225521570249047:=True
def tw178039727911427061:=True
def tw2285112703685647079:=True
def tw15084153747324039158:=True
def tw9751855965589628162:=True
def tw7501883743648486885:=True
def tw9126804615988499452:=True
def tw285184236914962188:=True
def tw13456259694974936235:=True
def tw4707207921511232668:=True
def tw14657038704775233011:=True
def tw4537269279950314359:=True
def tw16979644869978055703:=True
def tw9948280526191191401:=True
def tw9232688066455509163:=True
def tw6810782333137278948:=True
def tw11678632153845120037:=True
def tw8695119257041111443:=True
def tw16635021353938251167:=True
def tw790349176639668366:=True
def tw13137843548368850712:=True
def tw5784804099473335675:=True
def tw2341407454486631762:=True
def tw14720950022134192668:=True
def tw4960258583257922593:=True
def tw15207055881796475475:=True
def tw6635082144902218335:=True
def tw4287130772934065770:=True
def tw7454637548124543301:=True
def tw10909257471892975874:=True
def tw14957639447468921846:=True
def tw16630160386353045391:=True
def tw14378820955815117244:=True
def tw8739974825202528690:=True
def tw16350062230046231049:=True
def tw16673672709988896330:=True
def tw1524666427595897807:=True
def tw14519494904618945551:=True
def tw4005100440700396199:=True
def tw3524800968574372905:=True
def tw3874284102952343830:=True
def tw12283896175139539513:=True
def tw1853910926809881814:=True
def tw15290772593141929376:=True
def tw13128023590342990923:=True
def tw14571604545206002501:=True
def tw9779483299323109334:=True
def tw1767043281757406172:=True
def tw14634434448352524197:=True
def tw11663162741348332226:=True
def tw3354322306450951982:=True
def tw16601730527104986612:=True
def tw10014181846727586469:=True
def tw15839939092634423791:=True
def tw12532537867653075308:=True
def tw7855745993933592138:=True
def tw3343579136626028131:=True
def tw14056467110682563217:=True
def tw9310376672222810237:=True
def tw9805707948071406022:=True
def tw12380547276727847712:=True
def tw18239327763421440981:=True
def tw17991560985593117769:=True
def tw11832470526396599066:=True
def tw15495897360217438962:=True
def tw4133570107457855587:=True
def tw17930667248593597704:=True
def tw12083155412519611484:=True
def tw12803496715618259564:=True
def tw13452398774705096471:=True
def tw8251899627013487644:=True
def tw3284033741999870684:=True
def tw2923737782046343896:=True
def tw1604259725368202063:=True
def tw15332799699386290518:=True
def tw9095466941913275651:=True
def tw5471230607630997083:=True
def tw2865728722613567163:=True
def tw11856734063001831768:=True
def tw4303302279348011144:=True
def tw1445719662944839096:=True
def tw7384660002089584085:=True
def tw11816721122498257520:=True
def tw10812889424857197544:=True
def tw2643731477475296931:=True
def tw2202143844364543042:=True
def tw15455673928905055801:=True
def tw16591000410588373334:=True
def tw3426486118072621021:=True
def tw1277651448732367397:=True
def tw11880045590606478306:=True
def tw17299208191753302915:=True
def tw11716173669770076338:=True
def tw15123720488948769238:=True
def tw199829936915559902:=True
def tw4881625795914572697:=True
def tw10336153389508206816:=True
def tw16002596578021124801:=True
def tw11446494098203341926:=True
def tw1936445383143735622:=True
def tw17395979443071865292:=True
def tw9843132185842777109:=True
def tw11923199582515991867:=True
def tw4661589883744352578:=True
def tw272931550743785617:=True
def tw15820705323581500227:=True
def tw13200361706686503650:=True
def tw15039363488126973910:=True
def tw6923708612100743175:=True
def tw11183942412665851691:=True
def tw4817198346432064172:=True
def tw14052830076509475737:=True
def tw13755481371347391570:=True
def tw17388954116176786999:=True
def tw15317473521209406114:=True
def tw10210624992873234962:=True
def tw6947531600382130778:=True
def tw10248588789143395011:=True
def tw6432515241573192560:=True
def tw14572158408201707756:=True
def tw3467478062876073128:=True
def tw2356242966284456077:=True
def tw6395368254022362607:=True
def tw17307454349092177481:=True
def tw2396811269573293760:=True
def tw12970891941650395431:=True
def tw6195368619368477802:=True
def tw2590191282951934088:=True
def tw9955301666968460620:=True
def tw10806581727300018603:=True
def tw4765761816907835812:=True
def tw11923573342046775978:=True
def tw7913733473607876588:=True
def tw3824720441986077170:=True
def tw12402554730918133050:=True
def tw11751132734835678433:=True
def tw1863022763779606108:=True
def tw8182079195802281928:=True
def tw17940346136199051117:=True
def tw8169066416345048686:=True
def tw12993998089333887597:=True
def tw13466951118401264812:=True
def tw7523616889707954506:=True
def tw8928520063609754599:=True
def tw14961102398227795267:=True
def tw7857303985663119875:=True
def tw3929513278596958556:=True
def tw5133818210782964181:=True
def tw11070271254132632476:=True
def tw797555687594793917:=True
def tw17963193883529808603:=True
def tw9456585319163574397:=True
def tw3026501852219665947:=True
def tw11447957392323508083:=True
def tw8047383663255097717:=True
def tw8538404451920183448:=True
def tw13436715863580741639:=True
def tw9704716638434835081:=True
def tw15706566636189147572:=True
end PySem.W.Fast
namespace L2
theorem Ψ (h:True:=by rfl):True:=h
def gj:Lean.Syntax:=Ψ._auto_1
theorem Φ (h:True:=by decide):True:=h
def ka:Lean.Syntax:=Φ._auto_1
theorem Ξ (h:True:=by intro _; rfl):True:=h
def u4:Lean.Syntax:=Ξ._auto_1
theorem Θ (h:True:=by first | exact .inl rfl | exact .inr rfl | assumption):True:=h
def CO:Lean.Syntax:=Θ._auto_1
theorem Δ (h:True:=by decide +kernel):True:=h
def CN:Lean.Syntax:=Δ._auto_1
theorem ω (h:True:=by exact rfl):True:=h
def EF:Lean.Syntax:=ω._auto_1
theorem ψ (h:True:=by with_unfolding_all rfl):True:=h
def LU:Lean.Syntax:=ψ._auto_1
end L2
set_option Elab.async false
set_option linter.all false
set_option maxRecDepth 100000
namespace L2
open PySem PySem.Spec PyProof.Rows
abbrev Key:=Sum Int ax
end L2
open L2
variable {b_:List (List Key×ae×aa)}
namespace L2
open PySem PySem.Spec PyProof.Rows
noncomputable def vI:Key->aa->Bool
 | .inl k,v=>aa.isInt k v
 | .inr x,v=>aa.isStrOf x v
noncomputable def χ (w:bf):Key->Int
 | .inl k=>hashInt k
 | .inr x=>hashStr w x
theorem cU:∀ {k:Key} {v:aa},vI k v=true->(∃ i t,k=Sum.inl i/\v=aa.int i t)∨(∃ x t,k=Sum.inr x/\v=aa.str x t)
 | .inl i,v,h=>by
  obtain ⟨t,e⟩:=aa.isInt_shape (k:=i) (v:=v) h
  exact .inl ⟨i,t,rfl,e⟩
 | .inr x,v,h=>by
  obtain ⟨t,e⟩:=aa.isStrOf_shape (x:=x) (v:=v) h
  exact .inr ⟨x,t,rfl,e⟩
theorem aCS (i:Int) (t:dc):vI (.inl i) (.int i t)=true:=by simp [vI,aa.isInt]
theorem aCT (x:ax) (t:dc):vI (.inr x) (.str x t)=true:=by simp [vI,aa.isStrOf]
theorem L! (a b:Int):decide ((Sum.inl a:Key)=Sum.inl b)=(a==b):=by
 by_cases e:a=b
 ·subst e; simp
 ·have h:¬ (Sum.inl a:Key)=Sum.inl b:=λq=>e (Sum.inl.inj q)
  rw [decide_eq_false h]
  exact (beq_eq_false_iff_ne.mpr e).symm
theorem K? (a b:ax):decide ((Sum.inr a:Key)=Sum.inr b)=decide (a=b):=by
 by_cases e:a=b
 ·subst e; simp
 ·have h:¬ (Sum.inr a:Key)=Sum.inr b:=λq=>e (Sum.inr.inj q)
  rw [decide_eq_false h,decide_eq_false e]
theorem K! (a:Int) (b:ax):decide ((Sum.inl a:Key)=Sum.inr b)=false:=decide_eq_false (λq=>nomatch q)
theorem J? (a:ax) (b:Int):decide ((Sum.inr a:Key)=Sum.inl b)=false:=decide_eq_false (λq=>nomatch q)
noncomputable def cA (prog:br) (w:bf):PySem.KeyKind prog w Key where
 is:=vI
 hash:=χ w
 inj:=λv a b ha hb=>by
  rcases cU ha with ⟨i,t,rfl,rfl⟩ | ⟨x,t,rfl,rfl⟩
  ·rcases cU hb with ⟨j,u,rfl,e⟩ | ⟨y,u,rfl,e⟩
   ·injection e with e1 _; rw [e1]
   ·exact nomatch e
  ·rcases cU hb with ⟨j,u,rfl,e⟩ | ⟨y,u,rfl,e⟩
   ·exact nomatch e
   ·injection e with e1 _; rw [e1]
 byValue:=λk v h=>by
  rcases cU h with ⟨i,t,rfl,rfl⟩ | ⟨x,t,rfl,rfl⟩ <;> rfl
 pyHash:=λhv h=>by
  rcases cU hv with ⟨i,t,rfl,rfl⟩ | ⟨x,t,rfl,rfl⟩
  ·exact wpAny_pyHash_int h
  ·exact wpAny_pyHash_str h
 eqBool:=λhu hv h=>by
  rcases cU hu with ⟨i,t,rfl,rfl⟩ | ⟨x,t,rfl,rfl⟩
  ·rcases cU hv with ⟨j,u,rfl,rfl⟩ | ⟨y,u,rfl,rfl⟩
   ·rw [L!] at h; exact wpAny_eqBool_int h
   ·rw [K!] at h; exact SeqAt.EqAt.int_str i t y u _ _ _ _ h
  ·rcases cU hv with ⟨j,u,rfl,rfl⟩ | ⟨y,u,rfl,rfl⟩
   ·rw [J?] at h; exact SeqAt.EqAt.str_int x t j u _ _ _ _ h
   ·rw [K?] at h; exact wpAny_eqBool_str h
 «strs»:=λk x t v h=>by
  rcases cU h with ⟨i,u,rfl,e⟩ | ⟨y,u,rfl,e⟩
  ·exact nomatch e
  ·injection e with e1 _
   subst e1
   cases v <;> rfl
theorem yU (prog:br) (w:bf) (i:Int) (t:dc):(cA prog w).is (.inl i) (.int i t)=true:=aCS i t
theorem yV (prog:br) (w:bf) (x:ax) (t:dc):(cA prog w).is (.inr x) (.str x t)=true:=aCT x t
inductive V where
 | f_ | bl (b:Bool) | int (i:Int) | str (x:ax) | r_ (b:Array UInt8) | yi (b:UInt64) | ref (a:ae) | ty (n:String)
 deriving DecidableEq
end L2
variable {kvs:List (List Key×V)} {ji:List (List V)} {xs ys vs zs:List V} {v y:V}
namespace L2
open PySem PySem.Spec PyProof.Rows
def bN:V->aa->Prop
 | .f_,u=>u=aa.none
 | .bl b,u=>u=aa.bool b
 | .int i,u=>∃ t,u=aa.int i t
 | .str x,u=>∃ t,u=aa.str x t
 | .r_ b,u=>∃ t,u=aa.bytes b t
 | .yi b,u=>∃ t,u=aa.float b t
 | .ref a,u=>u=aa.ref a
 | .ty n,u=>u=aa.type n
abbrev bM:List V->List aa->Prop:=cm bN
theorem bM.length (r:bM xs us):xs.length=us.length:=cm.length r
theorem bM.get:∀ {xs:List V} {us:List aa} {i:Nat} {x:V},bM xs us->xs[i]?=some x->∃ u,us[i]?=some u/\bN x u
 | _,_,_,_,.nil,e=>by simp at e
 | _,_,0,_,.cons r _,e=>by simp at e; subst e; exact ⟨_,rfl,r⟩
 | _,_,i+1,x,.cons _ t,e=>by
  obtain ⟨u,h1,h2⟩:=bM.get (i:=i) (x:=x) t (by simpa using e)
  exact ⟨u,by simpa using h1,h2⟩
theorem bM.set {x:V} (r:bN x u):∀ {xs:List V} {us:List aa} (i:Nat),bM xs us->bM (xs.set i x) (us.set i u)
 | _,_,_,.nil=>.nil
 | _,_,0,.cons _ t=>.cons r t
 | _,_,i+1,.cons q t=>.cons q (bM.set r i t)
theorem bM.append:∀ {xs ys:List V} {us ws:List aa},bM xs us->bM ys ws->bM (xs++ys) (us++ws)
 := by
 intro xs ys us ws h s
 induction h with
 | nil=>exact s
 | cons r t ih=>exact .cons r ih
theorem bM.take:∀ {xs:List V} {us:List aa} (n:Nat),bM xs us->bM (xs.take n) (us.take n)
 | _,_,0,_=>.nil
 | _,_,_+1,.nil=>.nil
 | _,_,n+1,.cons r t=>.cons r (bM.take n t)
theorem bM.drop:∀ {xs:List V} {us:List aa} (n:Nat),bM xs us->bM (xs.drop n) (us.drop n)
 | _,_,0,r=>r
 | _,_,_+1,.nil=>.nil
 | _,_,n+1,.cons _ t=>bM.drop n t
def nR:Option V->Option aa->Prop
 | some v,some u=>bN v u
 | none,none=>True
 | _,_=>False
def KV:List (κ×V)->List (κ×aa)->Prop:=cm λ(p:κ×V) (q:κ×aa)=>p.1=q.1/\bN p.2 q.2
noncomputable def kV:Key->V
 | .inl i=>.int i
 | .inr x=>.str x
inductive HO where
 | lst (xs:List V)
 | tup (xs:List V)
 | dK (kvs:List (Key×V)) | dT (kvs:List (List Key×V))
 | set (S:Int->Bool) (n:Nat)
 | ins (C dx:ae) (fs:List (ax×V))
 | own (x:ae)
 | xd (fs:List (ax×V))
 | met (f x:ae)
 | ow (lo hi:Int)
 | gh (o:bz) (u:HO)
 | zu (ps:Array aa)
 | tab (q:ax)
 | ext (φ:af->Prop)
abbrev Hp:=ae->Option HO
end L2
variable {H H' H1 H2 H0:Hp} {Qf:Hp->List V->Prop}
namespace L2
open PySem PySem.Spec PyProof.Rows
noncomputable def upd (H:Hp) (a:ae) (o:HO):Hp:=λb=>if b=a then some o else H b
theorem aB {o:HO}:upd H a o a=some o:=by unfold upd; rw [if_pos rfl]
theorem aG {o:HO} (h:b≠a):upd H a o b=H b:=by unfold upd; rw [if_neg h]
theorem aF0 {o u:HO}:upd (upd H a o) a u=upd H a u:=by
 funext b; unfold upd; split <;> rfl
theorem PX {o u:HO} (h:H a=some o) (h':H b=some u) (d:o≠u):a≠b:=by
 intro e; subst e; rw [h] at h'; exact d (Option.some.inj h')
theorem gI {o:HO} (h:H a=some o) (h':H b=none):a≠b:=by
 intro e; subst e; rw [h] at h'; cases h'
section
variable (P:br) (w:bf)
def bJ (H:Hp) (h:af) (a:ae):HO->Prop
 | .lst xs=>xs.length<=ak/\∃ (b_:List aa) (n:Nat),bM xs b_/\h.get? a=some { cls:=.type "list",data:=.seq b_.toArray n }
 | .tup xs=>xs.length<=ak/\∃ (b_:List aa) (n:Nat),bM xs b_/\h.get? a=some { cls:=.type "tuple",data:=.seq b_.toArray n }
 | .dK kvs=>kvs.length<=ak/\(a==bg)=false/\∃ vs,KV kvs vs/\h.DictOf (cA P w) a vs
 | .dT kvs => kvs.length <= ak /\ (a == bg) = false /\ ∃ xs : List (List Key × ae × aa),
     cm (λ(p:List Key×V) (q:List Key×ae×aa)=>p.1=q.1/\H q.2.1=some (.tup (p.1.map kV))/\bN p.2 q.2.2) kvs xs /\
     ∃ o es ep,h.get? a=some o/\o.ExactDict/\o.data=.dict es ep/\es.toList=xs.map (entryOfKey (tupleKind (cA P w)))/\(xs.map (·.1)).Nodup
 | .set S n=>h.SetOf (intKind P w) a S n
 | .ins C dx fs => H dx = some (.own a) /\ fs.length <= 1000 /\ dx ≠ a /\ h.get? a = some (PySem.W.instObj C dx) /\
     ∃ mA,h.Ns1 dx mA/\(∀ f,nR (fs.lookup f) (mA f))/\PySem.Within mA (fs.map (·.1))
 | .own _=>∃ o,h.get? a=some o
 | .xd fs=>∃ mA,h.Ns1 a mA/\∀ f,nR (fs.lookup f) (mA f)
 | .ow lo hi=>∃ t u v,h.get? a=some { cls:=.type "range",data:=.fields #[.int lo t,.int hi u,.int 1 v] }
 | .gh o u=>h.get? a=some o/\bJ H h a u
 | .zu ps=>h.get? a=some { cls:=.none,data:=.fields ps }
 | .tab q=>∃ ps:Array aa,h.get? a=some { cls:=.none,data:=.fields ps }/\TriplesOk ps.toList/\∀ (pos:Pos) (cv:aa),codeAmong pos ps.toList=some cv->∃ (c:ae) (o:bz) (vs:Array aa) (t:dc),cv=.ref c/\H c=some (.own a)/\h.get? c=some o/\o.data=.fields vs/\vs[1]?=some (.str q t)
 | .met f x=>h.get? a=some (Vx (.ref f) (.ref x))
 | .ext φ=>φ h/\(∃ o,h.get? a=some o)/\∀ h1 h2:af,φ h1->(∀ o,h1.get? a=some o->h2.get? a=some o)->φ h2
def jq (H:Hp) (h:af):Prop:=∀ a o,H a=some o->bJ P w H h a o
end
section
variable {o:HO}
theorem bJ.lt (x:bJ P w H h a o):a < h.objs.size:=by
 cases o with
 | lst xs=>obtain ⟨_,_,_,_,e⟩:=x; exact af.lt_size e
 | tup xs=>obtain ⟨_,_,_,_,e⟩:=x; exact af.lt_size e
 | dK kvs=>obtain ⟨_,_,_,_,o,_,_,e,_⟩:=x; exact af.lt_size e
 | dT kvs=>obtain ⟨_,_,_,_,o,_,_,e,_⟩:=x; exact af.lt_size e
 | set S n=>obtain ⟨o,_,_,_,e,_⟩:=x; exact af.lt_size e
 | ins C dx fs=>obtain ⟨_,_,_,e,_⟩:=x; exact af.lt_size e
 | own y=>obtain ⟨_,e⟩:=x; exact af.lt_size e
 | xd fs=>obtain ⟨_,⟨_,_,_,e,_⟩,_⟩:=x; exact af.lt_size e
 | ow lo hi=>obtain ⟨_,_,_,e⟩:=x; exact af.lt_size e
 | gh ob u=>obtain ⟨e,_⟩:=x; exact af.lt_size e
 | zu ps=>exact af.lt_size (show h.get? a=some _ from x)
 | tab q=>obtain ⟨_,e,_⟩:=x; exact af.lt_size e
 | met f y=>exact af.lt_size (show h.get? a=some _ from x)
 | ext φ=>obtain ⟨_,⟨_,e⟩,_⟩:=x; exact af.lt_size e
theorem cm.Ea {F G:α->β->Prop}:∀ {GF:List α} {GA:List β},cm F GF GA->(∀ a b,F a b->G a b)->cm G GF GA
 := by
 intro GF GA h f
 induction h with
 | nil=>exact .nil
 | cons r t ih=>exact .cons (f _ _ r) ih
theorem bJ.ib (x:bJ P w H h a o) (k:∀ b u,(b=a∨H b=some (.own a))->h.get? b=some u->h'.get? b=some u)
  (ho:∀ b,H b=some (.own a)->H' b=some (.own a)) (ht:∀ b xs,H b=some (.tup xs)->H' b=some (.tup xs)):bJ P w H' h' a o:=by
 induction o with
 | lst xs=>obtain ⟨z,b_,n,r,e⟩:=x; exact ⟨z,b_,n,r,k _ _ (.inl rfl) e⟩
 | tup xs=>obtain ⟨z,b_,n,r,e⟩:=x; exact ⟨z,b_,n,r,k _ _ (.inl rfl) e⟩
 | dK kvs=>obtain ⟨z,y,vs,r,ob,es,ep,e,c⟩:=x; exact ⟨z,y,vs,r,ob,es,ep,k _ _ (.inl rfl) e,c⟩
 | dT kvs =>
  obtain ⟨z,y,xs,r,ob,es,ep,e,c⟩:=x
  exact ⟨z,y,xs,cm.Ea r λp q z=>⟨z.1,ht _ _ z.2.1,z.2.2⟩,ob,es,ep,k _ _ (.inl rfl) e,c⟩
 | set S n=>obtain ⟨ob,es,ep,t,e,c⟩:=x; exact ⟨ob,es,ep,t,k _ _ (.inl rfl) e,c⟩
 | ins C dx fs =>
  obtain ⟨d,z,ne,e,mA,⟨od,es,ep,e2,c⟩,r⟩:=x
  exact ⟨ho _ d,z,ne,k _ _ (.inl rfl) e,mA,⟨od,es,ep,k _ _ (.inr d) e2,c⟩,r⟩
 | own y=>obtain ⟨ob,e⟩:=x; exact ⟨ob,k _ _ (.inl rfl) e⟩
 | xd fs=>obtain ⟨mA,⟨od,es,ep,e,c⟩,r⟩:=x; exact ⟨mA,⟨od,es,ep,k _ _ (.inl rfl) e,c⟩,r⟩
 | ow lo hi=>obtain ⟨t,u,v,e⟩:=x; exact ⟨t,u,v,k _ _ (.inl rfl) e⟩
 | gh ob u ih=>obtain ⟨e,q⟩:=x; exact ⟨k _ _ (.inl rfl) e,ih q⟩
 | zu ps =>
  have e:h.get? a=some { cls:=.none,data:=.fields ps }:=x
  show h'.get? a=some { cls:=.none,data:=.fields ps }
  exact k a _ (.inl rfl) e
 | tab q =>
  obtain ⟨ps,e,z,r⟩:=x
  refine ⟨ps,k _ _ (.inl rfl) e,z,λpos cv q=>?_⟩
  obtain ⟨c,o,vs,t,r1,r2,r3,r4⟩:=r pos cv q
  exact ⟨c,o,vs,t,r1,ho _ r2,k _ _ (.inr r2) r3,r4⟩
 | met f y =>
  have e:h.get? a=some (Vx (.ref f) (.ref y)):=x
  show h'.get? a=some (Vx (.ref f) (.ref y))
  exact k a _ (.inl rfl) e
 | ext φ=>obtain ⟨p,⟨o,e⟩,st⟩:=x; exact ⟨st _ _ p λo q=>k _ _ (.inl rfl) q,⟨o,k _ _ (.inl rfl) e⟩,st⟩
theorem jq.lt (x:jq P w H h) (e:H a=some o):a < h.objs.size:=(x a o e).lt
theorem jq.fresh (x:jq P w H h) (e:h.objs.size<=a):H a=none:=by
 cases q:H a with
 | none=>rfl
 | some u=>exact absurd (Qt (x.lt q) e) (Jo _)
theorem jq.kept (x:jq P w H h) (k:∀ b u,h.get? b=some u->h'.get? b=some u):jq P w H h':=λa o e =>
 (x a o e).ib (λb u _ q=>k b u q) (λ_ q=>q) λ_ _ q=>q
theorem jq.laid (x:jq P w H h) (k:∀ b u,h.get? b=some u->h'.get? b=some u) (hp:h.objs.size<=a) (new:bJ P w (upd H a o) h' a o):jq P w (upd H a o) h':=λb u e=>by
 have hn:=x.fresh hp
 by_cases hb:b=a
 ·subst hb; rw [aB] at e; cases e; exact new
 ·rw [aG hb] at e
  exact (x b u e).ib (λc v _ q=>k c v q) (λc q=>by rw [aG (gI q hn)]; exact q) λc xs q=>by rw [aG (gI q hn)]; exact q
end
def Rd (H:Hp) (a:ae) (u:HO):Prop:=H a=some u∨∃ o,H a=some (.gh o u)
theorem Rd.ok {u:HO} (r:Rd H a u) (x:jq P w H h):bJ P w H h a u:=by
 rcases r with r | ⟨o,r⟩
 ·exact x a u r
 ·obtain ⟨_,q⟩:=x a _ r
  exact q
def ym:Option HO->Prop
 | some (.lst _)=>True
 | some (.dK _)=>True
 | some (.dT _)=>True
 | some (.set _ _)=>True
 | some (.ins _ _ _)=>True
 | some (.ext _)=>True
 | some (.tab _)=>True
 | _=>False
section
variable {x e:ae} {o':HO}
theorem jq.write (ok:jq P w H h) (mu:ym (H x)) (he:e=x∨H e=some (.own x)) (k:∀ b u,b≠e->h.get? b=some u->h'.get? b=some u) (Cj:∃ u,h'.get? e=some u)
  (new:bJ P w (upd H x o') h' x o'):jq P w (upd H x o') h':=λb u q=>by
 have D_:∀ c y,H c=some (.own y)->c≠x:=λc y r z=>by subst z; rw [r] at mu; exact mu
 have Ky:∀ c xs,H c=some (.tup xs)->c≠x:=λc xs r z=>by subst z; rw [r] at mu; exact mu
 by_cases hb:b=x
 ·subst hb; rw [aB] at q; cases q; exact new
 ·rw [aG hb] at q
  by_cases Bc:b=e
  ·have q':H b=some (.own x):=by
    rcases he with z | z
    ·exact absurd (Bc.trans z) hb
    ·rw [Bc]; exact z
   rw [q] at q'; cases q'
   obtain ⟨v,hv⟩:=Cj
   exact ⟨v,by rw [Bc]; exact hv⟩
  ·refine (ok b u q).ib (λc v hc r=>k c v ?_ r) (λc r=>by rw [aG (D_ c b r)]; exact r) λc xs r=>by rw [aG (Ky c xs r)]; exact r
   rcases hc with rfl | hc
   ·exact Bc
   ·rintro rfl
    rcases he with z | z
    ·exact D_ c b hc z
    ·rw [hc] at z; cases z; exact hb rfl
end
structure Un (fs ex:List ae) (H H':Hp) (h h':af):Prop where
 keep:∀ b o,h.get? b=some o->H b=none->b∉fs->b∉ex->h'.get? b=some o
 slot:∀ b o,h.get? b=some o->H b=none->b∈fs->b∉ex->∃ sl,h'.get? b=some { o with slots:=sl }
 free:∀ b o,h.get? b=some o->H b=none->b∉ex->H' b=none
 there:∀ b o,h.get? b=some o->b∉ex->∃ o',h'.get? b=some o'
 ly:∀ b xs,H b=some (.tup xs)->H' b=some (.tup xs)
 j6:∀ b o u,H b=some (.gh o u)->H' b=some (.gh o u)
 lz:∀ b ps,H b=some (.zu ps)->∃ more,H' b=some (.zu (ps++more))
section
variable {fs YI ex ex':List ae} {h1 h2:af} {x e:ae} {o:HO}
theorem Un.any (u:Un fs ex H H1 h h1) (q:h.get? b=some ob) (n:H b=none) (hx:b∉ex):∃ sl,h1.get? b=some { ob with slots:=sl }:=by
 by_cases hb:b∈fs
 ·exact u.slot b ob q n hb hx
 ·exact ⟨ob.slots,u.keep b ob q n hb hx⟩
theorem Un.kept (k:∀ b u,h.get? b=some u->h'.get? b=some u):Un fs ex H H h h' :=
 ⟨λb ob q _ _ _=>k b ob q,λb ob q _ _ _=>⟨ob.slots,k b ob q⟩,λ_ _ _ n _=>n,λb ob q _=>⟨ob,k b ob q⟩,λ_ _ q=>q,λ_ _ _ q=>q,λ_ ps q=>⟨#[],by rw [q]; simp⟩⟩
theorem Un.refl:Un fs ex H H h h:=Un.kept λ_ _ q=>q
theorem Un.laid (k:∀ b u,h.get? b=some u->h'.get? b=some u) (hp:h.objs.size<=a) (hn:H a=none):Un fs ex H (upd H a o) h h' where
 keep:=λb u q _ _ _=>k b u q
 slot:=λb u q _ _ _=>⟨u.slots,k b u q⟩
 free:=λb u q n _=>by rw [aG (Qx (Qt (af.lt_size q) hp))]; exact n
 there:=λb u q _=>⟨u,k b u q⟩
 ly:=λb xs q=>by rw [aG (gI q hn)]; exact q
 j6:=λb u xs q=>by rw [aG (gI q hn)]; exact q
 lz:=λb ps q=>⟨#[],by rw [aG (gI q hn),q]; simp⟩
theorem Un.write (mu:ym (H x)) (he:e=x∨H e=some (.own x)) (k:∀ b u,b≠e->h.get? b=some u->h'.get? b=some u) (Cj:∃ u,h'.get? e=some u):Un fs ex H (upd H x o) h h':=by
 have hx:∀ b,H b=none->b≠x:=λb n z=>by subst z; rw [n] at mu; exact mu
 have hb:∀ b,H b=none->b≠e:=λb n z=>by
  subst z
  rcases he with r | r
  ·exact hx b n r
  ·rw [n] at r; cases r
 have hm:∀ b u,H b=some u->¬ ym (some u)->b≠x:=λb u q nm z=>by subst z; rw [q] at mu; exact nm mu
 refine ⟨λb u q n _ _=>k b u (hb b n) q,λb u q n _ _=>⟨u.slots,k b u (hb b n) q⟩,λb u q n _=>by rw [aG (hx b n)]; exact n,λb u q _=>?_,
  λb xs q=>by rw [aG (hm b _ q λz=>z)]; exact q,λb u xs q=>by rw [aG (hm b _ q λz=>z)]; exact q,λb ps q=>⟨#[],by rw [aG (hm b _ q λz=>z),q]; simp⟩⟩
 by_cases Bc:b=e
 ·subst Bc; exact Cj
 ·exact ⟨u,k b u Bc q⟩
end
noncomputable def EH (h:af) (H:Hp):List ae:=(List.range h.objs.size).filter λa=>(H a).isSome
noncomputable def uQ (h:af) (H:Hp):af:=PySem.W.hideAll h (EH h H)
theorem aCU (h:af) (H:Hp):(uQ h H).objs.size=h.objs.size:=PySem.W.hideAll_size _ _
theorem aD1 (e:h.get? b=some o) (n:H b=none):(uQ h H).get? b=some o :=
 PySem.W.hideAll_get _ e λhm=>by
  have q:(H b).isSome=true:=(Xa.mp hm).2
  rw [n] at q; simp at q
theorem aF1 (e:(uQ h H).get? b=some o):h.get? b=some o/\H b=none:=by
 have e':h.get? b=some o:=PySem.W.of_hideAll (EH h H) e
 refine ⟨e',?_⟩
 cases q:H b with
 | none=>rfl
 | some x =>
  have hm:b∈EH h H:=Xa.mpr ⟨Jm.mpr (af.lt_size e'),by simp [q]⟩
  have z:(uQ h H).get? b=none:=PySem.W.hideAll_none (EH h H) hm
  rw [z] at e; cases e
noncomputable def aF2 (g h:af) (L:ae):List (ae×bz):=(List.range h.objs.size).filterMap λa=>if a=L∨(g.get? a).isSome=true then none else (h.get? a).map λo=>(a,o)
noncomputable def kU (g h:af) (L d:ae):List (ae×bz):=(aF2 g h L).filter λp=>decide (p.1≠d)
structure Mod (K:Rc) (mg:ax->Option aa) (base:af):Prop where
 B9:K.In base
 glob:base.Ns aq mg
 blt:∃ mb,base.Ns builtinsNs mb/\∀ x:ax,x ≠ "__name__" -> mb x=ay x
 nolimit:base.NoLimit
 mods:∃ mm,base.Ns bg mm
structure Cx where
 prog:br
 w:bf
 K:Rc
 mg:ax->Option aa
 base:af
 A:bw
 N:List ax
 jm:ah
 qk:Hp
 env:c8
 outer:List c8
 stack:List c8
 ex:List ae
 fn:ax->Bool
 calm:Bool
 pn:List (ae×bz)
 xe:aa->ah->Prop
end L2
variable {X Y:Cx}
namespace L2
open PySem PySem.Spec PyProof.Rows
noncomputable def rn (l:List c8):List ae:=l.filterMap (·.frame)
noncomputable abbrev Cx.fs (X:Cx):List ae:=rn X.outer
def D1 (sc:c7) (x:ax):Prop:=sc.names.lookup x=some .local∨sc.names.lookup x=some .cell∨sc.names.lookup x=some .free
def Loc (sc:c7) (x:ax):Prop:=sc.names.lookup x=some .local∨sc.names.lookup x=some .cell
theorem fi {a:α} {b:Prop}:a=a∨b:=.inl rfl
def Pe (env:c8) (h:af) (m:ax->Option aa) (x:ax) (u:aa):Prop :=
 (env.kindOf x=some .local/\m x=some u)∨((env.kindOf x=some .cell∨env.kindOf x=some .free)/\∃ c,env.cells.lookup x=some c/\h.IsCell c (some u))
structure Cx.Ok (X:Cx):Prop where
 mod:Mod X.K X.mg X.base
 kind:X.env.scope.kind=.function
 glob:X.env.globals=aq
 blt:X.env.builtins=builtinsNs
 above:X.jm.heap.objs.size<=X.env.locals
 inj:∀ x y c,X.env.cells.lookup x=some c->X.env.cells.lookup y=some c->x=y
 has:∀ x,(X.env.kindOf x=some .cell∨X.env.kindOf x=some .free)->∃ c,X.env.cells.lookup x=some c
 Bp:∀ x c,X.fn x=true->X.env.cells.lookup x=some c->X.jm.heap.objs.size<=c
 hd:X.calm=true->X.A.handled=none
 frames:X.A.frames=some X.stack
 EM:X.stack=X.outer∨(X.stack=X.env::X.outer/\X.env.frame=some X.env.locals)
 FH:∀ b∈X.ex,b≠X.env.locals/\∀ x c,X.env.cells.lookup x=some c->c≠b
 bs:∀ b o,X.base.get? b=some o->X.jm.heap.get? b=some o/\X.qk b=none
 Bq:X.base.objs.size<=X.jm.heap.objs.size
 o7:∀ b o,X.base.get? b=some o->b∉X.ex
 zj:∀ b∈X.ex,b∉X.fs
 l_:X.jm.heap.FunFrames X.base X.outer
 Cp:∀ b∈X.fs,X.qk b=none
structure Inv (X:Cx) (a_:List (ae×bz)) (σ:List (Option V)) (H:Hp) (s:ah):Prop where
 ok:X.Ok
 os:s.os=X.jm.os
 bare:AllBare s.gens
 base:Un X.fs X.ex X.qk H X.jm.heap s.heap
 loc:∃ m,s.heap.Ns X.env.locals m/\∀ (i:Nat) (x:ax) (v:V),X.N[i]?=some x->σ[i]?=some (some v)->D1 X.env.scope x->∃ u,bN v u/\Pe X.env s.heap m x u
 cell:∀ x c,X.env.cells.lookup x=some c->∃ v,s.heap.IsCell c v
 free:H X.env.locals=none
 g_:∀ x c,X.env.cells.lookup x=some c->H c=none
 pin:∀ p∈X.pn++a_,s.heap.get? p.1=some p.2/\H p.1=none/\p.1≠X.env.locals/\p.1∉X.fs/\∀ v,p.2.data≠.cell v
 fj:jq X.prog X.w H s.heap
 len:σ.length=X.N.length
section
variable {σ:List (Option V)}
theorem Cx.Ok.KA (ok:X.Ok) (e:X.base.get? b=some o):b∉X.fs:=λhb=>by
 have:=(ok.l_.mem hb).1
 rw [e] at this; cases this
theorem Inv.bs (I:Inv X a_ σ H s):∀ b o,X.base.get? b=some o->s.heap.get? b=some o/\H b=none:=λb o e =>
 ⟨I.base.keep b o (I.ok.bs b o e).1 (I.ok.bs b o e).2 (I.ok.KA e) (I.ok.o7 b o e),I.base.free b o (I.ok.bs b o e).1 (I.ok.bs b o e).2 (I.ok.o7 b o e)⟩
theorem Inv.bk (I:Inv X a_ σ H s):∀ b o,X.base.get? b=some o->s.heap.get? b=some o:=λb o e=>(I.bs b o e).1
theorem Inv.mod (I:Inv X a_ σ H s):Mod X.K X.mg X.base:=I.ok.mod
theorem Inv.rh (I:Inv X a_ σ H s):X.K.In s.heap:=I.ok.mod.B9.keeps I.bk
theorem Inv.nolimit (I:Inv X a_ σ H s):s.heap.NoLimit:=I.ok.mod.nolimit.keeps I.bk
theorem Inv.lt (I:Inv X a_ σ H s):X.env.locals < s.heap.objs.size:=let ⟨_,hn,_⟩:=I.loc; hn.lt
theorem Inv.sz (I:Inv X a_ σ H s):X.jm.heap.objs.size<=s.heap.objs.size:=Jd I.ok.above (Yh I.lt)
theorem Inv.BB (I:Inv X a_ σ H s) (h:s.heap.objs.size<=a):a∉X.fs:=λhb=>by
 obtain ⟨_,o,ho,_⟩:=I.ok.l_.mem hb
 exact absurd (Qt (af.lt_size ho) (Jd I.sz h)) (Jo _)
theorem Inv.Bo (I:Inv X a_ σ H s):∀ x c,X.env.cells.lookup x=some c->c≠X.env.locals:=λx c e z=>by
 obtain ⟨v,o,ho,hd⟩:=I.cell x c e
 obtain ⟨m,⟨o',es,ep,k_,i5,_⟩,_⟩:=I.loc
 rw [z,k_] at ho; cases ho; rw [i5] at hd; cases hd
theorem Inv.l_ (I:Inv X a_ σ H s):s.heap.FunFrames X.base X.outer:=by
 have all:∀ (l:List c8),(∀ b∈rn l,b∈X.fs)->X.jm.heap.FunFrames X.base l->s.heap.FunFrames X.base l:=by
  intro l
  induction l with
  | nil=>intro _ _; trivial
  | cons env r ih =>
   intro hs hl
   obtain ⟨hk,⟨L,o,hf,hn,ho,hd⟩,hr⟩:=hl
   have hL:L∈X.fs:=hs L (by unfold rn; rw [Zh,hf]; exact Qi)
   obtain ⟨sl,e⟩:=I.base.slot L o ho (I.ok.Cp L hL) hL λz=>I.ok.zj L z hL
   exact ⟨hk,⟨L,_,hf,hn,e,hd⟩,ih (λb hb=>hs b (by unfold rn; rw [Zh,hf]; exact Qg _ hb)) hr⟩
 exact all X.outer (λ_ hb=>hb) I.ok.l_
theorem Inv.stack (I:Inv X a_ σ H s):s.heap.FunFrames X.base X.stack:=by
 rcases I.ok.EM with e | ⟨e,hf⟩
 ·rw [e]; exact I.l_
 ·rw [e]
  obtain ⟨m,hn,_⟩:=I.loc
  refine .cons (by rw [I.ok.kind]; decide) hf hn ?_ I.l_
  exact af.get?_none_of_le (Jd I.ok.Bq I.ok.above)
theorem Inv.kg (I:Inv X a_ σ H s):∀ b∈rn X.stack,b∈X.env.locals::X.fs:=λb hb=>by
 rcases I.ok.EM with e | ⟨e,hf⟩
 ·rw [e] at hb; exact Qg _ hb
 ·rw [e] at hb
  unfold rn at hb
  rw [Zh,hf] at hb
  exact hb
theorem Inv.sk (I:Inv X a_ σ H s):∀ b∈rn X.stack,H b=none:=λb hb=>by
 rcases Ql.mp (I.kg b hb) with e | hb
 ·rw [e]; exact I.free
 ·obtain ⟨_,o,ho,_⟩:=I.ok.l_.mem hb
  exact I.base.free b o ho (I.ok.Cp b hb) λz=>I.ok.zj b z hb
theorem Inv.step {g':Array GenState} {d':Drawn} (I:Inv X a_ σ H s) (oj:∀ b∈ch,(b∈X.ex∨X.jm.heap.objs.size<=b)/\b≠X.env.locals/\(∀ x c,X.env.cells.lookup x=some c->c≠b)/\∀ p∈X.pn++a_,p.1≠b) (keep:∀ b o,b≠X.env.locals->b∉X.fs->b∉ch->s.heap.get? b=some o->H b=none->h'.get? b=some o) (slot:∀ b o,b≠X.env.locals->b∈X.fs->b∉ch->s.heap.get? b=some o->H b=none->∃ sl,h'.get? b=some { o with slots:=sl }) (free:∀ b o,b∉ch->s.heap.get? b=some o->H b=none->H' b=none) (there:∀ b o,b∉ch->s.heap.get? b=some o->∃ o',h'.get? b=some o') (ly:∀ b xs,H b=some (.tup xs)->H' b=some (.tup xs)) (j6:∀ b o u,H b=some (.gh o u)->H' b=some (.gh o u)) (lz:∀ b ps,H b=some (.zu ps)->∃ more,H' b=some (.zu (ps++more))) (ns:∀ m,s.heap.Ns X.env.locals m->h'.Ns X.env.locals m) (fj:jq X.prog X.w H' h') (hg:AllBare g') :
  Inv X a_ σ H' { s with heap:=h',gens:=g',drawn:=d',toks:=t' }:=by
 have MV:∀ b o,X.jm.heap.get? b=some o->b≠X.env.locals:=λb o e=>Qx (Qt (af.lt_size e) I.ok.above)
 have E1:∀ b o,X.jm.heap.get? b=some o->b∉X.ex->b∉ch:=λb o e hx hb=>by
  rcases (oj b hb).1 with z | z
  ·exact hx z
  ·exact absurd (Qt (af.lt_size e) z) (Jo _)
 have cellK:∀ x c,X.env.cells.lookup x=some c->∀ v,s.heap.IsCell c v->h'.IsCell c v:=λx c e v ⟨o,ho,hd⟩=>by
  have C2:c∉ch:=λz=>(oj c z).2.2.1 x c e rfl
  by_cases hc:c∈X.fs
  ·obtain ⟨sl,q⟩:=slot c o (I.Bo x c e) hc C2 ho (I.g_ x c e)
   exact ⟨_,q,hd⟩
  ·exact ⟨o,keep c o (I.Bo x c e) hc C2 ho (I.g_ x c e),hd⟩
 refine ⟨I.ok,I.os,hg,⟨λb o e n hb hx=>?_,λb o e n hb hx=>?_,λb o e n hx=>?_,λb o e hx=>?_,λb xs e=>ly b xs (I.base.ly b xs e),λb o xs e=>j6 b o xs (I.base.j6 b o xs e),λb ps e=>?_⟩,?_,λx c e=>?_,?_,λx c e=>?_,λp hp=>?_,fj,I.len⟩
 ·exact keep b o (MV b o e) hb (E1 b o e hx) (I.base.keep b o e n hb hx) (I.base.free b o e n hx)
 ·obtain ⟨sl,e1⟩:=I.base.slot b o e n hb hx
  obtain ⟨Gg,e2⟩:=slot b _ (MV b o e) hb (E1 b o e hx) e1 (I.base.free b o e n hx)
  exact ⟨Gg,e2⟩
 ·obtain ⟨o',e1⟩:=I.base.there b o e hx
  exact free b o' (E1 b o e hx) e1 (I.base.free b o e n hx)
 ·obtain ⟨o',e1⟩:=I.base.there b o e hx
  exact there b o' (E1 b o e hx) e1
 ·obtain ⟨m1,e1⟩:=I.base.lz b ps e
  obtain ⟨m2,e2⟩:=lz b _ e1
  exact ⟨m1++m2,by rw [e2,Array.append_assoc]⟩
 ·obtain ⟨m,hn,hl⟩:=I.loc
  refine ⟨m,ns m hn,λi x v e1 e2 e3=>?_⟩
  obtain ⟨u,r,l⟩:=hl i x v e1 e2 e3
  refine ⟨u,r,?_⟩
  rcases l with l | ⟨k,c,e,z⟩
  ·exact .inl l
  ·exact .inr ⟨k,c,e,cellK x c e _ z⟩
 ·obtain ⟨v,z⟩:=I.cell x c e
  exact ⟨v,cellK x c e v z⟩
 ·obtain ⟨m,⟨o,_,_,ho,_⟩,_⟩:=I.loc
  exact free _ o (λz=>(oj _ z).2.1 rfl) ho I.free
 ·obtain ⟨v,o,ho,hd⟩:=I.cell x c e
  exact free c o (λz=>(oj c z).2.2.1 x c e rfl) ho (I.g_ x c e)
 ·obtain ⟨e,n,ne,nf,d⟩:=I.pin p hp
  have C2:p.1∉ch:=λz=>(oj p.1 z).2.2.2 p hp rfl
  exact ⟨keep p.1 p.2 ne nf C2 e n,free p.1 p.2 C2 e n,ne,nf,d⟩
theorem Inv.un (I:Inv X a_ σ H s) (u:Un X.fs [] H H' s.heap h') (fj:jq X.prog X.w H' h'):Inv X a_ σ H' { s with heap:=h',toks:=t' }:=by
 obtain ⟨m,⟨o,es,ep,ho,r⟩,_⟩:=id I.loc
 obtain ⟨sl,hL⟩:=u.any ho I.free (by simp)
 exact I.step (g':=s.gens) (d':=s.drawn) (ch:=[]) (λ_ z=>nomatch z) (λb o _ hb _ e n=>u.keep b o e n hb (by simp)) (λb o _ hb _ e n=>u.slot b o e n hb (by simp)) (λb o _ e n=>u.free b o e n (by simp)) (λb o _ e=>u.there b o e (by simp)) u.ly u.j6 u.lz (λm' hm=>by
  obtain ⟨o',uw,yj,k_,r'⟩:=hm
  rw [ho] at k_; cases k_
  exact ⟨_,uw,yj,hL,r'⟩) fj I.bare
theorem Inv.call {g':Array GenState} {d':Drawn} (I:Inv X a_ σ H s) (u:Un (rn X.stack) ch H H' s.heap h') (fj:jq X.prog X.w H' h') (hg:AllBare g') (oj:∀ b∈ch,(b∈X.ex∨X.jm.heap.objs.size<=b)/\b≠X.env.locals/\(∀ x c,X.env.cells.lookup x=some c->c≠b)/\∀ p∈X.pn++a_,p.1≠b) :
  Inv X a_ σ H' { s with heap:=h',gens:=g',drawn:=d',toks:=t' }:=by
 obtain ⟨m,⟨o,es,ep,ho,r⟩,_⟩:=id I.loc
 obtain ⟨sl,hL⟩:=u.any ho I.free λz=>(oj _ z).2.1 rfl
 exact I.step (ch:=ch) oj (λb o hL hb hc e n=>u.keep b o e n (λz=>(Ql.mp (I.kg b z)).elim hL hb) hc) (λb o _ _ hc e n=>u.any e n hc) (λb o hc e n=>u.free b o e n hc) (λb o hc e=>u.there b o e hc) u.ly u.j6 u.lz (λm' hm=>by
  obtain ⟨o',uw,yj,k_,r'⟩:=hm
  rw [ho] at k_; cases k_
  exact ⟨_,uw,yj,hL,r'⟩) fj hg
theorem Inv.turned (I:Inv X a_ σ H s) (k:∀ b o,b≠it->s.heap.get? b=some o->h'.get? b=some o) (hn:H it=none) (hL:it≠X.env.locals) (h1:it∈X.ex∨X.jm.heap.objs.size<=it) (h2:∀ x c,X.env.cells.lookup x=some c->c≠it) (h3:∀ p∈X.pn++a_,p.1≠it):Inv X a_ σ H { s with heap:=h',toks:=t' }:=by
 have C1:∀ b u,H b=some u->b≠it:=λb u e z=>by rw [z,hn] at e; cases e
 refine I.step (g':=s.gens) (d':=s.drawn) (ch:=[it]) (λb hb=>?_) (λb o _ _ hc e _=>k b o (λz=>hc (by simp [z])) e) (λb o _ _ hc e _=>⟨o.slots,k b o (λz=>hc (by simp [z])) e⟩) (λ_ _ _ _ n=>n)
  (λb o hc e=>⟨o,k b o (λz=>hc (by simp [z])) e⟩) (λ_ _ e=>e) (λ_ _ _ e=>e) (λb ps e=>⟨#[],by rw [e]; simp⟩) (λm hm=>?_) (λb u e=>?_) I.bare
 ·have e:b=it:=by simpa using hb
  subst e
  exact ⟨h1,hL,h2,h3⟩
 ·obtain ⟨o,es,ep,ho,r⟩:=hm
  exact ⟨o,es,ep,k _ o (Ne.symm hL) ho,r⟩
 ·refine (I.fj b u e).ib (λc v hc q=>k c v ?_ q) (λ_ q=>q) λ_ _ q=>q
  rcases hc with z | z
  ·rw [z]; exact C1 b u e
  ·exact C1 c _ z
theorem Inv.tok (I:Inv X a_ σ H s) (t:Nat):Inv X a_ σ H { s with toks:=t }:=I.un (h':=s.heap) (t':=t) Un.refl I.fj
theorem Inv.kept (I:Inv X a_ σ H s) (k:∀ b u,s.heap.get? b=some u->h'.get? b=some u):Inv X a_ σ H { s with heap:=h',toks:=t' }:=I.un (Un.kept k) (I.fj.kept k)
theorem Inv.laid {o:HO} (I:Inv X a_ σ H s) (k:∀ b u,s.heap.get? b=some u->h'.get? b=some u) (hp:s.heap.objs.size<=a) (new:bJ X.prog X.w (upd H a o) h' a o) :
  Inv X a_ σ (upd H a o) { s with heap:=h',toks:=t' }:=I.un (Un.laid k hp (I.fj.fresh hp)) (I.fj.laid k hp new)
theorem Inv.write {x e:ae} {o:HO} (I:Inv X a_ σ H s) (mu:ym (H x)) (he:e=x∨H e=some (.own x)) (k:∀ b u,b≠e->s.heap.get? b=some u->h'.get? b=some u) (Cj:∃ u,h'.get? e=some u) (new:bJ X.prog X.w (upd H x o) h' x o):Inv X a_ σ (upd H x o) { s with heap:=h',toks:=t' }:=I.un (Un.write mu he k Cj) (I.fj.write mu he k Cj new)
theorem Inv.j8 {Ax:List (ae×bz)} (I:Inv X a_ σ H s) (h:∀ p∈Ax,s.heap.get? p.1=some p.2/\H p.1=none/\p.1≠X.env.locals/\p.1∉X.fs/\∀ v,p.2.data≠.cell v):Inv X Ax σ H s :=
 ⟨I.ok,I.os,I.bare,I.base,I.loc,I.cell,I.free,I.g_,λp hp=>(Jk.mp hp).elim (λz=>I.pin p (Jp _ z)) (h p),I.fj,I.len⟩
theorem yW (hN:N.Nodup) (a:N[i]?=some x) (b:N[j]?=some x):i=j:=by
 obtain ⟨h1,e1⟩:=Qb.mp a
 obtain ⟨h2,e2⟩:=Qb.mp b
 exact (List.getElem_inj hN).mp (e1.trans e2.symm)
theorem vJ {Q:Unit->ah->Prop} (I:Inv X a_ σ H s) (hN:X.N.Nodup) (hi:X.N[i]?=some x) (hx:Loc X.env.scope x) (r:bN v u) (h:∀ s',Inv X a_ (σ.set i (some v)) H s'->(∃ a,af.SameBut a s.heap s'.heap/\(a=X.env.locals∨X.env.cells.lookup x=some a))->Q () s') (hf:autoParam (X.fn x=true∨X.env.scope.names.lookup x=some .local) L2.CO):ag M A (storeName X.env x u) Q E s:=by
 obtain ⟨m,hn,hl⟩:=id I.loc
 have Lv:(X.env.scope.kind==.class || (X.env.scope.kind==.module && X.env.locals !=X.env.globals))=false:=by rw [I.ok.kind]; rfl
 have Eh:i < σ.length:=by rw [I.len]; exact (Qb.mp hi).1
 have Bo:=I.Bo
 have tracked:∀ {a:ae} {h':af},(∃ o,s.heap.get? a=some o/\H a=none)->af.SameBut a s.heap h'->jq X.prog X.w H h':=λ{a h'} ha hs b ob e=>by
  obtain ⟨_,_,j7⟩:=ha
  refine (I.fj b ob e).ib (λc w' hc q=>(hs.2 c ?_).trans q) (λ_ q=>q) λ_ _ q=>q
  rintro rfl
  rcases hc with rfl | hc
  ·rw [j7] at e; cases e
  ·rw [j7] at hc; cases hc
 rcases hx with hk | hk
 ·refine wpAny_storeName_local hk hn (λh' WO hs=>?_) Lv
  obtain ⟨oL,_,_,ni,_⟩:=id hn
  refine h _ ⟨I.ok,I.os,I.bare,⟨λb o e n hb hx=>?_,λb o e n hb hx=>?_,I.base.free,λb o e hx=>?_,I.base.ly,I.base.j6,I.base.lz⟩,⟨_,WO,λj y v' e1 e2 e3=>?_⟩,λy c e=>?_,I.free,I.g_,λp hp=>?_,tracked ⟨oL,ni,I.free⟩ hs,by simpa using I.len⟩ ⟨_,hs,.inl rfl⟩
  ·exact (hs.2 b (Qx (Qt (af.lt_size e) I.ok.above))).trans (I.base.keep b o e n hb hx)
  ·obtain ⟨sl,e1⟩:=I.base.slot b o e n hb hx
   exact ⟨sl,(hs.2 b (Qx (Qt (af.lt_size e) I.ok.above))).trans e1⟩
  ·obtain ⟨o',e1⟩:=I.base.there b o e hx
   exact ⟨o',(hs.2 b (Qx (Qt (af.lt_size e) I.ok.above))).trans e1⟩
  ·by_cases hj:j=i
   ·subst hj
    rw [hi] at e1; cases e1
    rw [Wk Eh] at e2
    cases e2
    exact ⟨u,r,.inl ⟨hk,by simp⟩⟩
   ·rw [Ym (Ne.symm hj)] at e2
    obtain ⟨u',r',q⟩:=hl j y v' e1 e2 e3
    refine ⟨u',r',?_⟩
    rcases q with ⟨k,e⟩ | ⟨k,c,e,z⟩
    ·refine .inl ⟨k,?_⟩
     have:y≠x:=λe=>hj (yW hN e1 (e ▸ hi))
     simp [this,e]
    ·exact .inr ⟨k,c,e,z.sameBut hs (Bo y c e)⟩
  ·obtain ⟨w',z⟩:=I.cell y c e
   exact ⟨w',z.sameBut hs (Bo y c e)⟩
  ·obtain ⟨e,n,ne,nf,d⟩:=I.pin p hp
   exact ⟨(hs.2 p.1 ne).trans e,n,ne,nf,d⟩
 ·have Ho:X.fn x=true:=by
   rcases hf with z | z
   ·exact z
   ·rw [z] at hk; cases hk
  obtain ⟨c,hc⟩:=I.ok.has x (.inl hk)
  obtain ⟨w',z⟩:=I.cell x c hc
  refine wpAny_storeName_cell I.ok.kind hk hc z (λh' fu hs=>?_)
  obtain ⟨oc,rj,La⟩:=id z
  refine h { s with heap:=h' } ⟨I.ok,I.os,I.bare,⟨λb o e n hb hx=>?_,λb o e n hb hx=>?_,I.base.free,λb o e hx=>?_,I.base.ly,I.base.j6,I.base.lz⟩,⟨m,hn.sameBut hs (Ne.symm (Bo x c hc)),λj y v' e1 e2 e3=>?_⟩,λy c' e=>?_,I.free,I.g_,λp hp=>?_,tracked ⟨oc,rj,I.g_ x c hc⟩ hs,by simpa using I.len⟩ ⟨c,hs,.inr hc⟩
  ·exact (hs.2 b (Qx (Qt (af.lt_size e) (I.ok.Bp x c Ho hc)))).trans (I.base.keep b o e n hb hx)
  ·obtain ⟨sl,e1⟩:=I.base.slot b o e n hb hx
   exact ⟨sl,(hs.2 b (Qx (Qt (af.lt_size e) (I.ok.Bp x c Ho hc)))).trans e1⟩
  ·obtain ⟨o',e1⟩:=I.base.there b o e hx
   exact ⟨o',(hs.2 b (Qx (Qt (af.lt_size e) (I.ok.Bp x c Ho hc)))).trans e1⟩
  ·by_cases hj:j=i
   ·subst hj
    rw [hi] at e1; cases e1
    rw [Wk Eh] at e2
    cases e2
    exact ⟨u,r,.inr ⟨.inl hk,c,hc,fu⟩⟩
   ·rw [Ym (Ne.symm hj)] at e2
    obtain ⟨u',r',q⟩:=hl j y v' e1 e2 e3
    refine ⟨u',r',?_⟩
    rcases q with q | ⟨k,c',e,z'⟩
    ·exact .inl q
    ·refine .inr ⟨k,c',e,z'.sameBut hs ?_⟩
     rintro rfl
     exact hj (yW hN e1 (I.ok.inj _ _ _ e hc ▸ hi))
  ·by_cases Ba:c'=c
   ·subst Ba; exact ⟨_,fu⟩
   ·obtain ⟨w2,z2⟩:=I.cell y c' e
    exact ⟨w2,z2.sameBut hs Ba⟩
  ·obtain ⟨e,n,ne,nf,d⟩:=I.pin p hp
   refine ⟨(hs.2 p.1 ?_).trans e,n,ne,nf,d⟩
   intro q
   rw [q,rj] at e
   have q':oc=p.2:=Option.some.inj e
   exact d w' (by rw [<- q']; exact La)
theorem sC {Q:Unit->ah->Prop} (I:Inv X a_ σ H s) (hN:X.N.Nodup) (hi:X.N[i]?=some x) (hx:Loc X.env.scope x) (r:bN v u) (h:∀ s',Inv X a_ (σ.set i (some v)) H s'->Q () s') (hf:autoParam (X.fn x=true∨X.env.scope.names.lookup x=some .local) L2.CO):ag M A (storeName X.env x u) Q E s :=
 vJ I hN hi hx r (λs' I' _=>h s' I') hf
theorem Inv.ED (I:Inv X a_ σ H s) (ho:s'.os=s.os) (u:Un (rn X.stack) ch H H' s.heap s'.heap) (fj:jq X.prog X.w H' s'.heap) (hg:AllBare s'.gens) (oj:∀ b∈ch,(b∈X.ex∨X.jm.heap.objs.size<=b)/\b≠X.env.locals/\(∀ x c,X.env.cells.lookup x=some c->c≠b)/\∀ p∈X.pn++a_,p.1≠b):Inv X a_ σ H' s':=by
 obtain ⟨h',g',d',t',o'⟩:=s'
 have e:o'=s.os:=ho
 subst e
 exact I.call (g':=g') (t':=t') (d':=d') u fj hg oj
end
abbrev XK:=aa->Option ae->Hp->Prop
abbrev St:=List (Option V)
abbrev VK:=V->Hp->Prop
abbrev TE:=St->Hp->VK->Prop
end L2
variable {ta te to tl tk tv ts td:TE}
namespace L2
open PySem PySem.Spec PyProof.Rows
abbrev TT:=St->Hp->(Bool->Hp->Prop)->Prop
end L2
variable {tA tt:TT}
namespace L2
open PySem PySem.Spec PyProof.Rows
abbrev TA:=St->Hp->(List V->Hp->Prop)->Prop
end L2
variable {tr:TA}
namespace L2
open PySem PySem.Spec PyProof.Rows
structure Ends where
 nx:St->Hp->Prop
 rt:VK
 bk:St->Hp->Prop:=λ_ _=>False
 ct:St->Hp->Prop:=λ_ _=>False
end L2
variable {D:Ends}
namespace L2
open PySem PySem.Spec PyProof.Rows
abbrev TS:=Ends->St->Hp->Prop
end L2
variable {tb:TS}
namespace L2
open PySem PySem.Spec PyProof.Rows
def EP (X:Cx) (a_:List (ae×bz)) (σ:St) (Q:VK) (u:aa) (s':ah):Prop:=∃ v H',Inv X a_ σ H' s'/\bN v u/\Q v H'
def TP (X:Cx) (a_:List (ae×bz)) (σ:St) (Q:Bool->Hp->Prop) (b:Bool) (s':ah):Prop:=∃ H',Inv X a_ σ H' s'/\Q b H'
def AP (X:Cx) (a_:List (ae×bz)) (σ:St) (Q:List V->Hp->Prop) (us:List aa) (s':ah):Prop:=∃ vs H',Inv X a_ σ H' s'/\bM vs us/\Q vs H'
def SP (X:Cx) (a_:List (ae×bz)) (D:Ends) (f:Flow) (s':ah):Prop :=
 match f with
 | .next=>∃ e_ H',Inv X a_ e_ H' s'/\D.nx e_ H'
 | .brk=>∃ e_ H',Inv X a_ e_ H' s'/\D.bk e_ H'
 | .cont=>∃ e_ H',Inv X a_ e_ H' s'/\D.ct e_ H'
 | .ret u=>∃ v e_ H',Inv X a_ e_ H' s'/\bN v u/\D.rt v H'
def PE (X:Cx) (e:bq) (t:TE):Prop :=
 ∀ (a_:List (ae×bz)) (s:ah) (σ:St) (H:Hp) (Q:VK),Inv X a_ σ H s->t σ H Q->ag (ao X.prog X.w) X.A (eval e X.env) (EP X a_ σ Q) X.xe s
def PT (X:Cx) (e:bq) (t:TT):Prop :=
 ∀ (a_:List (ae×bz)) (s:ah) (σ:St) (H:Hp) (Q:Bool->Hp->Prop),Inv X a_ σ H s->t σ H Q->ag (ao X.prog X.w) X.A (isTrue e X.env (eval e X.env)) (TP X a_ σ Q) X.xe s
def PW (X:Cx) (e:bq) (t:TT):Prop :=
 ∀ (whole:Sem aa) (a_:List (ae×bz)) (s:ah) (σ:St) (H:Hp) (Q:Bool->Hp->Prop),Inv X a_ σ H s->t σ H Q->ag (ao X.prog X.w) X.A (isTrue e X.env whole) (TP X a_ σ Q) X.xe s
theorem PW.pt {t:TT} (h:PW X e t):PT X e t:=h _
def PA (X:Cx) (es:List bq) (t:TA):Prop :=
 ∀ (pos:Pos) (a_:List (ae×bz)) (s:ah) (σ:St) (H:Hp) (Q:List V->Hp->Prop),Inv X a_ σ H s->t σ H Q->ag (ao X.prog X.w) X.A (spliced (cy pos (au es X.env))) (AP X a_ σ Q) X.xe s
def PS (X:Cx) (st:bt) (t:TS):Prop :=
 ∀ (a_:List (ae×bz)) (s:ah) (σ:St) (H:Hp) (D:Ends),Inv X a_ σ H s->t D σ H->ag (ao X.prog X.w) X.A (exec st X.env) (SP X a_ D) X.xe s
def qj (X:Cx) (st:List bt) (t:TS):Prop :=
 ∀ (a_:List (ae×bz)) (s:ah) (σ:St) (H:Hp) (D:Ends),Inv X a_ σ H s->t D σ H->ag (ao X.prog X.w) X.A (execs st X.env) (SP X a_ D) X.xe s
theorem fk {t:Sem α} {Q Q':α->ah->Prop} (h:ag M A t Q E s) (hQ:∀ a s,Q a s->Q' a s):ag M A t Q' E s:=Rp h hQ λ_ _ x=>x
section
def Cz (i:Nat):TE:=λσ H Q=>∃ v,σ[i]?=some (some v)/\Q v H
abbrev tC (v:V):TE:=λ_ H Q=>Q v H
theorem J! (hN:X.N[i]?=some x) (hv:D1 X.env.scope x) (hd:autoParam ((x==("__debug__" : ax))=false) L2.ka) (nu:autoParam ((x==("__classdict__" : ax))=false) L2.ka):PE X (.Name x pos) (Cz i):=by
 intro a_ s σ H Q I h
 obtain ⟨v,e,h⟩:=h
 obtain ⟨m,hn,hl⟩:=I.loc
 obtain ⟨u,r,l⟩:=hl i x v hN e hv
 have fin:EP X a_ σ Q u s:=⟨v,H,I,r,h⟩
 rcases l with ⟨hk,hm⟩ | ⟨hk,c,hc,ig⟩
 ·exact Il (Vy I.ok.kind hk hn hm fin) hd
 ·rcases hk with hk | hk
  ·exact Il (Ran I.ok.kind hk hc ig fin) hd
  ·exact Il (Rao I.ok.kind hk hc ig fin nu) hd
theorem aK {i j pos}:PE X (.Constant (.int i) j pos) (tC (.int i)):=λ_ _ _ H _ I h=>wpAny_Constant_int ⟨.int i,H,I.tok _,⟨_,rfl⟩,h⟩
theorem bP {b j pos}:PE X (.Constant (.bool b) j pos) (tC (.bl b)):=λ_ _ _ H _ I h=>Constant_bool ⟨.bl b,H,I,rfl,h⟩
theorem wS {j pos}:PE X (.Constant .none j pos) (tC .f_):=λ_ _ _ H _ I h=>Constant_none ⟨.f_,H,I,rfl,h⟩
theorem sD {x j pos}:PE X (.Constant (.str x) j pos) (tC (.str x)):=λ_ _ _ H _ I h=>Calls.Constant_str ⟨.str x,H,I.tok _,⟨_,rfl⟩,h⟩
def Gl (X:Cx) (x:ax):Prop:=X.env.kindOf x=some .globalImplicit
theorem nS {σ:St} (I:Inv X a_ σ H s) (hg:Gl X x) (hm:X.mg x=some u) (h:Q u s) (hd:autoParam ((x==("__debug__" : ax))=false) L2.ka):ag (ao X.prog X.w) X.A (eval (.Name x pos) X.env) Q E s :=
 Calls.Name_function_global I.ok.kind hg (Calls.loadGlobal_global (by rw [I.ok.glob]; exact I.mod.glob.keeps I.bk) hm h) hd
theorem iQ {σ:St} (I:Inv X a_ σ H s) (hg:Gl X x) (hm:X.mg x=none) (hv:ay x=some u) (h:Q u s) (hn:autoParam (x ≠ "__name__") L2.ka) (hd:autoParam ((x==("__debug__" : ax))=false) L2.ka):ag (ao X.prog X.w) X.A (eval (.Name x pos) X.env) Q E s:=by
 obtain ⟨mb,h1,h2⟩:=I.mod.blt
 exact Calls.Name_function_global I.ok.kind hg (Calls.loadGlobal_builtin (by rw [I.ok.glob]; exact I.mod.glob.keeps I.bk) hm (by rw [I.ok.blt]; exact h1.keeps I.bk) ((h2 x hn).trans hv) h) hd
theorem nT (hg:Gl X x) (hm:X.mg x=some u) (r:bN v u) (hd:autoParam ((x==("__debug__" : ax))=false) L2.ka):PE X (.Name x pos) (tC v) :=
 λ_ _ _ H _ I h=>nS I hg hm ⟨v,H,I,r,h⟩ hd
theorem eZ (hg:Gl X x) (hm:X.mg x=none) (hv:ay x=some u) (r:bN v u) (hn:autoParam (x ≠ "__name__") L2.ka) (hd:autoParam ((x==("__debug__" : ax))=false) L2.ka):PE X (.Name x pos) (tC v) :=
 λ_ _ _ H _ I h=>iQ I hg hm hv ⟨v,H,I,r,h⟩ hn hd
variable {a b:bq} {tb:TE}
def PC (X:Cx) (op:CmpOp) (a b:bq) (t:TE):Prop :=
 ∀ (a_:List (ae×bz)) (s:ah) (σ:St) (H:Hp) (Q:VK),Inv X a_ σ H s->t σ H Q ->
  ag (ao X.prog X.w) X.A (eval a X.env) (λv gf=>ag (ao X.prog X.w) X.A (eval b X.env) (λu kr=>ag (ao X.prog X.w) X.A (bc op v u) (EP X a_ σ Q) X.xe kr) X.xe gf) X.xe s
theorem aD2 (b:bq) (h:op≠.In) (h2:op≠.NotIn):behindInMarks op b=false:=by
 have e1:(op==CmpOp.In)=false:=by cases op <;> first | rfl | exact absurd rfl h
 have e2:(op==CmpOp.NotIn)=false:=by cases op <;> first | rfl | exact absurd rfl h2
 cases b <;> simp [behindInMarks,e1,e2]
def m? (ta:TE):TE:=λσ H Q=>ta σ H λx H1=>Q (.bl (!decide (x=.f_))) H1
theorem bN.wm {x:V} {v:aa} (r:bN x v):(v==aa.none)=decide (x=.f_):=by
 cases x with
 | f_=>cases r; rfl
 | bl _=>cases r; rfl
 | int _=>obtain ⟨t,rfl⟩:=r; rfl
 | str _=>obtain ⟨t,rfl⟩:=r; rfl
 | r_ _=>obtain ⟨t,rfl⟩:=r; rfl
 | yi _=>obtain ⟨t,rfl⟩:=r; rfl
 | ref _=>cases r; rfl
 | ty _=>cases r; rfl
theorem aF3 {j pos'} (ha:PE X a ta):PC X .IsNot a (.Constant .none j pos') (m? ta):=by
 intro a_ s σ H Q I h
 refine fk (ha a_ s σ H _ I h) λv s1 fe=>?_
 obtain ⟨x,H1,I1,r1,q1⟩:=fe
 exact Constant_none (isnot_none_gen ⟨.bl _,H1,I1,by rw [r1.wm]; rfl,q1⟩)
def tB (t:TE):TT:=λσ H Q=>t σ H λx H1=>∃ c,x=.bl c/\Q c H1
theorem J8 {t:TE} (h:PC X op a b t) (h1:behindInMarks op b=false:=by first | exact aD2 _ (by decide) (by decide) | rfl):PT X (.Compare a [op] [b] pos) (tB t):=by
 intro a_ s σ H Q I hw
 refine Rag (fk (h a_ s σ H _ I hw) λv s1 h1=>fk h1 λu s2 h2=>fk h2 λc s3 fe=>?_) h1
 obtain ⟨x,H1,I1,r1,q1⟩:=fe
 obtain ⟨d,rfl,q⟩:=q1
 cases r1
 exact Rv ⟨H1,I1,q⟩
theorem cB {t:TE} (h:PE X e t) (he:autoParam (∀ whole,isTrue e X.env whole=(do let v<-whole; standAt e.pos; holding [v] (truthy v))) L2.u4):PT X e (tB t):=by
 intro a_ s σ H Q I hw
 refine isTrue_plain (fk (h a_ s σ H _ I hw) λv s1 fe=>?_) (he _)
 obtain ⟨x,H1,I1,r1,q1⟩:=fe
 obtain ⟨d,rfl,q⟩:=q1
 cases r1
 exact Rv ⟨H1,I1,q⟩
variable {EK:TT} {kU:List bq}
def JE (t u:TT):TT:=λσ H Q=>t σ H λc H1=>if c=true then u σ H1 Q else Q false H1
def L9 (t u:TT):TT:=λσ H Q=>t σ H λc H1=>if c=true then Q true H1 else u σ H1 Q
def Pd (t:TT):TT:=λσ H Q=>t σ H λc H1=>Q (!c) H1
theorem rN (ha:PT X a tA):PW X (.BoolOp .And [a] pos) tA:=by
 intro wh a_ s σ H Q I h
 refine isTrue_and (fk (ha a_ s σ H Q I h) λc s1 e=>?_)
 cases c with
 | true=>exact isTrue_and_nil e
 | false=>exact e
theorem eN (ha:PT X a tA):PW X (.BoolOp .Or [a] pos) tA:=by
 intro wh a_ s σ H Q I h
 refine isTrue_or (fk (ha a_ s σ H Q I h) λc s1 e=>?_)
 cases c with
 | false=>exact isTrue_or_nil e
 | true=>exact e
theorem wT (ha:PT X a tA) (hb:PW X (.BoolOp .And (b::kU) pos) EK):PW X (.BoolOp .And (a::b::kU) pos) (JE tA EK):=by
 intro wh a_ s σ H Q I h
 refine isTrue_and (fk (ha a_ s σ H _ I h) λc s1 fe=>?_)
 obtain ⟨H1,I1,q1⟩:=fe
 cases c with
 | true=>exact hb wh a_ s1 σ H1 Q I1 q1
 | false=>exact ⟨H1,I1,q1⟩
theorem fT (ha:PT X a tA) (hb:PW X (.BoolOp .Or (b::kU) pos) EK):PW X (.BoolOp .Or (a::b::kU) pos) (L9 tA EK):=by
 intro wh a_ s σ H Q I h
 refine isTrue_or (fk (ha a_ s σ H _ I h) λc s1 fe=>?_)
 obtain ⟨H1,I1,q1⟩:=fe
 cases c with
 | true=>exact ⟨H1,I1,q1⟩
 | false=>exact hb wh a_ s1 σ H1 Q I1 q1
theorem cF (ha:PT X a tA):PT X (.UnaryOp .Not a pos) (Pd tA):=by
 intro a_ s σ H Q I h
 exact isTrue_not (ha a_ s σ H (λc H1=>Q (!c) H1) I h)
def l? (ta tb:TE):TE:=λσ H Q=>ta σ H λx H1=>∃ c,x=.bl c/\if c=true then tb σ H1 Q else Q (.bl false) H1
def l! (ta:TE):TE:=λσ H Q=>ta σ H λx H1=>∃ c,x=.bl c/\Q (.bl (!c)) H1
theorem nC {op} {t:TE} (h:PE X a t):PE X (.BoolOp op [a] pos) t:=λa_ s σ H Q I hw=>BoolOp_one (h a_ s σ H Q I hw)
theorem kY (ha:PE X a ta) (hb:PE X (.BoolOp .And (b::kU) pos) tb):PE X (.BoolOp .And (a::b::kU) pos) (l? ta tb):=by
 intro a_ s σ H Q I h
 refine BoolOp_and (fk (ha a_ s σ H _ I h) λv s1 fe=>?_)
 obtain ⟨x,H1,I1,r1,q1⟩:=fe
 obtain ⟨c,rfl,q1⟩:=q1
 cases r1
 refine Rv ?_
 cases c with
 | true=>exact hb a_ s1 σ H1 Q I1 q1
 | false=>exact ⟨.bl false,H1,I1,rfl,q1⟩
theorem QU (ha:PE X a ta):PE X (.UnaryOp .Not a pos) (l! ta):=by
 intro a_ s σ H Q I h
 refine UnaryOp_ (fk (ha a_ s σ H _ I h) λv s1 fe=>?_)
 obtain ⟨x,H1,I1,r1,q1⟩:=fe
 obtain ⟨c,rfl,q1⟩:=q1
 cases r1
 exact not_of (Rv ⟨.bl (!c),H1,I1,rfl,q1⟩)
def UN (t:TT) (ta tb:TE):TE:=λσ H Q=>t σ H λc H1=>if c=true then ta σ H1 Q else tb σ H1 Q
theorem aD4 {c:bq} (hc:PT X c tA) (ha:PE X a ta) (hb:PE X b tb):PE X (.IfExp c a b pos) (UN tA ta tb):=by
 intro a_ s σ H Q I h
 refine wpAny_IfExp (fk (hc a_ s σ H _ I h) λd s1 fe=>?_)
 obtain ⟨H1,I1,q1⟩:=fe
 cases d with
 | true=>exact ha a_ s1 σ H1 Q I1 q1
 | false=>exact hb a_ s1 σ H1 Q I1 q1
end
def fh (K:Rc) (H:Hp) (a:ae) (xs:List V):Prop :=
 Rd H a (.lst xs) ∨
  ∃ (o:bz) (b_:Array aa) (n:Nat),K.lookup a=some o/\o.cls=.type "list" /\ o.dict=none/\o.data=.seq b_ n/\b_.size<=ak/\bM xs b_.toList
def d_ (K:Rc) (H:Hp) (a:ae) (xs:List V):Prop :=
 Rd H a (.tup xs) ∨
  ∃ (o:bz) (b_:Array aa) (n:Nat),K.lookup a=some o/\o.cls=.type "tuple" /\ o.dict=none/\o.data=.seq b_ n/\b_.size<=ak/\bM xs b_.toList
noncomputable def υ:aa->Option V
 | .none=>some .f_
 | .bool b=>some (.bl b)
 | .int i _=>some (.int i)
 | .str x _=>some (.str x)
 | .bytes b _=>some (.r_ b)
 | .float b _=>some (.yi b)
 | .ref a=>some (.ref a)
 | .type n=>some (.ty n)
 | _=>none
theorem bN.abs {x:V} (r:bN x u):υ u=some x:=by
 cases x with
 | f_=>cases r; rfl
 | bl _=>cases r; rfl
 | int _=>obtain ⟨t,rfl⟩:=r; rfl
 | str _=>obtain ⟨t,rfl⟩:=r; rfl
 | r_ _=>obtain ⟨t,rfl⟩:=r; rfl
 | yi _=>obtain ⟨t,rfl⟩:=r; rfl
 | ref _=>cases r; rfl
 | ty _=>cases r; rfl
theorem bN.inj {x:V} (r:bN x u) (q:bN y u):x=y:=Option.some.inj (r.abs.symm.trans q.abs)
theorem bM.inj:∀ {xs ys:List V} {us:List aa},bM xs us->bM ys us->xs=ys
 := by
 intro xs ys us h
 induction h generalizing ys with
 | nil=>intro q; cases q; rfl
 | cons r t ih=>intro q; cases q with | cons r' t'=>rw [r.inj r',ih t']
section
variable {σ:St}
theorem fh.of (h:H a=some (.lst xs)):fh K H a xs:=.inl (.inl h)
theorem d_.of (h:H a=some (.tup xs)):d_ K H a xs:=.inl (.inl h)
theorem Inv.list (I:Inv X a_ σ H s) (h:fh X.K H a xs):∃ b_:List aa,bM xs b_/\PlainL s.heap a b_.toArray/\xs.length<=ak:=by
 rcases h with h | ⟨o,b_,n,hk,hc,hd,hs,hz,r⟩
 ·obtain ⟨z,b_,n,r,e⟩:=h.ok I.fj
  exact ⟨b_,r,⟨_,n,e,rfl,rfl,rfl⟩,z⟩
 ·refine ⟨b_.toList,r,⟨o,n,I.rh a o hk,hc,hd,by simpa using hs⟩,?_⟩
  have e:=r.length
  simp only [Array.length_toList] at e
  omega
theorem Inv.tuple (I:Inv X a_ σ H s) (h:d_ X.K H a xs):∃ b_:List aa,bM xs b_/\IsTup s.heap a b_.toArray/\xs.length<=ak:=by
 rcases h with h | ⟨o,b_,n,hk,hc,_,hs,hz,r⟩
 ·obtain ⟨z,b_,n,r,p⟩:=h.ok I.fj
  exact ⟨b_,r,⟨_,p,rfl,n,rfl⟩,z⟩
 ·refine ⟨b_.toList,r,⟨o,I.rh a o hk,hc,n,by simpa using hs⟩,?_⟩
  have e:=r.length
  simp only [Array.length_toList] at e
  omega
theorem Inv.qa (I:Inv X a_ σ H s) (h:fh X.K H a xs) (h':fh X.K H a ys):xs=ys:=by
 obtain ⟨b_,r,⟨o,n,e,_,_,d⟩,_⟩:=I.list h
 obtain ⟨its',r',⟨o',n',e',_,_,d'⟩,_⟩:=I.list h'
 rw [e] at e'; cases e'
 rw [d] at d'
 injection d' with d1 _
 have:b_=its':=by simpa using congrArg Array.toList d1
 subst this
 exact r.inj r'
theorem Inv.nc (I:Inv X a_ σ H s) (h:d_ X.K H a xs) (h':d_ X.K H a ys):xs=ys:=by
 obtain ⟨b_,r,⟨o,e,_,n,d⟩,_⟩:=I.tuple h
 obtain ⟨its',r',⟨o',e',_,n',d'⟩,_⟩:=I.tuple h'
 rw [e] at e'; cases e'
 rw [d] at d'
 injection d' with d1 _
 have:b_=its':=by simpa using congrArg Array.toList d1
 subst this
 exact r.inj r'
noncomputable abbrev Cx.ml (X:Cx) (E:aa->ah->Prop):Cx:={ X with xe:=E }
noncomputable abbrev Cx.AW (X:Cx):Cx:=X.ml λ_ _=>False
theorem Cx.Ok.ml (ok:X.Ok) (E:aa->ah->Prop):(X.ml E).Ok :=
 ⟨ok.mod,ok.kind,ok.glob,ok.blt,ok.above,ok.inj,ok.has,ok.Bp,ok.hd,ok.frames,ok.EM,ok.FH,ok.bs,ok.Bq,ok.o7,ok.zj,ok.l_,ok.Cp⟩
theorem Cx.Ok.je (ok:(X.ml E).Ok):X.Ok :=
 ⟨ok.mod,ok.kind,ok.glob,ok.blt,ok.above,ok.inj,ok.has,ok.Bp,ok.hd,ok.frames,ok.EM,ok.FH,ok.bs,ok.Bq,ok.o7,ok.zj,ok.l_,ok.Cp⟩
theorem Inv.ml (I:Inv X a_ σ H s) (E:aa->ah->Prop):Inv (X.ml E) a_ σ H s:=⟨I.ok.ml E,I.os,I.bare,I.base,I.loc,I.cell,I.free,I.g_,I.pin,I.fj,I.len⟩
theorem Inv.je (I:Inv (X.ml E) a_ σ H s):Inv X a_ σ H s:=⟨I.ok.je,I.os,I.bare,I.base,I.loc,I.cell,I.free,I.g_,I.pin,I.fj,I.len⟩
theorem SP.je {f:Flow} (h:SP (X.ml E) a_ D f s'):SP X a_ D f s':=by
 cases f with
 | next=>obtain ⟨e_,H',I,q⟩:=h; exact ⟨e_,H',I.je,q⟩
 | brk=>obtain ⟨e_,H',I,q⟩:=h; exact ⟨e_,H',I.je,q⟩
 | cont=>obtain ⟨e_,H',I,q⟩:=h; exact ⟨e_,H',I.je,q⟩
 | ret u=>obtain ⟨v,e_,H',I,r,q⟩:=h; exact ⟨v,e_,H',I.je,r,q⟩
theorem qj.AW {st:List bt} {t:TS} (h:qj X.AW st t):qj X st t:=λa_ s σ H D I hw =>
 Rp (h a_ s σ H D (I.ml _) hw) (λ_ _ q=>q.je) λ_ _ z=>False.elim z
end
section
variable {kU:List bt} {t u:TS}
def gZ:TS:=λD σ H=>D.nx σ H
def FQ (t u:TS):TS:=λD σ H=>t { D with nx:=u D } σ H
theorem aW:qj X [] gZ:=λ_ _ σ H _ I h=>Vr ⟨σ,H,I,h⟩
theorem aE (h1:PS X st t) (h2:qj X kU u):qj X (st::kU) (FQ t u):=by
 intro a_ s σ H D I h
 refine RaA (fk (h1 a_ s σ H { D with nx:=u D } I h) λf s1 q=>?_)
 cases f with
 | next =>
  obtain ⟨e_,H',I',q⟩:=q
  exact h2 a_ s1 e_ H' D I' q
 | ret v=>exact q
 | brk=>exact q
 | cont=>exact q
theorem aH (h1:PS X st t):qj X [st] t:=by
 intro a_ s σ H D I h
 refine RaA (fk (h1 a_ s σ H D I h) λf s1 q=>?_)
 cases f with
 | next=>exact Vr q
 | ret v=>exact q
 | brk=>exact q
 | cont=>exact q
def I?:TS:=λD σ H=>D.bk σ H
theorem aD5:PS X (.Break pos) I?:=λ_ _ σ H _ I h=>wpAny_Break ⟨σ,H,I,h⟩
theorem Inv.quiet {σ:St} (I:Inv X a_ σ H s):interactive X.env=false:=by simp [interactive,I.ok.kind]
def k? (te:TE):TS:=λD σ H=>te σ H λ_ H1=>D.nx σ H1
theorem dJ (he:PE X e te) (hs:autoParam (swapsWith e none pos.line X.env=pure false) L2.gj):PS X (.Expr e pos) (k? te):=by
 intro a_ s σ H D I h
 refine wpAny_Expr_any (fk (he a_ s σ H _ I h) λv s1 fe=>?_) I.quiet hs
 obtain ⟨x,H1,I1,r1,q1⟩:=fe
 exact ⟨σ,H1,I1,q1⟩
def τ (te:TE):TS:=λD σ H=>te σ H D.rt
theorem aN (he:PE X e te):PS X (.Return (some e) pos) (τ te):=by
 intro a_ s σ H D I h
 refine wpAny_Return_some (fk (he a_ s σ H _ I h) λv s1 fe=>?_)
 obtain ⟨x,H1,I1,r1,q1⟩:=fe
 exact ⟨x,σ,H1,I1,r1,q1⟩
def FP (c:TT) (t u:TS):TS:=λD σ H=>c σ H λb H1=>if b=true then t D σ H1 else u D σ H1
theorem bU {c:bq} {a b:List bt} {tc:TT} (hc:PT X c tc) (ha:qj X a t) (hb:qj X b u):PS X (.If c a b pos) (FP tc t u):=by
 intro a_ s σ H D I h
 refine wpAny_If (fk (hc a_ s σ H _ I h) λd s1 fe=>?_)
 obtain ⟨H1,I1,q1⟩:=fe
 cases d with
 | true=>exact ha a_ s1 σ H1 D I1 q1
 | false=>exact hb a_ s1 σ H1 D I1 q1
def I!:TS:=λ_ _ _=>False
theorem lV {UQ:List bt}:qj X UQ I!:=λ_ _ _ _ _ _ h=>h.elim
end
abbrev TG:=V->St->Hp->(St->Hp->Prop)->Prop
end L2
variable {g g2:TG}
namespace L2
open PySem PySem.Spec PyProof.Rows
abbrev Ap:=List V->St->Hp->(St->Hp->Prop)->Prop
def PG (X:Cx) (target:bq) (t:TG):Prop :=
 ∀ (a_:List (ae×bz)) (s:ah) (σ:St) (H:Hp) (v:V) (u:aa) (Q:St->Hp->Prop),Inv X a_ σ H s->bN v u->t v σ H Q ->
  ag (ao X.prog X.w) X.A (assign target X.env u) (λ_ s'=>∃ e_ H',Inv X a_ e_ H' s'/\Q e_ H') X.xe s
def D3 (X:Cx) (ts:List bq) (t:Ap):Prop :=
 ∀ (a_:List (ae×bz)) (s:ah) (σ:St) (H:Hp) (vs:List V) (us:List aa) (Q:St->Hp->Prop),Inv X a_ σ H s->bM vs us->t vs σ H Q ->
  ag (ao X.prog X.w) X.A (assignInOrder ((assignEach ts X.env).map (·.2)) us) (λ_ s'=>∃ e_ H',Inv X a_ e_ H' s'/\Q e_ H') X.xe s
abbrev DU:=V->V->V->Hp->(Hp->Prop)->Prop
def JD (X:Cx) (t:DU):Prop :=
 ∀ (a_:List (ae×bz)) (s:ah) (σ:St) (H:Hp) (o i v:V) (ov iv u:aa) (Q:Hp->Prop),Inv X a_ σ H s->bN o ov->bN i iv->bN v u->t o i v H Q ->
  ag (ao X.prog X.w) X.A (setItem ov iv u) (λ_ s'=>∃ H',Inv X a_ σ H' s'/\Q H') X.xe s
abbrev CB:=V->V->Hp->VK->Prop
def J' (X:Cx) (op:Operator) (t:CB):Prop :=
 ∀ (a_:List (ae×bz)) (s:ah) (σ:St) (H:Hp) (x y:V) (v u:aa) (Q:VK),Inv X a_ σ H s->bN x v->bN y u->t x y H Q ->
  ag (ao X.prog X.w) X.A (inplaceOp op v u) (EP X a_ σ Q) X.xe s
def jR (i:Nat):TG:=λv σ H Q=>Q (σ.set i (some v)) H
theorem aI (hN:X.N.Nodup) (hi:X.N[i]?=some x) (hx:Loc X.env.scope x) (hf:autoParam (X.fn x=true∨X.env.scope.names.lookup x=some .local) L2.CO):PG X (.Name x pos) (jR i):=by
 intro a_ s σ H v u Q I r h
 exact Rav (sC I hN hi hx r (λs' I'=>⟨_,H,I',h⟩) hf)
def ρ:Ap:=λvs σ H Q=>vs = []/\Q σ H
def k! (t:TG) (u:Ap):Ap:=λvs σ H Q=>∃ v r,vs=v::r/\t v σ H λe_ H'=>u r e_ H' Q
theorem bV:D3 X [] ρ:=by
 intro a_ s σ H vs us Q I r h
 obtain ⟨e,h⟩:=h
 subst e
 cases r
 exact assignInOrder_nil ⟨σ,H,I,h⟩
theorem aM {t:TG} {u:Ap} (h1:PG X e t) (h2:D3 X es u) (hs:autoParam ((assignEach (e::es) X.env).map (·.2)=assign e X.env::(assignEach es X.env).map (·.2)) L2.gj):D3 X (e::es) (k! t u):=by
 intro a_ s σ H vs us Q I r h
 obtain ⟨v,vr,e1,h⟩:=h
 subst e1
 cases r with
 | cons r rr =>
  rw [hs]
  refine assignInOrder_cons (fk (h1 a_ s σ H _ _ _ I r h) λ_ s1 fe=>?_)
  obtain ⟨B1,H1,I1,q1⟩:=fe
  exact h2 a_ s1 B1 H1 _ _ Q I1 rr q1
def Pc (K:Rc) (n:Nat) (t:Ap):TG:=λv σ H Q=>∃ a xs,v=.ref a/\d_ K H a xs/\xs.length=n/\t xs σ H Q
theorem dO {k:Nat} {t:Ap} {n:Nat} (hc:X.calm=true) (h:D3 X es t) (hn:autoParam ((assignEach es X.env).length=n) L2.gj) (ku:autoParam ((assignEach es X.env).findIdx? (·.1)=none) L2.gj):PG X (.Tuple es k pos) (Pc X.K n t):=by
 intro a_ s σ H v u Q I r hw
 obtain ⟨a,xs,e1,hq,hl,hw⟩:=hw
 subst e1
 cases r
 obtain ⟨b_,rv,ht,hz⟩:=I.tuple hq
 refine assign_Tuple_tuple (I.ok.hd hc) ht (by simp [hn,<- hl,rv.length]) ku λh' hx=>?_
 have I1:Inv X a_ σ H { s with heap:=h' }:=I.kept (t':=s.toks) λb o e=>hx b o (Qx (af.lt_size e)) e
 exact h a_ _ σ H xs _ Q I1 (by simpa using rv) hw
def π (to ti:TE) (t:DU):TG:=λv σ H Q=>to σ H λo H1=>ti σ H1 λi H2=>t o i v H2 λH3=>Q σ H3
theorem QT {o i:bq} {ti:TE} {t:DU} (ho:PE X o to) (hi:PE X i ti) (hs:JD X t) (ha:autoParam (∀ v,assign (.Subscript o i pos) X.env v=(do
   let ov<-holding [v] (eval o X.env)
   let iv<-holding [v,ov] (eval i X.env)
   standAt pos
   holding [v,ov,iv] (setItem ov iv v)
   release [v,ov,iv] [])) L2.u4):PG X (.Subscript o i pos) (π to ti t):=by
 intro a_ s σ H v u Q I r h
 rw [ha]
 refine Ra (Rm (fk (ho a_ s σ H _ I h) λov s1 fe=>?_))
 obtain ⟨x,H1,I1,r1,q1⟩:=fe
 refine Ra (Rm (fk (hi a_ s1 σ H1 _ I1 q1) λiv s2 fe=>?_))
 obtain ⟨y,H2,I2,r2,q2⟩:=fe
 refine Ra (Td (Ra (Rm (fk (hs a_ s2 σ H2 x y v ov iv u _ I2 r1 r2 r q2) λ_ s3 fe=>?_))))
 obtain ⟨H3,I3,q3⟩:=fe
 exact wpAny_release ⟨σ,H3,I3,q3⟩
def DS (te:TE) (g:TG):TS:=λD σ H=>te σ H λx H1=>g x σ H1 D.nx
theorem iG (he:PE X e te) (hg:PG X tg g) (hs:autoParam (swapsWithSole [tg] e pos.line X.env=pure false) L2.gj) (hw:autoParam (swappedStores [tg] e X.env=pure none) L2.gj) (h1:autoParam ((assignEach [tg] X.env).map (·.2) = [assign tg X.env]) L2.gj):PS X (.Assign [tg] e pos) (DS te g):=by
 intro a_ s σ H D I h
 refine wpAny_Assign_stores (fk (he a_ s σ H _ I h) λv s1 fe=>?_) hs hw
 obtain ⟨x,H1,I1,r1,q1⟩:=fe
 rw [h1]
 exact fk (hg a_ s1 σ H1 x v _ I1 r1 q1) λ_ s2 q=>q
theorem bA (hN:X.N.Nodup) (hi:X.N[i]?=some x) (hx:Loc X.env.scope x) (he:PE X e te) (hs:autoParam (swapsWith e (some (.Name x pos')) pos.line X.env=pure false) L2.gj) (hf:autoParam (X.fn x=true∨X.env.scope.names.lookup x=some .local) L2.CO) :
  PS X (.Assign [.Name x pos'] e pos) (DS te (jR i)):=by
 intro a_ s σ H D I h
 refine wpAny_Assign_Name (fk (he a_ s σ H _ I h) λv s1 fe=>?_) hs
 obtain ⟨y,H1,I1,r1,q1⟩:=fe
 exact sC I1 hN hi hx r1 (λs2 I2=>⟨_,H1,I2,q1⟩) hf
def ο (i:Nat) (te:TE) (ti:CB):TS:=λD σ H=>∃ x,σ[i]?=some (some x)/\te σ H λy H1=>ti x y H1 λz H2=>D.nx (σ.set i (some z)) H2
theorem H? {op:Operator} {ti:CB} (hN:X.N.Nodup) (hi:X.N[i]?=some x) (hx:Loc X.env.scope x) (he:PE X e te) (ho:J' X op ti) (hf:autoParam (X.fn x=true∨X.env.scope.names.lookup x=some .local) L2.CO) :
  PS X (.AugAssign (.Name x pos') op e pos) (ο i te ti):=by
 intro a_ s σ H D I h
 obtain ⟨v,e1,h⟩:=h
 obtain ⟨m,hn,hl⟩:=I.loc
 have F9:D1 X.env.scope x:=by rcases hx with k | k; exact .inl k; exact .inr (.inl k)
 obtain ⟨u,r,l⟩:=hl i x v hi e1 F9
 refine wpAny_AugAssign_Name ?_
 have go:ag (ao X.prog X.w) X.A (eval e X.env) (λw kr=>ag (ao X.prog X.w) X.A (inplaceOp op u w) (λr wx=>ag (ao X.prog X.w) X.A (storeName X.env x r) (λ_=>SP X a_ D .next) X.xe wx) X.xe kr) X.xe s:=by
  refine fk (he a_ s σ H _ I h) λw s1 fe=>?_
  obtain ⟨y,H1,I1,r1,q1⟩:=fe
  refine fk (ho a_ s1 σ H1 v y u w _ I1 r r1 q1) λz s2 fe=>?_
  obtain ⟨zv,H2,I2,r2,q2⟩:=fe
  exact sC I2 hN hi hx r2 (λs3 I3=>⟨_,H2,I3,q2⟩) hf
 rcases l with ⟨hk,hm⟩ | ⟨hk,c,hc,ig⟩
 ·exact Vy I.ok.kind hk hn hm go
 ·rcases hk with hk | hk
  ·exact Ran I.ok.kind hk hc ig go
  ·rcases hx with k | k
   ·have:X.env.scope.names.lookup x=some .free:=hk
    rw [k] at this; cases this
   ·have:X.env.scope.names.lookup x=some .free:=hk
    rw [k] at this; cases this
def j? (to ti te:TE) (yt:V->V->Hp->VK->Prop) (EI:CB) (yr:DU):TS:=λD σ H=>to σ H λo H1=>ti σ H1 λi H2=>yt o i H2 λx H3=>te σ H3 λy H4=>EI x y H4 λz H5=>yr o i z H5 λH6=>D.nx σ H6
def Pb (X:Cx) (t:V->V->Hp->VK->Prop):Prop :=
 ∀ (a_:List (ae×bz)) (s:ah) (σ:St) (H:Hp) (o i:V) (ov iv:aa) (Q:VK),Inv X a_ σ H s->bN o ov->bN i iv->t o i H Q ->
  ag (ao X.prog X.w) X.A (cp ov iv) (EP X a_ σ Q) X.xe s
theorem aF6 {o i:bq} {ti:TE} {yt:V->V->Hp->VK->Prop} {EI:CB} {yr:DU} {op:Operator} (ho:PE X o to) (hi:PE X i ti) (hg:Pb X yt) (he:PE X e te) (hp:J' X op EI) (hs:JD X yr) (ha:∀ ov iv new,augStore i ov iv new=(do holding [new,ov,iv] (setItem ov iv new); release [new,ov,iv] []; pure .next):=by intros; rfl):PS X (.AugAssign (.Subscript o i vo) op e pos) (j? to ti te yt EI yr):=by
 intro a_ s σ H D I h
 refine wpAny_AugAssign_SubscriptAny (fk (ho a_ s σ H _ I h) λov s1 fe=>?_) ha
 obtain ⟨x1,H1,I1,r1,q1⟩:=fe
 refine fk (hi a_ s1 σ H1 _ I1 q1) λiv s2 fe=>?_
 obtain ⟨x2,H2,I2,r2,q2⟩:=fe
 refine fk (hg a_ s2 σ H2 x1 x2 ov iv _ I2 r1 r2 q2) λold s3 fe=>?_
 obtain ⟨x3,H3,I3,r3,q3⟩:=fe
 refine fk (he a_ s3 σ H3 _ I3 q3) λv s4 fe=>?_
 obtain ⟨x4,H4,I4,r4,q4⟩:=fe
 refine fk (hp a_ s4 σ H4 x3 x4 old v _ I4 r3 r4 q4) λnew s5 fe=>?_
 obtain ⟨x5,H5,I5,r5,q5⟩:=fe
 refine fk (hs a_ s5 σ H5 x1 x2 x5 ov iv new _ I5 r1 r2 r5 q5) λ_ s6 fe=>?_
 obtain ⟨H6,I6,q6⟩:=fe
 exact ⟨σ,H6,I6,q6⟩
def VZ (f:Int->Int->Int):CB:=λx y H Q=>∃ i j,x=.int i/\y=.int j/\Q (.int (f i j)) H
theorem QS:J' X .Add (VZ λi j=>i+j):=by
 intro a_ s σ H x y v u Q I r1 r2 h
 obtain ⟨i,j,e1,e2,q⟩:=h
 subst e1; subst e2
 obtain ⟨t,rfl⟩:=r1
 obtain ⟨t',rfl⟩:=r2
 exact iadd_int ⟨.int _,H,I.tok _,⟨_,rfl⟩,q⟩
def H! (c:TT) (tb:TS):TS:=λD σ H=>∃ W:Nat->St->Hp->Prop,(∃ m,W m σ H)/\∀ m σ H,W m σ H ->
 c σ H λb H1=>if b=true then ∃ N:St->Hp->Prop,(∀ e_ H',N e_ H'->∃ m',m' < m/\W m' e_ H')/\tb { D with nx:=N,ct:=N,bk:=D.nx } σ H1 else D.nx σ H1
theorem nU {c:bq} {tc:TT} (hp:az (ao X.prog X.w) X.A X.env X.xe) (hc:PT X c tc) (hb:qj X body tb):PS X (.While c body [] pos) (H! tc tb):=by
 intro a_ s σ H D I h
 obtain ⟨W,⟨m0,w0⟩,turn⟩:=h
 refine wpAny_While (codeAny_whileLoop (λn s'=>∃ e_ H',Inv X a_ e_ H' s'/\W n e_ H') ?_ m0 ⟨σ,H,I,w0⟩)
 rintro n s1 ⟨B1,H1,I1,w1⟩
 refine Ub hp (fk (hc a_ s1 B1 H1 _ I1 (turn n B1 H1 w1)) λb s2 fe=>?_)
 obtain ⟨H2,I2,q2⟩:=fe
 cases b with
 | true =>
  obtain ⟨N,hN,q2⟩:=q2
  rw [if_pos rfl]
  refine Ub hp (fk (hb a_ s2 B1 H2 _ I2 q2) λf s3 q3=>?_)
  cases f with
  | next =>
   obtain ⟨ki,H3,I3,n3⟩:=q3
   obtain ⟨m',hm,w3⟩:=hN ki H3 n3
   exact ⟨m',hm,ki,H3,I3,w3⟩
  | cont =>
   obtain ⟨ki,H3,I3,n3⟩:=q3
   obtain ⟨m',hm,w3⟩:=hN ki H3 n3
   exact ⟨m',hm,ki,H3,I3,w3⟩
  | brk=>exact q3
  | ret v=>exact q3
 | false =>
  rw [if_neg Qm]
  exact Vr ⟨B1,H2,I2,q2⟩
structure It where
 go:Nat->Hp->Prop
 qd:Nat->Hp->V->Hp->Prop
 stop:Nat->Hp->Prop
end L2
variable {J:It}
namespace L2
open PySem PySem.Spec PyProof.Rows
def rH (X:Cx) (a_:List (ae×bz)) (H:Hp) (b:ae):Prop :=
 H b=none/\b≠X.env.locals/\b∉X.fs/\(b∈X.ex∨X.jm.heap.objs.size<=b)/\(∀ x c,X.env.cells.lookup x=some c->c≠b)/\∀ p∈X.pn++a_,p.1≠b
theorem Inv.k8 {σ:St} (I:Inv X a_ σ H s) (hb:s.heap.objs.size<=b) (hn:H' b=none):rH X a_ H' b:=by
 refine ⟨hn,Xm (Qt I.lt hb),I.BB hb,.inr (Jd I.sz hb),λx c e z=>?_,λp hp z=>?_⟩
 ·obtain ⟨v,q⟩:=I.cell x c e
  exact absurd (Qt q.lt (by rw [z]; exact hb)) (Jo _)
 ·exact absurd (Qt (af.lt_size (I.pin p hp).1) (by rw [z]; exact hb)) (Jo _)
structure Turn (P:br) (w:bf) (K:Rc) (tg:bq) (J:It) (fp:List ae) (it:ae) (tn:Nat->af->Prop):Prop where
 mem:it∈fp
 obj:∀ i h,tn i h->∀ b∈fp,∃ o,h.get? b=some o/\∀ v,o.data≠.cell v
 keep:∀ i h h',tn i h->(∀ b∈fp,∀ o,h.get? b=some o->h'.get? b=some o)->tn i h'
 item:∀ (X:Cx),X.prog=P->X.w=w->X.K=K->X.calm=true->∀ (i:Nat) (a_:List (ae×bz)) (s:ah) (σ:St) (H:Hp) (E:aa->ah->Prop),Inv X a_ σ H s->(∀ b∈fp,rH X a_ H b)->tn i s.heap->J.go i H ->
  ag (ao P w) X.A (pyNext (.ref it)) (λr s1=>∃ u,r=some u /\
   ag (ao P w) X.A (letOwnedTupleGo tg (.ref it) u) (λ_ s2=>∃ x H',Inv X a_ σ H' s2/\bN x u/\J.qd i H x H'/\tn (i+1) s2.heap/\∀ b∈fp,H' b=none) E s1) E s
 done:∀ (X:Cx),X.prog=P->X.w=w->X.K=K->X.calm=true->∀ (i:Nat) (a_:List (ae×bz)) (s:ah) (σ:St) (H:Hp) (E:aa->ah->Prop),Inv X a_ σ H s->(∀ b∈fp,rH X a_ H b)->tn i s.heap->J.stop i H ->
  ag (ao P w) X.A (pyNext (.ref it)) (λr s1=>r=none/\Inv X a_ σ H s1) E s
 self:∀ (A:bw) (i:Nat) (s:ah) (Q:aa->ah->Prop) (E:aa->ah->Prop),tn i s.heap->Q (.ref it) s->ag (ao P w) A (pyIter (.ref it)) Q E s
abbrev TI:=St->Hp->(It->Hp->Prop)->Prop
def SY (X:Cx) (a_:List (ae×bz)) (σ:St) (tg:bq) (R:It->Hp->Prop) (E7:aa) (s2:ah):Prop :=
 ∃ (it:ae) (fp:List ae) (tn:Nat->af->Prop) (J:It) (H':Hp),E7=.ref it/\Inv X a_ σ H' s2/\Turn X.prog X.w X.K tg J fp it tn/\tn 0 s2.heap/\(∀ b∈fp,rH X a_ H' b)/\R J H'
def PI (X:Cx) (tg iter:bq) (wi:TI):Prop :=
 ∀ (a_:List (ae×bz)) (s:ah) (σ:St) (H:Hp) (R:It->Hp->Prop),Inv X a_ σ H s->wi σ H R ->
  ag (ao X.prog X.w) X.A (eval iter X.env) (λv s1=>ag (ao X.prog X.w) X.A (pyIter v) (SY X a_ σ tg R) X.xe s1) X.xe s
theorem yX {n:String} {vs:Array aa} {Q:Unit->ah->Prop} (ho:s.heap.get? it=some o) (hc:o.cls=.type n) (hd:o.data=.fields vs) (hn : ["enumerate", "zip", "dict_itemiterator", "dict_reverseitemiterator", "odict_iterator", "itertools.zip_longest", "itertools.pairwise"].contains n=false) (hQ:Q () s):ag M A (letOwnedTupleGo tg (.ref it) u) Q E s:=by
 unfold letOwnedTupleGo
 cases tg <;> first
  | exact Rb hQ
  | (cases u <;> first
    | exact Rb hQ
    | (refine Ra (wpAny_load ho ?_)
       rw [hc,hd]
       show ag M A (if (["enumerate", "zip", "dict_itemiterator", "dict_reverseitemiterator", "odict_iterator", "itertools.zip_longest", "itertools.pairwise"].contains n && vs[0]?==some (rawInt _))=true then _ else _) Q E s
       rw [if_neg (by intro h; rw [hn,Zm] at h; cases h)]
       exact Rb hQ))
noncomputable def By (K:Rc) (a:ae):It :=
 ⟨λi H=>∃ xs x,fh K H a xs/\xs[i]?=some x,λi H x H'=>H'=H/\∀ xs,fh K H a xs->xs[i]?=some x,λi H=>∃ xs,fh K H a xs/\xs.length<=i⟩
noncomputable def Bw (K:Rc) (a:ae):It :=
 ⟨λi H=>∃ xs x,d_ K H a xs/\xs[i]?=some x,λi H x H'=>H'=H/\∀ xs,d_ K H a xs->xs[i]?=some x,λi H=>∃ xs,d_ K H a xs/\xs.length<=i⟩
noncomputable def Bx (lo:Int) (n:Nat):It:=⟨λi _=>i < n,λi H x H'=>H'=H/\x=.int (lo+i),λi _=>n<=i⟩
theorem aCW (a it:ae):Turn P w K tg (By K a) [it] it (λi h=>h.IsListIter it a i) where
 mem:=by simp
 obj:=λi h st b hb=>by
  have e:b=it:=by simpa using hb
  subst e
  obtain ⟨o,e,c,d⟩:=st
  exact ⟨o,e,λv z=>by rw [d] at z; cases z⟩
 keep:=λi h h' st k=>st.at λo e=>k it (by simp) o e
 item:=by
  intro X hP hw hK hc i a_ s σ H E I hf st hg
  subst hP hw hK
  obtain ⟨xs,x,hq,hx⟩:=hg
  obtain ⟨b_,rv,p,hz⟩:=I.list hq
  obtain ⟨u,hu,ru⟩:=rv.get hx
  obtain ⟨f0,f1,f2,f3,f4,f5⟩:=hf it (by simp)
  refine wpAny_pyNext_list_item st p.isList (x:=u) (by simpa using hu) λh' n9 sb=>?_
  have I1:Inv X a_ σ H { s with heap:=h' }:=I.turned (t':=s.toks) (λb o hb e=>(sb.2 b hb).trans e) f0 f1 f3 f4 f5
  obtain ⟨o,e,c,d⟩:=id n9
  exact ⟨u,rfl,yX (s:={ s with heap:=h' }) e c d (by decide) ⟨x,H,I1,ru,⟨rfl,λys hy=>by rw [I.qa hy hq]; exact hx⟩,n9,λb hb=>(hf b hb).1⟩⟩
 done:=by
  intro X hP hw hK hc i a_ s σ H E I hf st hg
  subst hP hw hK
  obtain ⟨xs,hq,hx⟩:=hg
  obtain ⟨b_,rv,p,hz⟩:=I.list hq
  obtain ⟨f0,f1,f2,f3,f4,f5⟩:=hf it (by simp)
  have hl:=rv.length
  exact wpAny_pyNext_list_end (I.ok.hd hc) st p.isList (by simp; omega) λh' eb=>⟨rfl,I.turned (t':=s.toks) (λb o hb e=>eb b o hb e) f0 f1 f3 f4 f5⟩
 self:=λ_ _ _ _ _ st h=>wpAny_pyIter_listiter st h
theorem aA9 (a it:ae):Turn P w K tg (Bw K a) [it] it (λi h=>h.IsTupleIter it a i) where
 mem:=by simp
 obj:=λi h st b hb=>by
  have e:b=it:=by simpa using hb
  subst e
  obtain ⟨o,e,c,d⟩:=st
  exact ⟨o,e,λv z=>by rw [d] at z; cases z⟩
 keep:=λi h h' st k=>st.at λo e=>k it (by simp) o e
 item:=by
  intro X hP hw hK hc i a_ s σ H E I hf st hg
  subst hP hw hK
  obtain ⟨xs,x,hq,hx⟩:=hg
  obtain ⟨b_,rv,p,hz⟩:=I.tuple hq
  obtain ⟨u,hu,ru⟩:=rv.get hx
  obtain ⟨f0,f1,f2,f3,f4,f5⟩:=hf it (by simp)
  refine wpAny_pyNext_tuple_item st (show s.heap.IsTuple a b_.toArray from p) (x:=u) (by simpa using hu) λh' n9 sb=>?_
  have I1:Inv X a_ σ H { s with heap:=h' }:=I.turned (t':=s.toks) (λb o hb e=>(sb.2 b hb).trans e) f0 f1 f3 f4 f5
  obtain ⟨o,e,c,d⟩:=id n9
  exact ⟨u,rfl,yX (s:={ s with heap:=h' }) e c d (by decide) ⟨x,H,I1,ru,⟨rfl,λys hy=>by rw [I.nc hy hq]; exact hx⟩,n9,λb hb=>(hf b hb).1⟩⟩
 done:=by
  intro X hP hw hK hc i a_ s σ H E I hf st hg
  subst hP hw hK
  obtain ⟨xs,hq,hx⟩:=hg
  obtain ⟨b_,rv,p,hz⟩:=I.tuple hq
  obtain ⟨f0,f1,f2,f3,f4,f5⟩:=hf it (by simp)
  have hl:=rv.length
  exact wpAny_pyNext_tuple_end (I.ok.hd hc) st (show s.heap.IsTuple a b_.toArray from p) (by simp; omega) λh' eb=>⟨rfl,I.turned (t':=s.toks) (λb o hb e=>eb b o hb e) f0 f1 f3 f4 f5⟩
 self:=λ_ _ _ _ _ st h=>wpAny_pyIter_tupleiter st h
theorem aBa (it:ae) (lo:Int) (n:Nat):Turn P w K tg (Bx lo n) [it] it (λi h=>IsRangeIter h it (lo+(i:Nat)*1) ((n:Int) - (i:Nat)) 1) where
 mem:=by simp
 obj:=λi h st b hb=>by
  have e:b=it:=by simpa using hb
  subst e
  exact ⟨_,st,λv z=>by
   have z':Data.fields _=Data.cell v:=z
   cases z'⟩
 keep:=λi h h' st k=>k it (by simp) _ st
 item:=by
  intro X hP hw hK hc i a_ s σ H E I hf st hg
  subst hP hw hK
  obtain ⟨f0,f1,f2,f3,f4,f5⟩:=hf it (by simp)
  have W:=cz.range (prog:=X.prog) (w:=X.w) (I.ok.hd hc) it lo 1 n
  refine W.item i s _ _ hg st λv h' tk hv n9 kk=>?_
  obtain ⟨t,rfl⟩:=hv
  have I1:Inv X a_ σ H { s with heap:=h',toks:=tk }:=I.turned (λb o hb e=>kk b o (by simpa using hb) e) f0 f1 f3 f4 f5
  refine ⟨_,rfl,yX (s:={ s with heap:=h',toks:=tk }) (n := "range_iterator") n9 rfl rfl (by decide) ⟨.int (lo+i),H,I1,⟨t,?_⟩,⟨rfl,rfl⟩,n9,λb hb=>(hf b hb).1⟩⟩
  rw [Int.mul_one]
 done:=by
  intro X hP hw hK hc i a_ s σ H E I hf st hg
  subst hP hw hK
  obtain ⟨f0,f1,f2,f3,f4,f5⟩:=hf it (by simp)
  exact wpAny_pyNext_range_end (I.ok.hd hc) st (by have:n<=i:=hg; omega) λh' eb=>⟨rfl,I.turned (t':=s.toks) (λb o hb e=>eb b o hb e) f0 f1 f3 f4 f5⟩
 self:=λ_ _ _ _ _ st h=>wpAny_pyIter_rangeiter st h
def C? (K:Rc) (tl:TE):TI:=λσ H R=>tl σ H λx H1=>∃ a,x=.ref a/\(∃ xs,fh K H1 a xs)/\R (By K a) H1
def Po (K:Rc) (tl:TE):TI:=λσ H R=>tl σ H λx H1=>∃ a,x=.ref a/\(∃ xs,d_ K H1 a xs)/\R (Bw K a) H1
theorem kH {l:bq} (hl:PE X l tl):PI X tg l (C? X.K tl):=by
 intro a_ s σ H R I h
 refine fk (hl a_ s σ H _ I h) λv s1 fe=>?_
 obtain ⟨x,H1,I1,r1,q1⟩:=fe
 obtain ⟨a,e,⟨xs,hq⟩,q⟩:=q1
 subst e
 cases r1
 obtain ⟨b_,rv,p,hz⟩:=I1.list hq
 refine Tr p.isList ?_
 refine ⟨s1.heap.objs.size,[s1.heap.objs.size],_,_,H1,rfl,I1.kept (t':=s1.toks) λb o e=>af.get?_push_of_some _ e,aCW a _,⟨_,af.get?_push_size _ rfl,rfl,rfl⟩,λb hb=>?_,q⟩
 have e:b=s1.heap.objs.size:=by simpa using hb
 subst e
 exact I1.k8 (Qh _) (I1.fj.fresh (Qh _))
theorem eI {l:bq} (hl:PE X l tl):PI X tg l (Po X.K tl):=by
 intro a_ s σ H R I h
 refine fk (hl a_ s σ H _ I h) λv s1 fe=>?_
 obtain ⟨x,H1,I1,r1,q1⟩:=fe
 obtain ⟨a,e,⟨xs,hq⟩,q⟩:=q1
 subst e
 cases r1
 obtain ⟨b_,rv,p,hz⟩:=I1.tuple hq
 refine Im (show s1.heap.IsTuple a b_.toArray from p) ?_
 refine ⟨s1.heap.objs.size,[s1.heap.objs.size],_,_,H1,rfl,I1.kept (t':=s1.toks) λb o e=>af.get?_push_of_some _ e,aA9 a _,⟨_,af.get?_push_size _ rfl,rfl,rfl⟩,λb hb=>?_,q⟩
 have e:b=s1.heap.objs.size:=by simpa using hb
 subst e
 exact I1.k8 (Qh _) (I1.fj.fresh (Qh _))
theorem aEa {σ:St} {R:It->Hp->Prop} {hi:Int} {t u v:dc} {tk:Nat} (I:Inv X a_ σ H s) (h1:-(2^62)<=lo) (h2:lo < 2^62) (h3:-(2^62)<=hi) (h4:hi < 2^62) (q:R (Bx lo (hi - lo).toNat) H):ag (ao X.prog X.w) X.A (pyIter (.ref s.heap.objs.size)) (SY X a_ σ tg R) E { s with heap:=s.heap.push { cls:=.type "range",data:=.fields #[.int lo t,.int hi u,.int 1 v] },toks:=tk }:=by
 refine wpAny_pyIter_range (IsRange.new ..) (small_one h1 h2 h3 h4) ?_
 have I1:Inv X a_ σ H { s with heap:=s.heap.push { cls:=.type "range",data:=.fields #[.int lo t,.int hi u,.int 1 v] },toks:=tk }:=I.kept λb o e=>af.get?_push_of_some _ e
 refine ⟨(s.heap.push { cls:=.type "range",data:=.fields #[.int lo t,.int hi u,.int 1 v] }).objs.size,[(s.heap.push { cls:=.type "range",data:=.fields #[.int lo t,.int hi u,.int 1 v] }).objs.size],_,_,H,rfl,
  I1.kept (t':=tk) λb o e=>af.get?_push_of_some _ e,aBa _ lo (hi - lo).toNat,?_,λb hb=>?_,q⟩
 ·have e1:lo+((0:Nat):Int)*1=lo:=by simp
  have e2:(((hi - lo).toNat:Nat):Int) - ((0:Nat):Int)=ai.Range.rangeSize lo hi 1:=by rw [rangeSize_one]; split <;> omega
  show IsRangeIter _ _ (lo+((0:Nat):Int)*1) ((((hi - lo).toNat:Nat):Int) - ((0:Nat):Int)) 1
  rw [e1,e2]
  exact af.get?_push_size _ rfl
 ·have e:b=(s.heap.push { cls:=.type "range",data:=.fields #[.int lo t,.int hi u,.int 1 v] }).objs.size:=by simpa using hb
  subst e
  exact I1.k8 (Qh _) (I1.fj.fresh (Qh _))
def C! (ta:TA):TI:=λσ H R=>ta σ H λvs H1=>∃ j:Int,vs = [.int j]/\-(2^62)<=j/\j < 2^62/\R (Bx 0 j.toNat) H1
theorem fU {a:bq} {ta:TA} (hg:Gl X "range") (hm:X.mg "range" = none) (ha:PA X [a] ta) (hs:autoParam (au [a] X.env = [(false,eval a X.env)]) L2.gj):PI X tg (.Call (.Name "range" p) [a] [] pos) (C! ta):=by
 intro a_ s σ H R I h
 refine Call_ (iQ I hg hm boot_range (PyProof.Rows.callWith_type1 (fk (ha pos a_ s σ H _ I h) λus s1 fe=>?_) hs rfl))
 obtain ⟨vs,H1,I1,r1,q1⟩:=fe
 obtain ⟨j,e,q1,q2,q⟩:=q1
 subst e
 cases r1 with
 | cons r rr =>
  cases rr
  obtain ⟨t,rfl⟩:=r
  exact call_range_1 (aEa I1 (by omega) (by omega) q1 q2 (by simpa using q))
def ξ (wi:TI) (g:TG) (tb:TS):TS:=λD σ H=>wi σ H λJ H1=>∃ W:Nat->Nat->St->Hp->Prop,(∃ m,W 0 m σ H1)/\∀ i m σ H,W i m σ H ->
 (J.stop i H/\D.nx σ H)∨(J.go i H/\∃ N:St->Hp->Prop,(∀ e_ H',N e_ H'->∃ m',m' < m/\W (i+1) m' e_ H')/\∀ x H',J.qd i H x H'->g x σ H' λfg H2=>tb { D with nx:=N,ct:=N,bk:=D.nx } fg H2)
noncomputable def pK (fp:List ae) (h:af):List (ae×bz):=fp.filterMap λb=>(h.get? b).map λo=>(b,o)
theorem nD (hb:b∈fp) (e:h.get? b=some o):(b,o)∈pK fp h:=Qaf.mpr ⟨b,hb,by rw [e]; rfl⟩
theorem vK {p:ae×bz} (hp:p∈pK fp h):p.1∈fp/\h.get? p.1=some p.2:=by
 obtain ⟨b,hb,e⟩:=Qaf.mp hp
 cases q:h.get? b with
 | none=>rw [q] at e; cases e
 | some o =>
  rw [q] at e
  have e':(b,o)=p:=Option.some.inj e
  subst e'
  exact ⟨hb,q⟩
theorem Inv.pinned {σ:St} (I:Inv X a_ σ H s) (hf:∀ b∈fp,rH X a_ H b) (ho:∀ b∈fp,∃ o,s.heap.get? b=some o/\∀ v,o.data≠.cell v):Inv X (a_++pK fp s.heap) σ H s :=
 I.j8 λp hp=>(Jk.mp hp).elim (λz=>I.pin p (Jg _ z)) λz=>by
  obtain ⟨hb,e⟩:=vK z
  obtain ⟨f0,f1,f2,_⟩:=hf p.1 hb
  obtain ⟨o,e',d⟩:=ho p.1 hb
  rw [e] at e'; cases e'
  exact ⟨e,f0,f1,f2,d⟩
theorem Inv.j9 {pl:List (ae×bz)} {σ:St} (I:Inv X (a_++pl) σ H s):Inv X a_ σ H s:=I.j8 λp hp=>I.pin p (Jg _ (Jp _ hp))
theorem eJ {wi:TI} (hp:az (ao X.prog X.w) X.A X.env X.xe) (hc:X.calm=true) (hi:PI X tg iter wi) (hg:PG X tg g) (hb:qj X body tb) (hs:autoParam (∀ x,foldedSetIterable iter X.env x=pure x) L2.u4):PS X (.For tg iter body [] pos) (ξ wi g tb):=by
 intro a_ s σ H D I h
 refine wpAny_For (fk (hi a_ s σ H _ I h) λv s1 h1=>fk h1 λE7 s2 h2=>?_) hs
 obtain ⟨it,fp,tn,J,H2,e,I2,T,ja,f2,W,⟨m0,w0⟩,turn⟩:=h2
 subst e
 -- what stays true of the iterator's objects through the loop
 have qz:∀ {H':Hp},(∀ b∈fp,H' b=none)->∀ b∈fp,rH X a_ H' b:=λhn b hb=>⟨hn b hb,(f2 b hb).2⟩
 refine codeAny_forLoop_any (λn s'=>∃ i e_ H',Inv X a_ e_ H' s'/\tn i s'.heap/\(∀ b∈fp,H' b=none)/\W i n e_ H') ?_ m0 ⟨0,σ,H2,I2,ja,λb hb=>(f2 b hb).1,w0⟩
 rintro n s3 ⟨i,ki,H3,I3,CS,Om,w3⟩
 rcases turn i n ki H3 w3 with ⟨stop,qn⟩ | ⟨go,N,hN,step⟩
 ·refine Ub hp (fk (T.done X rfl rfl rfl hc i a_ s3 ki H3 X.xe I3 (qz Om) CS stop) λr s4 fe=>?_)
  obtain ⟨hr,I4⟩:=fe
  subst hr
  exact Vr ⟨ki,H3,I4,qn⟩
 ·refine Ub hp (fk (T.item X rfl rfl rfl hc i a_ s3 ki H3 X.xe I3 (qz Om) CS go) λr s4 fe=>?_)
  obtain ⟨u,hr,h4⟩:=fe
  subst hr
  refine Ub hp (fk h4 λ_ s5 fe=>?_)
  obtain ⟨x,H5,I5,r5,y5,B3,FF⟩:=fe
  have I5':=I5.pinned (qz FF) (T.obj _ _ B3)
  refine Ub hp (fk (hg _ s5 ki H5 x u _ I5' r5 (step x H5 y5)) λ_ s6 fe=>?_)
  obtain ⟨LS,H6,I6,q6⟩:=fe
  refine Ub hp (fk (hb _ s6 LS H6 _ I6 q6) λf s7 q7=>?_)
  have again:∀ {uz:St} {H7:Hp},Inv X (a_++pK fp s5.heap) uz H7 s7->N uz H7->∃ m,m < n/\∃ i e_ H',Inv X a_ e_ H' s7/\tn i s7.heap/\(∀ b∈fp,H' b=none)/\W i m e_ H':=λ{uz H7} I7 n7=>by
   obtain ⟨m',hm,w7⟩:=hN uz H7 n7
   refine ⟨m',hm,i+1,uz,H7,I7.j9,T.keep _ _ _ B3 λb hb o e=>(I7.pin (b,o) (Jg _ (Jg _ (nD hb e)))).1,λb hb=>?_,w7⟩
   obtain ⟨o,e,d⟩:=T.obj _ _ B3 b hb
   exact (I7.pin (b,o) (Jg _ (Jg _ (nD hb e)))).2.1
  cases f with
  | next=>obtain ⟨uz,H7,I7,n7⟩:=q7; exact again I7 n7
  | cont=>obtain ⟨uz,H7,I7,n7⟩:=q7; exact again I7 n7
  | brk=>obtain ⟨uz,H7,I7,q7⟩:=q7; exact ⟨uz,H7,I7.j9,q7⟩
  | ret v=>obtain ⟨x7,uz,H7,I7,r7,q7⟩:=q7; exact ⟨x7,uz,H7,I7.j9,r7,q7⟩
theorem sE {σ:St} (Pv:Nat->St->Hp->Prop) (h0:Pv 0 σ H) (hl:∀ i σ H,i<=xs.length->Pv i σ H->fh K H a xs) (hs:∀ i x σ H,xs[i]?=some x->Pv i σ H->g x σ H λfg H2=>tb { D with nx:=Pv (i+1),ct:=Pv (i+1),bk:=D.nx } fg H2) (hd:∀ σ H,Pv xs.length σ H->D.nx σ H) :
  ∃ W:Nat->Nat->St->Hp->Prop,(∃ m,W 0 m σ H)/\∀ i m σ H,W i m σ H ->
   ((By K a).stop i H/\D.nx σ H)∨((By K a).go i H/\∃ N:St->Hp->Prop,(∀ e_ H',N e_ H'->∃ m',m' < m/\W (i+1) m' e_ H')/\∀ x H',(By K a).qd i H x H'->g x σ H' λfg H2=>tb { D with nx:=N,ct:=N,bk:=D.nx } fg H2):=by
 refine ⟨λi m σ H=>m=xs.length - i/\i<=xs.length/\Pv i σ H,⟨xs.length,by simp,Jl _,h0⟩,?_⟩
 rintro i m σ H ⟨rfl,hi,p⟩
 have q:=hl i σ H hi p
 by_cases ff:i < xs.length
 ·refine .inr ⟨⟨xs,xs[i],q,by simp [ff]⟩,Pv (i+1),λe_ H' p'=>⟨xs.length - (i+1),by omega,rfl,ff,p'⟩,λx H' y=>?_⟩
  obtain ⟨e,y⟩:=y
  subst e
  exact hs i x σ _ (y xs q) p
 ·have e:i=xs.length:=by omega
  subst e
  exact .inl ⟨⟨xs,q,Qh _⟩,hd σ H p⟩
theorem nV {σ:St} (Pv:Nat->St->Hp->Prop) (h0:Pv 0 σ H) (hl:∀ i σ H,i<=xs.length->Pv i σ H->d_ K H a xs) (hs:∀ i x σ H,xs[i]?=some x->Pv i σ H->g x σ H λfg H2=>tb { D with nx:=Pv (i+1),ct:=Pv (i+1),bk:=D.nx } fg H2) (hd:∀ σ H,Pv xs.length σ H->D.nx σ H) :
  ∃ W:Nat->Nat->St->Hp->Prop,(∃ m,W 0 m σ H)/\∀ i m σ H,W i m σ H ->
   ((Bw K a).stop i H/\D.nx σ H)∨((Bw K a).go i H/\∃ N:St->Hp->Prop,(∀ e_ H',N e_ H'->∃ m',m' < m/\W (i+1) m' e_ H')/\∀ x H',(Bw K a).qd i H x H'->g x σ H' λfg H2=>tb { D with nx:=N,ct:=N,bk:=D.nx } fg H2):=by
 refine ⟨λi m σ H=>m=xs.length - i/\i<=xs.length/\Pv i σ H,⟨xs.length,by simp,Jl _,h0⟩,?_⟩
 rintro i m σ H ⟨rfl,hi,p⟩
 have q:=hl i σ H hi p
 by_cases ff:i < xs.length
 ·refine .inr ⟨⟨xs,xs[i],q,by simp [ff]⟩,Pv (i+1),λe_ H' p'=>⟨xs.length - (i+1),by omega,rfl,ff,p'⟩,λx H' y=>?_⟩
  obtain ⟨e,y⟩:=y
  subst e
  exact hs i x σ _ (y xs q) p
 ·have e:i=xs.length:=by omega
  subst e
  exact .inl ⟨⟨xs,q,Qh _⟩,hd σ H p⟩
theorem vL {n:Nat} {σ:St} (Pv:Nat->St->Hp->Prop) (h0:Pv 0 σ H) (hs:∀ i σ H,i < n->Pv i σ H->g (.int (lo+i)) σ H λfg H2=>tb { D with nx:=Pv (i+1),ct:=Pv (i+1),bk:=D.nx } fg H2) (hd:∀ σ H,Pv n σ H->D.nx σ H) :
  ∃ W:Nat->Nat->St->Hp->Prop,(∃ m,W 0 m σ H)/\∀ i m σ H,W i m σ H ->
   ((Bx lo n).stop i H/\D.nx σ H)∨((Bx lo n).go i H/\∃ N:St->Hp->Prop,(∀ e_ H',N e_ H'->∃ m',m' < m/\W (i+1) m' e_ H')/\∀ x H',(Bx lo n).qd i H x H'->g x σ H' λfg H2=>tb { D with nx:=N,ct:=N,bk:=D.nx } fg H2):=by
 refine ⟨λi m σ H=>m=n - i/\i<=n/\Pv i σ H,⟨n,by simp,Jl _,h0⟩,?_⟩
 rintro i m σ H ⟨rfl,hi,p⟩
 by_cases ff:i < n
 ·refine .inr ⟨ff,Pv (i+1),λe_ H' p'=>⟨n - (i+1),by omega,rfl,ff,p'⟩,λx H' y=>?_⟩
  obtain ⟨e,y⟩:=y
  subst e y
  exact hs i σ _ ff p
 ·have e:i=n:=by omega
  subst e
  exact .inl ⟨Qh _,hd σ H p⟩
abbrev R2:=V->V->Hp->VK->Prop
end L2
variable {r:R2}
namespace L2
open PySem PySem.Spec PyProof.Rows
def i7 (X:Cx) (f:aa->aa->Sem aa) (r:R2):Prop :=
 ∀ (a_:List (ae×bz)) (s:ah) (σ:St) (H:Hp) (x y:V) (v u:aa) (Q:VK),Inv X a_ σ H s->bN x v->bN y u->r x y H Q ->
  ag (ao X.prog X.w) X.A (f v u) (EP X a_ σ Q) X.xe s
def J9 (X:Cx) (f:aa->Sem aa) (r:V->Hp->VK->Prop):Prop :=
 ∀ (a_:List (ae×bz)) (s:ah) (σ:St) (H:Hp) (x:V) (v:aa) (Q:VK),Inv X a_ σ H s->bN x v->r x H Q ->
  ag (ao X.prog X.w) X.A (f v) (EP X a_ σ Q) X.xe s
def eV (X:Cx) (f:aa) (r:List V->Hp->VK->Prop):Prop :=
 ∀ (a_:List (ae×bz)) (s:ah) (σ:St) (H:Hp) (xs:List V) (us:List aa) (Q:VK),Inv X a_ σ H s->bM xs us->r xs H Q ->
  ag (ao X.prog X.w) X.A (call f us) (EP X a_ σ Q) X.xe s
def ν (X:Cx) (r:V->Hp->(Bool->Hp->Prop)->Prop):Prop :=
 ∀ (a_:List (ae×bz)) (s:ah) (σ:St) (H:Hp) (x:V) (v:aa) (Q:Bool->Hp->Prop),Inv X a_ σ H s->bN x v->r x H Q ->
  ag (ao X.prog X.w) X.A (truthy v) (TP X a_ σ Q) X.xe s
def AM (r:R2) (ta tb:TE):TE:=λσ H Q=>ta σ H λx H1=>tb σ H1 λy H2=>r x y H2 Q
def UM (r:V->Hp->VK->Prop) (ta:TE):TE:=λσ H Q=>ta σ H λx H1=>r x H1 Q
def rI (C:Int->Int->Prop) (g:Int->Int->V):R2:=λx y H Q=>∃ i j,x=.int i/\y=.int j/\C i j/\Q (g i j) H
def xm (g:Int->Int->V):R2:=λx y H Q=>∃ i j,x=.int i/\y=.int j/\Q (g i j) H
def rU (g:Int->V):V->Hp->VK->Prop:=λx H Q=>∃ i,x=.int i/\Q (g i) H
section
variable {a b c:bq} {tb tc:TE}
theorem JC (ha:PE X a ta) (hb:PE X b tb) {σ:St} {R:V->V->Hp->Prop} (I:Inv X a_ σ H s) (h:ta σ H λx H1=>tb σ H1 λy H2=>R x y H2) {f:aa->aa->Sem aa} (hf:∀ v u s2 x y H2,Inv X a_ σ H2 s2->bN x v->bN y u->R x y H2->ag (ao X.prog X.w) X.A (f v u) Q X.xe s2) :
  ag (ao X.prog X.w) X.A (eval a X.env) (λv gf=>ag (ao X.prog X.w) X.A (eval b X.env) (λu kr=>ag (ao X.prog X.w) X.A (f v u) Q X.xe kr) X.xe gf) X.xe s:=by
 refine fk (ha a_ s σ H _ I h) λv s1 fe=>?_
 obtain ⟨x,H1,I1,r1,q1⟩:=fe
 refine fk (hb a_ s1 σ H1 _ I1 q1) λu s2 fe=>?_
 obtain ⟨y,H2,I2,r2,q2⟩:=fe
 exact hf v u s2 x y H2 I2 r1 r2 q2
theorem cR {op:Operator} (ho:i7 X (binaryOp op) r) (ha:PE X a ta) (hb:PE X b tb):PE X (.BinOp a op b pos) (AM r ta tb):=by
 intro a_ s σ H Q I h
 exact wpAny_BinOp (JC ha hb I h λv u s2 x y H2 I2 rx ry q=>ho a_ s2 σ H2 x y v u Q I2 rx ry q)
theorem JQ {op:UnaryOp} {r:V->Hp->VK->Prop} (ho:J9 X (unaryOp op) r) (ha:PE X a ta):PE X (.UnaryOp op a pos) (UM r ta):=by
 intro a_ s σ H Q I h
 refine UnaryOp_ (fk (ha a_ s σ H _ I h) λv s1 fe=>?_)
 obtain ⟨x,H1,I1,r1,q1⟩:=fe
 exact ho a_ s1 σ H1 x v Q I1 r1 q1
theorem Gq {f:aa->aa->Sem aa} {C:Int->Int->Prop} {g:Int->Int->Int}
  (rule:∀ (i j:Int) (t u:dc) (s:ah) (Q:aa->ah->Prop) (E:aa->ah->Prop),C i j->Q (.int (g i j) s.toks) { s with toks:=s.toks+1 }->ag (ao X.prog X.w) X.A (f (.int i t) (.int j u)) Q E s) :
  i7 X f (rI C λi j=>.int (g i j)):=by
 intro a_ s σ H x y v u Q I rx ry h
 obtain ⟨i,j,rfl,rfl,hc,q⟩:=h
 obtain ⟨t,rfl⟩:=rx
 obtain ⟨t',rfl⟩:=ry
 exact rule i j t t' s _ _ hc ⟨.int (g i j),H,I.tok _,⟨_,rfl⟩,q⟩
theorem Pn {f:aa->aa->Sem aa} {g:Int->Int->Int}
  (rule:∀ (i j:Int) (t u:dc) (s:ah) (Q:aa->ah->Prop) (E:aa->ah->Prop),Q (.int (g i j) s.toks) { s with toks:=s.toks+1 }->ag (ao X.prog X.w) X.A (f (.int i t) (.int j u)) Q E s) :
  i7 X f (xm λi j=>.int (g i j)):=by
 intro a_ s σ H x y v u Q I rx ry h
 obtain ⟨i,j,rfl,rfl,q⟩:=h
 obtain ⟨t,rfl⟩:=rx
 obtain ⟨t',rfl⟩:=ry
 exact rule i j t t' s _ _ ⟨.int (g i j),H,I.tok _,⟨_,rfl⟩,q⟩
theorem FO {f:aa->aa->Sem aa} {g:Int->Int->Bool}
  (rule:∀ (i j:Int) (t u:dc) (s:ah) (Q:aa->ah->Prop) (E:aa->ah->Prop),Q (.bool (g i j)) s->ag (ao X.prog X.w) X.A (f (.int i t) (.int j u)) Q E s) :
  i7 X f (xm λi j=>.bl (g i j)):=by
 intro a_ s σ H x y v u Q I rx ry h
 obtain ⟨i,j,rfl,rfl,q⟩:=h
 obtain ⟨t,rfl⟩:=rx
 obtain ⟨t',rfl⟩:=ry
 exact rule i j t t' s _ _ ⟨.bl (g i j),H,I,rfl,q⟩
def μ (i j:Int):Prop:=0 < j/\j < 1073741824
def JB (i j:Int):Prop:=(-(2^64) < i/\i < 2^64)∨(-(2^64) < j/\j < 2^64)
theorem JB.ok {i j:Int} (h:JB i j):IntMulOk i j:=by
 rcases h with ⟨h1,h2⟩ | ⟨h1,h2⟩
 ·exact .of_left (intBits_le_64 h1 h2)
 ·exact .of_right (intBits_le_64 h1 h2)
theorem kZ:i7 X (binaryOp .Add) (xm λi j=>.int (i+j)):=Pn λ_ _ _ _ _ _ _ q=>add_int q
theorem sF:i7 X (binaryOp .Sub) (xm λi j=>.int (i - j)):=Pn λ_ _ _ _ _ _ _ q=>sub_int q
theorem X!:i7 X (binaryOp .Mult) (rI JB λi j=>.int (i*j)):=Gq λ_ _ _ _ _ _ _ hc q=>mul_int q hc.ok
theorem wU:i7 X (binaryOp .FloorDiv) (rI μ λi j=>.int (i / j)):=Gq λi j _ _ _ _ _ hc q=>by
 have h1:(0:Int) < j:=hc.1
 have h2:j < 1073741824:=hc.2
 exact floordiv_int (by omega) (by rw [Int.fdiv_eq_ediv_of_nonneg i (by omega)]; exact q) (.inl (PyProof.noPylong_small (by omega)))
theorem QQ:i7 X (binaryOp .Mod) (rI (λ_ j=>0 < j) λi j=>.int (i % j)):=Gq λi j _ _ _ _ _ hc q=>by
 have h1:(0:Int) < j:=hc
 exact mod_int' (by omega) (by rw [Int.fmod_eq_emod_of_nonneg i (by omega)]; exact q)
theorem UH {f:aa->Sem aa} {g:Int->Int}
  (rule:∀ (i:Int) (t:dc) (s:ah) (Q:aa->ah->Prop) (E:aa->ah->Prop),Q (.int (g i) s.toks) { s with toks:=s.toks+1 }->ag (ao X.prog X.w) X.A (f (.int i t)) Q E s) :
  J9 X f (rU λi=>.int (g i)):=by
 intro a_ s σ H x v Q I rx h
 obtain ⟨i,rfl,q⟩:=h
 obtain ⟨t,rfl⟩:=rx
 exact rule i t s _ _ ⟨.int (g i),H,I.tok _,⟨_,rfl⟩,q⟩
theorem J3:J9 X (unaryOp .USub) (rU λi=>.int (-i)):=UH λ_ _ _ _ _ q=>neg_int q
noncomputable def Pm:V->V->Bool
 | .f_,.f_=>true | .f_,.int _=>true | .int _,.f_=>true | .f_,.bl _=>true | .bl _,.f_=>true | .f_,.str _=>true | .str _,.f_=>true
 | .int _,.int _=>true | .bl _,.bl _=>true | .str _,.str _=>true | .r_ _,.r_ _=>true
 | .int _,.str _=>true | .str _,.int _=>true | .bl _,.str _=>true | .str _,.bl _=>true
 | _,_=>false
def UY:R2:=λx y H Q=>Pm x y=true/\Q (.bl (decide (x=y))) H
def UX:R2:=λx y H Q=>Pm x y=true/\Q (.bl (!decide (x=y))) H
theorem wV {i j:Int}:decide (V.int i=V.int j)=(i==j):=by
 rw [Xf]
 simp
theorem QP {i j:Bool}:decide (V.bl i=V.bl j)=(i==j):=by
 rw [Xf]
 simp
theorem Sb {i j:ax}:decide (V.str i=V.str j)=(i==j):=by
 rw [Xf]
 simp
theorem Sa {i j:Array UInt8}:decide (V.r_ i=V.r_ j)=(i.toList==j.toList):=by
 rw [Xf]
 cases i
 cases j
 simp
theorem bS {σ:St} {Q:VK} {k k':Bool} (I:Inv X a_ σ H s) (q:Q (.bl k) H) (e:k=k'):EP X a_ σ Q (.bool k') s:=by
 subst e
 exact ⟨.bl k,H,I,rfl,q⟩
theorem mO:i7 X (bc .Eq) UY:=by
 intro a_ s σ H x y v u Q I rx ry h
 obtain ⟨hs,q⟩:=h
 cases x with
 | f_ =>
  cases rx
  cases y with
  | f_=>cases ry; exact RaO (bS I q (by simp))
  | bl j=>cases ry; exact RaP (bS I q (by simp))
  | int j=>obtain ⟨t',rfl⟩:=ry; exact RaQ (bS I q (by simp))
  | str j=>obtain ⟨t',rfl⟩:=ry; exact RaR (bS I q (by simp))
  | _=>exact absurd (show false=true from hs) Qm
 | bl i =>
  cases rx
  cases y with
  | f_=>cases ry; exact RaS (bS I q (by simp))
  | bl j=>cases ry; exact eq_bool (bS I q QP)
  | str j=>obtain ⟨t',rfl⟩:=ry; exact RaD (bS I q (by simp))
  | _=>exact absurd (show false=true from hs) Qm
 | int i =>
  obtain ⟨t,rfl⟩:=rx
  cases y with
  | f_=>cases ry; exact RaT (bS I q (by simp))
  | int j=>obtain ⟨t',rfl⟩:=ry; exact eq_int (bS I q wV)
  | str j=>obtain ⟨t',rfl⟩:=ry; exact RaE (bS I q (by simp))
  | _=>exact absurd (show false=true from hs) Qm
 | str i =>
  obtain ⟨t,rfl⟩:=rx
  cases y with
  | f_=>cases ry; exact RaU (bS I q (by simp))
  | bl j=>cases ry; exact RaF (bS I q (by simp))
  | int j=>obtain ⟨t',rfl⟩:=ry; exact RaG (bS I q (by simp))
  | str j=>obtain ⟨t',rfl⟩:=ry; exact eq_str (bS I q Sb)
  | _=>exact absurd (show false=true from hs) Qm
 | r_ i =>
  obtain ⟨t,rfl⟩:=rx
  cases y with
  | r_ j=>obtain ⟨t',rfl⟩:=ry; exact PySem.W.eq_bytes (bS I q Sa)
  | _=>exact absurd (show false=true from hs) Qm
 | _=>cases y <;> exact absurd (show false=true from hs) Qm
theorem kS:i7 X (bc .NotEq) UX:=by
 intro a_ s σ H x y v u Q I rx ry h
 obtain ⟨hs,q⟩:=h
 cases x with
 | f_ =>
  cases rx
  cases y with
  | f_=>cases ry; exact RaV (bS I q (by simp))
  | bl j=>cases ry; exact RaW (bS I q (by simp))
  | int j=>obtain ⟨t',rfl⟩:=ry; exact RaX (bS I q (by simp))
  | str j=>obtain ⟨t',rfl⟩:=ry; exact RaY (bS I q (by simp))
  | _=>exact absurd (show false=true from hs) Qm
 | bl i =>
  cases rx
  cases y with
  | f_=>cases ry; exact RaZ (bS I q (by simp))
  | bl j=>cases ry; exact ne_bool (bS I q (congrArg not QP))
  | str j=>obtain ⟨t',rfl⟩:=ry; exact RaH (bS I q (by simp))
  | _=>exact absurd (show false=true from hs) Qm
 | int i =>
  obtain ⟨t,rfl⟩:=rx
  cases y with
  | f_=>cases ry; exact Ra0 (bS I q (by simp))
  | int j=>obtain ⟨t',rfl⟩:=ry; exact ne_int (bS I q (congrArg not wV))
  | str j=>obtain ⟨t',rfl⟩:=ry; exact RaI (bS I q (by simp))
  | _=>exact absurd (show false=true from hs) Qm
 | str i =>
  obtain ⟨t,rfl⟩:=rx
  cases y with
  | f_=>cases ry; exact Ra1 (bS I q (by simp))
  | bl j=>cases ry; exact RaJ (bS I q (by simp))
  | int j=>obtain ⟨t',rfl⟩:=ry; exact RaK (bS I q (by simp))
  | str j=>obtain ⟨t',rfl⟩:=ry; exact ne_str (bS I q (congrArg not Sb))
  | _=>exact absurd (show false=true from hs) Qm
 | r_ i =>
  obtain ⟨t,rfl⟩:=rx
  cases y with
  | r_ j=>obtain ⟨t',rfl⟩:=ry; exact PySem.W.ne_bytes (bS I q (congrArg not Sa))
  | _=>exact absurd (show false=true from hs) Qm
 | _=>cases y <;> exact absurd (show false=true from hs) Qm
theorem yY:i7 X (bc .Lt) (xm λi j=>.bl (decide (i < j))):=FO λ_ _ _ _ _ _ _ q=>lt_int q
theorem nW:i7 X (bc .LtE) (xm λi j=>.bl (decide (i<=j))):=FO λ_ _ _ _ _ _ _ q=>le_int q
theorem B?:i7 X (bc .Gt) (xm λi j=>.bl (decide (j < i))):=FO λ_ _ _ _ _ _ _ q=>gt_int q
theorem yZ:i7 X (bc .GtE) (xm λi j=>.bl (decide (j<=i))):=FO λ_ _ _ _ _ _ _ q=>ge_int q
theorem W?:i7 X (bc .Is) (λx y H Q=>y=.f_/\Q (.bl (decide (x=.f_))) H):=by
 intro a_ s σ H x y v u Q I rx ry h
 obtain ⟨rfl,q⟩:=h
 cases ry
 refine is_none_gen (bS I q ?_)
 cases x <;> first
  | (cases rx; rfl)
  | (obtain ⟨t,rfl⟩:=rx; rfl)
theorem aF8:i7 X (bc .IsNot) (λx y H Q=>y=.f_/\Q (.bl (!decide (x=.f_))) H):=by
 intro a_ s σ H x y v u Q I rx ry h
 obtain ⟨rfl,q⟩:=h
 cases ry
 refine isnot_none_gen (bS I q ?_)
 cases x <;> first
  | (cases rx; rfl)
  | (obtain ⟨t,rfl⟩:=rx; rfl)
theorem W! (b:bq) (h:autoParam (op≠.In) L2.ka) (h2:autoParam (op≠.NotIn) L2.ka):behindInMarks op b=false:=by
 have e1:(op==CmpOp.In)=false:=by cases op <;> first | rfl | exact absurd rfl h
 have e2:(op==CmpOp.NotIn)=false:=by cases op <;> first | rfl | exact absurd rfl h2
 cases b <;> simp [behindInMarks,e1,e2]
theorem gm {b:bq} (h:op≠.In:=by decide) (h2:op≠.NotIn:=by decide):behindInMarks op b=false:=W! b h h2
theorem dX (ho:i7 X (bc op) r) (ha:PE X a ta) (hb:PE X b tb) (hm:behindInMarks op b=false):PE X (.Compare a [op] [b] pos) (AM r ta tb):=by
 intro a_ s σ H Q I h
 exact wpAny_Compare1 (JC ha hb I h λv u s2 x y H2 I2 rx ry q=>ho a_ s2 σ H2 x y v u Q I2 rx ry q) hm
def PV (t:TE):TT:=λσ H Q=>t σ H λx H'=>∃ k,x=.bl k/\Q k H'
theorem aU (ho:i7 X (bc op) r) (ha:PE X a ta) (hb:PE X b tb) (hm:behindInMarks op b=false):PT X (.Compare a [op] [b] pos) (PV (AM r ta tb)):=by
 intro a_ s σ H Q I h
 refine Rag (fk (ha a_ s σ H _ I h) λv s1 ⟨x,H1,I1,r1,q1⟩=>fk (hb a_ s1 σ H1 _ I1 q1) λu s2 ⟨y,H2,I2,r2,q2⟩ =>
  fk (ho a_ s2 σ H2 x y v u _ I2 r1 r2 q2) λc s3 ⟨z,H3,I3,r3,k,e,q3⟩=>?_) hm
 subst e
 cases r3
 exact Rv ⟨H3,I3,q3⟩
def QO (r r':R2) (ta tb tc:TE):TE:=λσ H Q=>ta σ H λx H1=>tb σ H1 λy H2=>r x y H2 λz H3=>∃ k,z=.bl k /\
 (if k=true then tc σ H3 λw' H4=>r' y w' H4 Q else Q (.bl false) H3)
theorem zD {AU:CmpOp} {r':R2} (ho:i7 X (bc op) r) (k_:i7 X (bc AU) r') (ha:PE X a ta) (hb:PE X b tb) (hc:PE X c tc) (hm:autoParam (lastMarks [op,AU] [b,c]=false) L2.LU):PE X (.Compare a [op,AU] [b,c] pos) (QO r r' ta tb tc):=by
 intro a_ s σ H Q I h
 refine Compare_chain (fk (ha a_ s σ H _ I h) λv s1 ⟨x,H1,I1,r1,q1⟩=>chain_link (fk (hb a_ s1 σ H1 _ I1 q1) λu s2 ⟨y,H2,I2,r2,q2⟩ =>
  fk (ho a_ s2 σ H2 x y v u _ I2 r1 r2 q2) λd s3 ⟨z,H3,I3,r3,k,e,q3⟩=>?_)) hm
 subst e
 cases r3
 refine Rv ?_
 cases k with
 | false=>exact ite_ff ⟨.bl false,H3,I3,rfl,q3⟩
 | true=>exact ite_tt (chain_last (fk (hc a_ s3 σ H3 _ I3 q3) λw' s4 ⟨z',H4,I4,r4,q4⟩=>k_ a_ s4 σ H4 y z' u w' Q I4 r2 r4 q4))
theorem aEf {AU:CmpOp} {r':R2} (ho:i7 X (bc op) r) (k_:i7 X (bc AU) r') (ha:PE X a ta) (hb:PE X b tb) (hc:PE X c tc) (hm:autoParam (lastMarks [op,AU] [b,c]=false) L2.LU):PT X (.Compare a [op,AU] [b,c] pos) (PV (QO r r' ta tb tc)):=by
 intro a_ s σ H Q I h
 refine isTrue_chain (fk (ha a_ s σ H _ I h) λv s1 ⟨x,H1,I1,r1,q1⟩=>test_link (fk (hb a_ s1 σ H1 _ I1 q1) λu s2 ⟨y,H2,I2,r2,q2⟩ =>
  fk (ho a_ s2 σ H2 x y v u _ I2 r1 r2 q2) λd s3 ⟨z,H3,I3,r3,k,e,q3⟩=>?_)) hm
 subst e
 cases r3
 refine Rv ?_
 cases k with
 | false =>
  obtain ⟨k',e',q'⟩:=q3
  cases e'
  exact ite_ff ⟨H3,I3,q'⟩
 | true =>
  refine ite_tt (test_last (fk (hc a_ s3 σ H3 _ I3 q3) λw' s4 ⟨z',H4,I4,r4,q4⟩=>fk (k_ a_ s4 σ H4 y z' u w' _ I4 r2 r4 q4) λd' s5 fe=>?_))
  obtain ⟨z2,H5,I5,r5,k2,e2,q5⟩:=fe
  subst e2
  cases r5
  exact Rv ⟨H5,I5,q5⟩
def Pl (K:Rc) (x:V) (H:Hp) (k:Bool):Prop :=
 match x with
 | .f_=>k=false
 | .bl b=>k=b
 | .int i=>k=(i !=0)
 | .str y=>y.length<=ak/\k=((y.length:Int) !=0)
 | .r_ y=>y.size<=ak/\k=((y.size:Int) !=0)
 | .ref p=>(∃ xs,fh K H p xs/\k=!xs.isEmpty)∨(∃ xs,d_ K H p xs/\k=!xs.isEmpty)∨∃ kvs,H p=some (.dK kvs)/\k=!kvs.isEmpty
 | _=>False
theorem aBc {kvs:List (κ×V)} {vs:List (κ×aa)} (r:KV kvs vs):(!vs.isEmpty)=!kvs.isEmpty:=by
 cases r <;> rfl
theorem sG {b_:List aa} (r:bM xs b_):(!b_.toArray.isEmpty)=!xs.isEmpty:=by
 cases r <;> simp
theorem sH:(ak:Nat) < 2^63:=by rw [Rf]; decide
theorem V?:ν X (λx H Q=>∃ k,Pl X.K x H k/\Q k H):=by
 intro a_ s σ H x v Q I rx h
 obtain ⟨k,e,q⟩:=h
 have hl:=sH
 have hs:ak=16777216:=Rf
 cases x with
 | f_ =>
  cases rx
  have e':k=false:=e
  subst e'
  exact truthy_none ⟨H,I,q⟩
 | bl b =>
  cases rx
  have e':k=b:=e
  subst e'
  exact Rv ⟨H,I,q⟩
 | int i =>
  obtain ⟨t,rfl⟩:=rx
  have e':k=(i !=0):=e
  subst e'
  exact PySem.P.truthy_int ⟨H,I,q⟩
 | str y =>
  obtain ⟨t,rfl⟩:=rx
  obtain ⟨hy,e'⟩:y.length<=ak/\k=((y.length:Int) !=0):=e
  subst e'
  exact PySem.P.truthy_str (by omega) ⟨H,I.tok _,q⟩
 | r_ y =>
  obtain ⟨t,rfl⟩:=rx
  obtain ⟨hy,e'⟩:y.size<=ak/\k=((y.size:Int) !=0):=e
  subst e'
  exact PySem.W.truthy_bytes (by omega) ⟨H,I.tok _,q⟩
 | ref p =>
  cases rx
  have e':(∃ xs,fh X.K H p xs/\k=!xs.isEmpty)∨(∃ xs,d_ X.K H p xs/\k=!xs.isEmpty)∨∃ kvs,H p=some (.dK kvs)/\k=!kvs.isEmpty:=e
  rcases e' with ⟨xs,hx,e'⟩ | ⟨xs,hx,e'⟩ | ⟨kvs,hx,e'⟩
  ·subst e'
   obtain ⟨b_,r,pl,hz⟩:=I.list hx
   have hlen:=r.length
   exact wpAny_truthy_list pl.isList (by simp only [Qk]; omega) ⟨H,I.tok _,by rw [sG r]; exact q⟩
  ·subst e'
   obtain ⟨b_,r,pl,hz⟩:=I.tuple hx
   have hlen:=r.length
   exact truthy_tuple pl (by simp only [Qk]; omega) ⟨H,I.tok _,by rw [sG r]; exact q⟩
  ·subst e'
   obtain ⟨hz,hS,vs,r,m⟩:kvs.length<=ak/\(p==bg)=false/\∃ vs,KV kvs vs/\s.heap.DictOf (cA X.prog X.w) p vs:=I.fj p _ hx
   have hlen:kvs.length=vs.length:=cm.length r
   exact wpAny_truthy_dict hS m (by omega) ⟨H,I.tok _,by rw [aBc r]; exact q⟩
 | _=>exact (show False from e).elim
theorem aEg (ha:PE X a ta) (he:∀ whole,isTrue a X.env whole=(do let v<-whole; standAt a.pos; holding [v] (truthy v))) :
  PT X a (λσ H Q=>ta σ H λx H'=>∃ k,Pl X.K x H' k/\Q k H'):=by
 intro a_ s σ H Q I h
 refine isTrue_plain (fk (ha a_ s σ H _ I h) λv s1 fe=>?_) (he _)
 obtain ⟨x,H1,I1,r1,q1⟩:=fe
 exact V? a_ s1 σ H1 x v Q I1 r1 q1
theorem fY {x:V} (r:bM [x] us):∃ u,us = [u]/\bN x u:=by
 cases r with
 | cons r1 r2=>cases r2; exact ⟨_,rfl,r1⟩
theorem nX {x:V} (r:bM [x,y] us):∃ u w',us = [u,w']/\bN x u/\bN y w':=by
 cases r with
 | cons r1 r2 =>
  cases r2 with
  | cons r3 r4=>cases r4; exact ⟨_,_,rfl,r1,r3⟩
theorem aEh:eV X (.builtin "abs") (λxs H Q=>∃ i,xs = [.int i]/\Q (.int (if i < 0 then -i else i)) H):=by
 intro a_ s σ H xs us Q I r h
 obtain ⟨i,rfl,q⟩:=h
 obtain ⟨u,rfl,t,rfl⟩:=fY r
 exact call_abs_int λu tk=>⟨.int (if i < 0 then -i else i),H,I.tok _,⟨_,rfl⟩,q⟩
end
section
variable {x:ae} {mA:ax->Option aa} {v:aa}
end
theorem nR.some_of {o:Option aa} (r:nR (some v) o):∃ u,o=some u/\bN v u:=by
 cases o with
 | none=>exact (show False from r).elim
 | some u=>exact ⟨u,rfl,r⟩
theorem nR.none_of {o:Option aa} (r:nR none o):o=none:=by
 cases o with
 | none=>rfl
 | some u=>exact (show False from r).elim
section
variable {fs YI:List (ax×V)}
end
section
variable {σ:St} {fs:List (ax×V)} {f:ax}
end
section
variable {o:bq} {f:ax}
end
section
variable {σ:St} {c:aa} {b:Bool}
end
structure ee (k:Nat) (A:bw):Prop where
 hd:A.handled=none
 dp:A.depth+3*k+5 < recursionLimit
 un:A.units+16*k+200 < cn
 gd:A.guards=some []
theorem ee.mono {k:Nat} (r:ee k A) (h:j<=k):ee j A:=⟨r.hd,by have:=r.dp; omega,by have:=r.un; omega,r.gd⟩
theorem ee.deeper {k:Nat} (r:ee (k+1) A) (env:c8):ee k (A.deeper env) :=
 ⟨r.hd,by have:=r.dp; show A.depth+1+3*k+5 < _; omega,by have:=r.un; show A.units+3+16*k+200 < _; omega,r.gd⟩
theorem ee.in1 {k:Nat} (r:ee (k+1) A):ee k A.in1 :=
 ⟨r.hd,by have:=r.dp; show A.depth+3*k+5 < _; omega,by have:=r.un; show A.units+1+16*k+200 < _; omega,r.gd⟩
theorem ee.depth {k:Nat} (r:ee k A):A.depth < recursionLimit:=by have:=r.dp; omega
theorem ee.units {k:Nat} (r:ee k A):A.units+64 < cn:=by have:=r.un; omega
abbrev zF:TA:=λ_ H Q=>Q [] H
abbrev sI (ta:TE) (tr:TA):TA:=λσ H Q=>ta σ H λx H1=>tr σ H1 λxs H2=>Q (x::xs) H2
section
variable {t:TA}
theorem aC:PA X [] zF:=λ_ _ _ _ H Q I h=>Calls.spliced_nil ⟨[],H,I,.nil,h⟩
theorem aA (ha:PE X e te) (hr:PA X es t) (hs:autoParam (au (e::es) X.env=(false,eval e X.env)::au es X.env) L2.gj):PA X (e::es) (sI te t):=by
 intro pos a_ s σ H Q I h
 rw [hs]
 show ag _ _ (spliced ((false,eval e X.env)::cy pos (au es X.env))) _ _ s
 refine Calls.spliced_cons (fk (ha a_ s σ H _ I h) λu s1 fe=>?_)
 obtain ⟨x,H1,I1,r1,q1⟩:=fe
 refine fk (hr pos a_ s1 σ H1 _ I1 q1) λus s2 fe=>?_
 obtain ⟨xs,H2,I2,r2,q2⟩:=fe
 exact ⟨x::xs,H2,I2,.cons r1 r2,q2⟩
def Pk (t:TA):TE:=λσ H Q=>t σ H λxs H1=>xs.length<=ak/\∀ p,H1 p=none->Q (.ref p) (upd H1 p (.tup xs))
def Z_ (t:TA):TE:=λσ H Q=>t σ H λxs H1=>xs.length<=ak/\∀ p,H1 p=none->Q (.ref p) (upd H1 p (.lst xs))
theorem cO {x1} (h:PA X es t):PE X (.Tuple es x1 pos) (Pk t):=by
 intro a_ s σ H Q I hq
 refine wpAny_Tuple_spliced (fk (h pos a_ s σ H _ I hq) λus s1 ⟨xs,H1,I1,r,z,q⟩=>⟨by rw [<- r.length]; exact z,?_⟩)
 have hf:H1 s1.heap.objs.size=none:=I1.fj.fresh (Qh _)
 refine ⟨.ref s1.heap.objs.size,upd H1 s1.heap.objs.size (.tup xs),I1.laid (t':=s1.toks) (λb u e=>af.get?_push_of_some _ e) (Qh _) ?_,rfl,q _ hf⟩
 exact ⟨z,us,0,r,af.get?_push_size _ rfl⟩
theorem eO (h:PA X es t):PE X (.List es pos) (Z_ t):=by
 intro a_ s σ H Q I hq
 refine wpAny_List_spliced (fk (h pos a_ s σ H _ I hq) λus s1 ⟨xs,H1,I1,r,z,q⟩=>⟨by rw [<- r.length]; exact z,?_⟩)
 have hf:H1 s1.heap.objs.size=none:=I1.fj.fresh (Qh _)
 refine ⟨.ref s1.heap.objs.size,upd H1 s1.heap.objs.size (.lst xs),I1.laid (t':=s1.toks) (λb u e=>af.get?_push_of_some _ e) (Qh _) ?_,rfl,q _ hf⟩
 exact ⟨z,us,0,r,af.get?_push_size _ rfl⟩
end
abbrev Sp:=List V->Hp->VK->XK->Prop
end L2
variable {sp:Sp}
namespace L2
open PySem PySem.Spec PyProof.Rows
abbrev Bz:=List c8->Hp->ah->XK->aa->ah->Prop
end L2
variable {CX:Bz}
namespace L2
open PySem PySem.Spec PyProof.Rows
structure zk (P:br) (w:bf) (K:Rc) (mg:ax->Option aa) (base:af) (A:bw) (outer:List c8) (s:ah) (H:Hp):Prop where
 frames:A.frames=some outer
 mod:Mod K mg base
 bs:∀ b o,base.get? b=some o->s.heap.get? b=some o/\H b=none
 Bq:base.objs.size<=s.heap.objs.size
 l_:s.heap.FunFrames base outer
 Cp:∀ b∈rn outer,H b=none
 fj:jq P w H s.heap
 bare:AllBare s.gens
def CE (outer:List c8) (P:br) (w:bf) (H:Hp) (s:ah) (Q:VK) (u:aa) (s':ah):Prop :=
 ∃ v H',s'.os=s.os/\AllBare s'.gens/\Un (rn outer) [] H H' s.heap s'.heap/\jq P w H' s'.heap/\bN v u/\Q v H'
def CR (CX:Bz) (outer:List c8) (P:br) (w:bf) (H:Hp) (s:ah) (Q:VK) (E:XK) (r:Result) (s':ah):Prop :=
 match r with
 | .ok (.ret u)=>CE outer P w H s Q u s'
 | .ok _=>False
 | .error e=>CX outer H s E e s'
structure c_ (P:br) (w:bf) (K:Rc) (mg:ax->Option aa) (base:af) (CX:Bz) (k:Nat) (f:ae) (fd:bo) (ps:List ax) (sp:Sp):Prop where
 len:∀ vs H Q E,sp vs H Q E->vs.length=ps.length
 run:∀ (A:bw) (outer:List c8) (s:ah) (H:Hp) (args:Args) (us:List aa) (vs:List V) (Q:VK) (E:XK),ee k A->zk P w K mg base A outer s H->dt s fd args (ps.zip us)->bM vs us->sp vs H Q E ->
  codeAny (ao P w) A (.call (.ref f) args) (CR CX outer P w H s Q E) s
section
variable {σ:St}
theorem Inv.Eo (I:Inv X a_ σ H s):zk X.prog X.w X.K X.mg X.base X.A X.stack s H :=
 ⟨I.ok.frames,I.ok.mod,I.bs,Jd I.ok.Bq I.sz,I.stack,I.sk,I.fj,I.bare⟩
theorem Inv.after {Q:VK} (I:Inv X a_ σ H s) (h:CE X.stack X.prog X.w H s Q u s'):EP X a_ σ Q u s':=by
 obtain ⟨v,H',os,bare,un,fj,r,q⟩:=h
 obtain ⟨hh,g,d,t,B7⟩:=s'
 obtain rfl:B7=s.os:=os
 exact ⟨v,H',I.call (h':=hh) (g':=g) (d':=d) (t':=t) (ch:=[]) un fj bare (λb z=>absurd z (by simp)),r,q⟩
end
def JP (sp:Sp) (vk:List V) (E:XK) (t:TA):TE:=λσ H Q=>t σ H λvs H1=>sp (vs++vk) H1 Q E
def sJ (K:Rc) (fd:bo) (ps:List ax) (ds:List aa):Prop :=
 ∀ (s:ah) (us:List aa),K.In s.heap->(us++ds).length=ps.length->dt s fd ⟨us,[]⟩ (ps.zip (us++ds))
theorem sJ.all (h:∀ us:List aa,us.length=ps.length->cu fd ⟨us,[]⟩=pure (ps.zip us)):sJ K fd ps []:=λs us _ hl=>by
 rw [Xq] at hl ⊢
 exact .of_eq (h us hl)
def wW (CX:Bz) (X:Cx) (E:XK):Prop:=∀ (a_:List (ae×bz)) (σ:St) (H:Hp) (s:ah) (e:aa) (s':ah),Inv X a_ σ H s->CX X.stack H s E e s'->X.xe e s'
section
variable {k:Nat} {vk:List V} {ds:List aa} {E:XK} {m:ax} {o:bq} {t:TA}
theorem QN {σ:St} {Q:VK} (F:c_ X.prog X.w X.K X.mg X.base CX k f fd ps sp) (hr:ee k X.A) (hb:sJ X.K fd ps ds) (hd:bM vk ds) (hx:wW CX X E) (I:Inv X a_ σ H s) (r:bM vs us) (h:sp (vs++vk) H Q E):ag (ao X.prog X.w) X.A (call (.ref f) us) (EP X a_ σ Q) X.xe s:=by
 have r2:bM (vs++vk) (us++ds):=r.append hd
 have hl:(us++ds).length=ps.length:=by rw [<- r2.length]; exact F.len _ _ _ _ h
 refine Io (Um (F.run X.A X.stack s H ⟨us,[]⟩ (us++ds) (vs++vk) Q E hr I.Eo (hb s us I.rh hl) r2 h) λr s' hq=>?_)
 cases r with
 | error e=>exact hx a_ σ H s e s' I hq
 | ok fl =>
  cases fl with
  | ret u=>exact I.after hq
  | next=>exact False.elim hq
  | brk=>exact False.elim hq
  | cont=>exact False.elim hq
theorem aF9 (F:c_ X.prog X.w X.K X.mg X.base CX k f fd ps sp) (hr:ee k X.A) (hg:Gl X x) (hm:X.mg x=some (.ref f)) (hk:Ro X.K (.ref f)=true) (hb:sJ X.K fd ps ds) (hd:bM vk ds) (hx:wW CX X E)
  (ha:PA X (e::es) t) (uh:autoParam ((x==("__debug__" : ax))=false) L2.ka) (he:autoParam (au (e::es) X.env=(false,eval e X.env)::au es X.env) L2.gj) (qf:autoParam ((cy pos (au es X.env)).any (·.1)=false) L2.gj) :
  PE X (.Call (.Name x p) (e::es) [] pos) (JP sp vk E t):=by
 intro a_ s σ H Q I h
 refine Tf (nS I hg hm ?_ uh)
 refine My (h₀:=X.base) I.ok.mod.B9 hk (fk (ha pos a_ s σ H _ I h) λus s1 ⟨vs,H1,I1,r,q⟩=>⟨I1.rh,?_⟩) he qf
 exact QN F hr hb hd hx I1 r q
theorem aEk (F:c_ X.prog X.w X.K X.mg X.base CX k f fd ps sp) (hr:ee k X.A) (hg:Gl X x) (hm:X.mg x=some (.ref f)) (hk:Ro X.K (.ref f)=true) (hb:sJ X.K fd ps ds) (hd:bM vk ds) (hx:wW CX X E)
  (uh:autoParam ((x==("__debug__" : ax))=false) L2.ka):PE X (.Call (.Name x p) [] [] pos) (JP sp vk E zF):=by
 intro a_ s σ H Q I h
 refine Tf (nS I hg hm ?_ uh)
 exact PySem.W.callWith_K0 I.rh hk (QN (us:=[]) F hr hb hd hx I .nil h)
end
def PK (X:Cx) (u9:List dr) (t:TA):Prop :=
 ∀ (pos:Pos) (a_:List (ae×bz)) (s:ah) (σ:St) (H:Hp) (Q:List V->Hp->Prop),Inv X a_ σ H s->t σ H Q->ag (ao X.prog X.w) X.A (evalAll ((dg pos (cq u9 X.env)).map (·.2))) (AP X a_ σ Q) X.xe s
section
variable {k:Nat} {ks:List ax} {E:XK} {m:ax} {o:bq} {u9:List dr} {t tk:TA} {nm:Option ax}
theorem cX:PK X [] zF:=λ_ _ _ _ H Q I h=>wpAny_evalAll_nil ⟨[],H,I,.nil,h⟩
theorem aS (ha:PE X e te) (hr:PK X u9 t):PK X (⟨nm,e,yu⟩::u9) (sI te t):=by
 intro pos a_ s σ H Q I h
 show ag _ _ (evalAll ((do let v<-eval e X.env; standAt pos; pure v)::(dg pos (cq u9 X.env)).map (·.2))) _ _ s
 refine wpAny_evalAll_cons (Ra (fk (ha a_ s σ H _ I h) λu s1 ⟨x,H1,I1,r1,q1⟩=>Ra (Td (Rb ?_))))
 refine fk (hr pos a_ s1 σ H1 _ I1 q1) λus s2 fe=>?_
 obtain ⟨xs,H2,I2,r2,q2⟩:=fe
 exact ⟨x::xs,H2,I2,.cons r1 r2,q2⟩
variable {g:List aa->List aa->List aa} {gV:List V->List V->List V}
end
structure dz (N P:List ax) (sc:c7):Prop where
 kind:sc.kind=.function
 co:sc.isCoroutine=false
 gen:sc.isGenerator=false
 nd:N.Nodup
 pre:N.take P.length=P
 par:∀ x∈P,sc.names.lookup x=some .local∨sc.names.lookup x=some .cell
 BV:∀ y∈sc.names,y.2≠.free
theorem dz.of {P:List ax} (a:autoParam (sc.kind=.function) L2.EF) (b:autoParam (sc.isCoroutine=false) L2.EF) (c:autoParam (sc.isGenerator=false) L2.EF) (d:autoParam (N.Nodup) L2.CN) (e:autoParam (N.take P.length=P) L2.EF) (f:autoParam (∀ x∈P,sc.names.lookup x=some .local∨sc.names.lookup x=some .cell) L2.CN) (g:autoParam (∀ y∈sc.names,y.2≠.free) L2.CN):dz N P sc:=⟨a,b,c,d,e,f,g⟩
theorem vM:∀ {binds:List (ax×aa)} {m:ax->Option aa},(∀ v,(x,v)∉binds)->bindL kindOf binds m x=m x
 | [],_,_=>rfl
 | (n,v)::r,m,h=>by
  unfold bindL
  rw [vM λw hw=>h w (Qg _ hw)]
  split
  ·have:x≠n:=by rintro rfl; exact h v Qi
   simp [this]
  ·rfl
theorem vN:∀ {binds:List (ax×aa)} {m:ax->Option aa},(∀ v,(x,v)∉binds)->bindC kindOf binds m x=m x
 | [],_,_=>rfl
 | (n,v)::r,m,h=>by
  unfold bindC
  rw [vN λw hw=>h w (Qg _ hw)]
  split
  ·rfl
  ·have:x≠n:=by rintro rfl; exact h v Qi
   simp [this]
theorem vO {v:aa}:∀ {P:List ax} {vs:List aa} {i:Nat} {m:ax->Option aa},P.Nodup->P[i]?=some x->vs[i]?=some v->kindOf x=some .local ->
  bindL kindOf (P.zip vs) m x=some v
 | [],_,_,_,_,h,_,_=>by simp at h
 | _::_,[],_,_,_,_,h,_=>by simp at h
 | p::P,w::vs,0,m,nd,h1,h2,hk=>by
  simp at h1 h2; subst h1; subst h2
  show bindL kindOf ((p,w)::P.zip vs) m p=_
  unfold bindL
  rw [vM λv hv=>(Jv.mp nd).1 (Yo hv).1,if_pos hk]
  simp
 | p::P,w::vs,i+1,m,nd,h1,h2,hk=>by
  show bindL kindOf ((p,w)::P.zip vs) m x=_
  unfold bindL
  exact vO (i:=i) (Jv.mp nd).2 (by simpa using h1) (by simpa using h2) hk
theorem vP {v:aa}:∀ {P:List ax} {vs:List aa} {i:Nat} {m:ax->Option aa},P.Nodup->P[i]?=some x->vs[i]?=some v->kindOf x≠some .local ->
  bindC kindOf (P.zip vs) m x=some v
 | [],_,_,_,_,h,_,_=>by simp at h
 | _::_,[],_,_,_,_,h,_=>by simp at h
 | p::P,w::vs,0,m,nd,h1,h2,hk=>by
  simp at h1 h2; subst h1; subst h2
  show bindC kindOf ((p,w)::P.zip vs) m p=_
  unfold bindC
  rw [vN λv hv=>(Jv.mp nd).1 (Yo hv).1,if_neg hk]
  simp
 | p::P,w::vs,i+1,m,nd,h1,h2,hk=>by
  show bindC kindOf ((p,w)::P.zip vs) m x=_
  unfold bindC
  exact vP (i:=i) (Jv.mp nd).2 (by simpa using h1) (by simpa using h2) hk
noncomputable def start (N:List ax) (vs:List V):St:=vs.map some++List.replicate (N.length - vs.length) none
noncomputable def zG (CX:Bz) (P:br) (w:bf) (K:Rc) (mg:ax->Option aa) (base:af) (N:List ax) (qual:ax) (scope:c7) (f:ae) (cd:aa) (A:bw) (outer:List c8) (s:ah) (H:Hp) (E:XK):Cx where
 prog:=P
 w:=w
 K:=K
 mg:=mg
 base:=base
 A:=A.deeper (envOfC qual scope s.heap.objs.size f cd)
 N:=N
 jm:=s
 qk:=H
 env:=envOfC qual scope s.heap.objs.size f cd
 outer:=outer
 stack:=envOfC qual scope s.heap.objs.size f cd::outer
 ex:=[]
 calm:=true
 fn:=λ_=>true
 pn:=[]
 xe:=λe s'=>ag (ao P w) (A.deeper (envOfC qual scope s.heap.objs.size f cd)) (leaving (envOfC qual scope s.heap.objs.size f cd) e) (λ_ AQ=>CX outer H s E e AQ) (λe' AQ=>CX outer H s E e' AQ) s'
theorem zH {n:Nat} (h:sc.names.lookup x=some .cell):∃ c,(cellsFrom n sc.names []).lookup x=some c:=by
 have q:=Mj sc.names n [] (.inl h)
 exact Yz.mp q
theorem aCX {cd:aa} {outer:List c8} {s1:ah} {E:XK} (S:dz N ps scope) (hd:A.handled=none) (e0:zk P w K mg base A outer s H) (hl:vs.length=ps.length) (r:bM vs us) (x:InCallC s s.heap.objs.size (bindL (envOfC qual scope s.heap.objs.size f cd).kindOf (ps.zip us) λ_=>none) (cellsFrom (s.heap.objs.size+1) scope.names []) (bindC (envOfC qual scope s.heap.objs.size f cd).kindOf (ps.zip us) λ_=>none) s1) :
  Inv (zG CX P w K mg base N qual scope f cd A outer s H E) [] (start N vs) H s1:=by
 have qf:ps.length<=N.length:=by have:=congrArg Ye S.pre; rw [Qq] at this; omega
 obtain ⟨h1,tk,rfl,hk⟩:=x.done
 have C0:∀ b:ae,b∉(zG CX P w K mg base N qual scope f cd A outer s H E).ex:=λb z=>absurd (show b∈([]:List ae) from z) (by simp)
 refine ⟨⟨e0.mod,S.kind,rfl,rfl,Qh _,λy z c h1 h2=>?_,λy hy=>?_,λy c _ h=>?_,λ_=>hd,bw.frames_deeper e0.frames,.inr ⟨rfl,rfl⟩,λb z=>absurd z (C0 b),e0.bs,e0.Bq,λb _ _=>C0 b,λb z=>absurd z (C0 b),e0.l_,e0.Cp⟩,
  rfl,e0.bare,Un.kept hk,⟨_,x.toInCall.ns,λi y v h1 h2 h3=>?_⟩,λy c h=>⟨_,x.cell y c h⟩,e0.fj.fresh (Qh _),λy c h=>?_,λp hp=>absurd (show p∈([]:List (ae×bz)) from hp) (by simp),e0.fj.kept hk,?_⟩
 ·exact name_of_addr x.apart (Ue h1) (Ue h2)
 ·have hy:scope.names.lookup y=some .cell∨scope.names.lookup y=some .free:=hy
  rcases hy with hy | hy
  ·exact zH hy
  ·exact absurd rfl (S.BV _ (Ue hy))
 ·exact Yh (x.above y c (Ue h))
 ·have hi:i < vs.length:=by
   unfold start at h2
   by_cases hi:i < vs.length
   ·exact hi
   ·rw [Ji (by simpa using hi)] at h2
    rw [Jz] at h2
    split at h2 <;> cases h2
  have ha:vs[i]?=some v:=by
   unfold start at h2
   rw [Qs (by simpa using hi),Qd] at h2
   cases e:vs[i]? with
   | none=>rw [e] at h2; cases h2
   | some a=>rw [e] at h2; cases h2; rfl
  obtain ⟨u,hu,rv⟩:=r.get ha
  have hp:ps[i]?=some y:=by
   rw [<- S.pre,Wa (by omega)]; exact h1
  have MW:ps.Nodup:=by rw [<- S.pre]; exact S.nd.sublist (List.take_sublist _ _)
  refine ⟨u,rv,?_⟩
  rcases S.par y (Qe hp) with k | k
  ·exact .inl ⟨k,vO MW hp hu k⟩
  ·obtain ⟨c,e⟩:=zH (n:=s.heap.objs.size+1) k
   refine .inr ⟨.inl k,c,e,?_⟩
   have q:=x.cell y c e
   rw [vP MW hp hu (by show scope.names.lookup y≠_; rw [k]; decide)] at q
   exact q
 ·exact e0.fj.fresh (Yh (x.above y c (Ue h)))
 ·unfold start
  show _=N.length
  rw [Qj,Qa,Jw]
  omega
theorem PU {k:Nat} {dV kV:aa} (lk:K.lookup f=some ⟨oc,od,.func (Tc name qual params body scope dV kV doc pm an ft ct),uo⟩) (nu:Ve K ft qual=true) (S:dz N ps scope) (len:∀ vs H Q E,sp vs H Q E->vs.length=ps.length) (md:∀ (A:bw) (outer:List c8) (s:ah) (H:Hp) (vs:List V) (Q:VK) (E:XK),ee k (A.deeper (envOfC qual scope s.heap.objs.size f ft))->sp vs H Q E ->
   ∃ t,qj (zG CX P w K mg base N qual scope f ft A outer s H E) body t/\t { nx:=λ_ H'=>Q .f_ H',rt:=Q } (start N vs) H) :
  c_ P w K mg base CX (k+1) f (Tc name qual params body scope dV kV doc pm an ft ct) ps sp:=by
 refine ⟨len,λA outer s H args us vs Q E hr e0 hb r oa=>?_⟩
 have hl:=len _ _ _ _ oa
 have KX:K.In s.heap:=e0.mod.B9.keeps λb o e=>(e0.bs b o e).1
 have lim:s.heap.NoLimit:=e0.mod.nolimit.keeps λb o e=>(e0.bs b o e).1
 have Ey:∀ y∈ps.zip us,scope.names.lookup y.1=some .local∨(scope.names.lookup y.1=some .cell/\((cellsFrom (s.heap.objs.size+1) scope.names []).lookup y.1).isSome=true):=λ⟨n,v⟩ hy=>by
  rcases S.par n (Yo hy).1 with q | q
  ·exact .inl q
  ·exact .inr ⟨q,Mj _ _ _ (.inl q)⟩
 refine codeAny_call_function hr.depth (KX _ _ lk) rfl S.co S.gen rfl (PySem.W.codeRec_of KX nu) (hb _ _ _ _ ?_)
 refine wpAny_newFunctionEnv_cells S.kind Ey λenv he s1 x=>?_
 subst he
 refine ⟨lim.keeps x.toInCall.keep,codeAny_func ?_⟩
 obtain ⟨t,ht,hq⟩:=md A outer s H vs Q E (hr.deeper _) oa
 have I:Inv (zG CX P w K mg base N qual scope f ft A outer s H E) [] (start N vs) H s1:=aCX S hr.hd e0 hl r x
 refine Rp (ht [] s1 (start N vs) H _ I hq) (λfl s' hs=>?_) λe s' hs=>hs
 have fin:∀ {e_:St} {H':Hp} {v:V} {u:aa},Inv (zG CX P w K mg base N qual scope f ft A outer s H E) [] e_ H' s'->bN v u->Q v H'->CE outer P w H s Q u s' :=
  λ{e_ H' v u} J rv q=>⟨v,H',J.os,J.bare,J.base,J.fj,rv,q⟩
 cases fl with
 | ret u =>
  obtain ⟨v,e_,H',J,rv,q⟩:=hs
  exact fin J rv q
 | next =>
  obtain ⟨e_,H',J,q⟩:=hs
  exact fin (v:=V.f_) (u:=aa.none) J rfl q
 | brk =>
  obtain ⟨_,_,_,q⟩:=hs
  exact False.elim q
 | cont =>
  obtain ⟨_,_,_,q⟩:=hs
  exact False.elim q
section
variable {t:TA} {id:String} {r:List V->Hp->VK->Prop}
def L_ (r:List V->Hp->VK->Prop) (t:TA):TE:=λσ H Q=>t σ H λvs H1=>r vs H1 Q
theorem aO (hc:eV X (.builtin id) r) (hg:Gl X x) (hm:X.mg x=none) (hv:ay x=some (.builtin id)) (ha:PA X (e::es) t) (hn:autoParam (x ≠ "__name__") L2.ka) (uh:autoParam ((x==("__debug__" : ax))=false) L2.ka)
  (he:autoParam (au (e::es) X.env=(false,eval e X.env)::au es X.env) L2.gj) (qf:autoParam ((cy pos (au es X.env)).any (·.1)=false) L2.gj):PE X (.Call (.Name x p) (e::es) [] pos) (L_ r t):=by
 intro a_ s σ H Q I h
 refine Tf (iQ I hg hm hv ?_ hn uh)
 refine PyProof.Rows.callWith_builtin1 (fk (ha pos a_ s σ H _ I h) λus s1 fe=>?_) he qf
 obtain ⟨vs,H1,I1,r1,q1⟩:=fe
 exact hc a_ s1 σ H1 vs us Q I1 r1 q1
theorem cK (hc:eV X (.type T) r) (hg:Gl X x) (hm:X.mg x=none) (hv:ay x=some (.type T)) (ha:PA X (e::es) t) (hn:autoParam (x ≠ "__name__") L2.ka) (uh:autoParam ((x==("__debug__" : ax))=false) L2.ka)
  (he:autoParam (au (e::es) X.env=(false,eval e X.env)::au es X.env) L2.gj) (qf:autoParam ((cy pos (au es X.env)).any (·.1)=false) L2.gj):PE X (.Call (.Name x p) (e::es) [] pos) (L_ r t):=by
 intro a_ s σ H Q I h
 refine Tf (iQ I hg hm hv ?_ hn uh)
 refine PyProof.Rows.callWith_type1 (fk (ha pos a_ s σ H _ I h) λus s1 fe=>?_) he qf
 obtain ⟨vs,H1,I1,r1,q1⟩:=fe
 exact hc a_ s1 σ H1 vs us Q I1 r1 q1
end
end L2
namespace HT
open PySem PyProof.Rows
section
open PySem.SeqAt
open PySem.AutoSeq1 (wpAny_loadPart')
open PySem.MeetsSeq PySem.MeetsSeq2 PySem.MeetsSeq3
end
theorem zp {t:ae} {vs ws:List aa} (ht:IsTup s.heap t vs.toArray) (hb:IsTup s.heap b ws.toArray) (hv:vs≠[]) (h1:ws = []->Q (.ref t) s) (h2:ws≠[]->Q (.ref s.heap.objs.size) { s with heap:=s.heap.push { cls:=.type "tuple",data:=.seq (vs++ws).toArray } }) (hsz:vs.length+ws.length<=ak):ag (ao prog w) A (binaryOp .Add (.ref t) (.ref b)) Q E s:=by
 obtain ⟨⟨cls,dd,data,sl⟩,ho,hc,n,hd⟩:=id ht
 obtain ⟨⟨BQ,xi,data2,wu⟩,t9,qi,n2,hd2⟩:=id hb
 simp only at hc hd qi hd2
 subst hc hd qi hd2
 have e:vs.toArray++ws.toArray=(vs++ws).toArray:=by simp
 by_cases hw:ws = []
 ·exact Vo ⟨_,ho,rfl⟩ ⟨_,t9,rfl⟩ Vm Ie Up Uk (Ug _ _)
   (tuple_addW1 t b vs.toArray ws.toArray n n2 dd xi sl wu (by simpa using hv) (by simp [hw])) ⟨ho,t9,h1 hw⟩
 ·refine Vo ⟨_,ho,rfl⟩ ⟨_,t9,rfl⟩ Vm Ie Up Uk (Ug _ _)
   (tuple_addW2 t b vs.toArray ws.toArray n n2 dd xi sl wu (by simpa using hv) (by simpa using hw) (by rw [Qk,Qk]; exact hsz)) ⟨ho,t9,?_⟩
  rw [e]
  exact h2 hw
noncomputable def gu (n d:Nat):Option Int->Nat
 | none=>d
 | some v=>if v < 0 then (v+(n:Int)).toNat else min v.toNat n
theorem pz (n d:Nat):gu n d none=d:=rfl
theorem sr (n d k:Nat):gu n d (some (k:Int))=min k n:=by
 show (if (k:Int) < 0 then ((k:Int)+(n:Int)).toNat else min (k:Int).toNat n)=min k n
 rw [if_neg (by omega),Jc]
theorem V! (n d:Nat) (hd:d<=n) (o:Option Int):gu n d o<=n:=by
 cases o with
 | none=>exact hd
 | some v =>
  show (if v < 0 then (v+(n:Int)).toNat else min v.toNat n)<=n
  by_cases hv:v < 0
  ·rw [if_pos hv]; omega
  ·rw [if_neg hv]; exact Nat.min_le_right _ _
theorem R_ (v:Int) (n d:Nat):(if v < 0 then max (v+(n:Int)) 0 else min v (n:Int))=((gu n d (some v):Nat):Int):=by
 show (if v < 0 then max (v+(n:Int)) 0 else min v (n:Int))=(((if v < 0 then (v+(n:Int)).toNat else min v.toNat n):Nat):Int)
 by_cases hv:v < 0
 ·simp only [if_pos hv]; omega
 ·simp only [if_neg hv]; omega
theorem aBd (lo hi:Option Int) (n:Nat):ai.Slice.sliceAdjust lo hi 1 (n:Int)=(((gu n 0 lo:Nat):Int),((gu n n hi:Nat):Int)):=by
 have h1:¬ ((1:Int) < 0):=by omega
 unfold ai.Slice.sliceAdjust
 simp only [h1,if_false]
 refine Prod.ext ?_ ?_
 ·cases lo with
  | none=>rfl
  | some v=>exact R_ v n 0
 ·cases hi with
  | none=>rfl
  | some v=>exact R_ v n n
theorem aBe (i j:Nat):ai.Slice.slicePlaces (i:Int) (j:Int) 1=j - i:=by
 unfold ai.Slice.slicePlaces
 have h1:(1:Int) > 0:=by omega
 simp only [h1,if_true,Int.ediv_one]
 split <;> omega
theorem sK {v:aa} {o:Option Int} {Q:Option Int->ah->Prop} (p:dj v o) (h:Q o s):ag (ao prog w) A (ai.Slice.slicePartIndex v) Q E s:=by
 cases p with
 | none=>exact slicePart_none h
 | int i t=>exact slicePart_int h
theorem iw {lo:Option Int} {n:Nat} {Q:Int×Int×Nat->ah->Prop} (hs:s.heap.IsSliceOf sl vl vu .none) (pl:dj vl lo) (pu:dj vu hi) (h:Q (((gu n 0 lo:Nat):Int),1,gu n n hi - gu n 0 lo) s):ag (ao prog w) A (ai.Slice.sliceApplied (.ref sl) (pure (n:Int))) Q E s:=by
 obtain ⟨os,A4,A_,ug⟩:=id hs
 unfold ai.Slice.sliceApplied ai.Slice.sliceFields
 refine Ra (Ra (Rn A4 ug (x:=vl) rfl (Ra (Rn A4 ug (x:=vu) rfl (Ra (Rn A4 ug (x:=.none) rfl (Rb ?_)))))))
 refine Ra (slicePart_none ?_)
 show ag _ _ (if ((1:Int)==0)=true then _ else _) _ _ s
 rw [if_neg (by decide)]
 refine Ra (sK pl (Ra (sK pu (Ra (Rb ?_)))))
 show ag _ _ (match ai.Slice.sliceAdjust lo hi 1 (n:Int) with | (lo,hi)=>pure (lo,(1:Int),ai.Slice.slicePlaces lo hi 1)) _ _ s
 rw [aBd lo hi n]
 show ag _ _ (pure (((gu n 0 lo:Nat):Int),(1:Int),ai.Slice.slicePlaces ((gu n 0 lo:Nat):Int) ((gu n n hi:Nat):Int) 1)) _ _ s
 rw [aBe]
 exact Rb h
theorem p_ (xs:Array aa) (i k:Nat):((List.range k).filterMap λ(m:Nat)=>xs[((i:Int)+(m:Int)*1).toNat]?).toArray=((xs.toList.drop i).take k).toArray:=by
 have e:(λ(m:Nat)=>xs[((i:Int)+(m:Int)*1).toNat]?)=λm=>xs[i+m]?:=by
  funext m
  have:((i:Int)+(m:Int)*1).toNat=i+m:=by omega
  rw [this]
 rw [e]
 have:=pick_run xs i k
 rw [Qag] at this
 have e2:((λx=>xs[x]?) ∘ λx=>i+x)=λm=>xs[i+m]?:=rfl
 rw [e2] at this
 rw [this]
theorem j' {t:ae} {lo:Option Int} (ht:IsTup s.heap t items) (hs:s.heap.IsSliceOf sl vl vu .none) (pl:dj vl lo) (pu:dj vu hi) (hw:¬ (gu items.size 0 lo=0/\gu items.size items.size hi=items.size)) (h:Q (.ref s.heap.objs.size) { s with heap:=s.heap.push { cls:=.type "tuple",data:=.seq ((items.toList.drop (gu items.size 0 lo)).take (gu items.size items.size hi - gu items.size 0 lo)).toArray } }) (hsz:items.size<=ak):ag (ao prog w) A (cp (.ref t) (.ref sl)) Q E s:=by
 have se:sizeOk (.seq ((items.toList.drop (gu items.size 0 lo)).take (gu items.size items.size hi - gu items.size 0 lo)).toArray):=by
  show ((items.toList.drop (gu items.size 0 lo)).take (gu items.size items.size hi - gu items.size 0 lo)).toArray.size<=ak
  rw [Qk,Qq,Jy,Array.length_toList]
  omega
 have hj:gu items.size items.size hi<=items.size:=V! _ _ (Qh _) hi
 obtain ⟨os,A4,A_,ug⟩:=id hs
 have Hy:s.TypeIs (.ref sl) "slice" := ⟨os,A4,A_⟩
 unfold cp
 try with_reducible refine Rm ?_
 first | refine Ra (Rb ?_) | skip
 refine Ra (Rax ht.typeIs (by decide) ?_)
 refine Ra (Rg (name:=ax.ofString "__getitem__") ht.typeIs PyProof.Rows.slot_tuple_getitem
  (Ri PyProof.Rows.slot_tuple_getitem ht.typeIs Rap ?_ (Raq _ _)))
 show ag _ _ (ai.Tuple.tupleItemsOf (.ref t) >>= _) _ _ s
 refine Ra (tupleItemsOf_ ht ?_)
 refine Ra (Vp Hy ?_)
 rw [if_pos (by decide)]
 refine Ra (iw hs pl pu ?_)
 have xa:¬ ((((gu items.size 0 lo:Nat):Int)==0 && (1:Int)==1 && (gu items.size items.size hi - gu items.size 0 lo)==items.size)=true):=by
  intro q
  rw [Jf,Jf] at q
  have q1:((gu items.size 0 lo:Nat):Int)=0:=eq_of_beq q.1.1
  have q2:gu items.size items.size hi - gu items.size 0 lo=items.size:=eq_of_beq q.2
  exact hw ⟨by omega,by omega⟩
 show ag _ _ (if (((gu items.size 0 lo:Nat):Int)==0 && (1:Int)==1 && (gu items.size items.size hi - gu items.size 0 lo)==items.size)=true then _ else _) _ _ s
 rw [if_neg xa,p_]
 first
  | exact Ra (m:=ai.Tuple.tupleExact _) (Rk (Rb ⟨_,rfl,Rb h⟩) se)
  | exact Ra (m:=ai.Tuple.tupleExact _) (Rk (Ra (Rb (Rb ⟨_,rfl,Rb h⟩))) se)
  | exact Ra (Ra (m:=ai.Tuple.tupleExact _) (Rk (Rb (Rb ⟨_,rfl,Rb h⟩)) se))
  | exact Ra (Ra (m:=ai.Tuple.tupleExact _) (Rk (Rb ⟨_,rfl,Rb h⟩) se))
end HT
namespace L2
open PySem PySem.Spec PyProof.Rows
abbrev TO:=St->Hp->(Option Int->Hp->Prop)->Prop
def PO (X:Cx) (e:Option bq) (t:TO):Prop :=
 ∀ (a_:List (ae×bz)) (s:ah) (σ:St) (H:Hp) (Q:Option Int->Hp->Prop),Inv X a_ σ H s->t σ H Q ->
  ag (ao X.prog X.w) X.A (evalPart e X.env) (λu s'=>∃ o H',Inv X a_ σ H' s'/\dj u o/\Q o H') X.xe s
def wX:TO:=λ_ H Q=>Q none H
def aEl (t:TE):TO:=λσ H Q=>t σ H λx H1=>∃ i,x=.int i/\Q (some i) H1
theorem iR:∀ {us:List aa},bM (ns.map V.int) us->IntsAre us ns:=by
 induction ns with
 | nil=>intro us r; rw [Qap] at r; cases r; exact .nil
 | cons n ns ih =>
  intro us r
  rw [Qw] at r
  cases r with
  | cons r1 r2 =>
   obtain ⟨t,e⟩:=r1
   subst e
   exact .cons n t (ih r2)
section
variable {lo hi:Option bq} {tl th:TO}
theorem lW:PO X none wX:=by
 intro a_ s σ H Q I h
 rw [Ig]
 exact Rb ⟨none,H,I,.none,h⟩
theorem lX (h:PE X e te):PO X (some e) (aEl te):=by
 intro a_ s σ H Q I hw
 rw [evalPart_some]
 refine fk (h a_ s σ H _ I hw) λu s1 fe=>?_
 obtain ⟨x,H1,I1,r1,q1⟩:=fe
 obtain ⟨i,rfl,q⟩:=q1
 obtain ⟨t,rfl⟩:=r1
 exact ⟨some i,H1,I1,.int i t,q⟩
def FZ (X:Cx) (r:V->Option Int->Option Int->Hp->VK->Prop):Prop :=
 ∀ (a_:List (ae×bz)) (s:ah) (σ:St) (H:Hp) (x:V) (v vl vu:aa) (lo hi:Option Int) (sl:ae) (Q:VK),Inv X a_ σ H s->bN x v->s.heap.IsSliceOf sl vl vu .none->dj vl lo->dj vu hi->r x lo hi H Q ->
  ∃ T id,typeLookup (.type T) "__getitem__" = pure (some (.builtin id))/\s.TypeIs v T/\ag (ao X.prog X.w) X.A (cp v (.ref sl)) (EP X a_ σ Q) X.xe s
def Ga (r:V->Option Int->Option Int->Hp->VK->Prop) (te:TE) (tl th:TO):TE:=λσ H Q=>te σ H λx H1=>tl σ H1 λl H2=>th σ H2 λu H3=>r x l u H3 Q
theorem jS {r:V->Option Int->Option Int->Hp->VK->Prop} (hr:FZ X r) (he:PE X e te) (hl:PO X lo tl) (hu:PO X hi th):PE X (.Subscript e (.Slice lo hi none p2) pos) (Ga r te tl th):=by
 intro a_ s σ H Q I h
 refine Ip (fk (he a_ s σ H _ I h) λv s1 fe=>?_)
 obtain ⟨x,H1,I1,r1,q1⟩:=fe
 refine wpAny_Slice (fk (hl a_ s1 σ H1 _ I1 q1) λvl s2 ⟨l,H2,I2,pl,q2⟩=>fk (hu a_ s2 σ H2 _ I2 q2) λvu s3 fe=>?_)
 obtain ⟨u,H3,I3,pu,q3⟩:=fe
 rw [Ig]
 refine Rb ?_
 have I4:Inv X a_ σ H3 { s3 with heap:=s3.heap.push { cls:=.type "slice",data:=.fields #[vl,vu,.none] } }:=I3.kept (t':=s3.toks) λb ob q=>af.get?_push_of_some _ q
 obtain ⟨T,id,hT,ht,hg⟩:=hr a_ { s3 with heap:=s3.heap.push { cls:=.type "slice",data:=.fields #[vl,vu,.none] } } σ H3 x v vl vu l u s3.heap.objs.size Q I4 r1 (af.IsSliceOf.new ..) pl pu q3
 show ag (ao X.prog X.w) X.A (subscriptTail e (.Slice lo hi none p2) v (.ref s3.heap.objs.size)) (EP X a_ σ Q) X.xe { s3 with heap:=s3.heap.push { cls:=.type "slice",data:=.fields #[vl,vu,.none] } }
 exact tail_any (ops:=[.ref s3.heap.objs.size,v]) ht hT hg (by with_unfolding_all rfl)
noncomputable def rJ (xs:List V) (lo hi:Option Int):List V:=(xs.drop (HT.gu xs.length 0 lo)).take (HT.gu xs.length xs.length hi - HT.gu xs.length 0 lo)
theorem zI (xs:List V) (lo hi:Option Int):(rJ xs lo hi).length<=xs.length:=by
 unfold rJ
 rw [Qq,Jy]
 exact Jd (Nat.min_le_right _ _) (Nat.sub_le _ _)
def Z9 (K:Rc):V->Option Int->Option Int->Hp->VK->Prop:=λx lo hi H Q=>∃ a xs,x=.ref a/\d_ K H a xs /\
 ¬ (HT.gu xs.length 0 lo=0/\HT.gu xs.length xs.length hi=xs.length)/\∀ p,H p=none->Q (.ref p) (upd H p (.tup (rJ xs lo hi)))
theorem U?:FZ X (Z9 X.K):=by
 intro a_ s σ H x v vl vu lo hi sl Q I rx hs pl pu h
 obtain ⟨a,xs,rfl,hx,hw,q⟩:=h
 cases rx
 obtain ⟨b_,r,ht,hz⟩:=I.tuple hx
 have hlen:b_.toArray.size=xs.length:=by rw [Qk]; exact r.length.symm
 refine ⟨"tuple",_,PyProof.Rows.slot_tuple_getitem.lookup,ht.typeIs,?_⟩
 refine HT.j' ht hs pl pu (by rw [hlen]; exact hw) ?_ (by rw [hlen]; exact hz)
 rw [hlen]
 refine ⟨.ref s.heap.objs.size,_,I.laid (t':=s.toks) (o:=.tup (rJ xs lo hi)) (λb ob q=>af.get?_push_of_some _ q) (Qh _) ?_,rfl,q _ (I.fj.fresh (Qh _))⟩
 exact ⟨Jd (zI xs lo hi) hz,_,0,(r.drop (HT.gu xs.length 0 lo)).take (HT.gu xs.length xs.length hi - HT.gu xs.length 0 lo),af.get?_push_size _ rfl⟩
def B! (K:Rc):R2:=λx y H Q=>∃ a b xs ys,x=.ref a/\y=.ref b/\d_ K H a xs/\d_ K H b ys/\xs≠[]/\xs.length+ys.length<=ak /\
 (ys = []->Q (.ref a) H)/\(ys≠[]->∀ p,H p=none->Q (.ref p) (upd H p (.tup (xs++ys))))
theorem bM.n8 (r:bM xs us):us = []↔xs = []:=by
 cases r with
 | nil=>simp
 | cons _ _=>simp
theorem R9:i7 X (binaryOp .Add) (B! X.K):=by
 intro a_ s σ H x y v u Q I rx ry h
 obtain ⟨a,b,xs,ys,rfl,rfl,ha,hb,hx,hz,q1,q2⟩:=h
 cases rx
 cases ry
 obtain ⟨b_,r1,p1,_⟩:=I.tuple ha
 obtain ⟨mn,r2,p2,_⟩:=I.tuple hb
 refine HT.zp p1 p2 (λz=>hx (r1.n8.mp z)) (λz=>⟨.ref a,H,I,rfl,q1 (r2.n8.mp z)⟩) (λz=>?_) (by rw [<- r1.length,<- r2.length]; exact hz)
 refine ⟨.ref s.heap.objs.size,_,I.laid (t':=s.toks) (o:=.tup (xs++ys)) (λb ob q=>af.get?_push_of_some _ q) (Qh _) ?_,rfl,q2 (λw=>z (r2.n8.mpr w)) _ (I.fj.fresh (Qh _))⟩
 exact ⟨by rw [Qj]; exact hz,_,0,r1.append r2,af.get?_push_size _ rfl⟩
end
noncomputable def tu (n:Nat) (i:Int):Option Nat:=if 0<=i then (if i < n then some i.toNat else none) else if -(n:Int)<=i then some (i+n).toNat else none
noncomputable def k4 (xs:List α) (i:Int):Option α:=(tu xs.length i).bind λj=>xs[j]?
theorem R8 {n:Nat} {i:Int} (h:tu n i=some j):seqIndex? i n=some j/\j < n/\-(n:Int)<=i/\i < n:=by
 unfold tu at h
 by_cases h0:0<=i
 ·rw [if_pos h0] at h
  by_cases h1:i < n
  ·rw [if_pos h1] at h
   have e:i.toNat=j:=Option.some.inj h
   exact ⟨by rw [Raj h0 h1,e],by omega,by omega,h1⟩
  ·rw [if_neg h1] at h; cases h
 ·rw [if_neg h0] at h
  by_cases h1:-(n:Int)<=i
  ·rw [if_pos h1] at h
   have e:(i+n).toNat=j:=Option.some.inj h
   exact ⟨by rw [Rad (by omega) h1,e],by omega,h1,by omega⟩
  ·rw [if_neg h1] at h; cases h
theorem R7 {xs:List α} {i:Int} {v:α} (h:k4 xs i=some v):∃ j,seqIndex? i xs.length=some j/\xs[j]?=some v/\j < xs.length/\-(xs.length:Int)<=i/\i < xs.length:=by
 unfold k4 at h
 cases e:tu xs.length i with
 | none=>rw [e] at h; cases h
 | some j =>
  rw [e] at h
  obtain ⟨h1,h2,h3,h4⟩:=R8 e
  exact ⟨j,h1,h,h2,h3,h4⟩
theorem bZ {xs:List α} {v:α} (h:xs[j]?=some v):k4 xs (j:Int)=some v:=by
 have hj:j < xs.length:=(Qb.mp h).1
 have e:tu xs.length (j:Int)=some j:=by
  unfold tu
  rw [if_pos (by omega),if_pos (by omega)]; simp
 unfold k4; rw [e]; exact h
theorem aEm (xs:List α) (v:α):k4 (xs++[v]) (-1)=some v:=by
 have hl:(xs++[v]).length=xs.length+1:=by simp
 have e:tu (xs++[v]).length (-1)=some xs.length:=by
  unfold tu
  rw [hl,if_neg (by decide),if_pos (by omega)]
  congr 1
  omega
 unfold k4
 rw [e]
 show (xs++[v])[xs.length]?=some v
 simp
def wY (b:bq):Prop:=∀ o i,subscripted b false o i=operate [o,i] (cp o i)
theorem il {a b c}:wY (.Constant a b c):=λ_ _=>rfl
theorem lj {a b}:wY (.Name a b):=λ_ _=>rfl
def F3 (X:Cx) (r:R2):Prop :=
 ∀ (value slice:bq) (a_:List (ae×bz)) (s:ah) (σ:St) (H:Hp) (x y:V) (v u:aa) (Q:VK),Inv X a_ σ H s->bN x v->bN y u->r x y H Q ->
  subscripted slice false v u=operate [v,u] (cp v u)->ag (ao X.prog X.w) X.A (subscriptTail value slice v u) (EP X a_ σ Q) X.xe s
def Ar (X:Cx) (id:String) (r:V->List V->Hp->VK->Prop):Prop :=
 ∀ (a_:List (ae×bz)) (s:ah) (σ:St) (H:Hp) (x:V) (xs:List V) (v:aa) (us:List aa) (Q:VK),Inv X a_ σ H s->bN x v->bM xs us->r x xs H Q ->
  ag (ao X.prog X.w) X.A (call (.builtin id) (v::us)) (EP X a_ σ Q) X.xe s
section
variable {a b:bq} {tb:TE}
theorem bC (hr:F3 X r) (ha:PE X a ta) (hb:PE X b tb) (hs:wY b):PE X (.Subscript a b pos) (AM r ta tb):=by
 intro a_ s σ H Q I h
 exact Ip (JC ha hb I h λv u s2 x y H2 I2 rx ry q=>hr a b a_ s2 σ H2 x y v u Q I2 rx ry q (hs _ _))
def Z8 (K:Rc):R2:=λx y H Q=>∃ p xs i v,x=.ref p/\y=.int i/\fh K H p xs/\k4 xs i=some v/\Q v H
def Pj (K:Rc):R2:=λx y H Q=>∃ p xs i v,x=.ref p/\y=.int i/\d_ K H p xs/\k4 xs i=some v/\Q v H
theorem gU:F3 X (Z8 X.K):=by
 intro value slice a_ s σ H x y v u Q I rx ry h hs
 obtain ⟨p,xs,i,z,rfl,rfl,hq,he,q⟩:=h
 cases rx
 obtain ⟨t,rfl⟩:=ry
 obtain ⟨b_,r,pl,hz⟩:=I.list hq
 obtain ⟨j,h1,h2,h3,h4,h5⟩:=R7 he
 obtain ⟨w,ew,jb⟩:=r.get h2
 have hl:=r.length
 have hn:=sH
 have fin:EP X a_ σ Q w s:=⟨z,H,I,jb,q⟩
 by_cases h0:0<=i
 ·have hj:i.toNat=j:=by
   rw [Raj h0 h5] at h1
   exact Option.some.inj h1
  exact item_listR pl.isList h0 (by omega) (by rw [hj]; simpa using ew) fin hs
 ·have hj:(i+(b_.toArray.size:Int)).toNat=j:=by
   rw [Rad (by omega) h4] at h1
   rw [Qk,<- hl]
   exact Option.some.inj h1
  exact Ux (x:=w) pl.isList.typeIs slot_list_getitem.lookup
   (wpAny_getItem_list_neg (Q:=λr s'=>r=w/\EP X a_ σ Q r s') pl.isList (by omega) (by rw [Qk] <;> omega) (by omega) (by rw [hj]; simpa using ew) ⟨rfl,fin⟩) hs
theorem bQ:F3 X (Pj X.K):=by
 intro value slice a_ s σ H x y v u Q I rx ry h hs
 obtain ⟨p,xs,i,z,rfl,rfl,hq,he,q⟩:=h
 cases rx
 obtain ⟨t,rfl⟩:=ry
 obtain ⟨b_,r,pl,hz⟩:=I.tuple hq
 obtain ⟨j,h1,h2,h3,h4,h5⟩:=R7 he
 obtain ⟨w,ew,jb⟩:=r.get h2
 have hl:=r.length
 have hn:=sH
 have fin:EP X a_ σ Q w s:=⟨z,H,I,jb,q⟩
 exact Ux (x:=w) pl.typeIs slot_tuple_getitem.lookup
  (getItem_tuple (j:=j) (Q:=λr s'=>r=w/\EP X a_ σ Q r s') pl (by omega) (by omega) (by rw [Qk,<- hl]; exact h1) (by simpa using ew) ⟨rfl,fin⟩) hs
theorem aBf (b_:List aa) (n j:Nat) (u:aa):bz.mapSeq (·.setIfInBounds j u) { cls:=.type "list",data:=.seq b_.toArray n }={ cls:=.type "list",data:=.seq (b_.set j u).toArray n }:=by
 simp [bz.mapSeq]
theorem Inv.lst {σ:St} {p:ae} (I:Inv X a_ σ H s) (h:H p=some (.lst xs)) :
  ∃ (b_:List aa) (n:Nat),bM xs b_/\s.heap.get? p=some { cls:=.type "list",data:=.seq b_.toArray n }/\xs.length<=ak:=by
 obtain ⟨z,b_,n,r,e⟩:=I.fj p _ h
 exact ⟨b_,n,r,e,z⟩
theorem Inv.BW {σ:St} {p:ae} {b_ its':List aa} {n n':Nat} {f:bz->bz} (I:Inv X a_ σ H s) (h:H p=some (.lst xs)) (ho:s.heap.get? p=some { cls:=.type "list",data:=.seq b_.toArray n }) (hf:f { cls:=.type "list",data:=.seq b_.toArray n }={ cls:=.type "list",data:=.seq its'.toArray n' }) (r:bM ys its') (hz:ys.length<=ak) (t:Nat) :
  Inv X a_ σ (upd H p (.lst ys)) { s with heap:=s.heap.update p f,toks:=t }:=by
 have e:(s.heap.update p f).get? p=some { cls:=.type "list",data:=.seq its'.toArray n' }:=by
  rw [af.get?_update_self f ho (by rw [hf] <;> rfl),hf]
 refine I.write (x:=p) (e:=p) (by rw [h]; trivial) (.inl rfl) (λb u hb q=>(af.get?_update_other _ _ (Ne.symm hb)).trans q) ⟨_,e⟩ ?_
 exact ⟨hz,its',n',r,e⟩
def A?:V->V->V->Hp->(Hp->Prop)->Prop:=λo i v H Q=>∃ p xs k j,o=.ref p/\i=.int k/\H p=some (.lst xs)/\tu xs.length k=some j/\Q (upd H p (.lst (xs.set j v)))
theorem sL:JD X A?:=by
 intro a_ s σ H o i v ov iv u Q I ro ri rv h
 obtain ⟨p,xs,k,j,rfl,rfl,hp,hj,q⟩:=h
 cases ro
 obtain ⟨t,rfl⟩:=ri
 obtain ⟨b_,n,r,ho,hz⟩:=I.lst hp
 obtain ⟨h1,h2,h3,h4⟩:=R8 hj
 have hl:=r.length
 have hn:=sH
 have I':Inv X a_ σ (upd H p (.lst (xs.set j v))) { s with heap:=s.heap.update p (bz.mapSeq (·.setIfInBounds j u)) } :=
  I.BW hp ho (aBf b_ n j u) (r.set rv j) (by rw [Ze]; exact hz) s.toks
 by_cases h0:0<=k
 ·have hk:k.toNat=j:=by
   rw [Raj h0 h4] at h1
   exact Option.some.inj h1
  exact PySem.W.ki_setAt ho h0 (by omega) (by rw [Qk,<- hl]; exact h4) (by rw [hk]; exact ⟨_,I',q⟩)
 ·have hk:(k+(b_.toArray.size:Int)).toNat=j:=by
   rw [Rad (by omega) h3] at h1
   rw [Qk,<- hl]
   exact Option.some.inj h1
  exact PySem.W.ki_setBack ho (by omega) (by rw [Qk,<- hl]; exact h3) (by omega) (by rw [hk]; exact ⟨_,I',q⟩)
noncomputable def nY:V->Bool
 | .f_=>true
 | .bl _=>true
 | .int _=>true
 | .str _=>true
 | _=>false
noncomputable def Ak:V->V->Bool
 | .f_,.f_=>true
 | .bl a,.bl b=>a==b
 | .bl a,.int b=>(if a then 1 else 0)==b
 | .int a,.bl b=>a==(if b then 1 else 0)
 | .int a,.int b=>a==b
 | .str a,.str b=>a==b
 | _,_=>false
theorem U! {x:V} {v:aa} (ry:bN y u) (rx:bN x v) (fy:nY y=true) (fx:nY x=true):SeqAt.EqAt A s u v (Ak y x):=by
 cases y with
 | f_ =>
  cases ry
  cases x with
  | f_=>cases rx; exact SeqAt.EqAt.same _
  | bl b=>cases rx; exact SeqAt.EqAt.none_bool b
  | int b=>obtain ⟨t,rfl⟩:=rx; exact SeqAt.EqAt.none_int b t
  | str b=>obtain ⟨t,rfl⟩:=rx; exact SeqAt.EqAt.none_str b t
  | _=>exact absurd (show false=true from fx) Qm
 | bl a =>
  cases ry
  cases x with
  | f_=>cases rx; exact SeqAt.EqAt.bool_none a
  | bl b=>cases rx; exact SeqAt.EqAt.bool_bool a b
  | int b=>obtain ⟨t,rfl⟩:=rx; exact SeqAt.EqAt.bool_int a b t
  | str b=>obtain ⟨t,rfl⟩:=rx; exact SeqAt.EqAt.bool_str a b t
  | _=>exact absurd (show false=true from fx) Qm
 | int a =>
  obtain ⟨t',rfl⟩:=ry
  cases x with
  | f_=>cases rx; exact SeqAt.EqAt.int_none a t'
  | bl b=>cases rx; exact SeqAt.EqAt.int_bool a t' b
  | int b=>obtain ⟨t,rfl⟩:=rx; exact SeqAt.EqAt.int_int a t' b t
  | str b=>obtain ⟨t,rfl⟩:=rx; exact SeqAt.EqAt.int_str a t' b t
  | _=>exact absurd (show false=true from fx) Qm
 | str a =>
  obtain ⟨t',rfl⟩:=ry
  cases x with
  | f_=>cases rx; exact SeqAt.EqAt.str_none a t'
  | bl b=>cases rx; exact SeqAt.EqAt.str_bool a t' b
  | int b=>obtain ⟨t,rfl⟩:=rx; exact SeqAt.EqAt.str_int a t' b t
  | str b=>obtain ⟨t,rfl⟩:=rx; exact SeqAt.EqAt.str_str a t' b t
  | _=>exact absurd (show false=true from fx) Qm
 | _=>exact absurd (show false=true from fy) Qm
noncomputable def qx (x:V) (u:aa):Bool:=match u with
 | .none=>Ak .f_ x
 | .bool b=>Ak (.bl b) x
 | .int i _=>Ak (.int i) x
 | .str z _=>Ak (.str z) x
 | _=>false
theorem QM {x:V} (r:bN y u) (f:nY y=true):qx x u=Ak y x:=by
 cases y with
 | f_=>cases r; rfl
 | bl b=>cases r; rfl
 | int i=>obtain ⟨t,rfl⟩:=r; rfl
 | str z=>obtain ⟨t,rfl⟩:=r; rfl
 | _=>exact absurd (show false=true from f) Qm
theorem rO {x:V}:∀ {xs:List V} {us:List aa},bM xs us->xs.all nY=true->us.any (qx x)=xs.any λy=>Ak y x
 := by
 intro xs us h
 induction h with
 | nil=>intro _; rfl
 | cons r t ih =>
  intro f
  rw [Wf,Jf] at f
  rw [Xz,Xz,QM r f.1,ih f.2]
theorem lA {x:V} {v:aa} (rx:bN x v) (fx:nY x=true):∀ {xs:List V} {us:List aa},bM xs us->xs.all nY=true->∀ u∈us,SeqAt.EqAt A s u v (qx x u)
 | _,_,.nil,_=>λu hu=>by cases hu
 | y::xs,u::us,.cons r t,f=>λu' hu=>by
  rw [Wf,Jf] at f
  rcases Ql.mp hu with rfl | hu
  ·rw [QM r f.1]; exact U! r rx f.1 fx
  ·exact lA rx fx t f.2 u' hu
noncomputable def xt (x:V) (xs:List V):Bool:=xs.any λy=>Ak y x
def Gm (K:Rc) (neg:Bool):R2:=λx y H Q=>∃ p xs,y=.ref p/\(fh K H p xs∨d_ K H p xs)/\nY x=true/\xs.all nY=true/\Q (.bl (if neg then !xt x xs else xt x xs)) H
theorem pM:i7 X (bc .In) (Gm X.K false):=by
 intro a_ s σ H x y v u Q I rx ry h
 obtain ⟨p,xs,rfl,hq,fx,fs,q⟩:=h
 cases ry
 rcases hq with hq | hq
 ·obtain ⟨b_,r,pl,hz⟩:=I.list hq
  refine SeqAt.in_listAt (qx x) pl.isList (λw hw=>lA rx fx r fs w (by simpa using hw)) ⟨.bl _,H,I,rfl,?_⟩
  rw [show b_.toArray.any (qx x)=b_.any (qx x) by simp,rO r fs]
  exact q
 ·obtain ⟨b_,r,pl,hz⟩:=I.tuple hq
  refine SeqAt.in_tupleAt (qx x) pl (λw hw=>lA rx fx r fs w (by simpa using hw)) ⟨.bl _,H,I,rfl,?_⟩
  rw [show b_.toArray.any (qx x)=b_.any (qx x) by simp,rO r fs]
  exact q
theorem wZ:i7 X (bc .NotIn) (Gm X.K true):=by
 intro a_ s σ H x y v u Q I rx ry h
 obtain ⟨p,xs,rfl,hq,fx,fs,q⟩:=h
 cases ry
 rcases hq with hq | hq
 ·obtain ⟨b_,r,pl,hz⟩:=I.list hq
  refine SeqAt.notIn_listAt (qx x) pl.isList (λw hw=>lA rx fx r fs w (by simpa using hw)) ⟨.bl _,H,I,rfl,?_⟩
  rw [show b_.toArray.any (qx x)=b_.any (qx x) by simp,rO r fs]
  exact q
 ·obtain ⟨b_,r,pl,hz⟩:=I.tuple hq
  refine SeqAt.notIn_tupleAt (qx x) pl (λw hw=>lA rx fx r fs w (by simpa using hw)) ⟨.bl _,H,I,rfl,?_⟩
  rw [show b_.toArray.any (qx x)=b_.any (qx x) by simp,rO r fs]
  exact q
theorem bE:eV X (.builtin "len") (λxs H Q=>∃ p ys,xs = [.ref p]/\(fh X.K H p ys∨d_ X.K H p ys)/\Q (.int ys.length) H):=by
 intro a_ s σ H xs us Q I r h
 obtain ⟨p,ys,rfl,hq,q⟩:=h
 obtain ⟨u,rfl,rx⟩:=fY r
 cases rx
 have hn:=sH
 rcases hq with hq | hq
 ·obtain ⟨b_,r',pl,hz⟩:=I.list hq
  have hlen:=r'.length
  exact Calls.call_len_list pl.isList (by simp only [Qk] <;> omega) ⟨.int ys.length,H,I.tok _,⟨s.toks+1,by rw [Qk,hlen]⟩,q⟩
 ·obtain ⟨b_,r',pl,hz⟩:=I.tuple hq
  have hlen:=r'.length
  exact len_tuple pl (by simp only [Qk] <;> omega) ⟨.int ys.length,H,I.tok _,⟨s.toks+1,by rw [Qk,hlen]⟩,q⟩
theorem xA:eV X (.type "list") (λxs H Q=>∃ p ys,xs = [.ref p]/\(fh X.K H p ys∨d_ X.K H p ys)/\∀ l,H l=none->Q (.ref l) (upd H l (.lst ys))):=by
 intro a_ s σ H xs us Q I r h
 obtain ⟨p,ys,rfl,hq,q⟩:=h
 obtain ⟨u,rfl,rx⟩:=fY r
 cases rx
 have fin:∀ (b_:List aa),bM ys b_->ys.length<=ak->∀ (h':af) (c':Nat),(∀ b o',s.heap.get? b=some o'->h'.get? b=some o') ->
   h'.get? s.heap.objs.size=some { cls:=.type "list",dict:=none,data:=.seq b_.toArray c',slots:=#[] }->EP X a_ σ Q (.ref s.heap.objs.size) { s with heap:=h' }:=λb_ r' hz h' c' kp e =>
  ⟨.ref s.heap.objs.size,_,I.laid (t':=s.toks) kp (Qh _) (show bJ X.prog X.w _ h' _ (.lst ys) from ⟨hz,b_,c',r',e⟩),rfl,q _ (I.fj.fresh (Qh _))⟩
 rcases hq with hq | hq
 ·obtain ⟨b_,r',pl,hz⟩:=I.list hq
  have hlen:=r'.length
  obtain ⟨o,ho,hc,n,hd⟩:=pl.isList
  exact call_list_seq p (.inl rfl) ho hc hd (λh' c' kp e=>fin b_ r' hz h' c' kp e) (by simp only [Qk] <;> omega)
 ·obtain ⟨b_,r',pl,hz⟩:=I.tuple hq
  have hlen:=r'.length
  obtain ⟨o,ho,hc,n,hd⟩:=pl
  exact call_list_seq p (.inr rfl) ho hc hd (λh' c' kp e=>fin b_ r' hz h' c' kp e) (by simp only [Qk] <;> omega)
theorem bR:eV X (.type "tuple") (λxs H Q=>∃ p ys,xs = [.ref p]/\((fh X.K H p ys/\∀ l,H l=none->Q (.ref l) (upd H l (.tup ys)))∨(d_ X.K H p ys/\Q (.ref p) H))):=by
 intro a_ s σ H xs us Q I r h
 obtain ⟨p,ys,rfl,h⟩:=h
 obtain ⟨u,rfl,rx⟩:=fY r
 cases rx
 rcases h with ⟨hq,q⟩ | ⟨hq,q⟩
 ·obtain ⟨b_,r',pl,hz⟩:=I.list hq
  have hlen:=r'.length
  refine call_tuple_list pl.isList (λh' kp=>?_) (by simp only [Qk] <;> omega)
  have I1:Inv X a_ σ H { s with heap:=h' }:=I.kept (t':=s.toks) kp
  have I2:Inv X a_ σ (upd H h'.objs.size (.tup ys)) { s with heap:=h'.push { cls:=.type "tuple",data:=.seq b_.toArray } } :=
   I1.laid (t':=s.toks) (λb o e=>af.get?_push_of_some _ e) (Qh _) (show bJ X.prog X.w _ _ _ (.tup ys) from ⟨hz,b_,0,r',af.get?_push_size _ rfl⟩)
  exact ⟨.ref h'.objs.size,_,I2,rfl,q _ (I1.fj.fresh (Qh _))⟩
 ·obtain ⟨b_,r',pl,hz⟩:=I.tuple hq
  exact call_tuple_same pl ⟨.ref p,H,I,rfl,q⟩
def L7 (K:Rc) (T:String) (x:V) (H:Hp):Prop:=match x with
 | .str _=>T = "str"
 | .int _=>T = "int"
 | .ref p => (T = "list" /\ ∃ xs, fh K H p xs) ∨ (T = "tuple" /\ ∃ xs, d_ K H p xs) ∨
     (T = "dict" /\ ((∃ kvs,H p=some (.dK kvs))∨∃ kvs,H p=some (.dT kvs)))∨(T = "set" /\ ∃ S n,H p=some (.set S n))
 | _=>False
theorem QL {σ:St} {x:V} {v:aa} (I:Inv X a_ σ H s) (r:bN x v) (ty:L7 X.K T x H) :
  s.TypeIs v T/\∀ a,v=.ref a->∃ ob,s.heap.get? a=some ob/\ob.dict=none:=by
 cases x with
 | str z =>
  obtain ⟨t,rfl⟩:=r
  cases (show T = "str" from ty)
  exact ⟨typeIs_str s z t,λ_ e=>nomatch e⟩
 | int i =>
  obtain ⟨t,rfl⟩:=r
  cases (show T = "int" from ty)
  exact ⟨Iq s i t,λ_ e=>nomatch e⟩
 | ref p =>
  cases r
  rcases ty with ⟨rfl,xs,hq⟩ | ⟨rfl,xs,hq⟩ | ⟨rfl,hk⟩ | ⟨rfl,S,n,hk⟩
  ·obtain ⟨b_,_,pl,_⟩:=I.list hq
   refine ⟨pl.isList.typeIs,λa e=>?_⟩
   cases e
   obtain ⟨o,n,e,c,hd,_⟩:=pl
   exact ⟨o,e,hd⟩
  ·obtain ⟨o,e,hc,hd⟩:∃ o,s.heap.get? p=some o/\o.cls=.type "tuple" /\ o.dict=none:=by
    rcases hq with hq | ⟨o,_,_,hk,hc,hd,_⟩
    ·obtain ⟨_,b_,n,_,e⟩:=hq.ok I.fj
     exact ⟨_,e,rfl,rfl⟩
    ·exact ⟨o,I.rh p o hk,hc,hd⟩
   refine ⟨⟨o,e,hc⟩,λa e2=>?_⟩
   cases e2
   exact ⟨o,e,hd⟩
  ·have z:∃ o,s.heap.get? p=some o/\o.ExactDict:=by
    rcases hk with ⟨kvs,hk⟩ | ⟨kvs,hk⟩
    ·obtain ⟨_,_,_,_,o,_,_,e,ex,_⟩:=I.fj p _ hk
     exact ⟨o,e,ex⟩
    ·obtain ⟨_,_,_,_,o,_,_,e,ex,_⟩:=I.fj p _ hk
     exact ⟨o,e,ex⟩
   obtain ⟨o,e,ex⟩:=z
   refine ⟨⟨o,e,ex.1⟩,λa e2=>?_⟩
   cases e2
   exact ⟨o,e,ex.2.1⟩
  ·obtain ⟨o,_,_,_,e,ex,_⟩:=I.fj p _ hk
   refine ⟨⟨o,e,ex.1⟩,λa e2=>?_⟩
   cases e2
   exact ⟨o,e,ex.2.1⟩
 | _=>exact False.elim ty
def MA (K:Rc) (T:String) (r:V->List V->Hp->VK->Prop) (to:TE) (t:TA):TE:=λσ H Q=>to σ H λx H1=>L7 K T x H1/\t σ H1 λxs H2=>r x xs H2 Q
variable {o:bq} {t:TA} {id:String} {r:V->List V->Hp->VK->Prop}
theorem mP (pa:PlainAttrs T) (slot:Slot T name id) (Fb:typeOf (.builtin id)=pure (.type "method_descriptor")) (hm:Ar X id r) (ho:PE X o to) (ha:PA X (e::es) t)
  (pq:autoParam (attributeBase o name X.env (eval o X.env)=eval o X.env) L2.gj)
  (BN:autoParam (((cy ir (au (e::es) X.env)).all (λx=>!x.1) && (dg ir (cq [] X.env)).all (λx=>x.1.isSome)
   && decide ((e::es).length+([]:List dr).length+(if ([]:List dr).isEmpty then 0 else 1) < 30))=true) L2.gj)
  (pf:autoParam ((apos.endLine==ir.line)=true) L2.gj) (hs:autoParam (au (e::es) X.env=(false,eval e X.env)::au es X.env) L2.gj) (rg:autoParam ((cy ir (au es X.env)).any (·.1)=false) L2.gj) :
  PE X (.Call (.Attribute o name apos) (e::es) [] ir) (MA X.K T r to t):=by
 intro a_ s σ H Q I h
 refine wpAny_Call_method_late pq BN pf rfl (fk (ho a_ s σ H _ I h) λv s1 fe=>?_)
 obtain ⟨x,H1,I1,r1,ty,q1⟩:=fe
 obtain ⟨h1,h2⟩:=QL I1 r1 ty
 refine ⟨T,id,pa,slot,Fb,h1,h2,?_⟩
 have hA:=ha ir a_ s1 σ H1 _ I1 q1
 rw [hs] at hA ⊢
 refine Calls.callWith_builtin (by show (false || (cy ir (au es X.env)).any (·.1))=false; rw [rg] <;> rfl) (Calls.evalArgs_plain ?_)
 refine fk hA λus s2 fe=>?_
 obtain ⟨vs,H2,I2,r2,q2⟩:=fe
 exact hm a_ s2 σ H2 x vs v us Q I2 r1 r2 q2
end
def TJ (X:Cx) (id:String) (r:V->List V->Hp->VK->Prop):Prop :=
 ∀ (a_:List (ae×bz)) (s:ah) (σ:St) (H:Hp) (x:V) (xs:List V) (v:aa) (us:List aa) (Q:VK),Inv X a_ σ H s->bN x v->bM xs us->r x xs H Q ->
  ag (ao X.prog X.w) X.A (call (.builtin id) (v::us)) (EP X a_ σ Q) X.xe s
theorem bM.one {x:V} (r:bM [x] us):∃ u,us = [u]/\bN x u:=fY r
theorem bM.eraseIdx:∀ {xs:List V} {us:List aa} (i:Nat),bM xs us->bM (xs.eraseIdx i) (us.eraseIdx i)
 | _,_,_,.nil=>.nil
 | _,_,0,.cons _ t=>t
 | _,_,i+1,.cons r t=>.cons r (bM.eraseIdx i t)
theorem bM.reverse (h:bM xs us):bM xs.reverse us.reverse:=by
 induction h with
 | nil=>exact .nil
 | cons r t ih=>rw [List.reverse_cons,List.reverse_cons]; exact bM.append ih (.cons r .nil)
theorem bM.rep (h:bM xs us):∀ k:Nat,bM (List.replicate k xs).flatten (List.replicate k us).flatten
 | 0=>.nil
 | k+1=>by
  rw [Zi,Zi,Zu,Zu]
  exact bM.append h (bM.rep h k)
theorem vQ:∀ (l:List α) (i:Nat),(l.eraseIdx i).length<=l.length
 | [],_=>Qh _
 | _::_,0=>Qaa _
 | _::r,i+1=>Zk (vQ r i)
theorem lY (b_:List aa):∀ (k:Nat) (acc:List aa),
  List.foldl (λx1 x2=>x1++x2) acc.toArray (List.replicate k b_.toArray)=(acc++(List.replicate k b_).flatten).toArray
 | 0,acc=>by simp
 | k+1,acc=>by
  have e:acc.toArray++b_.toArray=(acc++b_).toArray:=by simp
  have e2:(acc++b_)++(List.replicate k b_).flatten=acc++(List.replicate (k+1) b_).flatten:=by
   rw [Zi,Zu,Zv]
  rw [<- e2,<- lY b_ k (acc++b_),<- e,Zi,List.foldl_cons]
section
variable {σ:St} {l:ae}
theorem Inv.Eb {b_ its':List aa} {n:Nat} {f:Array aa->Array aa} (I:Inv X a_ σ H s) (hH:H l=some (.lst xs)) (e:s.heap.get? l=some { cls:=.type "list",data:=.seq b_.toArray n }) (hf:f b_.toArray=its'.toArray) (hv:bM ys its') (hz:ys.length<=ak) :
  Inv X a_ σ (upd H l (.lst ys)) { s with heap:=s.heap.update l (bz.mapSeq f),toks:=t' }:=by
 have q:=PySem.IsL.update e f
 rw [hf] at q
 refine I.write (x:=l) (e:=l) (by rw [hH]; exact trivial) (.inl rfl) (λb' u hb hu=>(af.get?_update_other s.heap (bz.mapSeq f) (Ne.symm hb)).trans hu) ⟨_,q⟩ ?_
 exact ⟨hz,its',_,hv,q⟩
theorem Inv.BC {b_:List aa} (I:Inv X a_ σ H s) (hv:bM ys b_) (hz:ys.length<=ak) :
  Inv X a_ σ (upd H s.heap.objs.size (.lst ys)) { s with heap:=s.heap.push { cls:=.type "list",data:=.seq b_.toArray },toks:=t' } :=
 I.laid (λ_ _ q=>af.get?_push_of_some _ q) (Qh _) ⟨hz,b_,0,hv,af.get?_push_size _ rfl⟩
theorem Inv.fresh (I:Inv X a_ σ H s):H s.heap.objs.size=none:=I.fj.fresh (Qh _)
theorem Inv.vt (I:Inv X a_ σ H s) (hH:H l=some (.lst xs)):xs.length<=ak/\∃ (b_:List aa) (n:Nat),bM xs b_/\xs.length=b_.length/\s.heap.get? l=some { cls:=.type "list",data:=.seq b_.toArray n }:=by
 obtain ⟨z,b_,n,r,e⟩:=I.fj l _ hH
 exact ⟨z,b_,n,r,r.length,e⟩
theorem aEp {n:Nat} (h:n<=ak):ai.List.listTooLong n=false:=by
 unfold ai.List.listTooLong
 exact decide_eq_false (by omega)
end
def aGa:V->List V->Hp->VK->Prop:=λx vs H Q=>∃ l xs y,x=.ref l/\vs = [y]/\H l=some (.lst xs)/\xs.length < ak/\Q .f_ (upd H l (.lst (xs++[y])))
theorem gJ:TJ X "list.append" aGa:=by
 intro a_ s σ H x vs v us Q I rx rv h
 obtain ⟨l,xs,y,rfl,rfl,hH,hz,q⟩:=h
 cases rx
 obtain ⟨u,rfl,ru⟩:=rv.one
 obtain ⟨z,b_,n,r,hl,e⟩:=I.vt hH
 refine Ui F.slot_list_append ⟨_,e,rfl⟩ F.entry_list_append (F.args_list_append_2 _ _) (PySem.list_append l b_.toArray n u (by rw [Qk]; omega)) ⟨e,?_⟩
 refine ⟨.f_,_,I.Eb (its':=b_++[u]) hH e (by simp) (r.append (.cons ru .nil)) ?_,rfl,q⟩
 rw [Qj,Zq]
 omega
def T?:V->List V->Hp->VK->Prop:=λx vs H Q=>∃ l xs i k y,x=.ref l/\vs = [.int i]/\H l=some (.lst xs)/\-(2^63)<=i/\i < 2^63/\seqIndex? i xs.length=some k/\xs[k]?=some y/\Q y (upd H l (.lst (xs.eraseIdx k)))
theorem aEq:TJ X "list.pop" T?:=by
 intro a_ s σ H x vs v us Q I rx rv h
 obtain ⟨l,xs,i,k,y,rfl,rfl,hH,h1,h2,hk,hy,q⟩:=h
 cases rx
 obtain ⟨u,rfl,ru⟩:=rv.one
 obtain ⟨t,rfl⟩:=ru
 obtain ⟨z,b_,n,r,hl,e⟩:=I.vt hH
 obtain ⟨w,hw,jb⟩:=r.get hy
 refine Ui F.slot_list_pop ⟨_,e,rfl⟩ F.entry_list_pop (F.args_list_pop_2 _ _)
  (MeetsSeq.list_pop_at l b_.toArray n i t k w (fitsIndex_both h1 h2) (by rw [Qk,<- hl]; exact hk) (by rw [<- Array.getElem?_toList]; exact hw) (by rw [Qk]; omega)) ⟨e,?_⟩
 refine ⟨y,_,I.Eb (its':=b_.eraseIdx k) hH e ?_ (r.eraseIdx k) ?_,jb,q⟩
 ·show b_.toArray.eraseIdxIfInBounds k=(b_.eraseIdx k).toArray
  rw [List.eraseIdxIfInBounds_toArray]
 ·have:=vQ xs k
  omega
def j!:R2:=λx y H Q=>∃ l b xs zs,x=.ref l/\y=.ref b/\H l=some (.lst xs)/\H b=some (.lst zs)/\xs.length+zs.length<=ak/\∀ p,H p=none->Q (.ref p) (upd H p (.lst (xs++zs)))
theorem xB:i7 X (binaryOp .Add) j!:=by
 intro a_ s σ H x y v u Q I rx ry h
 obtain ⟨l,b,xs,zs,rfl,rfl,hH,hB,hz,q⟩:=h
 cases rx
 cases ry
 obtain ⟨z,b_,n,r,hl,e⟩:=I.vt hH
 obtain ⟨z2,mn,n2,r2,xb,e2⟩:=I.vt hB
 refine PySem.P.add_list e e2 ?_ (by rw [Qk,Qk]; omega)
 have ea:b_.toArray++mn.toArray=(b_++mn).toArray:=by simp
 rw [ea]
 exact ⟨.ref _,_,I.BC (t':=s.toks) (r.append r2) (by rw [Qj]; omega),rfl,q _ I.fresh⟩
def i?:R2:=λx y H Q=>∃ l k xs,x=.ref l/\y=.int k/\H l=some (.lst xs)/\-(2^63)<=k/\k < 2^63/\xs.length*k.toNat<=ak /\
 ∀ p,H p=none->Q (.ref p) (upd H p (.lst (List.replicate k.toNat xs).flatten))
theorem xC (xs:List α) (k:Nat):(List.replicate k xs).flatten.length=k*xs.length:=by
 induction k with
 | zero=>simp
 | succ k ih=>rw [Zi,Zu,Qj,ih,Nat.succ_mul,Nat.add_comm]
theorem QK:i7 X (binaryOp .Mult) i?:=by
 intro a_ s σ H x y v u Q I rx ry h
 obtain ⟨l,k,xs,rfl,rfl,hH,h1,h2,hz,q⟩:=h
 cases rx
 obtain ⟨t,rfl⟩:=ry
 obtain ⟨z,b_,n,r,hl,e⟩:=I.vt hH
 have hlen:b_.toArray.size*k.toNat<=ak:=by rw [Qk,<- hl]; exact hz
 have Ly:¬ b_.toArray.size*k.toNat > (2^63 - 1) / 8:=by
  have:(ak:Nat)<=(2^63 - 1) / 8:=by decide
  omega
 have rf:¬ (!Builtin.List.listFitsIndex k)=true:=by
  rw [fitsIndex_both h1 h2]
  exact Qm
 have Ex:¬ ai.List.listTooLong (b_.toArray.size*k.toNat)=true:=by
  rw [aEp hlen]
  exact Qm
 have BK:List.foldl (λx1 x2=>x1++x2) #[] (List.replicate (if b_.toArray.isEmpty=true then 0 else k.toNat) b_.toArray)=(List.replicate k.toNat b_).flatten.toArray:=by
  have f0:∀ m:Nat,List.foldl (λx1 x2=>x1++x2) #[] (List.replicate m b_.toArray)=(List.replicate m b_).flatten.toArray:=λm=>by
   have:=lY b_ m []
   rw [Zr] at this
   exact this
  rw [f0]
  cases b_ with
  | nil=>simp
  | cons a r'=>rw [if_neg (by simp)]
 refine Rab (T := "list") (U := "int") (by decide) ⟨_,e,rfl⟩ (λs'=>Iq s' k t) noFill_list_mul F.fills_int_mul F.slot_int_rmul repeat_list F.slot_int_index.lookup
  (Ui F.slot_int_rmul (Iq s k t) F.entry_int_rmul (F.args_int_rmul_2 _ _) (int___rmul___int_list k t l b_.toArray n)
   ⟨e,rfl,⟨_,e,rfl⟩,Ui F.slot_list_mul ⟨_,e,rfl⟩ F.entry_list_mul (F.args_list_mul_2 _ _) (AutoListH.list___mul___list_int_3 l b_.toArray n k t rf Ly Ex) ⟨e,?_⟩⟩)
 rw [BK]
 exact ⟨.ref _,_,I.BC (t':=s.toks) (r.rep k.toNat) (by rw [xC,Nat.mul_comm]; exact hz),rfl,q _ I.fresh⟩
end L2
namespace TU
open PySem PySem.W PySem.Calls PyProof.Rows
theorem rK {P:Params}:∀ (ns:List Int) (vs:List aa),WellAll P h vs (ns.map WData.int)->IntsAre vs ns:=by
 intro ns
 induction ns with
 | nil =>
  intro vs w
  rw [Qap] at w
  cases w
  exact .nil
 | cons n ns ih =>
  intro vs w
  rw [Qw] at w
  cases w with
  | cons a b =>
   cases a
   exact .cons _ _ (ih _ b)
theorem aCY {l:OpenLaw} {n:Nat} (hn:l.most=some n) {P:Params} {args:List WData} {vals:List aa} (y6:l.row.toRowW.claim.pre args=true) (xu:WellAll P h vals args) :
  ∃ a vs ns,vals = [aa.ref a]/\args = [WData.list (ns.map WData.int)]/\h.get? a=some { cls:=.type "list",data:=.seq vs.toArray }/\IntsAre vs ns/\ns.length<=n:=by
 have V_:WShape.hasAll [] args [.list .int]=true:=(pre_splitW y6).1
 have hc:l.pre.holds [] { args:=args }=true:=(pre_splitW y6).2
 obtain ⟨d,r,rfl,h1,h2⟩:=hasAllW_cons V_
 obtain rfl:=hasAllW_nil h2
 obtain ⟨xs,rfl,h3⟩:=hasW_list h1
 obtain ⟨ns,rfl⟩:=items_int h3
 have hlen:ns.length<=n:=by
  unfold OpenLaw.pre at hc
  have h4:(WTm.not (.lt (.lit (.int (n:Int))) (.len (.arg 0)))).holds [] { args:=[.list (ns.map .int)] }=true:=by
   have h4:=(holds_andW hc).1
   rw [hn] at h4
   exact h4
  have h5:=condW_of h4 (w_not (w_lt w_lit (w_len_list (w_arg rfl))))
  rw [Qa] at h5
  refine Nat.le_of_not_lt λq=>?_
  have q':(n:Int) < ((ns.length:Nat):Int):=by omega
  first
   | (rw [decide_eq_true q'] at h5; exact absurd h5 (by decide))
   | (simp at h5; omega)
 cases xu with
 | cons w1 w2 =>
  cases w2
  cases w1 with
  | list ho ke=>exact ⟨_,_,ns,rfl,rfl,ho,rK ns _ ke,hlen⟩
theorem aCZ (l:OpenLaw) (args:List WData):l.row.toRowW.claim.post args (.bool true) args=true :=
 postW_of (r:=l.row.toRowW) (X:=(true==true))
  (show WShape.has [] (.bool true) .bool=true by first | rfl | decide | simp [WShape.has,WShape.arms,WShape.armsAll])
  (show (WTm.eq .res (.lit (.bool true))).value [] { args:=args,res:=some (.bool true),after:=args }=some (.bool (true==true)) from w_eq_bool (w_res rfl) w_lit) rfl
theorem qb {l:OpenLaw} {n:Nat} {q:br} {d:DefRec} (hn:l.most=some n) (Dv:d.params.defaults = []) (call:∀ (w:bf) (jm gf:ah) (mg mb:ax->Option aa) (fa:ae) (o:bz) (pm cd doc:aa) (a:ae) (vs:List aa) (ns:List Int),
   Ground q loose [] XP w jm mg mb gf.heap->YP w gf.heap ->
   gf.heap.get? fa=some o->o.data=.func (docDef d.name d.params d.body d.scope pm cd doc)->gf.heap.CodeRec cd d.name->mg d.name=some (.ref fa) ->
   gf.heap.get? a=some { cls:=.type "list",data:=.seq vs.toArray }->IntsAre vs ns->ns.length<=n->gf.gens = #[] ->
   codeAny (ao l.prog w) callerA (.call (.ref fa) ⟨[.ref a],[]⟩) (λr s'=>r=.ok (.ret (.bool true))/\OldK gf.heap s'.heap/\s'.os=gf.os/\AllBare s'.gens) gf) :
  WalkO q loose XP YP l.row.toRowW d [] (λf vs=>Rac f vs):=by
 intro w jm gf mg mb G Y fa o pm cd doc dV kV ho hd nu hD z_ hg args vals as y6 aaj hrd xu hlo
 obtain rfl:dV=.none:=Dflts.none hD Dv
 obtain rfl:kV=.none:=Dflts.noKw hD
 obtain ⟨a,vs,ns,rfl,rfl,BI,hints,hlen⟩:=aCY hn y6 xu
 refine enter_call (Um (call w jm gf mg mb fa o pm cd doc a vs ns G Y ho (fd_plain hd) nu z_ BI hints hlen hg) λr s' hq=>?_)
 obtain ⟨rfl,h2,h3,h4⟩:=hq
 exact ⟨.inl ⟨.bool true,.bool true,[],rfl,λ_=>rfl,.bool true,aCZ l _,λ_=>⟨List.Pairwise.nil,λ_ hm=>(nomatch hm)⟩⟩,h2,h3,h4⟩
section
variable {K:Frag}
end
end TU
namespace L2
open PySem PySem.Spec PyProof.Rows
theorem pN:∀ {vs:List aa} {ns:List Int},IntsAre vs ns->bM (ns.map V.int) vs
 := by
 intro vs ns h
 induction h with
 | nil=>exact .nil
 | cons n t h ih=>exact .cons ⟨t,rfl⟩ ih
noncomputable def fJ (s:bt):Arguments:=match s with
 | .FunctionDef _ a _ _ _ _ _ _ _ _=>a
 | _=>{ posonlyargs:=[],args:=[],vararg:=none,kwonlyargs:=[],kw_defaults:=[],kwarg:=none,defaults:=[] }
noncomputable def dY (s:bt):List bt:=match s with
 | .FunctionDef _ _ b _ _ _ _ _ _ _=>b
 | _=>[]
noncomputable def aF (s:bt):c7:=match s with
 | .FunctionDef _ _ _ _ _ _ sc _ _ _=>sc
 | _=>{ kind:=.function,names:=[],isGenerator:=false,isCoroutine:=false }
abbrev fc:Bz:=λ_ _ _ _ _ _=>False
abbrev E0:XK:=λ_ _ _=>False
theorem PR:wW fc X E0:=λ_ _ _ _ _ _ _ h=>h.elim
structure qy (K:Rc) (x qual:ax) (st:bt) (f:ae) (fd:bo):Prop where
 ex:∃ (oc:aa) (od:Option ae) (kV doc pm:aa) (an:Option ae) (ft ct:aa) (uo:Array (Option aa)),
  fd=Tc x qual (fJ st) (dY st) (aF st) .none kV doc pm an ft ct/\K.lookup f=some ⟨oc,od,.func fd,uo⟩/\Ve K ft qual=true
 kp:Ro K (.ref f)=true
theorem qy.ok {k:Nat} (F:qy K x qual st f fd) (S:dz N ps (aF st)) (len:∀ vs H Q E,sp vs H Q E->vs.length=ps.length) (md:∀ (ft:aa) (A:bw) (outer:List c8) (s:ah) (H:Hp) (vs:List V) (Q:VK) (E:XK),ee k (A.deeper (envOfC qual (aF st) s.heap.objs.size f ft))->sp vs H Q E ->
   ∃ t,qj (zG fc P w K mg base N qual (aF st) f ft A outer s H E).AW (dY st) t/\t { nx:=λ_ H'=>Q .f_ H',rt:=Q } (start N vs) H):c_ P w K mg base fc (k+1) f fd ps sp:=by
 obtain ⟨oc,od,kV,doc,pm,an,ft,ct,uo,rfl,lk,nu⟩:=F.ex
 refine PU lk nu S len λA outer s H vs Q E hr oa=>?_
 obtain ⟨t,h,q⟩:=md ft A outer s H vs Q E hr oa
 exact ⟨t,h.AW,q⟩
theorem qy.oK {k:Nat} (F:qy K x qual st f fd) (S:dz N ps (aF st)) (md:∀ (ft:aa) (A:bw) (outer:List c8) (s:ah) (H:Hp) (vs:List V) (Q:VK) (E:XK),ee k (A.deeper (envOfC qual (aF st) s.heap.objs.size f ft))->sp vs H Q E ->
   ∃ t,qj (zG fc P w K mg base N qual (aF st) f ft A outer s H E).AW (dY st) t/\t { nx:=λ_ H'=>Q .f_ H',rt:=Q } (start N vs) H) (len:∀ vs H Q E,sp vs H Q E->vs.length=ps.length:=by
  intro vs H Q E h
  repeat (first | (obtain ⟨h,-⟩:=h; subst h; rfl) | obtain ⟨_,h⟩:=h)):c_ P w K mg base fc (k+1) f fd ps sp:=F.ok S len md
theorem qy.binds (F:qy K x qual st f fd) (h:∀ (kV doc pm:aa) (an:Option ae) (ft ct:aa) (us:List aa),us.length=ps.length->cu (Tc x qual (fJ st) (dY st) (aF st) .none kV doc pm an ft ct) ⟨us,[]⟩=pure (ps.zip us)):sJ K fd ps []:=by
 obtain ⟨oc,od,kV,doc,pm,an,ft,ct,uo,rfl,lk,nu⟩:=F.ex
 exact .all (h kV doc pm an ft ct)
theorem QJ {kV:aa} (l:K.lookup f=some ⟨oc,od,.func (Tc x qual (fJ st) (dY st) (aF st) .none kV doc pm an ft ct),uo⟩) (c:Ve K ft qual=true) (k:Ro K (.ref f)=true):qy K x qual st f (Tc x qual (fJ st) (dY st) (aF st) .none kV doc pm an ft ct):=⟨⟨oc,od,kV,doc,pm,an,ft,ct,uo,rfl,l,c⟩,k⟩
theorem jD {k:Nat} (hr:ee k A):A.units+1 < cn:=Ya (Nat.add_le_add_left (by decide:1<=64) _) hr.units
theorem pv (i:Nat) (hN:autoParam (X.N[i]?=some x) L2.gj) (hv:D1 X.env.scope x:=by first | exact Or.inl rfl | exact Or.inr fi | exact Or.inr (Or.inr rfl)) (hd:autoParam ((x==("__debug__" : ax))=false) L2.ka) (nu:autoParam ((x==("__classdict__" : ax))=false) L2.ka):PE X (.Name x pos) (Cz i):=J! hN hv hd nu
theorem fZ {A:Prop} (h:B):if false=true then A else B:=by
 rw [if_neg Qm]
 exact h
theorem gA {A:Prop} (h:A):if true=true then A else B:=by
 rw [if_pos rfl]
 exact h
theorem eK {c A:Prop} [Decidable c] (h1:c->A) (h2:¬ c->B):if c then A else B:=by
 by_cases h:c
 ·rw [if_pos h]
  exact h1 h
 ·rw [if_neg h]
  exact h2 h
def aD (H H':Hp):Prop:=∀ b o,H b=some o->H' b=some o
theorem aD.refl (H:Hp):aD H H:=λ_ _ h=>h
theorem aD.trans (a:aD H H1) (b:aD H1 H2):aD H H2:=λc o h=>b c o (a c o h)
theorem aD.free (e:aD H H') {l:ae} (h:H' l=Option.none):H l=Option.none:=by
 cases q:H l with
 | none=>rfl
 | some o =>
  rw [e l o q] at h
  cases h
noncomputable def eR (env:c8):List (ax×bj)->List (ax×ae)->List (ax×ae)
 | [],acc=>acc
 | (n,k)::r,acc=>if k==.free then (match env.cells.lookup n with | some c=>eR env r ((n,c)::acc) | none=>eR env r acc) else eR env r acc
theorem zJ {env:c8}:∀ (names:List (ax×bj)) (acc:List (ax×ae)),(∀ y∈names,y.2=.free->∃ c,env.cells.lookup y.1=some c) ->
  (forIn names acc λ(x:ax×bj) (r:List (ax×ae))=>(match x with
   | (name,kind)=>if (kind==bj.free)=true then (do let a<-cellOf env name; pure (ForInStep.yield ((name,a)::r))) else pure (ForInStep.yield r):Sem (ForInStep (List (ax×ae)))))=(pure (eR env names acc):Sem _)
 | [],acc,_=>rfl
 | (n,k)::r,acc,h=>by
  have ih:=λacc=>zJ r acc λy hy=>h y (Qg _ hy)
  rw [Zs]
  by_cases hk:(k==bj.free)=true
  ·obtain ⟨c,hc⟩:=h (n,k) Qi (by simpa using hk)
   have e1:eR env ((n,k)::r) acc=eR env r ((n,c)::acc):=by
    show (if k==.free then _ else _)=_
    rw [if_pos hk]; simp only at hc; rw [hc]
   simp only at hc
   rw [e1,<- ih]
   simp only [hk,if_true,cellOf,hc]
   rfl
  ·have e1:eR env ((n,k)::r) acc=eR env r acc:=by
    show (if k==.free then _ else _)=_
    rw [if_neg hk]
   rw [e1,<- ih]
   simp only [hk,if_false]
   rfl
theorem QI {env:c8} (h:∀ y∈scope.names,y.2=.free->∃ c,env.cells.lookup y.1=some c):closureFor scope env=pure (eR env scope.names []):=by
 unfold closureFor
 have e:=zJ scope.names [] h
 show (forIn scope.names [] _ >>= _)=_
 exact (congrArg (λz=>z >>= λr=>pure r) e).trans rfl
theorem lB {env:c8}:∀ (names:List (ax×bj)) (acc:List (ax×ae)) (n:ax) (c:ae),(n,c)∈eR env names acc->(n,c)∈acc∨env.cells.lookup n=some c
 | [],_,_,_,h=>.inl h
 | (m,k)::r,acc,n,c,h=>by
  by_cases hk:(k==bj.free)=true
  ·rw [show eR env ((m,k)::r) acc=(match env.cells.lookup m with | some c=>eR env r ((m,c)::acc) | none=>eR env r acc) from if_pos hk] at h
   cases e:env.cells.lookup m with
   | none=>rw [e] at h; exact lB r acc n c h
   | some d =>
    rw [e] at h
    rcases lB r _ n c h with q | q
    ·rcases Ql.mp q with q | q
     ·cases q; exact .inr e
     ·exact .inl q
    ·exact .inr q
  ·rw [show eR env ((m,k)::r) acc=eR env r acc from if_neg hk] at h
   exact lB r acc n c h
theorem lC {env:c8}:∀ (names:List (ax×bj)) (acc:List (ax×ae)) (n:ax),((∃ c,(n,c)∈acc)∨((n,bj.free)∈names/\∃ c,env.cells.lookup n=some c))->∃ c,(n,c)∈eR env names acc
 | [],_,_,h=>by
  rcases h with h | ⟨h,_⟩
  ·exact h
  ·cases h
 | (m,k)::r,acc,n,h=>by
  by_cases hk:(k==bj.free)=true
  ·rw [show eR env ((m,k)::r) acc=(match env.cells.lookup m with | some c=>eR env r ((m,c)::acc) | none=>eR env r acc) from if_pos hk]
   cases e:env.cells.lookup m with
   | none =>
    refine lC r acc n ?_
    rcases h with h | ⟨h,c,hc⟩
    ·exact .inl h
    ·rcases Ql.mp h with h | h
     ·cases h; rw [e] at hc; cases hc
     ·exact .inr ⟨h,c,hc⟩
   | some d =>
    refine lC r _ n ?_
    rcases h with ⟨c,h⟩ | ⟨h,c,hc⟩
    ·exact .inl ⟨c,Qg _ h⟩
    ·rcases Ql.mp h with h | h
     ·cases h; exact .inl ⟨d,Qi⟩
     ·exact .inr ⟨h,c,hc⟩
  ·rw [show eR env ((m,k)::r) acc=eR env r acc from if_neg hk]
   refine lC r acc n ?_
   rcases h with h | ⟨h,c,hc⟩
   ·exact .inl h
   ·rcases Ql.mp h with h | h
    ·cases h; exact absurd rfl hk
    ·exact .inr ⟨h,c,hc⟩
theorem jE:∀ {l:List (ax×β)} {a:ax} {b:β},l.lookup a=some b->(a,b)∈l:=PySem.mem_of_lookup_some
theorem lD:∀ {l:List (ax×β)} {a:ax} {b:β},(a,b)∈l->∃ c,l.lookup a=some c
 | (k,v)::l,a,b,h=>by
  rw [Jt]
  by_cases e:(a==k)=true
  ·rw [e]; exact ⟨v,rfl⟩
  ·have e':(a==k)=false:=by simpa using e
   rw [e']
   rcases Ql.mp h with h | h
   ·cases h; simp at e
   ·exact lD h
theorem iS {env:c8} (x:ax):∀ (names:List (ax×bj)),
  (names.map λ(n,k)=>if (k==bj.free && env.scope.kind==.function && env.kindOf n==some .cell) then (n,bj.cell) else (n,k)).lookup x =
   (names.lookup x).map λk=>if (k==bj.free && env.scope.kind==.function && env.kindOf x==some .cell) then bj.cell else k
 | []=>rfl
 | (n,k)::r=>by
  have ih:=iS (env:=env) x r
  rw [Qw]
  by_cases e:(x==n)=true
  ·have en:x=n:=by simpa using e
   subst en
   dsimp only
   by_cases c:(k==bj.free && env.scope.kind==.function && env.kindOf x==some .cell)=true
   ·rw [if_pos c,Jt,Jt,e]
    simp only [Xr,c,if_true]
   ·rw [if_neg c,Jt,Jt,e]
    simp only [Xr,c]
    rfl
  ·have e':(x==n)=false:=by simpa using e
   dsimp only
   by_cases c:(k==bj.free && env.scope.kind==.function && env.kindOf n==some .cell)=true
   ·rw [if_pos c,Jt,Jt,e']; exact ih
   ·rw [if_neg c,Jt,Jt,e']; exact ih
noncomputable def zc (z:Option ax) (C:ae):List (ax×ae):=match z with
 | none=>[]
 | some x=>[(x,C+1)]
theorem kI (h:(zc z C++cl).lookup x=some c):(z=some x/\c=C+1)∨(z≠some x/\cl.lookup x=some c):=by
 cases z with
 | none=>exact .inr ⟨λq=>(by cases q),h⟩
 | some z0 =>
  have h:((z0,C+1)::cl).lookup x=some c:=h
  rw [Jt] at h
  cases e:x==z0 with
  | true=>rw [e] at h; exact .inl ⟨by rw [show x=z0 by simpa using e],(Option.some.inj h).symm⟩
  | false=>rw [e] at h; exact .inr ⟨λq=>(by cases q; simp at e),h⟩
theorem PQ (h:z≠some x):(zc z C++cl).lookup x=cl.lookup x:=by
 cases z with
 | none=>rfl
 | some z0 =>
  show ((z0,C+1)::cl).lookup x=_
  rw [Jt,show (x==z0)=false by simpa using λq=>h (by rw [q])]
theorem A!:(zc (some x) C++cl).lookup x=some (C+1):=by
 show ((x,C+1)::cl).lookup x=_
 rw [Jt,show (x==x)=true by simp]
noncomputable def bH (X:Cx) (scope:c7) (z:Option ax) (N:List ax) (C:ae) (s0:ah) (H0:Hp) (fp:List ae):Cx where
 prog:=X.prog
 w:=X.w
 K:=X.K
 mg:=X.mg
 base:=X.base
 A:=X.A
 N:=N
 jm:=s0
 qk:=H0
 env:={ compEnvC scope (eR X.env scope.names []) C X.env with cells:=zc z C++eR X.env scope.names [] }
 outer:=X.stack
 stack:=X.stack
 ex:=fp
 fn:=λy=>z==some y
 calm:=X.calm
 pn:=[]
 xe:=λ_ _=>False
noncomputable def jT (sc scope:c7) (z:Option ax) (own:List ax) (fm:List ax):Bool :=
 scope.kind==.function && scope.names.all (λy=>y.2 !=.cell || z==some y.1) && scope.names.all (λy=>y.2 !=.local || scope.names.lookup y.1==some .local) &&
 scope.names.all (λy=>y.2 !=.free || sc.names.lookup y.1==some .cell || sc.names.lookup y.1==some .free) && decide (own++fm).Nodup &&
 fm.all (λx=>scope.names.lookup x==some .free) && scope.names.all (λy=>y.2 !=.free || z !=some y.1)
noncomputable def h_ (own:Nat) (fr:List Nat) (σ:St):St:=List.replicate own none++fr.map λj=>(σ[j]?).join
structure fv (X:Cx) (scope:c7) (z:Option ax) (own:List ax) (fr:List Nat) (fm:List ax):Prop where
 ck:jT X.env.scope scope z own fm=true
 ix:∀ (k:Nat) (x:ax),fm[k]?=some x->∃ j:Nat,fr[k]?=some j/\X.N[j]?=some x
 len:fr.length=fm.length
 cf:∀ z0,z=some z0->(∀ (n:Nat) (cl:List (ax×ae)),cellsFrom n scope.names cl=(z0,n)::cl)/\∀ h:af,pushCells h scope.names=h.push { cls:=.type "cell",data:=.cell none }
theorem fv.parts (S:fv X scope z own fr fm):scope.kind=.function/\(∀ y∈scope.names,y.2=.cell->z=some y.1)/\(∀ y∈scope.names,y.2=.local->scope.names.lookup y.1=some .local) /\
  (∀ y∈scope.names,y.2=.free->X.env.scope.names.lookup y.1=some .cell∨X.env.scope.names.lookup y.1=some .free)/\(own++fm).Nodup/\(∀ x∈fm,scope.names.lookup x=some .free)/\∀ y∈scope.names,y.2=.free->z≠some y.1:=by
 have h:=S.ck
 unfold jT at h
 simp only [Jf,Qy,decide_eq_true_eq,Wm,bne_iff_ne,ne_eq,beq_iff_eq] at h
 obtain ⟨⟨⟨⟨⟨⟨h1,h2⟩,h3⟩,h4⟩,h5⟩,h7⟩,h9⟩:=h
 exact ⟨h1,λy hy e=>(h2 y hy).resolve_left λq=>q e,λy hy e=>(h3 y hy).resolve_left λq=>q e,λy hy e=>by
  rcases h4 y hy with (q | q) | q
  ·exact absurd e q
  ·exact .inl q
  ·exact .inr q,h5,h7,λy hy e=>(h9 y hy).resolve_left λq=>q e⟩
theorem fv.env (S:fv X scope z own fr fm) {Q:c8->ah->Prop} (h:∀ mw tk,mw.Ns s.heap.objs.size (λ_=>none)->(∀ b o,s.heap.get? b=some o->mw.get? b=some o)->(z≠none->mw.IsCell (s.heap.objs.size+1) none)->Q (newEnv scope s.heap.objs.size X.env.globals (zc z s.heap.objs.size++eR X.env scope.names []) X.env.qual none .none (some X.env) builtinsNs) { s with heap:=mw,toks:=tk }) :
  ag M A (newFunctionEnv scope X.env.globals (eR X.env scope.names []) [] X.env.qual none .none (some X.env)) Q E s:=by
 obtain ⟨p1,p2,_⟩:=S.parts
 cases z with
 | none=>exact Rak (λy hy e=>by cases p2 y hy e) (by intro y hy; simp at hy) (λmw nj Ca=>h mw _ nj (λb o e=>Ca.extBut b o (Qx (af.lt_size e)) (af.get?_push_of_some _ e)) λq=>absurd rfl q) p1
 | some z0 =>
  obtain ⟨cf,pc⟩:=S.cf z0 rfl
  simp only [newFunctionEnv,Qah,if_true]
  refine Ra (Ral ?_)
  refine Ra (wpAny_layCells _ (λname kind cells=>by cases W4:kind==bj.cell <;> simp [W4]) _ _ _ _ ?_)
  rw [cf,pc,show ({ s with heap:=s.heap.push { cls:=.type "dict",data:=.dict #[] } }:ah).heap.objs.size=s.heap.objs.size+1 from af.size_push ..]
  rw [Zn]
  refine Ra (Rb (Rb (h _ s.toks ((af.Ns.new s.heap (.type "dict")).push _) (λb o e=>af.get?_push_of_some _ (af.get?_push_of_some _ e)) λ_=>⟨{ cls:=.type "cell",data:=.cell none },by
   have e:=af.get?_push_size (s.heap.push { cls:=.type "dict",data:=.dict #[] }) (o:={ cls:=.type "cell",data:=.cell none }) rfl
   rw [af.size_push] at e
   exact e,rfl⟩)))
theorem fv.LP (S:fv X scope z own fr fm) (σ:St):(h_ own.length fr σ).length=(own++fm).length:=by
 unfold h_
 rw [Qj,Qj,Jw,Qa,S.len]
theorem aEu {σ:St} {h1:af} {tk:Nat} {D:ae} {oD:bz} {m:ax->Option aa} (I:Inv X a_ σ H s) (S:fv X scope z own fr fm) (yc:∀ b∈fp,rH X a_ H b) (ff:∀ b∈fp,b < s.heap.objs.size) (hC:s.heap.objs.size<=C) (hn:h1.Ns C m) (hk:∀ b o,s.heap.get? b=some o->h1.get? b=some o) (hD:s.heap.objs.size<=D) (yh:D≠C) (WK:h1.get? D=some oD) (XQ:∀ v,oD.data≠.cell v) (ye:z≠none->h1.IsCell (C+1) none) :
  Inv (bH X scope z (own++fm) C s H fp) [(D,oD)] (h_ own.length fr σ) H { s with heap:=h1,toks:=tk }:=by
 obtain ⟨p1,p2,p3,p4,p5,p7,p9⟩:=S.parts
 have below:∀ b,b < s.heap.objs.size->b≠C:=λb hb z=>Jo _ (Qt (z ▸ hb) hC)
 have ko:∀ x c,(eR X.env scope.names []).lookup x=some c->X.env.cells.lookup x=some c:=λx c e=>by
  rcases lB _ _ _ _ (jE e) with q | q
  ·cases q
  ·exact q
 have O6:∀ x c,X.env.cells.lookup x=some c->c < s.heap.objs.size:=λx c e=>by
  obtain ⟨v,q⟩:=I.cell x c e
  exact q.lt
 have Kz:∀ b∈fp,b∉rn X.stack:=λb hb z=>by
  obtain ⟨_,f1,f2,_⟩:=yc b hb
  rcases Ql.mp (I.kg b z) with e | e
  ·exact f1 e
  ·exact f2 e
 have Dfs:D∉rn X.stack:=λz=>by
  have q:=I.kg D z
  rcases Ql.mp q with e | e
  ·exact Jo _ (Qt (e ▸ I.lt:D < _) hD)
  ·exact I.BB hD e
 refine ⟨⟨I.ok.mod,p1,I.ok.glob,I.ok.blt,hC,λx y c e1 e2=>?inj,λx hx=>?has,λx c e e2=>?Bp,I.ok.hd,I.ok.frames,.inl rfl,λb hb=>?FH,I.bs,Jd I.ok.Bq I.sz,λb o e hb=>?o7,Kz,I.stack,I.sk⟩,
  rfl,I.bare,Un.kept hk,⟨m,hn,λi x v e1 e2 e3=>?loc⟩,λx c e=>?cell,I.fj.fresh hC,λx c e=>?g_,λp hp=>?pin,I.fj.kept hk,S.LP σ⟩
 case inj =>
  have Bj:(zc z C++eR X.env scope.names []).lookup x=some c:=e1
  have mx:(zc z C++eR X.env scope.names []).lookup y=some c:=e2
  rcases kI Bj with ⟨r1,rfl⟩ | ⟨n1,q1⟩ <;> rcases kI mx with ⟨r2,e⟩ | ⟨n2,q2⟩
  ·exact Option.some.inj (r1.symm.trans r2)
  ·exact absurd (O6 _ _ (ko _ _ q2)) (Nat.not_lt.mpr (Zf hC))
  ·subst e
   exact absurd (O6 _ _ (ko _ _ q1)) (Nat.not_lt.mpr (Zf hC))
  ·exact I.ok.inj x y c (ko x c q1) (ko y c q2)
 case has =>
  have A1:(relabel scope X.env).names.lookup x=some .cell∨(relabel scope X.env).names.lookup x=some .free:=hx
  show ∃ c,(zc z C++eR X.env scope.names []).lookup x=some c
  by_cases hz:z=some x
  ·rw [hz,A!]
   exact ⟨_,rfl⟩
  ·rw [PQ hz]
   have hl:(relabel scope X.env).names.lookup x=_:=iS (env:=X.env) x scope.names
   rw [hl] at A1
   cases e:scope.names.lookup x with
   | none =>
    rw [e] at A1
    rcases A1 with z | z <;> cases z
   | some k =>
    have nv:=jE e
    have W3:k=.free:=by
     rw [e] at A1
     simp only [Xr,Option.some.injEq] at A1
     by_cases c:(k==bj.free && X.env.scope.kind==.function && X.env.kindOf x==some .cell)=true
     ·simp only [Jf,beq_iff_eq] at c
      exact c.1.1
     ·rw [if_neg c] at A1
      rcases A1 with z | z
      ·exact absurd (p2 _ nv z) hz
      ·exact z
    subst W3
    obtain ⟨c,hc⟩:=I.ok.has x (p4 _ nv rfl)
    obtain ⟨c',fu⟩:=lC (env:=X.env) scope.names [] x (.inr ⟨nv,c,hc⟩)
    exact lD fu
 case Bp =>
  have e':(z==some x)=true:=e
  have mx:(zc z C++eR X.env scope.names []).lookup x=some c:=e2
  rcases kI mx with ⟨_,rfl⟩ | ⟨n1,_⟩
  ·exact Zf hC
  ·exact absurd (by simpa using e') n1
 case FH =>
  refine ⟨below b (ff b hb),λx c e=>?_⟩
  have e':(zc z C++eR X.env scope.names []).lookup x=some c:=e
  rcases kI e' with ⟨_,rfl⟩ | ⟨_,q⟩
  ·exact λz=>Jo _ (Qt (ff b hb) (by rw [<- z]; exact Zf hC))
  ·exact (yc b hb).2.2.2.2.1 x c (ko x c q)
 case o7 =>
  rcases (yc b hb).2.2.2.1 with z | z
  ·exact I.ok.o7 b o e z
  ·exact absurd (Qt (af.lt_size (I.ok.bs b o e).1) z) (Jo _)
 case loc =>
  show ∃ u,bN v u/\Pe _ _ _ x u
  have Bj:(own++fm)[i]?=some x:=e1
  have mx:(h_ own.length fr σ)[i]?=some (some v):=e2
  unfold h_ at mx
  by_cases hi:i < own.length
  ·rw [Qs (by simpa using hi),Jz] at mx
   rw [if_pos hi] at mx
   cases mx
  ·rw [Ji (by simpa using hi)] at mx
   rw [Ji (by omega)] at Bj
   rw [Jw,Qd] at mx
   obtain ⟨j,yb,Aa⟩:=S.ix _ _ Bj
   rw [yb] at mx
   simp only [Xr,Option.some.injEq] at mx
   have jc:σ[j]?=some (some v):=by
    cases q:σ[j]? with
    | none=>rw [q] at mx; cases mx
    | some w=>rw [q] at mx; exact congrArg some mx
   have j7:=p7 x (Qe Bj)
   have nv:=jE j7
   have V2:z≠some x:=p9 _ nv rfl
   have kx:=p4 _ nv rfl
   have F9:D1 X.env.scope x:=by
    rcases kx with z | z
    ·exact .inr (.inl z)
    ·exact .inr (.inr z)
   obtain ⟨m0,hn0,WX⟩:=I.loc
   obtain ⟨u,ru,lk⟩:=WX j x v Aa jc F9
   refine ⟨u,ru,.inr ⟨?_,?_⟩⟩
   ·show (relabel scope X.env).names.lookup x=some .cell∨(relabel scope X.env).names.lookup x=some .free
    have hl:(relabel scope X.env).names.lookup x=_:=iS (env:=X.env) x scope.names
    rw [hl,j7]
    simp only [Xr,Option.some.injEq]
    by_cases c:(bj.free==bj.free && X.env.scope.kind==.function && X.env.kindOf x==some .cell)=true
    ·rw [if_pos c]; exact .inl rfl
    ·rw [if_neg c]; exact .inr rfl
   ·rcases lk with ⟨kl,_⟩ | ⟨_,c,hc,ig⟩
    ·have VS:X.env.scope.names.lookup x=some .local:=kl
     rcases kx with z | z <;> (have z':X.env.scope.names.lookup x=_:=z; rw [VS] at z'; cases z')
    ·obtain ⟨c',fu⟩:=lC (env:=X.env) scope.names [] x (.inr ⟨nv,c,hc⟩)
     obtain ⟨c2,qi⟩:=lD fu
     have ec:c2=c:=by
      have:=ko x c2 qi
      rw [hc] at this
      exact (Option.some.inj this).symm
     subst ec
     obtain ⟨oc,ho,hd⟩:=ig
     exact ⟨c2,(PQ V2).trans qi,oc,hk _ _ ho,hd⟩
 case cell =>
  have e':(zc z C++eR X.env scope.names []).lookup x=some c:=e
  rcases kI e' with ⟨_,rfl⟩ | ⟨_,q⟩
  ·exact ⟨none,ye λq=>by simp_all⟩
  ·obtain ⟨v,o,ho,hd⟩:=I.cell x c (ko x c q)
   exact ⟨v,o,hk _ _ ho,hd⟩
 case g_ =>
  have e':(zc z C++eR X.env scope.names []).lookup x=some c:=e
  rcases kI e' with ⟨_,rfl⟩ | ⟨_,q⟩
  ·exact I.fj.fresh (Zf hC)
  ·exact I.g_ x c (ko x c q)
 case pin =>
  have vc:p∈([]:List (ae×bz))++[(D,oD)]:=hp
  simp only [Zr,Qr] at vc
  subst vc
  exact ⟨WK,I.fj.fresh hD,yh,Dfs,XQ⟩
structure gy (P:br) (w:bf) (A:bw) (e:bq) (d:Nat) (tg iter:bq) (ifs:List bq) (bd:c8->ae->Sem Unit):Prop where
 AK:∀ (it:aa) (D:ae) (env:c8),A.under (.compLoop e d it (.ref D) env)=A/\(ao P w).den (.compLoop e d it (.ref D) env)=(compTurn e d it (.ref D) env).onRaise (λx=>do noteFrame x env; theTreesLotGoes x)
 turn:∀ (it:aa) (D:ae) (env:c8),compTurn e d it (.ref D) env=(do
   standAt iter.pos
   match<-pyNext it with
   | none=>pure (.done .next)
   | some v =>
    letOwnedTupleGo tg it v
    assign tg env v
    let mut ok:=true
    for c in ifs do
     if ok then ok<-isTrue c env (eval c env)
    if ok then bd env D
    again (.compLoop e d it (.ref D) env))
 start:∀ {R:Result->ah->Prop} {s:ah} {it acc:aa} {env:c8},codeAny (ao P w) A (.compLoop e d it acc env) R s->ag (ao P w) A (pyIter it) (λxr s'=>codeAny (ao P w) A (.compLoop e d xr acc env) R s') (notedBy (ao P w) A env λx s'=>R (.error x) s') s->codeAny (ao P w) A (.compStart e d it acc env) R s
structure i8 {α:Type} (P:br) (w:bf) (A:bw) (na:Sem aa) (a0:α) (Ok:ae->α->af->Prop):Prop where
 new:∃ o0:bz,(∀ v,o0.data≠.cell v)/\o0.isFreed=false/\(∀ (h:af) D,h.get? D=some o0->Ok D a0 h)/\∀ {Q:aa->ah->Prop} {E:aa->ah->Prop} {s:ah},Q (.ref s.heap.objs.size) { s with heap:=s.heap.push o0 }->ag (ao P w) A na Q E s
 keep:∀ {D:ae} {a:α} {h h':af},Ok D a h->(∀ o,h.get? D=some o->h'.get? D=some o)->Ok D a h'
 obj:∀ {D:ae} {a:α} {h:af},Ok D a h->∃ o,h.get? D=some o/\∀ v,o.data≠.cell v
theorem zK {d:Nat} {D:ae} {target:bq} {it:aa} {env:c8} (LO:gy prog w A e d target iter ifs bd) (I:Nat->ah->Prop) (turn:∀ n s,I n s->ag (ao prog w) A (pyNext it) (λr gf=>match r with
   | none=>R (.ok .next) gf
   | some v=>ag (ao prog w) A (letOwnedTupleGo target it v) (λ_ MJ=>ag (ao prog w) A (assign target env v) (λ_ kr =>
     ag (ao prog w) A (forIn ifs true λc r=>if r=true then do let ok<-isTrue c env (eval c env); pure (ForInStep.yield ok) else pure (ForInStep.yield r)) (λok wx =>
      if ok=true then ag (ao prog w) A (bd env D) (λ_ MD=>∃ m,m < n/\I m MD) (λ_ _=>False) wx
      else ∃ m,m < n/\I m wx) (λ_ _=>False) kr) (λ_ _=>False) MJ) (λ_ _=>False) gf) (λ_ _=>False) s) (n:Nat) (h:I n s) :
  codeAny (ao prog w) A (.compLoop e d it (.ref D) env) R s:=by
 refine codeAny_loop rfl I (λn s hI=>?_) n h
 rw [(LO.AK it D env).1,(LO.AK it D env).2]
 refine wpAny_noted ?_
 rw [LO.turn]
 refine Ra (Td (Ra (Rp (turn n s hI) (λr gf mw=>?_) λ_ _ h'=>h'.elim)))
 cases r with
 | none=>exact Rb mw
 | some v =>
  refine Ra (Rp mw (λ_ MJ LH=>?_) λ_ _ h'=>h'.elim)
  refine Ra (Rp LH (λ_ kr Bh=>Ra (Rp Bh (λok wx FD=>?_) λ_ _ h'=>h'.elim)) λ_ _ h'=>h'.elim)
  cases ok with
  | false=>exact Rb ⟨rfl,FD⟩
  | true=>exact Ra (Rp FD (λ_ MD YF=>Rb ⟨rfl,YF⟩) λ_ _ h'=>h'.elim)
def PF (X:Cx) (ifs:List bq) (t:TT):Prop :=
 ∀ (a_:List (ae×bz)) (s:ah) (σ:St) (H:Hp) (Q:Bool->Hp->Prop),Inv X a_ σ H s->t σ H Q ->
  ag (ao X.prog X.w) X.A (forIn ifs true λc r=>if r=true then do let ok<-isTrue c X.env (eval c X.env); pure (ForInStep.yield ok) else pure (ForInStep.yield r)) (TP X a_ σ Q) X.xe s
def pO:TT:=λ_ H Q=>Q true H
theorem cP:PF X [] pO:=λ_ _ _ H _ I h=>wpAny_tests_nil ⟨H,I,h⟩
theorem nE {c:bq} {t:TT} (h:PT X c t):PF X [c] t:=λa_ s σ H Q I hq=>wpAny_tests_one (h a_ s σ H Q I hq)
def j4 (J:It) (a0:α) (EE:St) (H1:Hp) (q:α->St->Hp->Prop) (g:TG) (tt:TT) (tb:α->St->Hp->(α->St->Hp->Prop)->Prop):Prop:=∃ W:Nat->Nat->α->St->Hp->Prop,(∃ m,W 0 m a0 EE H1)/\∀ i m a e_ H,W i m a e_ H->(J.stop i H/\q a e_ H) ∨
 (J.go i H/\∃ N:α->St->Hp->Prop,(∀ a' fg H2,N a' fg H2->∃ m',m' < m/\W (i+1) m' a' fg H2)/\∀ x H',J.qd i H x H'->g x e_ H' λfg H2=>tt fg H2 λb H3=>if b=true then tb a fg H3 N else N a fg H3)
def oq (te:TE) (ys:List V) (σ:St) (H:Hp) (R:List V->St->Hp->Prop):Prop:=te σ H λy H4=>ys.length < ak/\R (ys++[y]) σ H4
def PN (own:Nat) (fr:List Nat) (wi:TI) (g:TG) (tt:TT) (te:TE):TE:=λσ H Q=>wi σ H λJ H1=>j4 J [] (h_ own fr σ) H1 (λys _ H=>∀ p,H p=none->Q (.ref p) (upd H p (.lst ys))) g tt (oq te)
structure F6 (Y:Cx) (D:ae) (ps:List (ae×bz)):Prop where
 L:D≠Y.env.locals
 ex:D∈Y.ex∨Y.jm.heap.objs.size<=D
 c:∀ x c,Y.env.cells.lookup x=some c->c≠D
 pn:∀ p∈Y.pn,p.1≠D
 fs:D∉Y.fs
 ps:∀ p∈ps,p.1≠D
section
variable {d:Nat} {gs:List Comprehension} {wi:TI} {na:Sem aa} {a0:α} {Ok:ae->α->af->Prop} {tb:α->St->Hp->(α->St->Hp->Prop)->Prop} {ps:List (ae×bz)} {σ:St} {D:ae}
theorem Inv.we {u:HO} (I:Inv X a_ σ H s) (hn:H D=none) (hL:D≠X.env.locals)
  (h1:X.jm.heap.objs.size<=D) (h2:∀ x c,X.env.cells.lookup x=some c->c≠D) (h3:∀ p∈X.pn++a_,p.1≠D) (hu:bJ X.prog X.w (upd H D u) s.heap D u):Inv X a_ σ (upd H D u) s:=by
 have ne:∀ b u,H b=some u->b≠D:=λb u e z=>by rw [z,hn] at e; cases e
 refine I.step (g':=s.gens) (d':=s.drawn) (t':=s.toks) (h':=s.heap) (ch:=[D]) (λb hb=>?_) (λb o _ _ _ e _=>e) (λb o _ _ _ e _=>⟨o.slots,e⟩) (λb o hc _ n=>?_) (λb o _ e=>⟨o,e⟩)
  (λb xs e=>by rw [aG (ne b _ e)]; exact e) (λb o u e=>by rw [aG (ne b _ e)]; exact e) (λb ps e=>⟨#[],by rw [aG (ne b _ e),e]; simp⟩) (λ_ h=>h) (λb u e=>?_) I.bare
 ·have e:b=D:=by simpa using hb
  subst e
  exact ⟨.inr h1,hL,h2,h3⟩
 ·rw [aG (by simpa using hc)]; exact n
 ·by_cases hb:b=D
  ·subst hb
   rw [aB] at e; cases e
   exact hu
  ·rw [aG hb] at e
   exact (I.fj b u e).ib (λc v _ q=>q) (λc q=>by rw [aG (ne c _ q)]; exact q) λc xs q=>by rw [aG (ne c _ q)]; exact q
theorem F6.put {t:Nat} {a:α} (dn:F6 Y D ps) (AO:i8 Y.prog Y.w Y.A na a0 Ok) (I:Inv Y ((D,o)::ps) σ H s) (sb:af.SameBut D s.heap h') (ok:Ok D a h'):∃ o',Inv Y ((D,o')::ps) σ H { s with heap:=h',toks:=t }:=by
 have hD:=(I.pin (D,o) (Jg _ (Qi ..))).2.1
 have I':Inv Y [] σ H s:=I.j8 λp hp=>by cases hp
 have I11:=I'.turned (t':=t) (it:=D) (λb o hb e=>(sb.2 b hb).trans e) hD dn.L dn.ex dn.c (λp hp=>by rw [Xq] at hp; exact dn.pn p hp)
 obtain ⟨o',e',c'⟩:=AO.obj ok
 refine ⟨o',I11.j8 λp hp=>?_⟩
 rcases Ql.mp hp with h | h
 ·subst h
  exact ⟨e',hD,dn.L,dn.fs,c'⟩
 ·obtain ⟨a1,a2,a3,a4,a5⟩:=I.pin p (Jg _ (Qg _ h))
  exact ⟨(sb.2 p.1 (dn.ps p h)).trans a1,a2,a3,a4,a5⟩
def jK (Y:Cx) (bd:c8->ae->Sem Unit) (Ok:ae->α->af->Prop) (tb:α->St->Hp->(α->St->Hp->Prop)->Prop):Prop:=∀ ps s σ H D o a R,F6 Y D ps->Inv Y ((D,o)::ps) σ H s->Ok D a s.heap->tb a σ H R->ag (ao Y.prog Y.w) Y.A (bd Y.env D) (λ_ s'=>∃ e_ H' a' o',Inv Y ((D,o')::ps) e_ H' s'/\Ok D a' s'.heap/\R a' e_ H') Y.xe s
theorem i8.ib {a:α} {e_:St} (AO:i8 Y.prog Y.w Y.A na a0 Ok) (I:Inv Y ((D,o)::ps) σ H s) (I':Inv Y ((D,o)::ps) e_ H' s') (pl:Ok D a s.heap):Ok D a s'.heap :=
 AO.keep pl λ_ e=>(I'.pin (D,o) (Jg _ (Qi ..))).1.trans ((I.pin (D,o) (Jg _ (Qi ..))).1.symm.trans e)
theorem vR {tn:Nat->af->Prop} {a:α} {F:α->St->Hp->Prop} (LO:gy Y.prog Y.w Y.A e d tg iter ifs bd) (AO:i8 Y.prog Y.w Y.A na a0 Ok) (hx:∀ v s',¬ Y.xe v s') (hc:Y.calm=true) (T:Turn Y.prog Y.w Y.K tg J fp it tn) (hg:PG Y tg g) (ht:PF Y ifs tt) (hb:jK Y bd Ok tb) (dn:F6 Y D ps) (I0:Inv Y ((D,o)::ps) σ H s) (U6:Ok D a s.heap) (EN:tn 0 s.heap) (f0:∀ b∈fp,rH Y ((D,o)::ps) H b) (w:j4 J a σ H F g tt tb) (hR:∀ (s':ah) (e_:St) (H':Hp) (a':α) (o':bz),Inv Y ((D,o')::ps) e_ H' s'->Ok D a' s'.heap->F a' e_ H'->R (.ok .next) s') :
  codeAny (ao Y.prog Y.w) Y.A (.compStart e d (.ref it) (.ref D) Y.env) R s:=by
 obtain ⟨W,⟨m0,w0⟩,turn⟩:=w
 have qz:∀ {H':Hp} {o':bz},(∀ b∈fp,H' b=none)->∀ b∈fp,rH Y ((D,o')::ps) H' b:=λ{H' o'} hn b hb=>by
  obtain ⟨_,q1,q2,q3,q4,q5⟩:=f0 b hb
  refine ⟨hn b hb,q1,q2,q3,q4,λp hp=>?_⟩
  rcases Jk.mp hp with h | h
  ·exact q5 p (Jp _ h)
  ·rcases Ql.mp h with h | h
   ·rw [h]; exact q5 (D,o) (Jg _ (Qi ..))
   ·exact q5 p (Jg _ (Qg _ h))
 have loop:codeAny (ao Y.prog Y.w) Y.A (.compLoop e d (.ref it) (.ref D) Y.env) R s:=by
  refine zK LO (λn s'=>∃ i e_ H' a o,Inv Y ((D,o)::ps) e_ H' s'/\Ok D a s'.heap/\tn i s'.heap/\(∀ b∈fp,H' b=none)/\W i n a e_ H') ?_ m0 ⟨0,σ,H,a,o,I0,U6,EN,λb hb=>(f0 b hb).1,w0⟩
  rintro n s5 ⟨i,CL,H5,ys,o,I5,MP,B3,FF,w5⟩
  rcases turn i n ys CL H5 w5 with ⟨stop,qn⟩ | ⟨go,N,hN,step⟩
  ·refine Rp (T.done Y rfl rfl rfl hc i _ s5 CL H5 (λ_ _=>False) I5 (qz FF) B3 stop) (λr s6 fe=>?_) λ_ _ z=>z
   obtain ⟨hr,I6⟩:=fe
   subst hr
   exact hR s6 CL H5 ys o I6 (AO.ib I5 I6 MP) qn
  ·refine Rp (T.item Y rfl rfl rfl hc i _ s5 CL H5 (λ_ _=>False) I5 (qz FF) B3 go) (λr s6 fe=>?_) λ_ _ z=>z
   obtain ⟨u,hr,h6⟩:=fe
   subst hr
   refine Rp h6 (λ_ s7 fe=>?_) λ_ _ z=>z
   obtain ⟨x,H7,I7,r7,y7,Ge,YJ⟩:=fe
   have I7':=I7.pinned (qz YJ) (T.obj _ _ Ge)
   refine Rp (hg _ s7 CL H7 x u _ I7' r7 (step x H7 y7)) (λ_ s8 fe=>?_) λv s' z=>hx v s' z
   obtain ⟨F7,H8,I8,q8⟩:=fe
   refine Rp (ht _ s8 F7 H8 _ I8 q8) (λb s9 fe=>?_) λv s' z=>hx v s' z
   obtain ⟨H9,I9,q9⟩:=fe
   have MO:Ok D ys s9.heap:=AO.ib I5 (I9.j9:Inv Y ((D,o)::ps) F7 H9 s9) MP
   have fin:∀ {s':ah} {e_:St} {H':Hp} {o':bz} {a':α},Inv Y ((D,o')::(ps++pK fp s7.heap)) e_ H' s'->Ok D a' s'.heap->N a' e_ H'->∃ m,m < n/\∃ i e_ H' a o,Inv Y ((D,o)::ps) e_ H' s'/\Ok D a s'.heap/\tn i s'.heap/\(∀ b∈fp,H' b=none)/\W i m a e_ H':=λ{s' e_ H' o' a'} I' ok q=>by
    obtain ⟨m',hm,w'⟩:=hN a' e_ H' q
    have pin:=λb (hb:b∈fp) o e=>I'.pin (b,o) (Jg _ (Qg _ (Jg _ (nD hb e))))
    refine ⟨m',hm,i+1,e_,H',a',o',I'.j8 λp hp=>I'.pin p (Jg _ ?_),ok,T.keep _ _ _ Ge λb hb o e=>(pin b hb o e).1,λb hb=>?_,w'⟩
    ·rcases Ql.mp hp with h | h
     ·exact h ▸ Qi ..
     ·exact Qg _ (Jp _ h)
    ·obtain ⟨o,e,_⟩:=T.obj _ _ Ge b hb
     exact (pin b hb o e).2.1
   cases b with
   | false =>
    rw [if_neg Qm] at q9
    rw [if_neg Qm]
    exact fin I9 MO q9
   | true =>
    rw [if_pos rfl] at q9
    rw [if_pos rfl]
    refine Rp (hb (ps++pK fp s7.heap) s9 F7 H9 D o ys _ ⟨dn.L,dn.ex,dn.c,dn.pn,dn.fs,λp hp=>?_⟩ I9 MO q9) (λ_ CU fe=>?_) λv s' z=>hx v s' z
    ·rcases Jk.mp hp with h | h
     ·exact dn.ps p h
     ·exact λq=>(f0 p.1 (vK h).1).2.2.2.2.2 (D,_) (Jg _ (Qi ..)) q.symm
    ·obtain ⟨e_,H',a',o',I',ok,q⟩:=fe
     exact fin I' ok q
 exact LO.start loop (T.self Y.A 0 _ _ _ EN loop)
theorem aBg {s2:ah} {tn:Nat->af->Prop} {RR:aa->ae->Result->ah->Prop} {Q:α->Hp->Prop} (S:fv X scope z own fr fm) (LO:gy X.prog X.w X.A e 0 tg iter ifs bd) (AO:i8 X.prog X.w X.A na a0 Ok) (hc:X.calm=true) (I2:Inv X a_ σ H2 s2) (T:Turn X.prog X.w X.K tg J fp it tn) (ja:tn 0 s2.heap) (f2:∀ b∈fp,rH X a_ H2 b) (hg:∀ C s0 H0 fp,PG (bH X scope z (own++fm) C s0 H0 fp) tg g) (ht:∀ C s0 H0 fp,PF (bH X scope z (own++fm) C s0 H0 fp) ifs tt) (hb:∀ C s0 H0 fp,jK (bH X scope z (own++fm) C s0 H0 fp) bd Ok tb) (w:j4 J a0 (h_ own.length fr σ) H2 (λa _ H=>Q a H) g tt tb) (Fx:∀ (C D:ae) (s':ah) (H':Hp) (ys:α) (m:ax->Option aa),s2.heap.objs.size<=C->s2.heap.objs.size<=D->D≠C->s'.heap.Ns C m->H' C=none->H' D=none->Ok D ys s'.heap->Inv X a_ σ H' s'->Q ys H'->RR (.ref D) C (.ok .next) s') :
  ag (ao X.prog X.w) X.A na (λacc wx=>ag (ao X.prog X.w) X.A (newFunctionEnv scope X.env.globals (eR X.env scope.names []) [] X.env.qual none .none (some X.env)) (λEr UU =>
   codeAny (ao X.prog X.w) X.A (.compStart e 0 (.ref it) acc { Er with scope:=relabel scope X.env }) (RR acc Er.locals) UU) E wx) E s2:=by
 obtain ⟨o0,n0,f0,k0,nw⟩:=AO.new
 refine nw (S.env λmw tk wc ol ig=>?_)
 dsimp only at wc ol ig ⊢
 generalize HF:s2.heap.push o0=HD at wc ol ig ⊢
 have hCs:HD.objs.size=s2.heap.objs.size+1:=by rw [<- HF,af.size_push]
 have yh:s2.heap.objs.size≠HD.objs.size:=by omega
 have zg:s2.heap.objs.size<=HD.objs.size:=by omega
 have below:∀ b,b < s2.heap.objs.size->b≠HD.objs.size/\b≠s2.heap.objs.size:=λb hb=>⟨by omega,by omega⟩
 have old:∀ b o,s2.heap.get? b=some o->mw.get? b=some o:=λb o e=>ol b o (HF ▸ af.get?_push_of_some _ e)
 have zf:mw.get? s2.heap.objs.size=some o0:=ol _ _ (HF ▸ af.get?_push_size _ f0)
 have yi:∀ b∈fp,b < s2.heap.objs.size:=λb hb=>by
  obtain ⟨o,e,_⟩:=T.obj _ _ ja b hb
  exact af.lt_size e
 generalize Bf:s2.heap.objs.size=D at *
 generalize hCg:HD.objs.size=C at *
 have CS:tn 0 mw:=T.keep _ _ _ ja λb _ o e=>old b o e
 have A_:∀ x c,(zc z C++eR X.env scope.names []).lookup x=some c->c=C+1∨X.env.cells.lookup x=some c:=λx c e=>by
  rcases kI e with ⟨_,e⟩ | ⟨_,e⟩
  ·exact .inl e
  ·rcases lB _ _ _ _ (jE e) with q | q
   ·cases q
   ·exact .inr q
 have I3:Inv (bH X scope z (own++fm) C s2 H2 fp) [(D,_)] (h_ own.length fr σ) H2 { s2 with heap:=mw,toks:=tk } :=
  aEu (m:=λ_=>none) I2 S f2 (by rw [Bf]; exact yi) (by rw [Bf]; exact zg) (wc:mw.Ns C _) old (by rw [Bf]; exact Qh _) yh zf n0 ig
 refine vR (Y:=bH X scope z (own++fm) C s2 H2 fp) LO AO (λ_ _ z=>z) hc T (hg C s2 H2 fp) (ht C s2 H2 fp) (hb C s2 H2 fp) ⟨yh,.inr (by show s2.heap.objs.size<=D; rw [Bf]; exact Qh _),λx c e q=>?_,λp hp=>(by cases hp),λz=>?_,λp hp=>(by cases hp)⟩ I3 (k0 _ _ zf) CS (λb hb=>?_) w (λs6 LS H6 a o I6 pl qn=>?_)
 ·rcases A_ x c e with e | e
  ·exact Jo _ (Qt (Xy C) (Jd (Nat.le_of_eq (e.symm.trans q)) zg))
  obtain ⟨v,u⟩:=I2.cell x c e
  exact Jo _ (Qt u.lt (by rw [Bf,q]; exact Qh _))
 ·rcases Ql.mp (I2.kg D z) with e | e
  ·exact Jo _ (Qt I2.lt (by rw [Bf,e]; exact Qh _))
  ·exact I2.BB (by rw [Bf]; exact Qh _) e
 ·refine ⟨(f2 b hb).1,(below b (yi b hb)).1,λz=>?_,.inl hb,λx c e=>(by
   rcases A_ x c e with e | e
   ·exact λq=>Jo _ (Qt (yi b hb) (by rw [<- q,e]; exact Zf zg))
   ·exact (f2 b hb).2.2.2.2.1 x c e),λp hp=>?_⟩
  ·have z':b∈rn X.stack:=z
   rcases Ql.mp (I2.kg b z') with e | e
   ·exact (f2 b hb).2.1 e
   ·exact (f2 b hb).2.2.1 e
  ·rw [Qr.mp (show p∈[(D,o0)] from hp)]
   exact Ne.symm (below b (yi b hb)).2
 ·obtain ⟨m6,km,_⟩:=I6.loc
  have p6:=I6.pin (D,o) (Jg _ (Qi ..))
  have IX:Inv X a_ σ H6 s6:=I2.ED (ch:=fp) I6.os I6.base I6.fj I6.bare λb hb=>⟨(f2 b hb).2.2.2.1,(f2 b hb).2.1,(f2 b hb).2.2.2.2.1,(f2 b hb).2.2.2.2.2⟩
  exact Fx C D s6 H6 a m6 zg (Qh _) yh km I6.free p6.2.1 pl IX qn
theorem zL {R:aa->ah->Prop} {use:Option (aa->Sem Unit)} {q:α->Hp->Prop} (S:fv X scope z own fr fm) (cl:clausesOf e=⟨tg,iter,ifs,0⟩::gs) (LO:gy X.prog X.w X.A e 0 tg iter ifs bd) (AO:i8 X.prog X.w X.A na a0 Ok) (hc:X.calm=true) (hi:PI X tg iter wi) (hg:∀ C s0 H0 fp,PG (bH X scope z (own++fm) C s0 H0 fp) tg g) (ht:∀ C s0 H0 fp,PF (bH X scope z (own++fm) C s0 H0 fp) ifs tt)
  (hb:∀ C s0 H0 fp,jK (bH X scope z (own++fm) C s0 H0 fp) bd Ok tb) (hs:∀ x,foldedSetIterable iter X.env x=pure x) (I:Inv X a_ σ H s)
  (h:wi σ H λJ H1=>j4 J a0 (h_ own.length fr σ) H1 (λa _ H=>q a H) g tt tb)
  (hq:∀ (C D:ae) (s':ah) (H':Hp) (a:α) (m:ax->Option aa),D≠C->s'.heap.Ns C m->H' C=none->H' D=none->Ok D a s'.heap->Inv X a_ σ H' s'->q a H' ->
   (∀ b,b=C∨b=D->b≠X.env.locals/\X.jm.heap.objs.size<=b/\bg < b/\(∀ x c,X.env.cells.lookup x=some c->c≠b)/\∀ p∈X.pn++a_,p.1≠b)->compPost (ao X.prog X.w) X.A X.xe use R (.ref D) C (.ok .next) s') :
  ag (ao X.prog X.w) X.A (comprehension e scope X.env pos na false (eval iter X.env) use) R X.xe s:=by
 obtain ⟨p1,p2,p3,p4,p5,p7,p9⟩:=S.parts
 refine wpAny_comprehension_free cl hs (QI λy hy e=>I.ok.has y.1 (p4 y hy e)) p1 p3 (fk (hi a_ s σ H _ I h) λv s1 h1=>fk h1 λE7 s2 h2=>?_)
 obtain ⟨it,fp,tn,J,H2,e,I2,T,ja,f2,hw⟩:=h2
 subst e
 refine aBg (RR:=λacc C=>compPost (ao X.prog X.w) X.A X.xe use R acc C) S LO AO hc I2 T ja f2 hg ht hb hw λC D s' H' a m hC hD yh nj DF Be pl IX z=>hq C D s' H' a m yh nj DF Be pl IX z λb hb=>?_
 have ju:s2.heap.objs.size<=b:=by rcases hb with rfl | rfl; exact hC; exact hD
 exact ⟨λz=>Jo _ (Qt I2.lt (by rw [<- z]; exact ju)),Jd I2.sz ju,Qt (Yi (by decide) (I2.mod.glob.keeps I2.bk).lt) ju,λx c e z=>by
  obtain ⟨v,w⟩:=I2.cell x c e
  exact Jo _ (Qt w.lt (by rw [z]; exact ju)),λp hp z=>Jo _ (Qt (af.lt_size (I2.pin p hp).1) (by rw [z]; exact ju))⟩
theorem nZ {hq:(V->Hp->Prop)->α->Hp->Prop} (S:fv X scope z own fr fm) (cl:clausesOf e=⟨tg,iter,ifs,0⟩::gs) (LO:gy X.prog X.w X.A e 0 tg iter ifs bd) (AO:i8 X.prog X.w X.A na a0 Ok) (hc:X.calm=true) (ev:eval e X.env=comprehension e scope X.env pos na false (eval iter X.env) none) (hi:PI X tg iter wi) (hg:∀ C s0 H0 fp,PG (bH X scope z (own++fm) C s0 H0 fp) tg g) (ht:∀ C s0 H0 fp,PF (bH X scope z (own++fm) C s0 H0 fp) ifs tt)
  (hb:∀ C s0 H0 fp,jK (bH X scope z (own++fm) C s0 H0 fp) bd Ok tb) (hs:∀ x,foldedSetIterable iter X.env x=pure x)
  (tr:∀ {D:ae} {a:α} {H:Hp} {h:af} {Q:V->Hp->Prop},Ok D a h->H D=none->(D==bg)=false->hq Q a H->∃ u,bJ X.prog X.w (upd H D u) h D u/\Q (.ref D) (upd H D u)) :
  PE X e λσ H Q=>wi σ H λJ H1=>j4 J a0 (h_ own.length fr σ) H1 (λa _ H=>hq Q a H) g tt tb:=by
 intro a_ s σ H Q I h
 rw [ev]
 refine zL (use:=none) S cl LO AO hc hi hg ht hb hs I h λC D s' H' a m yh nj DF Be pl IX q ne=>?_
 obtain ⟨c1,c2,_,c3,c4⟩:=ne C (.inl rfl)
 obtain ⟨d1,d2,d5,d3,d4⟩:=ne D (.inr rfl)
 obtain ⟨u,ou,qu⟩:=tr pl Be (beq_eq_false_iff_ne.mpr (Ne.symm (Qx d5))) q
 refine ⟨m,nj,λh' hs'=>⟨.ref D,upd H' D u,?_,rfl,qu⟩⟩
 exact (IX.we Be d1 d2 d3 d4 ou).turned (t':=s'.toks) (it:=C) (λb o hb e=>(hs'.2 b hb).trans e) (by rw [aG (Ne.symm yh)]; exact DF) c1 (.inr c2) c3 c4
def D4 (D:ae) (ys:List V) (h:af):Prop:=ys.length<=ak/\∃ b_:Array aa,h.PlainList D b_/\bM ys b_.toList
noncomputable def IZ (elt:bq) (env:c8) (D:ae):Sem Unit:=do let _<-call (.builtin "list.append") [.ref D,<- eval elt env]
theorem CA:i8 P w A (newList []) [] D4 where
 new:=⟨{ cls:=.type "list",dict:=none,data:=.seq ([]:List aa).toArray },λv z=>(by cases z),rfl,λh D e=>⟨Jl _,#[],⟨_,e⟩,.nil⟩,λh=>Rk h⟩
 keep:=λ⟨hl,b_,⟨k,e⟩,v⟩ f=>⟨hl,b_,⟨k,f _ e⟩,v⟩
 obj:=λ⟨_,b_,⟨k,e⟩,_⟩=>⟨_,e,λv z=>by cases z⟩
theorem PM:gy P w A (.ListComp elt [⟨tg,iter,ifs,0⟩] scope pos) 0 tg iter ifs (IZ elt) where
 AK:=λ_ _ _=>⟨rfl,rfl⟩
 turn:=λit D env=>compTurn_list elt tg iter ifs scope pos it (.ref D) env
 start:=Rae
theorem JG (he:PE Y elt te):jK Y (IZ elt) D4 (oq te):=by
 intro ps s σ H D o ys R dn I pl h
 refine Ra (fk (he _ s σ H _ I h) λy s1 hx=>?_)
 obtain ⟨yv,H1,I1,r1,lt,q⟩:=hx
 obtain ⟨hl,b_,U5,v⟩:=CA.ib I I1 pl
 have hlen:=v.length
 refine Ra (wpAny_list_append_plain U5 (λDG Kv vq=>Rb ?_) (by rw [<- Array.length_toList,<- hlen]; exact Yh lt))
 have ok:D4 D (ys++[yv]) DG:=⟨by rw [Qj]; exact lt,_,Kv,by rw [Array.toList_push]; exact v.append (.cons r1 .nil)⟩
 obtain ⟨o',I'⟩:=dn.put (t:=s1.toks) CA I1 vq ok
 exact ⟨σ,H1,_,o',I',ok,q⟩
theorem L8 {Q:V->Hp->Prop} {D:ae} (ok:D4 D ys h) (hn:H D=none) (q:∀ p,H p=none->Q (.ref p) (upd H p (.lst ys))):∃ u,bJ P w (upd H D u) h D u/\Q (.ref D) (upd H D u) :=
 let ⟨hl,b_,⟨k,e⟩,v⟩:=ok; ⟨.lst ys,⟨hl,b_.toList,k,v,by simpa using e⟩,q _ hn⟩
theorem bX (S:fv X scope z own fr fm) (hc:X.calm=true) (hi:PI X tg iter wi) (hg:∀ C s0 H0 fp,PG (bH X scope z (own++fm) C s0 H0 fp) tg g) (ht:∀ C s0 H0 fp,PF (bH X scope z (own++fm) C s0 H0 fp) ifs tt) (he:∀ C s0 H0 fp,PE (bH X scope z (own++fm) C s0 H0 fp) elt te) (hs:autoParam (∀ x,foldedSetIterable iter X.env x=pure x) L2.u4) :
  PE X (.ListComp elt [⟨tg,iter,ifs,0⟩] scope pos) (PN own.length fr wi g tt te) :=
 nZ S rfl PM CA hc (eval_ListComp ..) hi hg ht (λC s0 H0 fp=>JG (he C s0 H0 fp)) hs λok hn _ q=>L8 ok hn q
theorem zM {tb:List V->St->Hp->(List V->St->Hp->Prop)->Prop} {y:ax} {py vp:Pos} (S:fv X scope z own fr fm) (LO:gy X.prog X.w X.A (.ListComp elt (⟨tg,iter,ifs,0⟩::gs) scope pos) 0 tg iter ifs bd) (hc:X.calm=true) (hN:X.N.Nodup) (GQ:X.N[i]?=some y) (hx:X.env.scope.names.lookup y=some .local) (G1:swapsWith (.ListComp elt (⟨tg,iter,ifs,0⟩::gs) scope pos) (some (.Name y py)) vp.line X.env=pure true) (hi:PI X tg iter wi) (hg:∀ C s0 H0 fp,PG (bH X scope z (own++fm) C s0 H0 fp) tg g) (ht:∀ C s0 H0 fp,PF (bH X scope z (own++fm) C s0 H0 fp) ifs tt) (hb:∀ C s0 H0 fp,jK (bH X scope z (own++fm) C s0 H0 fp) bd D4 tb) (hs:∀ x,foldedSetIterable iter X.env x=pure x) :
  PS X (.Assign [.Name y py] (.ListComp elt (⟨tg,iter,ifs,0⟩::gs) scope pos) vp) (DS (λσ H Q=>wi σ H λJ H1=>j4 J [] (h_ own.length fr σ) H1 (λys _ H=>∀ p,H p=none->Q (.ref p) (upd H p (.lst ys))) g tt tb) (jR i)):=by
 intro a_ s σ H D I h
 rw [exec_Assign_Name_used _ _ _ _ G1]
 refine Ra (Td (Ra ?_))
 show ag _ X.A (do let _<-comprehension (.ListComp elt (⟨tg,iter,ifs,0⟩::gs) scope pos) scope X.env _ (newList []) false (eval iter X.env) (some (assign (.Name y py) X.env))) _ _ s
 refine Ra (Rp (zL (use:=some (assign (.Name y py) X.env)) (R:=λ_ s'=>SP X a_ D .next s') S rfl LO CA hc hi hg ht hb hs I h λC L s' H' ys m X' nj DF N4 pl IX q ne=>?_) (λ_ s' hq=>Rb (Rb hq)) λ_ _ e=>e)
 obtain ⟨c1,c2,_,c3,c4⟩:=ne C (.inl rfl)
 obtain ⟨d1,d2,_,d3,d4⟩:=ne L (.inr rfl)
 obtain ⟨hl,b_,⟨k,e⟩,v⟩:=pl
 have IT:Inv X a_ σ (upd H' L (.lst ys)) s':=IX.we N4 d1 d2 d3 d4 ⟨hl,b_.toList,k,v,by simpa using e⟩
 show ag _ _ (assign (.Name y py) X.env (.ref L)) _ _ s'
 refine Rav (vJ IT hN GQ (.inl hx) (v:=.ref L) rfl (λAQ I'' oj=>?_) (.inr hx))
 obtain ⟨a,sb,ha⟩:=oj
 have YD:C≠a:=by
  rcases ha with e | e
  ·rw [e]; exact c1
  ·exact Ne.symm (c3 y a e)
 refine ⟨m,nj.sameBut sb YD,λh' hs'=>⟨σ.set i (some (.ref L)),upd H' L (.lst ys),?_,q L N4⟩⟩
 exact I''.turned (t':=AQ.toks) (it:=C) (λb o hb e=>(hs'.2 b hb).trans e) (by rw [aG (Ne.symm X')]; exact DF) c1 (.inr c2) c3 c4
theorem nF {y:ax} {py vp:Pos} (S:fv X scope z own fr fm) (hc:X.calm=true) (hN:X.N.Nodup) (GQ:X.N[i]?=some y) (hx:X.env.scope.names.lookup y=some .local) (G1:swapsWith (.ListComp elt [⟨tg,iter,ifs,0⟩] scope pos) (some (.Name y py)) vp.line X.env=pure true) (hi:PI X tg iter wi) (hg:∀ C s0 H0 fp,PG (bH X scope z (own++fm) C s0 H0 fp) tg g) (ht:∀ C s0 H0 fp,PF (bH X scope z (own++fm) C s0 H0 fp) ifs tt) (he:∀ C s0 H0 fp,PE (bH X scope z (own++fm) C s0 H0 fp) elt te) (hs:autoParam (∀ x,foldedSetIterable iter X.env x=pure x) L2.u4) :
  PS X (.Assign [.Name y py] (.ListComp elt [⟨tg,iter,ifs,0⟩] scope pos) vp) (DS (PN own.length fr wi g tt te) (jR i)) :=
 zM S PM hc hN GQ hx G1 hi hg ht (λC s0 H0 fp=>JG (he C s0 H0 fp)) hs
end
inductive Kd where
 | int | bl | f_ | str | tup | lst | O0
 deriving DecidableEq
def D9 (K:Rc) (H:Hp):V->Kd->Prop
 | .int _,k=>k=.int
 | .bl _,k=>k=.bl
 | .f_,k=>k=.f_
 | .str _,k=>k=.str
 | .ref p,k=>(k=.lst/\∃ xs,fh K H p xs)∨(k=.tup/\∃ xs,d_ K H p xs)∨(k=.O0/\∃ kvs,H p=some (.dK kvs))
 | _,_=>False
theorem xD {σ:St} {p:ae} {kvs:List (Key×V)} (I:Inv X a_ σ H s) (h:H p=some (.dK kvs)):∃ o,s.heap.get? p=some o/\o.cls=.type "dict" := by
 obtain ⟨_,_,vs,_,o,es,ep,e,ex,_⟩:=I.fj p _ h
 exact ⟨o,e,ex.1⟩
theorem xE:eV X (.builtin "isinstance") (λxs H Q=>∃ x k,xs = [x,.ty "int"]/\D9 X.K H x k/\Q (.bl (decide (k=.int∨k=.bl))) H):=by
 intro a_ s σ H xs us Q I r h
 obtain ⟨x,k,rfl,hk,q⟩:=h
 obtain ⟨u,t,rfl,rx,rt⟩:=nX r
 cases rt
 cases x with
 | int i=>cases hk; obtain ⟨t,rfl⟩:=rx; exact IsiPair.int_int ⟨.bl true,H,I,rfl,q⟩
 | bl b=>cases hk; cases rx; exact IsiPair.bool_int ⟨.bl true,H,I,rfl,q⟩
 | f_=>cases hk; cases rx; exact IsiPair.NoneType_int ⟨.bl false,H,I.tok _,rfl,q⟩
 | str y=>cases hk; obtain ⟨t,rfl⟩:=rx; exact IsiPair.str_int ⟨.bl false,H,I.tok _,rfl,q⟩
 | ref p =>
  cases rx
  rcases hk with ⟨rfl,xs,hx⟩ | ⟨rfl,xs,hx⟩ | ⟨rfl,kvs,hx⟩
  ·obtain ⟨b_,r',pl,hz⟩:=I.list hx; exact IsiPair.isList_int pl.isList (λ_ _ e=>e) ⟨.bl false,H,I.tok _,rfl,q⟩
  ·obtain ⟨b_,r',pl,hz⟩:=I.tuple hx; exact IsiPair.isTuple_int pl (λ_ _ e=>e) ⟨.bl false,H,I.tok _,rfl,q⟩
  ·obtain ⟨o,e,c⟩:=xD I hx; exact IsiPair.dict_int e c ⟨.bl false,H,I.tok _,rfl,q⟩
 | _=>exact hk.elim
theorem uR:eV X (.builtin "isinstance") (λxs H Q=>∃ x k,xs = [x,.ty "bool"]/\D9 X.K H x k/\Q (.bl (decide (k=.bl))) H):=by
 intro a_ s σ H xs us Q I r h
 obtain ⟨x,k,rfl,hk,q⟩:=h
 obtain ⟨u,t,rfl,rx,rt⟩:=nX r
 cases rt
 cases x with
 | int i=>cases hk; obtain ⟨t,rfl⟩:=rx; exact IsiPair.int_bool ⟨.bl false,H,I.tok _,rfl,q⟩
 | bl b=>cases hk; cases rx; exact IsiPair.bool_bool ⟨.bl true,H,I,rfl,q⟩
 | f_=>cases hk; cases rx; exact IsiPair.NoneType_bool ⟨.bl false,H,I.tok _,rfl,q⟩
 | str y=>cases hk; obtain ⟨t,rfl⟩:=rx; exact IsiPair.str_bool ⟨.bl false,H,I.tok _,rfl,q⟩
 | ref p =>
  cases rx
  rcases hk with ⟨rfl,xs,hx⟩ | ⟨rfl,xs,hx⟩ | ⟨rfl,kvs,hx⟩
  ·obtain ⟨b_,r',pl,hz⟩:=I.list hx; exact IsiPair.isList_bool pl.isList (λ_ _ e=>e) ⟨.bl false,H,I.tok _,rfl,q⟩
  ·obtain ⟨b_,r',pl,hz⟩:=I.tuple hx; exact IsiPair.isTuple_bool pl (λ_ _ e=>e) ⟨.bl false,H,I.tok _,rfl,q⟩
  ·obtain ⟨o,e,c⟩:=xD I hx; exact IsiPair.dict_bool e c ⟨.bl false,H,I.tok _,rfl,q⟩
 | _=>exact hk.elim
theorem cG:eV X (.builtin "isinstance") (λxs H Q=>∃ x k,xs = [x,.ty "tuple"]/\D9 X.K H x k/\Q (.bl (decide (k=.tup))) H):=by
 intro a_ s σ H xs us Q I r h
 obtain ⟨x,k,rfl,hk,q⟩:=h
 obtain ⟨u,t,rfl,rx,rt⟩:=nX r
 cases rt
 cases x with
 | int i=>cases hk; obtain ⟨t,rfl⟩:=rx; exact IsiPair.int_tuple ⟨.bl false,H,I.tok _,rfl,q⟩
 | bl b=>cases hk; cases rx; exact IsiPair.bool_tuple ⟨.bl false,H,I.tok _,rfl,q⟩
 | f_=>cases hk; cases rx; exact IsiPair.NoneType_tuple ⟨.bl false,H,I.tok _,rfl,q⟩
 | str y=>cases hk; obtain ⟨t,rfl⟩:=rx; exact IsiPair.str_tuple ⟨.bl false,H,I.tok _,rfl,q⟩
 | ref p =>
  cases rx
  rcases hk with ⟨rfl,xs,hx⟩ | ⟨rfl,xs,hx⟩ | ⟨rfl,kvs,hx⟩
  ·obtain ⟨b_,r',pl,hz⟩:=I.list hx; exact IsiPair.isList_tuple pl.isList (λ_ _ e=>e) ⟨.bl false,H,I.tok _,rfl,q⟩
  ·obtain ⟨b_,r',pl,hz⟩:=I.tuple hx; exact IsiPair.isTuple_tuple pl (λ_ _ e=>e) ⟨.bl true,H,I,rfl,q⟩
  ·obtain ⟨o,e,c⟩:=xD I hx; exact IsiPair.dict_tuple e c ⟨.bl false,H,I.tok _,rfl,q⟩
 | _=>exact hk.elim
theorem uS:eV X (.builtin "isinstance") (λxs H Q=>∃ x k,xs = [x,.ty "list"]/\D9 X.K H x k/\Q (.bl (decide (k=.lst))) H):=by
 intro a_ s σ H xs us Q I r h
 obtain ⟨x,k,rfl,hk,q⟩:=h
 obtain ⟨u,t,rfl,rx,rt⟩:=nX r
 cases rt
 cases x with
 | int i=>cases hk; obtain ⟨t,rfl⟩:=rx; exact IsiPair.int_list ⟨.bl false,H,I.tok _,rfl,q⟩
 | bl b=>cases hk; cases rx; exact IsiPair.bool_list ⟨.bl false,H,I.tok _,rfl,q⟩
 | f_=>cases hk; cases rx; exact IsiPair.NoneType_list ⟨.bl false,H,I.tok _,rfl,q⟩
 | str y=>cases hk; obtain ⟨t,rfl⟩:=rx; exact IsiPair.str_list ⟨.bl false,H,I.tok _,rfl,q⟩
 | ref p =>
  cases rx
  rcases hk with ⟨rfl,xs,hx⟩ | ⟨rfl,xs,hx⟩ | ⟨rfl,kvs,hx⟩
  ·obtain ⟨b_,r',pl,hz⟩:=I.list hx; exact IsiPair.isList_list pl.isList (λ_ _ e=>e) ⟨.bl true,H,I,rfl,q⟩
  ·obtain ⟨b_,r',pl,hz⟩:=I.tuple hx; exact IsiPair.isTuple_list pl (λ_ _ e=>e) ⟨.bl false,H,I.tok _,rfl,q⟩
  ·obtain ⟨o,e,c⟩:=xD I hx; exact IsiPair.dict_list e c ⟨.bl false,H,I.tok _,rfl,q⟩
 | _=>exact hk.elim
theorem aC1 (bs:List Bool) (tr:Nat->Bool) (h:∀ i b,bs[i]?=some b->tr i=b):(List.range bs.length).all tr=bs.all id:=by
 rw [Xf,Qy,Qy]
 constructor
 ·intro q b hb
  obtain ⟨i,hi⟩:=Wu hb
  have:=q i (Jm.mpr (Qb.mp hi).1)
  rw [h i b hi] at this
  exact this
 ·intro q i hi
  have uf:=Jm.mp hi
  have e:bs[i]?=some bs[i]:=Qc uf
  rw [h i _ e]
  exact q _ (Jr uf)
theorem eW (hc:X.calm=true):eV X (.builtin "all") (λxs H Q=>∃ (p:ae) (bs:List Bool),xs = [.ref p]/\fh X.K H p (bs.map V.bl)/\Q (.bl (bs.all id)) H):=by
 intro a_ s σ H xs us Q I r h
 obtain ⟨p,bs,rfl,hx,q⟩:=h
 obtain ⟨u,rfl,rx⟩:=fY r
 cases rx
 obtain ⟨b_,rv,pl,hz⟩:=I.list hx
 have hl:=rv.length
 rw [Qa] at hl
 have ff:p < s.heap.objs.size:=by obtain ⟨o,n,e,_⟩:=pl; exact af.lt_size e
 refine call_all_walk (Tr pl.isList ?_)
 refine ⟨s.heap.objs.size,_,_,_,_,_,λi=>(bs[i]?).getD false,rfl,cz.list (A:=X.A.in1) (I.ok.hd hc) s.heap.objs.size p (Qx ff) b_.toArray,⟨⟨_,af.get?_push_size _ rfl,rfl,rfl⟩,pl.isList.push _⟩,?_,λh' tk hk=>?_⟩
 ·intro i v s' Q' E' hP j_
  have oz:b_[i]?=some v:=by simpa using hP
  have hi:i < bs.length:=by rw [hl]; exact (Qb.mp oz).1
  obtain ⟨w,hw,jb⟩:=rv.get (i:=i) (x:=.bl bs[i]) (by rw [Qd,Qc hi]; rfl)
  rw [hw] at oz
  cases oz
  cases jb
  have e:(bs[i]?).getD false=bs[i]:=by rw [Qc hi]; rfl
  rw [<- e]
  exact Rv j_
 ·have e:(List.range b_.toArray.size).all (λi=>(bs[i]?).getD false)=bs.all id:=by
   rw [Qk,<- hl]
   exact aC1 bs _ λi b hb=>by rw [hb]; rfl
  rw [e]
  refine ⟨.bl _,H,I.kept (h':=h') λb o e=>hk b o ?_ (af.get?_push_of_some _ e),rfl,q⟩
  intro z
  have z':b=s.heap.objs.size:=by simpa using z
  exact Jo _ (z' ▸ af.lt_size e)
noncomputable def aL (ns:List Int):Int:=ns.foldr (· + ·) 0
theorem hG (ns:List Int) (val:Nat->Int) (h:∀ (i:Nat) (v:Int),ns[i]?=some v->val i=v):∀ j,j<=ns.length->preSum val j=aL (ns.take j)
 | 0,_=>rfl
 | j+1,hj=>by
  have ih:=hG ns val h j (by omega)
  have e:ns[j]?=some ns[j]:=Qc (by omega)
  show preSum val j+val j=_
  rw [ih,h j _ e,Je,e]
  unfold aL
  rw [List.foldr_append]
  simp only [Option.toList_some,Yp,List.foldr_nil,Int.add_zero]
  generalize ns[j]=v
  induction (List.take j ns) with
  | nil=>simp
  | cons a l ih2=>simp only [Yp]; omega
theorem zN (hc:X.calm=true):eV X (.builtin "sum") (λxs H Q=>∃ (p:ae) (ns:List Int),xs = [.ref p]/\fh X.K H p (ns.map V.int)/\(∀ n∈ns,0<=n/\n < 1000000)/\ns.length<=1000000/\Q (.int (aL ns)) H):=by
 intro a_ s σ H xs us Q I r h
 obtain ⟨p,ns,rfl,hx,hb,hlen,q⟩:=h
 obtain ⟨u,rfl,rx⟩:=fY r
 cases rx
 obtain ⟨b_,rv,pl,hz⟩:=I.list hx
 have hl:=rv.length
 rw [Qa] at hl
 have ff:p < s.heap.objs.size:=by obtain ⟨o,n,e,_⟩:=pl; exact af.lt_size e
 have o8:∀ (i:Nat) (v:Int),ns[i]?=some v->(ns[i]?).getD 0=v:=λi v e=>by rw [e]; rfl
 have Z7:∀ (ms:List Int),(∀ n∈ms,0<=n/\n < 1000000)->0<=aL ms/\aL ms<=ms.length*1000000:=λms=>by
  induction ms with
  | nil=>intro _; exact ⟨Js _,Js _⟩
  | cons a l ih =>
   intro hh
   have h1:=hh a Qi
   have h2:=ih λn hn=>hh n (Qg _ hn)
   have e:aL (a::l)=a+aL l:=rfl
   rw [e,Ja]
   rw [Yb]
   omega
 refine call_sum_walk (Tr pl.isList ?_)
 refine ⟨s.heap.objs.size,_,_,_,_,_,λi=>(ns[i]?).getD 0,rfl,cz.list (A:=X.A.in1) (I.ok.hd hc) s.heap.objs.size p (Qx ff) b_.toArray,⟨⟨_,af.get?_push_size _ rfl,rfl,rfl⟩,pl.isList.push _⟩,?_,?_,?_,λh' tk t' hk=>?_⟩
 ·intro b ju
  rw [af.size_push]
  rcases Ql.mp ju with e | e
  ·rw [e]; exact Xy _
  ·have e':b=p:=by simpa using e
   rw [e']; exact Ju ff
 ·intro i v hP
  have oz:b_[i]?=some v:=by simpa using hP
  have hi:i < ns.length:=by rw [hl]; exact (Qb.mp oz).1
  obtain ⟨w,hw,jb⟩:=rv.get (i:=i) (x:=.int ns[i]) (by rw [Qd,Qc hi]; rfl)
  rw [hw] at oz
  cases oz
  obtain ⟨t,rfl⟩:=jb
  exact ⟨t,by show aa.int ns[i] t=aa.int ((ns[i]?).getD 0) t; rw [Qc hi]; rfl⟩
 ·intro j hj
  have Dm:j < ns.length:=by rw [hl]; simpa using hj
  have e:ns[j]?=some ns[j]:=Qc Dm
  have h1:=hb _ (Jr Dm)
  have h2:=Z7 (ns.take (j+1)) λn hn=>hb n (Xl hn)
  rw [hG ns _ o8 (j+1) (by omega)]
  have h3:(ns.take (j+1)).length<=1000000:=by rw [Qq]; omega
  unfold InLong
  have e5:(λi:Nat=>(ns[i]?).getD 0) j=ns[j]:=by show (ns[j]?).getD 0=_; rw [e]; rfl
  rw [e5]
  have h4:((ns.take (j+1)).length:Int)*1000000<=1000000*1000000:=by omega
  omega
 ·have e:preSum (λi=>(ns[i]?).getD 0) b_.toArray.size=aL ns:=by
   rw [Qk,<- hl,hG ns _ o8 ns.length (Qh _),Jj]
  rw [e]
  refine ⟨.int _,H,I.kept (h':=h') λb o e=>hk b o ?_ (af.get?_push_of_some _ e),⟨_,rfl⟩,q⟩
  intro z
  have z':b=s.heap.objs.size:=by simpa using z
  exact Jo _ (z' ▸ af.lt_size e)
mutual
def Den (K:Rc) (H:Hp):ar->V->Prop
 | .none,v=>v=.f_
 | .bool b,v=>v=.bl b
 | .int i,v=>v=.int i
 | .str x,v=>v=.str x
 | .list ds,v=>∃ a xs,v=.ref a/\fh K H a xs/\bF K H ds xs
 | .tuple ds,v=>∃ a xs,v=.ref a/\d_ K H a xs/\bF K H ds xs
 | .dict kvs,v=>kvs = []/\∃ a,v=.ref a/\H a=some (.dK [])
def bF (K:Rc) (H:Hp):List ar->List V->Prop
 | [],xs=>xs = []
 | d::ds,xs=>∃ x r,xs=x::r/\Den K H d x/\bF K H ds r
end
theorem aD.rd {u:HO} (e:aD H H') (h:Rd H a u):Rd H' a u:=by
 rcases h with h | ⟨o,h⟩
 ·exact .inl (e a u h)
 ·exact .inr ⟨o,e a _ h⟩
theorem aD.iy (e:aD H H') (h:fh K H a xs):fh K H' a xs:=by
 rcases h with h | h
 ·exact .inl (e.rd h)
 ·exact .inr h
theorem aD.d0 (e:aD H H') (h:d_ K H a xs):d_ K H' a xs:=by
 rcases h with h | h
 ·exact .inl (e.rd h)
 ·exact .inr h
theorem aD.new {p:ae} {o:HO} (h:H p=none):aD H (upd H p o):=λb u e=>by rw [aG (gI e h)]; exact e
mutual
theorem aD.den (e:aD H H'):∀ (d:ar) (v:V),Den K H d v->Den K H' d v
 | .none,v,h=>by unfold Den at h ⊢; exact h
 | .bool b,v,h=>by unfold Den at h ⊢; exact h
 | .int i,v,h=>by unfold Den at h ⊢; exact h
 | .str x,v,h=>by unfold Den at h ⊢; exact h
 | .list ds,v,h=>by unfold Den at h ⊢; obtain ⟨a,xs,h1,h2,h3⟩:=h; exact ⟨a,xs,h1,e.iy h2,aD.gn e ds xs h3⟩
 | .tuple ds,v,h=>by unfold Den at h ⊢; obtain ⟨a,xs,h1,h2,h3⟩:=h; exact ⟨a,xs,h1,e.d0 h2,aD.gn e ds xs h3⟩
 | .dict kvs,v,h=>by unfold Den at h ⊢; obtain ⟨h1,a,h2,h3⟩:=h; exact ⟨h1,a,h2,e a _ h3⟩
theorem aD.gn (e:aD H H'):∀ (ds:List ar) (xs:List V),bF K H ds xs->bF K H' ds xs
 | [],xs,h=>by unfold bF at h ⊢; exact h
 | d::ds,xs,h=>by unfold bF at h ⊢; obtain ⟨x,r,h1,h2,h3⟩:=h; exact ⟨x,r,h1,aD.den e d x h2,aD.gn e ds r h3⟩
end
theorem dM {i:Int}:Den K H (.int i) v↔v=.int i:=by unfold Den; exact Iff.rfl
theorem sM {b:Bool}:Den K H (.bool b) v↔v=.bl b:=by unfold Den; exact Iff.rfl
theorem lE:Den K H .none v↔v=.f_:=by unfold Den; exact Iff.rfl
theorem R1:Den K H (.str x) v↔v=.str x:=by unfold Den; exact Iff.rfl
theorem hJ:Den K H (.list ds) v↔∃ a xs,v=.ref a/\fh K H a xs/\bF K H ds xs:=by
 constructor
 ·intro h; unfold Den at h; exact h
 ·intro h; unfold Den; exact h
theorem cC:Den K H (.tuple ds) v↔∃ a xs,v=.ref a/\d_ K H a xs/\bF K H ds xs:=by
 constructor
 ·intro h; unfold Den at h; exact h
 ·intro h; unfold Den; exact h
theorem aEv {kvs:List (ar×ar)}:Den K H (.dict kvs) v↔kvs = []/\∃ a,v=.ref a/\H a=some (.dK []):=by
 constructor
 ·intro h; unfold Den at h; exact h
 ·intro h; unfold Den; exact h
theorem bG:bF K H [] xs↔xs = []:=by unfold bF; exact Iff.rfl
theorem aQ {d:ar}:bF K H (d::ds) xs↔∃ x r,xs=x::r/\Den K H d x/\bF K H ds r:=by
 constructor
 ·intro h; unfold bF at h; exact h
 ·intro h; unfold bF; exact h
theorem aP:∀ {ds:List ar} {xs:List V},bF K H ds xs->xs.length=ds.length
 | [],xs,h=>by rw [bG.mp h]; rfl
 | d::ds,xs,h=>by
  obtain ⟨x,r,rfl,_,h3⟩:=aQ.mp h
  rw [Ja,Ja,aP h3]
theorem sN:∀ {ds:List ar} {xs:List V} {i:Nat} {d:ar},bF K H ds xs->ds[i]?=some d->∃ x,xs[i]?=some x/\Den K H d x
 | [],_,_,_,_,e=>by simp at e
 | d::ds,xs,0,d',h,e=>by
  obtain ⟨x,r,rfl,h2,_⟩:=aQ.mp h
  simp at e; subst e
  exact ⟨x,rfl,h2⟩
 | d::ds,xs,i+1,d',h,e=>by
  obtain ⟨x,r,rfl,_,h3⟩:=aQ.mp h
  obtain ⟨y,h4,h5⟩:=sN (i:=i) (d:=d') h3 (by simpa using e)
  exact ⟨y,by simpa using h4,h5⟩
theorem cD {x:V} (h:bF K H ds xs) (e:xs[i]?=some x):∃ d,ds[i]?=some d/\Den K H d x:=by
 have hl:=aP h
 have hi:i < ds.length:=by rw [<- hl]; exact (Qb.mp e).1
 obtain ⟨y,h1,h2⟩:=sN h (Qc hi)
 rw [e] at h1; cases h1
 exact ⟨_,Qc hi,h2⟩
theorem jL:∀ {ds es:List ar} {xs ys:List V},bF K H ds xs->bF K H es ys->bF K H (ds++es) (xs++ys)
 | [],es,xs,ys,h,h'=>by rw [bG.mp h]; exact h'
 | d::ds,es,xs,ys,h,h'=>by
  obtain ⟨x,r,rfl,h2,h3⟩:=aQ.mp h
  exact aQ.mpr ⟨x,r++ys,rfl,h2,jL h3 h'⟩
theorem qT:∀ {ds:List ar} {xs:List V} (n:Nat),bF K H ds xs->bF K H (ds.take n) (xs.take n)
 | _,_,0,_=>by rw [Zo,Zo]; exact bG.mpr rfl
 | [],xs,n+1,h=>by rw [bG.mp h]; exact bG.mpr rfl
 | d::ds,xs,n+1,h=>by
  obtain ⟨x,r,rfl,h2,h3⟩:=aQ.mp h
  exact aQ.mpr ⟨x,r.take n,rfl,h2,qT n h3⟩
theorem qU:∀ {ds:List ar} {xs:List V} (n:Nat),bF K H ds xs->bF K H (ds.drop n) (xs.drop n)
 | _,_,0,h=>h
 | [],xs,n+1,h=>by rw [bG.mp h]; exact bG.mpr rfl
 | d::ds,xs,n+1,h=>by
  obtain ⟨x,r,rfl,h2,h3⟩:=aQ.mp h
  exact qU n h3
theorem eF:∀ {ns:List Int} {xs:List V},bF K H (ns.map ar.int) xs↔xs=ns.map V.int
 | [],xs=>bG
 | n::ns,xs=>by
  rw [Qw,aQ]
  constructor
  ·rintro ⟨x,r,rfl,h2,h3⟩
   rw [dM.mp h2,eF.mp h3]
   rfl
  ·intro e
   exact ⟨_,_,e,dM.mpr rfl,eF.mpr rfl⟩
theorem aR:Den K H (.tuple (ns.map .int)) v↔∃ a,v=.ref a/\d_ K H a (ns.map V.int):=by
 rw [cC]
 constructor
 ·rintro ⟨a,xs,rfl,h1,h2⟩
  rw [eF.mp h2] at h1
  exact ⟨a,rfl,h1⟩
 ·rintro ⟨a,rfl,h⟩
  exact ⟨a,_,rfl,h,eF.mpr rfl⟩
theorem aC2:Den K H (.list (ns.map .int)) v↔∃ a,v=.ref a/\fh K H a (ns.map V.int):=by
 rw [hJ]
 constructor
 ·rintro ⟨a,xs,rfl,h1,h2⟩
  rw [eF.mp h2] at h1
  exact ⟨a,rfl,h1⟩
 ·rintro ⟨a,rfl,h⟩
  exact ⟨a,_,rfl,h,eF.mpr rfl⟩
def jM:ar->Kd
 | .none=>.f_ | .bool _=>.bl | .int _=>.int | .str _=>.str | .list _=>.lst | .tuple _=>.tup | .dict _=>.O0
theorem Den.kd {d:ar} (h:Den K H d v):D9 K H v (jM d):=by
 cases d with
 | none=>rw [lE.mp h]; rfl
 | bool b=>rw [sM.mp h]; rfl
 | int i=>rw [dM.mp h]; rfl
 | str x=>rw [R1.mp h]; rfl
 | list ds=>obtain ⟨a,xs,rfl,h1,_⟩:=hJ.mp h; exact .inl ⟨rfl,xs,h1⟩
 | tuple ds=>obtain ⟨a,xs,rfl,h1,_⟩:=cC.mp h; exact .inr (.inl ⟨rfl,xs,h1⟩)
 | dict kvs=>obtain ⟨_,a,rfl,h1⟩:=aEv.mp h; exact .inr (.inr ⟨rfl,[],h1⟩)
section
variable {σ:St}
mutual
def eA:ar->Bool
 | .dict _=>false
 | .list ds=>fM ds
 | .tuple ds=>fM ds
 | _=>true
def fM:List ar->Bool
 | []=>true
 | d::ds=>eA d && fM ds
end
mutual
theorem Den.reads (I:Inv X a_ σ H s):∀ (d:ar) (v:V) (u:aa),eA d=true->Den X.K H d v->bN v u->∃ as,Reads s.heap u d as
 | .none,v,u,_,h,r=>by rw [lE.mp h] at r; cases r; exact ⟨_,.none⟩
 | .bool b,v,u,_,h,r=>by rw [sM.mp h] at r; cases r; exact ⟨_,.bool b⟩
 | .int i,v,u,_,h,r=>by rw [dM.mp h] at r; obtain ⟨t,rfl⟩:=r; exact ⟨_,.int i t⟩
 | .str x,v,u,_,h,r=>by rw [R1.mp h] at r; obtain ⟨t,rfl⟩:=r; exact ⟨_,.str x t⟩
 | .list ds,v,u,hn,h,r=>by
  obtain ⟨a,xs,rfl,h1,h2⟩:=hJ.mp h
  cases r
  obtain ⟨b_,rv,⟨o,n,e,c,_,d⟩,_⟩:=I.list h1
  obtain ⟨as,ra⟩:=bF.reads I ds xs b_ (by unfold eA at hn; exact hn) h2 rv
  exact ⟨_,.list e c d (by simpa using ra)⟩
 | .tuple ds,v,u,hn,h,r=>by
  obtain ⟨a,xs,rfl,h1,h2⟩:=cC.mp h
  cases r
  obtain ⟨b_,rv,⟨o,e,c,n,d⟩,_⟩:=I.tuple h1
  obtain ⟨as,ra⟩:=bF.reads I ds xs b_ (by unfold eA at hn; exact hn) h2 rv
  exact ⟨_,.tuple e c d (by simpa using ra)⟩
 | .dict kvs,v,u,hn,_,_=>by unfold eA at hn; cases hn
theorem bF.reads (I:Inv X a_ σ H s):∀ (ds:List ar) (xs:List V) (us:List aa),fM ds=true->bF X.K H ds xs->bM xs us->∃ as,ReadsAll s.heap us ds as
 | [],xs,us,_,h,r=>by rw [bG.mp h] at r; cases r; exact ⟨_,.nil⟩
 | d::ds,xs,us,hn,h,r=>by
  obtain ⟨x,rr,rfl,h2,h3⟩:=aQ.mp h
  unfold fM at hn
  rw [Jf] at hn
  cases r with
  | cons r1 r2 =>
   obtain ⟨as,ra⟩:=Den.reads I d x _ hn.1 h2 r1
   obtain ⟨bs,rb⟩:=bF.reads I ds rr _ hn.2 h3 r2
   exact ⟨_,.cons ra rb⟩
end
theorem J0 (hu:X.A.units+64 < cn):i7 X (bc .Eq) (λx y H Q=>∃ d e,Den X.K H d x/\Den X.K H e y/\eA d=true/\eA e=true/\SeqAt.shaped d=true/\SeqAt.shaped e=true/\Q (.bl (ar.eqv d e)) H):=by
 intro a_ s σ H x y v u Q I rx ry h
 obtain ⟨d,e,hd,he,n1,n2,s1,s2,q⟩:=h
 obtain ⟨as,ra⟩:=Den.reads I d x v n1 hd rx
 obtain ⟨bs,rb⟩:=Den.reads I e y u n2 he ry
 exact eq_dataH ra rb s1 s2 hu ⟨.bl _,H,I,rfl,q⟩
theorem nG (hu:X.A.units+64 < cn):i7 X (bc .NotEq) (λx y H Q=>∃ d e,Den X.K H d x/\Den X.K H e y/\eA d=true/\eA e=true/\SeqAt.shaped d=true/\SeqAt.shaped e=true/\Q (.bl (!PyData.eqv d e)) H):=by
 intro a_ s σ H x y v u Q I rx ry h
 obtain ⟨d,e,hd,he,n1,n2,s1,s2,q⟩:=h
 obtain ⟨as,ra⟩:=Den.reads I d x v n1 hd rx
 obtain ⟨bs,rb⟩:=Den.reads I e y u n2 he ry
 exact ne_dataH ra rb s1 s2 hu ⟨.bl _,H,I,rfl,q⟩
theorem aC3:Ar X "tuple.count" (λx vs H Q=>∃ (a:ae) (ns:List Int) (n:Int),x=.ref a/\vs = [.int n]/\d_ X.K H a (ns.map V.int)/\Q (.int (ns.count n:Nat)) H):=by
 intro a_ s σ H x v vs us Q I rx r h
 obtain ⟨a,ns,n,rfl,rfl,ha,q⟩:=h
 obtain ⟨u,rfl,t,rfl⟩:=fY r
 cases rx
 obtain ⟨b_,rv,⟨⟨cls,dd,data,sl⟩,ho,hc,k,hd⟩,wy⟩:=I.tuple ha
 simp only at hc hd
 subst hc hd
 have hi:IntsAre b_ ns:=iR rv
 refine Ui Uh ⟨_,ho,rfl⟩ Iw (Ir _ _) (SeqAt.tuple_countAt a b_.toArray k dd sl (.int n t) (isInt n)) ⟨ho,λy hy=>(eq_isInt n t hi y (by simpa using hy)).at _ _,?_⟩
 have e:(b_.toArray.toList.countP (isInt n))=ns.count n:=by
  simp only [Yq]
  clear q r ha rv ho wy
  induction hi with
  | nil=>rfl
  | cons m t' _ ih =>
   rw [Wj,Xc,ih]
   rfl
 rw [e]
 exact ⟨.int _,H,I.tok _,⟨_,rfl⟩,q⟩
end
theorem aBi {x:aa} {Q:List aa->ah->Prop}
  (h:∀ R:Result->ah->Prop,(∀ (s':ah) (acc:Array aa) (c:Nat),s'.heap.get? s.heap.objs.size=some { cls:=.type "list",data:=.seq acc c }->Q acc.toList s'->R (.ok (.ret (.ref s.heap.objs.size))) s') ->
   ag (ao prog w) A.in1 (ai.List.listExtendWith (.ref s.heap.objs.size) x (.ref s.heap.objs.size))
    (λfin s'=>match fin with | .done f=>R (.ok f) s' | .again c'=>c'.quiet=true/\codeAny (ao prog w) A c' R s') (λe s'=>R (.error e) s') { s with heap:=s.heap.push { cls:=.type "list",data:=.seq ([]:List aa).toArray } }) :
  ag (ao prog w) A (collect x) Q E s:=by
 unfold collect
 refine Ra (wpAny_runValue (Ti PySem.F.entry_proto_collect ?_))
 rw [bw.under_plainId PySem.F.plain_proto_collect _]
 show ag _ A.in1 (newList [] >>= λl=>again (.builtin "list.__iadd__" ⟨[l,x],[]⟩)) _ _ s
 refine Ra (Rk ?_)
 refine Rb ⟨Tt Mf _,Ti PySem.F.entry_list_iadd ?_⟩
 rw [bw.under_plainId Mf _]
 show ag _ A.in1 (ai.List.listExtendWith (.ref s.heap.objs.size) x (.ref s.heap.objs.size)) _ _ _
 have En:∀ (s':ah) (acc:Array aa) (c:Nat),s'.heap.get? s.heap.objs.size=some { cls:=.type "list",data:=.seq acc c }->Q acc.toList s'->ag (ao prog w) A (match aa.ref s.heap.objs.size with
   | aa.ref a => do
     match (<- load a).data with
      | Data.seq xs _=>pure xs.toList
      | _=>unsupported "internal:collect"
   | _=>unsupported "internal:collect") Q E s':=by
  intro s' acc c e q
  show ag _ A (load s.heap.objs.size >>= _) _ _ _
  exact Ra (wpAny_load e (Rb q))
 refine Rp (h (λr s'=>r=.ok (.ret (.ref s.heap.objs.size))/\∃ acc c,s'.heap.get? s.heap.objs.size=some { cls:=.type "list",data:=.seq acc c }/\Q acc.toList s') (λs' acc c e q=>⟨rfl,acc,c,e,q⟩)) (λfin s' h=>?_) (λe s' h=>?_)
 ·cases fin with
  | done f =>
   obtain ⟨e,acc,c,e2,q⟩:=h
   cases e
   exact En s' acc c e2 q
  | again c'=>exact ⟨h.1,Um h.2 λr AQ hr=>by obtain ⟨rfl,acc,c,e2,q⟩:=hr; exact En AQ acc c e2 q⟩
 ·exact absurd h.1 (by simp)
theorem aC4 {x:aa} (HL:ns.length < 64) (hc:∀ Q':List aa->ah->Prop,(∀ h' tk vs,(∀ b o,s.heap.get? b=some o->h'.get? b=some o)->IntsAre vs ns->Q' vs { s with heap:=h',toks:=tk })->ag (ao prog w) A.in1 (collect x) Q' E s) (h:∀ (h1 h':af) tk out nh,(∀ b o,s.heap.get? b=some o->h1.get? b=some o)->(∀ b o,h1.get? b=some o->h'.get? b=some o)->h'.PlainList h1.objs.size out->IntsAre out.toList nh->nh.Perm ns->nh.Pairwise (·<=·)->Q (.ref h1.objs.size) { s with heap:=h',toks:=tk }) :
  ag (ao prog w) A (call (.builtin "sorted") [x]) Q E s:=by
 refine Calls.call_function_entry kind_sorted plain_sorted entry_sorted (args_sorted1 _) ?_
 unfold ai.«sorted»
 refine Ra (m:=checkCount "sorted" 1 1 _) (Rb ?_)
 refine Ra (hc _ λh1 tk vs kp hi=>?_)
 have hlen:=hi.length
 refine Ra (wpAny_newList ?_ (by rw [Rf]; omega))
 have ni:(h1.push (seqObj "list" vs.toArray 0)).get? h1.objs.size=some (seqObj "list" vs.toArray 0):=af.get?_push_size _ rfl
 refine Ra (Rm (Ri slot_list_sort ⟨_,ni,rfl⟩ RaL (list_sort_tree ni hi (by omega) λout nh a1 a2 a3=>⟨_,rfl,?_⟩) (args_list_sort _)))
 refine Rb ⟨_,rfl,?_⟩
 obtain ⟨e,he⟩:=sortedHeap_at (out:=out) ni
 refine h h1 _ tk out nh kp (λb o q=>?_) ⟨e,he⟩ a1 a2 a3
 rw [sortedHeap_old (Qx (af.lt_size q)) (by rw [size_push']; exact Ju (af.lt_size q))]
 exact af.get?_push_of_some _ q
theorem uT {x:aa} {b:Bool} (HL:ns.length < 64) (hc:∀ Q':List aa->ah->Prop,(∀ h' tk vs,(∀ b o,s.heap.get? b=some o->h'.get? b=some o)->IntsAre vs ns->Q' vs { s with heap:=h',toks:=tk })->ag (ao prog w) A.in1 (collect x) Q' E s) (h:∀ (h1 h':af) tk out nh,(∀ b o,s.heap.get? b=some o->h1.get? b=some o)->(∀ b o,h1.get? b=some o->h'.get? b=some o)->h'.PlainList h1.objs.size out->IntsAre out.toList nh->nh.Perm ns->Ordered b nh->Q (.ref h1.objs.size) { s with heap:=h',toks:=tk }) :
  ag (ao prog w) A (call (.builtin "sorted") [x] [(ax.ofString "reverse",.bool b)]) Q E s:=by
 refine call_function_entry_kw kind_sorted plain_sorted entry_sorted (args_sorted_rev _ _) ?_
 unfold ai.«sorted»
 refine Ra (m:=checkCount "sorted" 1 1 _) (Rb ?_)
 refine Ra (hc _ λh1 tk vs kp hi=>?_)
 have hlen:=hi.length
 refine Ra (wpAny_newList ?_ (by rw [Rf]; omega))
 have ni:(h1.push (seqObj "list" vs.toArray 0)).get? h1.objs.size=some (seqObj "list" vs.toArray 0):=af.get?_push_size _ rfl
 refine Ra (Rm (wpAny_call_entry_kw slot_list_sort ⟨_,ni,rfl⟩ RaL (list_sort_tree_rev ni hi (by omega) λout nh a1 a2 a3=>⟨_,rfl,?_⟩) (args_list_sort_rev _ _)))
 refine Rb ⟨_,rfl,?_⟩
 obtain ⟨e,he⟩:=sortedHeap_at (out:=out) ni
 refine h h1 _ tk out nh kp (λb o q=>?_) ⟨e,he⟩ a1 a2 a3
 rw [sortedHeap_old (Qx (af.lt_size q)) (by rw [size_push']; exact Ju (af.lt_size q))]
 exact af.get?_push_of_some _ q
noncomputable def cW (n:Nat):List Int:=(List.range n).map λ(i:Nat)=>(i:Int)
theorem uU {x:bq} {tx:TE} {cj ir} (hg:Gl X "sorted") (hm:X.mg "sorted" = none) (hx:PE X x tx) (he:autoParam (au [x] X.env = [(false,eval x X.env)]) L2.gj) :
  PE X (.Call (.Name "sorted" p) [x] [⟨some "reverse",.Constant (.bool true) cj ir,yu⟩] pos) (λσ H Q=>tx σ H λv H1=>∃ (a:ae) (ns:List Int),v=.ref a/\(fh X.K H1 a (ns.map V.int)∨d_ X.K H1 a (ns.map V.int))/\ns.length < 64 /\
   ∀ (p:ae) (ms:List Int),H1 p=none->ms.Perm ns->ms.Pairwise (·≥·)->Q (.ref p) (upd H1 p (.lst (ms.map V.int)))):=by
 intro a_ s σ H Q I h
 refine Tf (iQ (u:=.builtin "sorted") I hg hm (by decide +kernel) ?_)
 have G_:PA X [x] (sI tx zF):=aA hx aC he
 refine callWith_kw (fk (G_ pos a_ s σ H (λvs H1=>match vs with
   | [v]=>∃ (a:ae) (ns:List Int),v=.ref a/\(fh X.K H1 a (ns.map V.int)∨d_ X.K H1 a (ns.map V.int))/\ns.length < 64/\∀ (p:ae) (ms:List Int),H1 p=none->ms.Perm ns->ms.Pairwise (·≥·)->Q (.ref p) (upd H1 p (.lst (ms.map V.int)))
   | _=>False) I h) λus s1 ⟨vs,H1,I1,r1,q1⟩=>?_) (by rw [he]; rfl) (by rw [he]; rfl)
 have hk:PK X [⟨some "reverse",.Constant (.bool true) cj ir,yu⟩] (sI (tC (.bl true)) zF):=aS bP cX
 refine fk (hk pos a_ s1 σ H1 (λzs H2=>zs = [.bl true]/\H2=H1) I1 ⟨rfl,rfl⟩) λws s2 fe=>?_
 obtain ⟨zs,H2,I2,rz,ez,eH⟩:=fe
 subst ez eH
 obtain ⟨w1,rfl,UW⟩:=fY rz
 cases UW
 match vs,r1,q1 with
 | [v],r1,q1 =>
  obtain ⟨a,ns,rfl,ha,HL,q⟩:=q1
  obtain ⟨u,rfl,rx⟩:=fY r1
  cases rx
  show ag (ao X.prog X.w) X.A (call (.builtin "sorted") [.ref a] [(ax.ofString "reverse",.bool true)]) _ _ _
  refine uT HL (λQ' j_=>?_) λh1 h' tk out nh k1 k2 pl hi hp ho=>?_
  ·rcases ha with ha | ha
   ·obtain ⟨b_,rv,⟨o,n,e,c,_,d⟩,hz⟩:=I2.list ha
    have hl:=rv.length
    exact Ray a (.inl rfl) e c d (λh' kp=>j_ h' s2.toks _ kp (by simpa using iR rv)) (by rw [Qk,<- hl]; exact hz)
   ·obtain ⟨b_,rv,⟨o,e,c,n,d⟩,hz⟩:=I2.tuple ha
    have hl:=rv.length
    exact Ray a (.inr rfl) e c d (λh' kp=>j_ h' s2.toks _ kp (by simpa using iR rv)) (by rw [Qk,<- hl]; exact hz)
  ·have J1:Inv X a_ σ H2 { s2 with heap:=h1,toks:=tk }:=I2.kept k1
   have hf:=J1.fj.fresh (Qh _)
   have hl:=hp.length_eq
   obtain ⟨n,e⟩:=pl
   have J2:Inv X a_ σ (upd H2 h1.objs.size (.lst (nh.map V.int))) { s2 with heap:=h',toks:=tk } :=
    J1.laid (t':=tk) k2 (Qh _) (show bJ X.prog X.w _ _ _ (.lst _) from ⟨by rw [Qa,hl,Rf]; omega,out.toList,n,pN hi,by simpa using e⟩)
   exact ⟨.ref h1.objs.size,_,J2,rfl,q _ nh hf hp ho⟩
 | [],_,q1=>exact q1.elim
 | _::_::_,_,q1=>exact q1.elim
noncomputable def tab (L:Bool) (ns:List Nat):aj:={ mask:=7,place:=ns.toArray,dummies:=#[],finger:=0,led:=L,moves:=0,plain:=true }
noncomputable def i! (l:List (Nat×dc)):Array (Int×aa):=(l.map λp=>((p.1:Int),aa.int (p.1:Int) p.2)).toArray
def SX (L:Bool) (h:af) (a:ae) (l:List (Nat×dc)):Prop:=∃ o ep,h.get? a=some o/\o.ExactSet/\o.data=.set (i! l) ep (tab L (l.map (·.1)))
noncomputable abbrev Led (w:bf):Bool:=!(w.params.followText "set-order")
theorem sO (a:aa) {Q₁:aa->ah->Prop}
  (h:Q₁ (.ref s.heap.objs.size) { s with heap:=s.heap.push { cls:=.type "set",dict:=none,data:=.set #[] 0 (.fresh 0 0 (Led w)) } }) :
  codeAny (ao prog w) A (.call (.builtin "set.__new__") ⟨[.type "set",a],[]⟩) (wants Q₁ E) s:=by
 refine Vs ?_
 show ag _ A.in1 (do checkBuiltinCall "set.__new__" ⟨[.type "set",a],[]⟩; again (.builtin "set.__new__" ⟨[.type "set",a],[]⟩)) _ _ s
 refine Ra (Vf (PySem.F.newCall_set_1 a) (Rb ⟨Tt Mm _,Ti PySem.F.entry_set_new ?_⟩))
 rw [bw.under_plainId Mm _]
 unfold ai.«set.__new__» ai.Frozenset.newClass
 have yy:=sub_set_self
 obtain ⟨hp,g,d,tk,os⟩:=s
 dsimp only
 wp_walk
 refine Uo (Rb ?_)
 dsimp only
 simp only [newObj]
 refine Ra (Ral (Rb ?_))
 exact Rb h
theorem aEw {wr:List ae} {n:Nat} {P:Nat->aa->Prop} {St:Nat->af->Prop} (W:cz prog w A.in1 I fp wr n P St) (hi:i < n) (st:St i s.heap) (h:∀ v h' tk,P i v->St (i+1) h'->(∀ b o,b∉wr->s.heap.get? b=some o->h'.get? b=some o) ->
   ag (ao prog w) A.in1 (setAdd S v) (λ_ s2=>codeAny (ao prog w) A (.builtin "set.update.loop" ⟨[.ref S,.ref I],[]⟩) R s2) (λe s'=>R (.error e) s') { s with heap:=h',toks:=tk }) :
  codeAny (ao prog w) A (.builtin "set.update.loop" ⟨[.ref S,.ref I],[]⟩) R s:=by
 refine Ti PyProof.Rows.F.entry_set_update_loop ?_
 rw [bw.under_plainId PyProof.Rows.F.plain_set_update_loop _]
 show ag _ A.in1 (pyNext (.ref I) >>= _) _ _ s
 refine Ra (W.item i s _ _ hi st λv h' tk hP BG hk=>?_)
 show ag _ A.in1 (holding [v] (setAdd S v) >>= _) _ _ _
 refine Ra (Rm (Rp (h v h' tk hP BG hk) (λ_ s2 q=>?_) λ_ _ e=>e))
 exact Rb ⟨Tt PyProof.Rows.F.plain_set_update_loop _,q⟩
theorem aEx {wr:List ae} {n:Nat} {P:Nat->aa->Prop} {St:Nat->af->Prop} (W:cz prog w A.in1 I fp wr n P St) (st:St n s.heap) (h:∀ h' tk,(∀ b o,b∉wr->s.heap.get? b=some o->h'.get? b=some o)->R (.ok (.ret .none)) { s with heap:=h',toks:=tk }) :
  codeAny (ao prog w) A (.builtin "set.update.loop" ⟨[.ref S,.ref I],[]⟩) R s:=by
 refine Ti PyProof.Rows.F.entry_set_update_loop ?_
 rw [bw.under_plainId PyProof.Rows.F.plain_set_update_loop _]
 show ag _ A.in1 (pyNext (.ref I) >>= _) _ _ s
 refine Ra (W.done s _ _ st λh' tk hk=>?_)
 show ag _ A.in1 (ret aa.none) _ _ _
 exact Rb (h h' tk hk)
def two (a b:Nat) (t u:dc):List (Nat×dc):=if a=b then [(a,t)] else if a < b then [(a,t),(b,u)] else [(b,u),(a,t)]
theorem bT:Slot "set_iterator" "__next__" "set_iterator.__next__" :=
 .of (owner := "set_iterator") (n := "__next__") (by rw [Mu,Vu]; kernel_rfl) (by decide +kernel) (by decide +kernel) (by decide +kernel)
  (by first | exact .inl (by decide +kernel) | exact .inr (by decide +kernel)) (by rw [Mv]; kernel_rfl)
theorem fV:entryFor table "set_iterator.__next__" = some ai.«set_iterator.__next__»:=entryFor_of_tree (by kernel_rfl)
theorem eX (a:aa):argsOk "set_iterator.__next__" ⟨[a],[]⟩:=by
 unfold argsOk; kernel_rfl
theorem gB:Slot "set_iterator" "__iter__" "set_iterator.__iter__" :=
 .of (owner := "set_iterator") (n := "__iter__") (by rw [Mu,Vu]; kernel_rfl) (by decide +kernel) (by decide +kernel) (by decide +kernel)
  (by first | exact .inl (by decide +kernel) | exact .inr (by decide +kernel)) (by rw [Mv]; kernel_rfl)
theorem jU:entryFor table "set_iterator.__iter__" = some ai.«dict_keyiterator.__iter__» :=
 entryFor_alias (id' := "dict_keyiterator.__iter__") (by kernel_rfl) rfl (by decide +kernel) (by kernel_rfl)
theorem jN (a:aa):argsOk "set_iterator.__iter__" ⟨[a],[]⟩:=by
 unfold argsOk; kernel_rfl
theorem sP:entryFor table "set.__iter__" = some ai.«frozenset.__iter__» :=
 entryFor_alias (id' := "frozenset.__iter__") (by kernel_rfl) rfl (by decide +kernel) (by kernel_rfl)
section
variable {l:List (Nat×dc)}
theorem pP {Q:Bool->ah->Prop} (h:Q (w.params.followText "set-order") s):ag (ao prog w) A setsByText Q E s:=Ra (Uo (Rb h))
end
noncomputable def aJD (w:bf) (p:ae) (a b:Nat):HO:=.ext λh=>∃ t u,SX (Led w) h p (two a b t u)
structure Sub (prog:br) (w:bf) (i l:ae) (n:Nat) (P:Nat->aa->Prop) (st:Nat->af->Prop):Prop where
 keep:∀ k h h',st k h->(∀ b,b=i∨b=l->∀ o,h.get? b=some o->h'.get? b=some o)->st k h'
 obj:∀ k h,st k h->(∃ o,h.get? i=some o/\∀ v,o.data≠.cell v)/\∃ o,h.get? l=some o
 item:∀ (A:bw) k (s:ah) (Q:aa->ah->Prop) (E:aa->ah->Prop),k < n->st k s.heap->(∀ v h',P k v->st (k+1) h'->af.SameBut i s.heap h'->Q v { s with heap:=h' })->ag (ao prog w) A (ai.SmallTypes.nextOf (.ref i)) Q E s
 done:∀ (A:bw) (s:ah) (Q:aa->ah->Prop) (E:aa->ah->Prop),A.handled=none->st n s.heap->(∀ h' e,af.ExtBut i s.heap h'->(∃ o,h'.get? e=some o/\o.cls=.type "StopIteration")->E (.ref e) { s with heap:=h' }) ->
  ag (ao prog w) A (ai.SmallTypes.nextOf (.ref i)) Q E s
theorem aEy (prog:br) (w:bf) (i l:ae) (items:Array aa) (f':l≠i):Sub prog w i l items.size (λk v=>items[k]?=some v) (λk h=>h.IsListIter i l k/\h.IsList l items) where
 keep:=λk h h' st kp=>⟨st.1.at λo e=>kp i (.inl rfl) o e,st.2.at λo e=>kp l (.inr rfl) o e⟩
 obj:=λk h st=>by
  obtain ⟨⟨o,e,_,d⟩,⟨o2,e2,_⟩⟩:=st
  exact ⟨⟨o,e,λv z=>by rw [d] at z; cases z⟩,o2,e2⟩
 item:=λA k s Q E hk st hQ=>wpAny_nextOf_list_item st.1 st.2 (Array.getElem?_eq_getElem hk) λh' a b=>hQ _ h' (Array.getElem?_eq_getElem hk) ⟨a,st.2.at λo e=>b.extBut l o f' e⟩ b
 done:=λA s Q E hh st hE=>wpAny_nextOf_list_end hh st.1 st.2 (Array.getElem?_eq_none (Qh _)) hE
theorem oA {t:ae} {x:aa} (hit:s.heap.IsTupleIter it t i) (ht:s.heap.IsTuple t items) (hx:items[i]?=some x) (hQ:∀ h',h'.IsTupleIter it t (i+1)->af.SameBut it s.heap h'->Q x { s with heap:=h' }):ag (ao prog w) A (ai.SmallTypes.nextOf (.ref it)) Q E s:=by
 obtain ⟨o,ho,hc,hd⟩:=id hit
 obtain ⟨ol,A5,_,nl,jk⟩:=ht
 have hT:=hit.typeIs
 unfold ai.SmallTypes.nextOf
 refine Ra (Rg (name:=ax.ofString "__next__") hT To (Ri To hT Vt ?_ (Vq _)))
 refine Ra (m:=field (.ref it) 0) (Rn ho hd (x:=.ref t) rfl ?_)
 have xa:¬ ((aa.ref t==aa.none)=true):=Qm
 show ag _ _ (if (aa.ref t==aa.none)=true then _ else _) _ _ s
 rw [if_neg xa]
 refine Ra (m:=field (.ref it) 1) (Rn ho hd (x:=.int i 0) rfl ?_)
 refine Ra (m:=seqItems? (.ref t)) (Th A5 jk ?_)
 simp only [Jc,hx]
 refine Ra (Uy ho hd (by simp) (Rb ⟨x,rfl,Rb (hQ _ ?_ (af.SameBut.update ..))⟩))
 refine ⟨_,af.get?_update_self _ ho (bz.isFreed_of_fields (bz.data_mapFields hd _)),(bz.cls_mapFields ..).trans hc,?_⟩
 rw [bz.data_mapFields hd]
 simp [rawInt]
theorem pQ {t:ae} (hh:A.handled=none) (hit:s.heap.IsTupleIter it t i) (ht:s.heap.IsTuple t items) (hx:items[i]?=none) (hE:∀ h' e,af.ExtBut it s.heap h'->(∃ o,h'.get? e=some o/\o.cls=.type "StopIteration")->E (.ref e) { s with heap:=h' }):ag (ao prog w) A (ai.SmallTypes.nextOf (.ref it)) Q E s:=by
 obtain ⟨o,ho,hc,hd⟩:=id hit
 obtain ⟨ol,A5,_,nl,jk⟩:=ht
 have hT:=hit.typeIs
 unfold ai.SmallTypes.nextOf
 refine Ra (Rg (name:=ax.ofString "__next__") hT To (Ri To hT Vt ?_ (Vq _)))
 refine Ra (m:=field (.ref it) 0) (Rn ho hd (x:=.ref t) rfl ?_)
 have xa:¬ ((aa.ref t==aa.none)=true):=Qm
 show ag _ _ (if (aa.ref t==aa.none)=true then _ else _) _ _ s
 rw [if_neg xa]
 refine Ra (m:=field (.ref it) 1) (Rn ho hd (x:=.int i 0) rfl ?_)
 refine Ra (m:=seqItems? (.ref t)) (Th A5 jk ?_)
 simp only [Jc,hx]
 refine Ra (Tu (Ra (Uy ho hd (by simp) ?_)))
 refine Ra (m:=newExc (.type "StopIteration") []) ?_
 simp only [newExc,newTuple]
 refine Ra (Rk ?_ (by size_fits))
 refine Ra (m:=firstArgMember _ _) (Vf (a:=aa.none) (by first | rfl | (simp only [firstArgMember]; rfl)) ?_)
 refine Rk ?_ (by size_fits)
 simp only [raiseNew]
 refine Ra (Ih ?_)
 first | rw [show A.in1.handled=none from hh] | rw [hh]
 refine Ra (Rb (Ml ?_))
 exact hE _ _ (((af.SameBut.update ..).extBut.push _).push _) ⟨_,af.get?_push_size _ rfl,rfl⟩
theorem aC5 (prog:br) (w:bf) (i l:ae) (items:Array aa) (f':l≠i):Sub prog w i l items.size (λk v=>items[k]?=some v) (λk h=>h.IsTupleIter i l k/\h.IsTuple l items) where
 keep:=λk h h' st kp=>⟨st.1.at λo e=>kp i (.inl rfl) o e,by obtain ⟨o,e,r⟩:=st.2; exact ⟨o,kp l (.inr rfl) o e,r⟩⟩
 obj:=λk h st=>by
  obtain ⟨⟨o,e,_,d⟩,⟨o2,e2,_⟩⟩:=st
  exact ⟨⟨o,e,λv z=>by rw [d] at z; cases z⟩,o2,e2⟩
 item:=λA k s Q E hk st hQ=>oA st.1 st.2 (Array.getElem?_eq_getElem hk) λh' a b=>hQ _ h' (Array.getElem?_eq_getElem hk) ⟨a,by obtain ⟨o,e,r⟩:=st.2; exact ⟨o,b.extBut l o f' e,r⟩⟩ b
 done:=λA s Q E hh st hE=>pQ hh st.1 st.2 (Array.getElem?_eq_none (Qh _)) hE
abbrev gC (h:af) (z TI TO:ae) (f0:aa) (f1:Bool):Prop :=
 h.get? z=some { cls:=.type "zip",dict:=none,data:=.fields #[f0,.bool f1,.bool false,.ref TI,.ref TO],slots:=#[] }
def F0 (f:aa):Prop:=f=.none∨∃ a t,f=.int a t
theorem zO {Q:Option bz->ah->Prop} (h:Q (s.heap.get? a) s):ag M A (loadIfAlive a) Q E s:=λΓ p _=>by
 show Sem.wp M Γ (.loadIfAlive a .pure) _ _ p s
 rw [Sem.wp_loadIfAlive]
 exact (Sem.wp_pure ..).mpr h
section
variable {z TI TO:ae} {n1:Nat}
theorem QH {Q:Bool->ah->Prop} (hz:gC s.heap z TI TO f0 f1) (hf:F0 f0) (h1:Q true s) (h2:∀ h' b,f0≠.none->gC h' z TI TO f0 b->af.SameBut z s.heap h'->Q false { s with heap:=h' }) :
  ag (ao prog w) A (ai.SmallTypes.ownedTupleIsFree (.ref z)) Q E s:=by
 unfold ai.SmallTypes.ownedTupleIsFree
 rcases hf with rfl | ⟨a,t,rfl⟩
 ·exact Ra (Rn hz rfl (x:=.none) rfl (Rb h1))
 ·refine Ra (Rn hz rfl (x:=.int a t) rfl ?_)
  show ag (ao prog w) A (loadIfAlive a.toNat >>= _) Q E s
  refine Ra (zO ?_)
  cases hq:s.heap.get? a.toNat with
  | none=>exact Rb h1
  | some o =>
   show ag (ao prog w) A (field (.ref z) 1 >>= _) Q E s
   refine Ra (Rn hz rfl (x:=.bool f1) rfl ?_)
   cases f1 with
   | true=>exact Rb (h2 s.heap true (by simp) hz (af.SameBut.refl _ _))
   | false =>
    show ag (ao prog w) A (setField (.ref z) 1 (.bool true) >>= _) Q E s
    refine Ra (Rj hz (by simp) λg hg b=>Rb (h2 g true (by simp) hg b))
theorem zP {k:Nat} {a b:aa} (D:dm z TI TO i1 i2 l1 l2) (S1:Sub prog w i1 l1 n1 P1 qe) (S2:Sub prog w i2 l2 n2 P2 ja) (hz:gC s.heap z TI TO f0 f1) (hf:F0 f0) (lh:cb s.heap TI (.ref i1) (.ref i2)) (ll:cb s.heap TO a b) (h1:qe k s.heap) (h2:ja k s.heap) (k1:k < n1) (k2:k < n2) (hQ:∀ h' x y FG HS,(f0=.none->FG=rawInt s.heap.objs.size/\HS=false)->P1 k x->P2 k y->F0 FG->gC h' z TI TO FG HS->(∃ a b,cb h' TO a b)->qe (k+1) h'->ja (k+1) h'->cb h' s.heap.objs.size x y->h'.objs.size=s.heap.objs.size+1 ->
   (∀ c o,c≠z->c≠TO->c≠i1->c≠i2->s.heap.get? c=some o->h'.get? c=some o)->Q (.ref s.heap.objs.size) { s with heap:=h' }) :
  ag (ao prog w) A (ai.«zip.__next__» ⟨[.ref z],[]⟩) (λfin s'=>∃ v,fin=.done (.ret v)/\Q v s') E s:=by
 refine Ra (m:=field (.ref z) 2) (Rn hz rfl (x:=.bool false) rfl ?_)
 refine Ra (m:=field (.ref z) 3) (Rn hz rfl (x:=.ref TI) rfl ?_)
 refine Ra (Th lh rfl ?_)
 refine Ra (m:=ai.SmallTypes.ownedTupleIsFree (.ref z)) (QH hz hf ?_ λh0 fb nf E9 b0=>?_)
 ·simp only [if_true]
  refine Ra (Tu ?_)
  refine Ra (Rn hz rfl (x:=.ref TO) rfl ?_)
  refine Ra (Rj hz (by simp) λg1 GP b1=>?_)
  have yw:gC g1 z TI TO .ellipsis f1:=GP
  refine Ra ?_
  simp only [List.zipIdx_cons,List.zipIdx_nil,Zs,Zn]
  have s1:qe k g1:=S1.keep _ _ _ h1 λc hc o e=>b1.extBut c o (by rcases hc with r | r <;> rw [r]; exact D.i1z; exact D.l1z) e
  refine Ra (Ra (Ii ?_))
  refine Ra (m:=ai.SmallTypes.nextOf (.ref i1)) (S1.item _ k _ _ _ k1 s1 λx g2 px t1 b2=>Rb ?_)
  have o2:cb g2 TO a b:=b2.extBut _ _ D.TOi1 (b1.extBut _ _ D.TOz ll)
  refine Ra (Th o2 rfl ?_)
  refine Ra (Vz o2 λg3 o3 b3=>?_)
  have U':cb g3 TO x b:=o3
  refine Ra (Uj (Rb ?_))
  have s2:ja k g3:=S2.keep _ _ _ h2 λc hc o e=>by
   rcases hc with r | r
   ·rw [r] at e ⊢; exact b3.extBut _ _ D.TOi2.symm (b2.extBut _ _ D.i12.symm (b1.extBut _ _ D.i2z e))
   ·rw [r] at e ⊢; exact b3.extBut _ _ D.l2TO (b2.extBut _ _ D.l2i1 (b1.extBut _ _ D.l2z e))
  refine Ra (Ra (Ii ?_))
  refine Ra (m:=ai.SmallTypes.nextOf (.ref i2)) (S2.item _ k _ _ _ k2 s2 λy g4 py t2 b4=>Rb ?_)
  have o4:cb g4 TO x b:=b4.extBut _ _ D.TOi2 U'
  refine Ra (Th o4 rfl ?_)
  refine Ra (Vz o4 λg5 o5 b5=>?_)
  have MS:cb g5 TO x y:=o5
  refine Ra (Uj (Rb (Rb ?_)))
  refine Ra (Th MS rfl ?_)
  refine Ra (Ia ?_)
  have sz:g5.objs.size=s.heap.objs.size:=by rw [b5.1,b4.1,b3.1,b2.1,b1.1]
  have z5:gC g5 z TI TO .ellipsis f1:=b5.extBut _ _ D.TOz.symm (b4.extBut _ _ D.i2z.symm (b3.extBut _ _ D.TOz.symm (b2.extBut _ _ D.i1z.symm yw)))
  have VR:∀ c o,c≠z->c≠TO->c≠i1->c≠i2->s.heap.get? c=some o->g5.get? c=some o:=λc o c1 c2 c3 c4 e =>
   b5.extBut _ _ c2 (b4.extBut _ _ c4 (b3.extBut _ _ c2 (b2.extBut _ _ c3 (b1.extBut _ _ c1 e))))
  have Gb:qe (k+1) g5:=S1.keep _ _ _ t1 λc hc o e=>by
   rcases hc with r | r
   ·rw [r] at e ⊢; exact b5.extBut _ _ D.TOi1.symm (b4.extBut _ _ D.i12 (b3.extBut _ _ D.TOi1.symm e))
   ·rw [r] at e ⊢; exact b5.extBut _ _ D.l1TO (b4.extBut _ _ D.l1i2 (b3.extBut _ _ D.l1TO e))
  have UO:ja (k+1) g5:=S2.keep _ _ _ t2 λc hc o e=>by
   rcases hc with r | r
   ·rw [r] at e ⊢; exact b5.extBut _ _ D.TOi2.symm e
   ·rw [r] at e ⊢; exact b5.extBut _ _ D.l2TO e
  have LV:g5.objs.size≠z:=Xm (af.lt_size z5)
  refine Ra (m:=ai.SmallTypes.ownedTupleHandOut (.ref z) (.ref g5.objs.size)) ?_
  unfold ai.SmallTypes.ownedTupleHandOut
  have z6:gC (g5.push { cls:=.type "tuple",data:=.seq #[x,y] }) z TI TO .ellipsis f1:=af.get?_push_of_some _ z5
  refine Ra (Rj z6 (by simp) λg7 z7 b7=>?_)
  have T2:gC g7 z TI TO (rawInt g5.objs.size) f1:=z7
  refine Rj T2 (by simp) λg8 z8 b8=>?_
  have LX:gC g8 z TI TO (rawInt g5.objs.size) false:=z8
  have up:∀ c o,c≠z->g5.get? c=some o->g8.get? c=some o:=λc o c1 e=>b8.extBut _ _ c1 (b7.extBut _ _ c1 (af.get?_push_of_some _ e))
  have T8:cb g8 g5.objs.size x y:=b8.extBut _ _ LV (b7.extBut _ _ LV (af.get?_push_size _ rfl))
  have UP:g8.objs.size=s.heap.objs.size+1:=by rw [b8.1,b7.1,af.size_push,sz]
  rw [sz] at LX T8
  refine Rb ⟨_,rfl,?_⟩
  show Q (.ref g5.objs.size) _
  rw [sz]
  refine hQ g8 x y _ _ (λ_=>⟨rfl,rfl⟩) px py (.inr ⟨_,_,rfl⟩) LX ⟨_,_,up _ _ D.TOz MS⟩ (S1.keep _ _ _ Gb λc hc o e=>up c o (by rcases hc with r | r <;> rw [r]; exact D.i1z; exact D.l1z) e) (S2.keep _ _ _ UO λc hc o e=>up c o (by rcases hc with r | r <;> rw [r]; exact D.i2z; exact D.l2z) e) T8 UP λc o c1 c2 c3 c4 e=>up c o c1 (VR c o c1 c2 c3 c4 e)
 ·simp only [Jh,if_false]
  have s1:qe k h0:=S1.keep _ _ _ h1 λc hc o e=>b0.extBut c o (by rcases hc with r | r <;> rw [r]; exact D.i1z; exact D.l1z) e
  rw [<- Array.forIn_toList]
  simp only [Zs,Zn]
  refine Ra (Ra (Ra (Rm ?_)))
  refine Ra (m:=ai.SmallTypes.nextOf (.ref i1)) (S1.item _ k _ _ _ k1 s1 λx g2 px t1 b2=>Rb ?_)
  refine Rb ?_
  have s2:ja k g2:=S2.keep _ _ _ h2 λc hc o e=>by
   rcases hc with r | r
   ·rw [r] at e ⊢; exact b2.extBut _ _ D.i12.symm (b0.extBut _ _ D.i2z e)
   ·rw [r] at e ⊢; exact b2.extBut _ _ D.l2i1 (b0.extBut _ _ D.l2z e)
  refine Ra (Ra (Rm ?_))
  refine Ra (m:=ai.SmallTypes.nextOf (.ref i2)) (S2.item _ k _ _ _ k2 s2 λy g4 py t2 b4=>Rb ?_)
  refine Rb (Rb ?_)
  refine Ra (Ia ?_ (by show 2<=ak; rw [Rf]; decide))
  have sz:g4.objs.size=s.heap.objs.size:=by rw [b4.1,b2.1,b0.1]
  have z4:gC g4 z TI TO f0 fb:=b4.extBut _ _ D.i2z.symm (b2.extBut _ _ D.i1z.symm E9)
  have C4:∀ c o,c≠z->c≠i1->c≠i2->s.heap.get? c=some o->g4.get? c=some o:=λc o c1 c3 c4 e=>b4.extBut _ _ c4 (b2.extBut _ _ c3 (b0.extBut _ _ c1 e))
  have Gb:qe (k+1) g4:=S1.keep _ _ _ t1 λc hc o e=>by
   rcases hc with r | r
   ·rw [r] at e ⊢; exact b4.extBut _ _ D.i12 e
   ·rw [r] at e ⊢; exact b4.extBut _ _ D.l1i2 e
  refine Rb ⟨_,rfl,?_⟩
  show Q (.ref g4.objs.size) _
  have T8:cb (g4.push { cls:=.type "tuple",data:=.seq #[x,y] }) g4.objs.size x y:=af.get?_push_size _ rfl
  rw [sz] at T8 ⊢
  refine hQ _ x y _ _ (λq=>absurd q nf) px py hf (af.get?_push_of_some _ z4) ⟨_,_,af.get?_push_of_some _ (C4 _ _ D.TOz D.TOi1 D.TOi2 ll)⟩ (S1.keep _ _ _ Gb λc hc o e=>af.get?_push_of_some _ e) (S2.keep _ _ _ t2 λc hc o e=>af.get?_push_of_some _ e) T8 (by rw [af.size_push,sz]) λc o c1 c2 c3 c4 e=>af.get?_push_of_some _ (C4 c o c1 c3 c4 e)
theorem R0 {k:Nat} {a b:aa} {Q:Fin->ah->Prop} (hh:A.handled=none) (D:dm z TI TO i1 i2 l1 l2) (S1:Sub prog w i1 l1 n1 P1 qe) (S2:Sub prog w i2 l2 n2 P2 ja) (hz:gC s.heap z TI TO f0 f1) (hf:F0 f0) (lh:cb s.heap TI (.ref i1) (.ref i2)) (ll:cb s.heap TO a b) (h1:qe k s.heap) (h2:ja k s.heap) (o9:k=n1/\k<=n2∨k=n2/\k < n1) (hE:∀ h' e,(∀ c o,c≠z->c≠TO->c≠i1->c≠i2->s.heap.get? c=some o->h'.get? c=some o)->(∃ o,h'.get? e=some o/\o.cls=.type "StopIteration")->E (.ref e) { s with heap:=h' }) :
  ag (ao prog w) A (ai.«zip.__next__» ⟨[.ref z],[]⟩) Q E s:=by
 refine Ra (m:=field (.ref z) 2) (Rn hz rfl (x:=.bool false) rfl ?_)
 refine Ra (m:=field (.ref z) 3) (Rn hz rfl (x:=.ref TI) rfl ?_)
 refine Ra (Th lh rfl ?_)
 refine Ra (m:=ai.SmallTypes.ownedTupleIsFree (.ref z)) (QH hz hf ?_ λh0 fb nf E9 b0=>?_)
 ·simp only [if_true]
  refine Ra (Tu ?_)
  refine Ra (Rn hz rfl (x:=.ref TO) rfl ?_)
  refine Ra (Rj hz (by simp) λg1 GP b1=>?_)
  have yw:gC g1 z TI TO .ellipsis f1:=GP
  refine Ra ?_
  simp only [List.zipIdx_cons,List.zipIdx_nil,Zs,Zn]
  have s1:qe k g1:=S1.keep _ _ _ h1 λc hc o e=>b1.extBut c o (by rcases hc with r | r <;> rw [r]; exact D.i1z; exact D.l1z) e
  refine Ra (Ra (Ii ?_))
  have fin:∀ (g:af) (e:ae) (g0:af),(∃ o,g.get? e=some o/\o.cls=.type "StopIteration")->gC g z TI TO .ellipsis f1->(∀ c o,c≠z->c≠TO->c≠i1->c≠i2->s.heap.get? c=some o->g.get? c=some o) ->
    ag (ao prog w) A (setField (.ref z) 0 .none) (λ_ s'=>E (.ref e) s') E { s with heap:=g }:=λg e g0 ⟨oe,x_,Ag⟩ wy kp=>by
   have XF:e≠z:=λq=>by rw [q,wy] at x_; cases x_; simp at Ag
   exact Rj wy (by simp) λg' _ b'=>hE g' e (λc o c1 c2 c3 c4 q=>b'.extBut _ _ c1 (kp c o c1 c2 c3 c4 q)) ⟨oe,b'.extBut _ _ XF x_,Ag⟩
  rcases o9 with ⟨e1,_⟩ | ⟨e2,k1⟩
  ·rw [e1] at s1
   refine Ra (m:=ai.SmallTypes.nextOf (.ref i1)) (S1.done _ _ _ _ hh s1 λg2 e b2 he=>?_)
   exact fin g2 e g1 he (b2 _ _ D.i1z.symm yw) λc o c1 _ c3 _ q=>b2 _ _ c3 (b1.extBut _ _ c1 q)
  ·refine Ra (m:=ai.SmallTypes.nextOf (.ref i1)) (S1.item _ k _ _ _ k1 s1 λx g2 px t1 b2=>Rb ?_)
   have o2:cb g2 TO a b:=b2.extBut _ _ D.TOi1 (b1.extBut _ _ D.TOz ll)
   refine Ra (Th o2 rfl ?_)
   refine Ra (Vz o2 λg3 o3 b3=>?_)
   refine Ra (Uj (Rb ?_))
   have s2:ja n2 g3:=by
    rw [<- e2]
    exact S2.keep _ _ _ h2 λc hc o e=>by
     rcases hc with r | r
     ·rw [r] at e ⊢; exact b3.extBut _ _ D.TOi2.symm (b2.extBut _ _ D.i12.symm (b1.extBut _ _ D.i2z e))
     ·rw [r] at e ⊢; exact b3.extBut _ _ D.l2TO (b2.extBut _ _ D.l2i1 (b1.extBut _ _ D.l2z e))
   refine Ra (Ra (Ii ?_))
   refine Ra (m:=ai.SmallTypes.nextOf (.ref i2)) (S2.done _ _ _ _ hh s2 λg4 e b4 he=>?_)
   exact fin g4 e g3 he (b4 _ _ D.i2z.symm (b3.extBut _ _ D.TOz.symm (b2.extBut _ _ D.i1z.symm yw))) λc o c1 c2 c3 c4 q=>b4 _ _ c4 (b3.extBut _ _ c2 (b2.extBut _ _ c3 (b1.extBut _ _ c1 q)))
 ·simp only [Jh,if_false]
  have s1:qe k h0:=S1.keep _ _ _ h1 λc hc o e=>b0.extBut c o (by rcases hc with r | r <;> rw [r]; exact D.i1z; exact D.l1z) e
  rw [<- Array.forIn_toList]
  simp only [Zs,Zn]
  refine Ra (Ra (Ra (Rm ?_)))
  rcases o9 with ⟨e1,_⟩ | ⟨e2,k1⟩
  ·rw [e1] at s1
   refine Ra (m:=ai.SmallTypes.nextOf (.ref i1)) (S1.done _ _ _ _ hh s1 λg2 e b2 he=>?_)
   exact hE g2 e (λc o c1 _ c3 _ q=>b2 _ _ c3 (b0.extBut _ _ c1 q)) he
  ·refine Ra (m:=ai.SmallTypes.nextOf (.ref i1)) (S1.item _ k _ _ _ k1 s1 λx g2 px t1 b2=>Rb ?_)
   refine Rb ?_
   have s2:ja n2 g2:=by
    rw [<- e2]
    exact S2.keep _ _ _ h2 λc hc o e=>by
     rcases hc with r | r
     ·rw [r] at e ⊢; exact b2.extBut _ _ D.i12.symm (b0.extBut _ _ D.i2z e)
     ·rw [r] at e ⊢; exact b2.extBut _ _ D.l2i1 (b0.extBut _ _ D.l2z e)
   refine Ra (Ra (Rm ?_))
   refine Ra (m:=ai.SmallTypes.nextOf (.ref i2)) (S2.done _ _ _ _ hh s2 λg4 e b4 he=>?_)
   exact hE g4 e (λc o c1 c2 c3 c4 q=>b4 _ _ c4 (b2.extBut _ _ c3 (b0.extBut _ _ c1 q))) he
end
inductive Sk where
 | l | t
end L2
variable {k1 k2:Sk}
namespace L2
open PySem PySem.Spec PyProof.Rows
def i9 (k:Sk) (K:Rc) (H:Hp) (a:ae) (xs:List V):Prop:=match k with | .l=>fh K H a xs | .t=>d_ K H a xs
def uj (k:Sk) (h:af) (a:ae) (b_:Array aa):Prop:=match k with | .l=>h.IsList a b_ | .t=>h.IsTuple a b_
def lx (k:Sk) (h:af) (i a:ae) (n:Nat):Prop:=match k with | .l=>h.IsListIter i a n | .t=>h.IsTupleIter i a n
noncomputable def t5 (k:Sk) (a:ae):bz:=match k with | .l=>{ cls:=.type "list_iterator",data:=.fields #[.ref a,.int 0 0] } | .t=>{ cls:=.type "tuple_iterator",data:=.fields #[.ref a,.int 0 0] }
theorem lx.new (k:Sk) (h:af) (a:ae):lx k (h.push (t5 k a)) h.objs.size a 0:=by
 cases k
 ·exact ⟨_,af.get?_push_size _ rfl,rfl,rfl⟩
 ·exact ⟨_,af.get?_push_size _ rfl,rfl,rfl⟩
theorem lx.obj {k:Sk} {i:ae} {n:Nat} (x:lx k h i a n):∃ o,h.get? i=some o/\∀ v,o.data≠.cell v:=by
 cases k
 ·obtain ⟨o,e,_,d⟩:=x; exact ⟨o,e,λv z=>by rw [d] at z; cases z⟩
 ·obtain ⟨o,e,_,d⟩:=x; exact ⟨o,e,λv z=>by rw [d] at z; cases z⟩
theorem lx.at {k:Sk} {i:ae} {n:Nat} (x:lx k h i a n) (kp:∀ o,h.get? i=some o->h'.get? i=some o):lx k h' i a n:=by
 cases k
 ·exact af.IsListIter.at x kp
 ·exact af.IsTupleIter.at x kp
theorem uj.at {k:Sk} {b_:Array aa} (x:uj k h a b_) (kp:∀ o,h.get? a=some o->h'.get? a=some o):uj k h' a b_:=by
 cases k
 ·exact af.IsList.at x kp
 ·obtain ⟨o,e,r⟩:=x; exact ⟨o,kp o e,r⟩
theorem uV (k:Sk) (prog:br) (w:bf) (i l:ae) (items:Array aa) (f':l≠i):Sub prog w i l items.size (λj v=>items[j]?=some v) (λj h=>lx k h i l j/\uj k h l items):=by
 cases k
 ·exact aEy prog w i l items f'
 ·exact aC5 prog w i l items f'
theorem zQ {k:Sk} {b_:Array aa} (h:uj k s.heap a b_) (hQ:Q (.ref s.heap.objs.size) { s with heap:=s.heap.push (t5 k a) }):ag (ao prog w) A (pyIter (.ref a)) Q E s:=by
 cases k
 ·exact Tr h hQ
 ·exact Im h hQ
section
variable {σ:St}
theorem Inv.jr (I:Inv X a_ σ H s) {k:Sk} (h:i9 k X.K H a xs):∃ b_:List aa,bM xs b_/\uj k s.heap a b_.toArray:=by
 cases k
 ·obtain ⟨b_,r,p,_⟩:=I.list h; exact ⟨b_,r,p.isList⟩
 ·obtain ⟨b_,r,p,_⟩:=I.tuple h; exact ⟨b_,r,p⟩
theorem Inv.jf (I:Inv X a_ σ H s) {k:Sk} (h:i9 k X.K H a xs) (h':i9 k X.K H a ys):xs=ys:=by
 cases k
 ·exact I.qa h h'
 ·exact I.nc h h'
theorem Inv.ik (I:Inv X a_ σ H s) {k:Sk} (h:i9 k X.K H a xs) (f:rH X a_ H b):a≠b:=by
 have rd:∀ {u:HO},Rd H a u->a≠b:=λ{u} r z=>by
  rcases r with r | ⟨o,r⟩ <;> (rw [z,f.1] at r; cases r)
 have kk:∀ {o:bz},X.K.lookup a=some o->a≠b:=λ{o} e z=>by
  have e1:=I.ok.mod.B9 a o e
  rcases f.2.2.2.1 with q | q
  ·exact I.ok.o7 a o e1 (z ▸ q)
  ·exact Jo _ (Qt (af.lt_size (I.ok.bs a o e1).1) (z ▸ q))
 cases k
 ·rcases h with h | ⟨o,_,_,e,_⟩
  ·exact rd h
  ·exact kk e
 ·rcases h with h | ⟨o,_,_,e,_⟩
  ·exact rd h
  ·exact kk e
theorem Inv.jh (ch:List ae) (I:Inv X a_ σ H s) (k:∀ b o,b∉ch->s.heap.get? b=some o->h'.get? b=some o) (f:∀ b∈ch,rH X a_ H b):Inv X a_ σ H { s with heap:=h',toks:=t' }:=by
 have C1:∀ b u,H b=some u->b∉ch:=λb u e z=>by rw [(f b z).1] at e; cases e
 have nL:X.env.locals∉ch:=λz=>(f _ z).2.1 rfl
 refine I.step (g':=s.gens) (d':=s.drawn) (ch:=ch) (λb hb=>⟨(f b hb).2.2.2.1,(f b hb).2.1,(f b hb).2.2.2.2.1,(f b hb).2.2.2.2.2⟩) (λb o _ _ hc e _=>k b o hc e) (λb o _ _ hc e _=>⟨o.slots,k b o hc e⟩) (λ_ _ _ _ n=>n)
  (λb o hc e=>⟨o,k b o hc e⟩) (λ_ _ e=>e) (λ_ _ _ e=>e) (λb ps e=>⟨#[],by rw [e]; simp⟩) (λm hm=>?_) (λb u e=>?_) I.bare
 ·obtain ⟨o,es,ep,ho,r⟩:=hm
  exact ⟨o,es,ep,k _ o nL ho,r⟩
 ·refine (I.fj b u e).ib (λc v hc q=>k c v ?_ q) (λ_ q=>q) λ_ _ q=>q
  rcases hc with z | z
  ·rw [z]; exact C1 b u e
  ·exact C1 c _ z
theorem Inv.n6 {D:ae} {u:HO} (I:Inv X a_ σ H s) (new:bJ X.prog X.w (upd H D u) s.heap D u) (hn:H D=none) (hL:D≠X.env.locals)
  (h1:X.jm.heap.objs.size<=D) (h2:∀ x c,X.env.cells.lookup x=some c->c≠D) (h3:∀ p∈X.pn++a_,p.1≠D):Inv X a_ σ (upd H D u) s:=by
 have ne:∀ b v,H b=some v->b≠D:=λb v e z=>by rw [z,hn] at e; cases e
 refine I.step (g':=s.gens) (d':=s.drawn) (t':=s.toks) (h':=s.heap) (ch:=[D]) (λb hb=>?_) (λb o _ _ _ e _=>e) (λb o _ _ _ e _=>⟨o.slots,e⟩) (λb o hc _ n=>?_) (λb o _ e=>⟨o,e⟩)
  (λb xs e=>by rw [aG (ne b _ e)]; exact e) (λb o v e=>by rw [aG (ne b _ e)]; exact e) (λb ps e=>⟨#[],by rw [aG (ne b _ e),e]; simp⟩) (λ_ h=>h) (λb v e=>?_) I.bare
 ·have e:b=D:=by simpa using hb
  subst e
  exact ⟨.inr h1,hL,h2,h3⟩
 ·rw [aG (by simpa using hc)]; exact n
 ·by_cases hb:b=D
  ·subst hb
   rw [aB] at e; cases e
   exact new
  ·rw [aG hb] at e
   exact (I.fj b v e).ib (λc v _ q=>q) (λc q=>by rw [aG (ne c _ q)]; exact q) λc xs q=>by rw [aG (ne c _ q)]; exact q
end
noncomputable def yo (K:Rc) (k1 k2:Sk) (a b:ae):It :=
 ⟨λi H => ∃ xs ys x y, i9 k1 K H a xs /\ i9 k2 K H b ys /\ xs[i]? = some x /\ ys[i]? = some y,
  λi H v H'=>∃ p,H p=none/\v=.ref p/\∀ xs ys,i9 k1 K H a xs->i9 k2 K H b ys->∃ x y,xs[i]?=some x/\ys[i]?=some y/\H'=upd H p (.tup [x,y]),
  λi H=>∃ xs ys,i9 k1 K H a xs/\i9 k2 K H b ys/\min xs.length ys.length=i⟩
theorem aEA {x1} (k1 k2:Sk) (a b z TI TO i1 i2:ae) (D:∀ l1 l2:ae,(∀ c∈[z,TI,TO,i1,i2],l1≠c)->(∀ c∈[z,TI,TO,i1,i2],l2≠c)->dm z TI TO i1 i2 l1 l2) :
  Turn P w K (.Tuple es x1 pos) (yo K k1 k2 a b) [z,TI,TO,i1,i2] z (λi h=>IsZip h z TI TO .none/\cb h TI (.ref i1) (.ref i2)/\(∃ x y,cb h TO x y)/\lx k1 h i1 a i/\lx k2 h i2 b i) where
 mem:=by simp
 obj:=λi h st c hc=>by
  obtain ⟨hz,lh,⟨x,y,ll⟩,h1,h2⟩:=st
  simp only [Ql,Qp,or_false] at hc
  rcases hc with rfl | rfl | rfl | rfl | rfl
  ·exact ⟨_,hz,λv q=>by cases q⟩
  ·exact ⟨_,lh,λv q=>by cases q⟩
  ·exact ⟨_,ll,λv q=>by cases q⟩
  ·exact h1.obj
  ·exact h2.obj
 keep:=λi h h' st k=>by
  obtain ⟨hz,lh,⟨x,y,ll⟩,h1,h2⟩:=st
  exact ⟨k z (by simp) _ hz,k TI (by simp) _ lh,⟨x,y,k TO (by simp) _ ll⟩,h1.at λo e=>k i1 (by simp) o e,h2.at λo e=>k i2 (by simp) o e⟩
 item:=by
  intro X hP hw hK hc i a_ s σ H E I hf st hg
  subst hP hw hK
  obtain ⟨hz,lh,⟨x0,y0,ll⟩,h1,h2⟩:=st
  obtain ⟨xs,ys,x,y,ha,hb,hx,hy⟩:=hg
  obtain ⟨b_,rv,pa⟩:=I.jr ha
  obtain ⟨qp,jb,pb⟩:=I.jr hb
  obtain ⟨u,hu,ru⟩:=rv.get hx
  obtain ⟨v,hv,Gk⟩:=jb.get hy
  have na:∀ c∈[z,TI,TO,i1,i2],a≠c:=λc fu=>I.ik ha (hf c fu)
  have nb:∀ c∈[z,TI,TO,i1,i2],b≠c:=λc fu=>I.ik hb (hf c fu)
  have DD:=D a b na nb
  have hT:s.TypeIs (.ref z) "zip" := ⟨_,hz,rfl⟩
  have oy:i < b_.toArray.size:=by rw [Qk]; exact (Qb.mp hu).1
  have qq:i < qp.toArray.size:=by rw [Qk]; exact (Qb.mp hv).1
  unfold pyNext
  refine Ra (Tg (Rg (name:=ax.ofString "__next__") hT Ry (Ri Ry hT Uq
   (zP DD (uV k1 X.prog X.w i1 a b_.toArray (na i1 (by simp))) (uV k2 X.prog X.w i2 b qp.toArray (nb i2 (by simp))) hz (.inl rfl) lh ll ⟨h1,pa⟩ ⟨h2,pb⟩ oy qq λh' u' v' f0 f1 nf pu pv _ C9 nz s1 s2 Ft _ kp=>Rb ?_) (Ul _))))
  obtain ⟨rfl,rfl⟩:=nf rfl
  obtain ⟨_,_,nz⟩:=nz
  have eu:u'=u:=by
   have q:b_[i]?=some u':=by simpa using pu
   rw [hu] at q
   exact (Option.some.inj q).symm
  have ev:v'=v:=by
   have q:qp[i]?=some v':=by simpa using pv
   rw [hv] at q
   exact (Option.some.inj q).symm
  subst eu ev
  refine ⟨_,rfl,wpAny_letOwnedTupleGo_zip C9 λh2 t7 mf=>?_⟩
  have Tz:s.heap.objs.size≠z:=Xm (af.lt_size hz)
  have Ai:cb h2 s.heap.objs.size u' v':=mf.extBut _ _ Tz Ft
  have qr:=I.fj.fresh (Qh s.heap.objs.size)
  have fz:=I.k8 (Qh s.heap.objs.size) qr
  have I2:Inv X a_ σ H { s with heap:=h2 }:=by
   refine I.jh (t':=s.toks) [z,TO,i1,i2] (λc o fu e=>?_) (λc fu=>hf c ?_)
   ·simp only [Ql,Qp,or_false,not_or] at fu
    exact mf.extBut _ _ fu.1 (kp c o fu.1 fu.2.1 fu.2.2.1 fu.2.2.2 e)
   ·simp only [Ql,Qp,or_false] at fu ⊢
    rcases fu with r | r | r | r
    ·exact .inl r
    ·exact .inr (.inr (.inl r))
    ·exact .inr (.inr (.inr (.inl r)))
    ·exact .inr (.inr (.inr (.inr r)))
  have I3:Inv X a_ σ (upd H s.heap.objs.size (.tup [x,y])) { s with heap:=h2 }:=by
   refine I2.n6 (show bJ X.prog X.w _ _ _ (.tup [x,y]) from ⟨by show 2<=ak; rw [Rf]; decide,[u',v'],0,.cons ru (.cons Gk .nil),Ai⟩) qr fz.2.1 I.sz fz.2.2.2.2.1 fz.2.2.2.2.2
  refine ⟨.ref s.heap.objs.size,_,I3,rfl,⟨s.heap.objs.size,qr,rfl,λLY AJ Dz ju=>?_⟩,⟨t7,mf.extBut _ _ DD.TIz (kp _ _ DD.TIz DD.TITO DD.TIi1 DD.TIi2 lh),⟨_,_,mf.extBut _ _ DD.TOz nz⟩,s1.1.at λo e=>mf.extBut _ _ DD.i1z e,s2.1.at λo e=>mf.extBut _ _ DD.i2z e⟩,λc fu=>?_⟩
  ·rw [I.jf Dz ha,I.jf ju hb]
   exact ⟨x,y,hx,hy,rfl⟩
  ·have cl:c≠s.heap.objs.size:=by
    obtain ⟨o,e⟩:∃ o,s.heap.get? c=some o:=by
     simp only [Ql,Qp,or_false] at fu
     rcases fu with rfl | rfl | rfl | rfl | rfl
     ·exact ⟨_,hz⟩
     ·exact ⟨_,lh⟩
     ·exact ⟨_,ll⟩
     ·obtain ⟨o,e,_⟩:=h1.obj; exact ⟨o,e⟩
     ·obtain ⟨o,e,_⟩:=h2.obj; exact ⟨o,e⟩
    exact Qx (af.lt_size e)
   rw [aG cl]
   exact (hf c fu).1
 done:=by
  intro X hP hw hK hc i a_ s σ H E I hf st hg
  subst hP hw hK
  obtain ⟨hz,lh,⟨x0,y0,ll⟩,h1,h2⟩:=st
  obtain ⟨xs,ys,ha,hb,q_⟩:=hg
  obtain ⟨b_,rv,pa⟩:=I.jr ha
  obtain ⟨qp,jb,pb⟩:=I.jr hb
  have la:=rv.length
  have lb:=jb.length
  have na:∀ c∈[z,TI,TO,i1,i2],a≠c:=λc fu=>I.ik ha (hf c fu)
  have nb:∀ c∈[z,TI,TO,i1,i2],b≠c:=λc fu=>I.ik hb (hf c fu)
  have DD:=D a b na nb
  have hT:s.TypeIs (.ref z) "zip" := ⟨_,hz,rfl⟩
  unfold pyNext
  refine Ra (Tg (Rg (name:=ax.ofString "__next__") hT Ry (Ri Ry hT Uq
   (R0 (I.ok.hd hc) DD (uV k1 X.prog X.w i1 a b_.toArray (na i1 (by simp))) (uV k2 X.prog X.w i2 b qp.toArray (nb i2 (by simp))) hz (.inl rfl) lh ll ⟨h1,pa⟩ ⟨h2,pb⟩ (by rw [Qk,Qk]; omega) λh' e kp he=>?_) (Ul _))))
  obtain ⟨oe,x_,Ag⟩:=he
  refine Ra (Tw (T := "StopIteration") (b:=true) ⟨oe,x_,Ag⟩ Uz (Rb ⟨rfl,?_⟩))
  refine I.jh (t':=s.toks) [z,TO,i1,i2] (λc o fu e=>?_) (λc fu=>hf c ?_)
  ·simp only [Ql,Qp,or_false,not_or] at fu
   exact kp c o fu.1 fu.2.1 fu.2.2.1 fu.2.2.2 e
  ·simp only [Ql,Qp,or_false] at fu ⊢
   rcases fu with r | r | r | r
   ·exact .inl r
   ·exact .inr (.inr (.inl r))
   ·exact .inr (.inr (.inr (.inl r)))
   ·exact .inr (.inr (.inr (.inr r)))
 self:=λ_ _ _ _ _ st h=>Vd st.1 h
noncomputable abbrev wo (k1:Sk) (h:af) (a:ae):af:=h.push (t5 k1 a)
noncomputable abbrev zt (k1 k2:Sk) (h:af) (a b:ae):af:=(wo k1 h a).push (t5 k2 b)
noncomputable abbrev zr (k1 k2:Sk) (h:af) (a b:ae):af:=(zt k1 k2 h a b).push { cls:=.type "tuple",data:=.seq #[.ref h.objs.size,.ref (wo k1 h a).objs.size] }
noncomputable abbrev B2 (k1 k2:Sk) (h:af) (a b:ae):af:=(zr k1 k2 h a b).push { cls:=.type "tuple",data:=.seq #[.none,.none] }
noncomputable abbrev qc (k1 k2:Sk) (h:af) (a b:ae):af:=(B2 k1 k2 h a b).push { cls:=.type "zip",data:=.fields #[.none,.bool false,.bool false,.ref (zt k1 k2 h a b).objs.size,.ref (zr k1 k2 h a b).objs.size] }
theorem zR (k1 k2:Sk) (a b:ae) (xs ys:Array aa) :
  Meets (ai.«zip.__new__» ⟨[.type "zip",.ref a,.ref b],[]⟩) (λ_ R s=>uj k1 s.heap a xs/\uj k2 s.heap b ys/\R (.ok (.ret (.ref (B2 k1 k2 s.heap a b).objs.size))) { s with heap:=qc k1 k2 s.heap a b }) :=
 .of_wp λprog w A R s h=>by
  obtain ⟨hp,g,d,tk,os⟩:=s
  obtain ⟨xc,xb,h⟩:=h
  have yy:=sub_zip
  have hA:uj k1 (ah.heap ⟨hp,g,d,tk,os⟩) a xs:=xc
  have hB:uj k2 (ah.heap ⟨hp.push (t5 k1 a),g,d,tk,os⟩) b ys:=uj.at xb λo e=>af.get?_push_of_some _ e
  wp_walk using zQ hA,zQ hB
  exact ⟨_,rfl,h⟩
def Ph (K:Rc) (k1 k2:Sk) (ta:TA):TI:=λσ H R=>ta σ H λvs H1=>∃ a b xs ys,vs = [.ref a,.ref b]/\i9 k1 K H1 a xs/\i9 k2 K H1 b ys/\R (yo K k1 k2 a b) H1
theorem nH (k1 k2:Sk) {a b:bq} {ta:TA} (hg:Gl X "zip") (hm:X.mg "zip" = none) (ha:PA X [a,b] ta) (hs:autoParam (au [a,b] X.env = [(false,eval a X.env),(false,eval b X.env)]) L2.gj) (ur:autoParam (au [b] X.env = [(false,eval b X.env)]) L2.gj) :
  PI X (.Tuple es x1 vo) (.Call (.Name "zip" p) [a,b] [] pos) (Ph X.K k1 k2 ta):=by
 intro a_ s σ H R I h
 refine Call_ (iQ (u:=.type "zip") I hg hm (by decide +kernel) (PyProof.Rows.callWith_type1 (fk (ha pos a_ s σ H _ I h) λus s1 fe=>?_) (by rw [hs,ur]) (by rw [ur]; rfl)))
 obtain ⟨vs,H1,I1,r1,q1⟩:=fe
 obtain ⟨l1,l2,xs,ys,rfl,hA,hB,q⟩:=q1
 obtain ⟨u1,u2,rfl,CW,Gn⟩:=nX r1
 cases CW
 cases Gn
 obtain ⟨b_,rv,pa⟩:=I1.jr hA
 obtain ⟨qp,jb,pb⟩:=I1.jr hB
 refine Iz Mz (by decide) (Mk _ _) (Mn _ _) (λobj=>Iu obj _ _) Mp (zR k1 k2 l1 l2 b_.toArray qp.toArray) ⟨pa,pb,?_⟩
 have n1:(wo k1 s1.heap l1).objs.size=s1.heap.objs.size+1:=af.size_push ..
 have n2:(zt k1 k2 s1.heap l1 l2).objs.size=s1.heap.objs.size+2:=by rw [af.size_push,n1]
 have n3:(zr k1 k2 s1.heap l1 l2).objs.size=s1.heap.objs.size+3:=by rw [af.size_push,n2]
 have n4:(B2 k1 k2 s1.heap l1 l2).objs.size=s1.heap.objs.size+4:=by rw [af.size_push,n3]
 have g5:IsZip (qc k1 k2 s1.heap l1 l2) (B2 k1 k2 s1.heap l1 l2).objs.size (zt k1 k2 s1.heap l1 l2).objs.size (zr k1 k2 s1.heap l1 l2).objs.size .none:=af.get?_push_size _ rfl
 have g4:cb (qc k1 k2 s1.heap l1 l2) (zr k1 k2 s1.heap l1 l2).objs.size .none .none:=af.get?_push_of_some _ (af.get?_push_size _ rfl)
 have g3:cb (qc k1 k2 s1.heap l1 l2) (zt k1 k2 s1.heap l1 l2).objs.size (.ref s1.heap.objs.size) (.ref (wo k1 s1.heap l1).objs.size):=af.get?_push_of_some _ (af.get?_push_of_some _ (af.get?_push_size _ rfl))
 have g2:lx k2 (qc k1 k2 s1.heap l1 l2) (wo k1 s1.heap l1).objs.size l2 0:=(lx.new k2 (wo k1 s1.heap l1) l2).at λo e=>af.get?_push_of_some _ (af.get?_push_of_some _ (af.get?_push_of_some _ e))
 have g1:lx k1 (qc k1 k2 s1.heap l1 l2) s1.heap.objs.size l1 0:=(lx.new k1 s1.heap l1).at λo e=>af.get?_push_of_some _ (af.get?_push_of_some _ (af.get?_push_of_some _ (af.get?_push_of_some _ e)))
 have kp:∀ c o,s1.heap.get? c=some o->(qc k1 k2 s1.heap l1 l2).get? c=some o:=λc o e=>af.get?_push_of_some _ (af.get?_push_of_some _ (af.get?_push_of_some _ (af.get?_push_of_some _ (af.get?_push_of_some _ e))))
 refine ⟨⟨_,g5,rfl⟩,Vd (f0:=.none) g5 ?_⟩
 rw [n1,n2,n3,n4] at *
 have I2:Inv X a_ σ H1 { s1 with heap:=qc k1 k2 s1.heap l1 l2 }:=I1.kept (t':=s1.toks) kp
 refine ⟨s1.heap.objs.size+4,[s1.heap.objs.size+4,s1.heap.objs.size+2,s1.heap.objs.size+3,s1.heap.objs.size,s1.heap.objs.size+1],_,_,H1,rfl,I2,aEA k1 k2 l1 l2 _ _ _ _ _ ?_,⟨g5,g3,⟨_,_,g4⟩,g1,g2⟩,λc hc=>?_,q⟩
 ·intro m1 m2 h1 h2
  have d:∀ i j:Nat,i≠j->s1.heap.objs.size+i≠s1.heap.objs.size+j:=λi j h=>by omega
  exact ⟨d 2 4 (by decide),d 3 4 (by decide),d 0 4 (by decide),d 1 4 (by decide),d 2 3 (by decide),d 2 0 (by decide),d 2 1 (by decide),d 3 0 (by decide),d 3 1 (by decide),d 0 1 (by decide),
   h1 _ (by simp),h1 _ (by simp),h1 _ (by simp),h1 _ (by simp),h2 _ (by simp),h2 _ (by simp),h2 _ (by simp),h2 _ (by simp)⟩
 ·have fu:s1.heap.objs.size<=c:=by
   simp only [Ql,Qp,or_false] at hc
   rcases hc with r | r | r | r | r
   ·rw [r]; exact Xs _ _
   ·rw [r]; exact Xs _ _
   ·rw [r]; exact Xs _ _
   ·rw [r]; exact Qh _
   ·rw [r]; exact Xs _ _
  exact I1.k8 fu (I1.fj.fresh fu)
open PySem.AutoSeq1 (wpAny_loadPart')
theorem mQ (l b:ae) (items BX:Array aa) (n n2:Nat) (dd xi:Option ae) (sl wu:Array (Option aa)) (qv:items.isEmpty=true) :
  Meets (ai.«tuple.__add__» ⟨[.ref l,.ref b],[]⟩) (λ_ R s=>s.heap.get? l=some { cls:=.type "tuple",dict:=dd,data:=.seq items n,slots:=sl }/\s.heap.get? b=some { cls:=.type "tuple",dict:=xi,data:=.seq BX n2,slots:=wu }/\R (.ok (.ret (aa.ref b))) s) :=
 .of_wp λprog w A R s h=>by
  obtain ⟨hp,g,d,tk,os⟩:=s
  obtain ⟨hl,hb,h⟩:=h
  have f1:=AutoSeq1.idx_int
  have f2:=AutoSeq1.sub_tuple_tuple
  wp_walk using Ru hl,Ru hb
  exact ⟨_,rfl,h⟩
theorem aGb:i7 X (binaryOp .Add) (λx y H Q=>∃ a b xs ys,x=.ref a/\y=.ref b/\d_ X.K H a xs/\d_ X.K H b ys/\xs.length+ys.length<=ak/\∀ p H',aD H H'->d_ X.K H' p (xs++ys)->Q (.ref p) H'):=by
 intro a_ s σ H x y v u Q I rx ry h
 obtain ⟨a,b,xs,ys,rfl,rfl,ha,hb,hz,q⟩:=h
 by_cases hx:xs = []
 ·subst hx
  cases rx
  cases ry
  obtain ⟨b_,r1,⟨⟨cls,dd,data,sl⟩,ho,hc,n,hd⟩,_⟩:=I.tuple ha
  obtain ⟨mn,r2,⟨⟨BQ,xi,data2,wu⟩,t9,qi,n2,hd2⟩,_⟩:=I.tuple hb
  simp only at hc hd qi hd2
  subst hc hd qi hd2
  cases r1
  exact Vo ⟨_,ho,rfl⟩ ⟨_,t9,rfl⟩ Vm Ie Up Uk (Ug _ _)
   (mQ a b _ _ n n2 dd xi sl wu rfl) ⟨ho,t9,⟨.ref b,H,I,rfl,q b H (aD.refl H) hb⟩⟩
 ·refine R9 a_ s σ H _ _ v u Q I rx ry ⟨a,b,xs,ys,rfl,rfl,ha,hb,hx,hz,λe=>?_,λe p hp=>?_⟩
  ·subst e
   exact q a H (aD.refl H) (by rw [Xq]; exact ha)
  ·exact q p _ (aD.new hp) (d_.of aB)
theorem mL {t:ae} {lo:Option Int} (ht:IsTup s.heap t items) (hs:s.heap.IsSliceOf sl vl vu .none) (pl:dj vl lo) (pu:dj vu hi) (hw:HT.gu items.size 0 lo=0/\HT.gu items.size items.size hi=items.size) (h:Q (.ref t) s):ag (ao prog w) A (cp (.ref t) (.ref sl)) Q E s:=by
 obtain ⟨os,A4,A_,ug⟩:=id hs
 have Hy:s.TypeIs (.ref sl) "slice" := ⟨os,A4,A_⟩
 unfold cp
 try with_reducible refine Rm ?_
 first | refine Ra (Rb ?_) | skip
 refine Ra (Rax ht.typeIs (by decide) ?_)
 refine Ra (Rg (name:=ax.ofString "__getitem__") ht.typeIs PyProof.Rows.slot_tuple_getitem
  (Ri PyProof.Rows.slot_tuple_getitem ht.typeIs Rap ?_ (Raq _ _)))
 refine Ra (m:=ai.Tuple.tupleItemsOf (.ref t)) (tupleItemsOf_ ht ?_)
 refine Ra (Vp Hy ?_)
 rw [if_pos (by decide)]
 refine Ra (HT.iw hs pl pu ?_)
 have K4:(((HT.gu items.size 0 lo:Nat):Int)==0 && (1:Int)==1 && (HT.gu items.size items.size hi - HT.gu items.size 0 lo)==items.size)=true:=by
  rw [hw.1,hw.2]; simp
 show ag _ _ (if (((HT.gu items.size 0 lo:Nat):Int)==0 && (1:Int)==1 && (HT.gu items.size items.size hi - HT.gu items.size 0 lo)==items.size)=true then _ else _) _ _ s
 rw [if_pos K4]
 unfold ai.Tuple.tupleIsExact
 refine Ra (Ra (Vp ht.typeIs (Rb ?_)))
 refine Tq (λ_=>Ra (Tu (Rb ⟨_,rfl,Rb h⟩))) (λui=>absurd (by rfl) ui)
theorem aGc:FZ X (λx lo hi H Q=>∃ a xs,x=.ref a/\d_ X.K H a xs/\∀ p H',aD H H'->d_ X.K H' p (rJ xs lo hi)->Q (.ref p) H'):=by
 intro a_ s σ H x v vl vu lo hi sl Q I rx hs pl pu h
 obtain ⟨a,xs,rfl,hx,q⟩:=h
 by_cases hw:HT.gu xs.length 0 lo=0/\HT.gu xs.length xs.length hi=xs.length
 ·cases rx
  obtain ⟨b_,r,ht,hz⟩:=I.tuple hx
  have hlen:b_.toArray.size=xs.length:=by rw [Qk]; exact r.length.symm
  refine ⟨"tuple",_,PyProof.Rows.slot_tuple_getitem.lookup,ht.typeIs,?_⟩
  refine mL ht hs pl pu (by rw [hlen]; exact hw) ⟨.ref a,H,I,rfl,q a H (aD.refl H) ?_⟩
  have e:rJ xs lo hi=xs:=by
   unfold rJ
   rw [hw.1,hw.2,Yv,Qaq,Jj]
  rw [e]; exact hx
 ·exact U? a_ s σ H _ v vl vu lo hi sl Q I rx hs pl pu ⟨a,xs,rfl,hx,hw,λp hp=>q p _ (aD.new hp) (d_.of aB)⟩
theorem xF (xs:List V) (k:Nat):rJ xs none (some (k:Int))=xs.take k:=by
 unfold rJ
 rw [HT.pz,HT.sr,Yv,Qaq]
 by_cases h:k<=xs.length
 ·rw [Nat.min_eq_left h]
 ·rw [Nat.min_eq_right (by omega),Jb (Qh _),Jb (by omega)]
theorem pR (xs:List V) (k:Nat):rJ xs (some (k:Int)) none=xs.drop k:=by
 unfold rJ
 rw [HT.pz,HT.sr]
 by_cases h:k<=xs.length
 ·rw [Nat.min_eq_left h,Jb (by rw [Jy]; exact Qh _)]
 ·rw [Nat.min_eq_right (by omega),Wl (Qh _),Wl (by omega),List.take_nil]
noncomputable def rP (N fm:List ax) (fr:List Nat):Bool:=fm.length==fr.length && (fm.zip fr).all λy=>N[y.2]?==some y.1
theorem zS (h1:X.env.scope=sc) (h2:X.N=N) (cf:∀ z0,z=some z0->(∀ (n:Nat) (cl:List (ax×ae)),cellsFrom n scope.names cl=(z0,n)::cl)/\∀ h:af,pushCells h scope.names=h.push { cls:=.type "cell",data:=.cell none }) (h:(jT sc scope z own fm && rP N fm fr)=true):fv X scope z own fr fm:=by
 rw [Jf] at h
 obtain ⟨ha,hb⟩:=h
 unfold rP at hb
 simp only [Jf,beq_iff_eq,Qy] at hb
 refine ⟨by rw [h1]; exact ha,λk x hk=>?_,hb.1.symm,cf⟩
 have ff:k < fr.length:=by rw [<- hb.1]; exact (Qb.mp hk).1
 refine ⟨fr[k],Qc ff,?_⟩
 have hm:(x,fr[k])∈fm.zip fr:=by
  refine Qe (i:=k) ?_
  rw [Qz]
  exact ⟨hk,Qc ff⟩
 rw [h2]
 exact hb.2 _ hm
theorem aY (sc:c7) (N:List ax) (h1:X.env.scope=sc) (h2:X.N=N) (h:(jT sc scope none own fm && rP N fm fr)=true):fv X scope none own fr fm:=zS h1 h2 (λ_ q=>by cases q) h
section
variable {own:Nat} {σ:St} {Q:Hp->List V->Prop}
theorem xG {a0:α} {EE:St} {Q:Hp->α->Prop} {tb:α->St->Hp->(α->St->Hp->Prop)->Prop} (n:Nat) (SH:St->Prop) (Pv:Nat->α->Hp->Prop) (jc:SH EE) (h0:Pv 0 a0 H) (ma:∀ a H,Pv n a H->J.stop n H) (A8:∀ i a H,i < n->Pv i a H->J.go i H) (hs:∀ i a σ x H H',i < n->SH σ->Pv i a H->J.qd i H x H'->g x σ H' λfg H2=>tt fg H2 λb H3=>if b=true then tb a fg H3 λa' ki H4=>SH ki/\Pv (i+1) a' H4 else SH fg/\Pv (i+1) a H3) (hd:∀ a H,Pv n a H->Q H a):j4 J a0 EE H (λa _ H=>Q H a) g tt tb:=by
 refine ⟨λi m ys e_ H=>m=n - i/\i<=n/\SH e_/\Pv i ys H,⟨n,by simp,Jl _,jc,h0⟩,?_⟩
 rintro i m ys e_ H ⟨rfl,hi,sh,p⟩
 by_cases ff:i < n
 ·refine .inr ⟨A8 i ys H ff p,λAJ fg H2=>SH fg/\Pv (i+1) AJ H2,λAJ fg H2 ⟨e,q⟩=>⟨n - (i+1),by omega,rfl,ff,e,q⟩,λx H' y=>?_⟩
  exact hs i ys e_ x H H' ff sh p y
 ·have e:i=n:=by omega
  subst e
  exact .inl ⟨ma ys H p,hd ys H p⟩
theorem lZ (n:Nat) (hn:n<=ak) (SH:St->Prop) (Pv:Nat->List V->Hp->Prop) (jc:SH (h_ own fr σ)) (h0:Pv 0 [] H) (hlen:∀ i ys H,Pv i ys H->ys.length<=i)
  (ma:∀ ys H,Pv n ys H->J.stop n H) (A8:∀ i ys H,i < n->Pv i ys H->J.go i H)
  (hs:∀ i ys σ x H H',i < n->SH σ->Pv i ys H->J.qd i H x H'->ys.length < ak->g x σ H' λfg H2=>tt fg H2 λb H3=>if b=true then te fg H3 λy H4=>ys.length < ak/\SH fg/\Pv (i+1) (ys++[y]) H4 else SH fg/\Pv (i+1) ys H3)
  (hd:∀ ys H,Pv n ys H->Q H ys) :
  j4 J [] (h_ own fr σ) H (λys _ H=>Q H ys) g tt (oq te) :=
 xG n SH Pv jc h0 ma A8 (λi ys σ x H H' hi sh p y=>hs i ys σ x H H' hi sh p y (by have:=hlen i ys H p; omega)) hd
theorem hV (SH:St->Prop) (Pv:Nat->List V->Hp->Prop) (hn:xs.length<=ak) (jc:SH (h_ own fr σ)) (h0:Pv 0 [] H) (hlen:∀ i ys H,Pv i ys H->ys.length<=i) (hl:∀ i ys H,Pv i ys H->d_ K H a xs) (hs:∀ i ys σ x H,xs[i]?=some x->SH σ->Pv i ys H->ys.length < ak->g x σ H λfg H2=>tt fg H2 λb H3=>if b=true then te fg H3 λy H4=>ys.length < ak/\SH fg/\Pv (i+1) (ys++[y]) H4 else SH fg/\Pv (i+1) ys H3) (hd:∀ ys H,Pv xs.length ys H->Q H ys) :
  j4 (Bw K a) [] (h_ own fr σ) H (λys _ H=>Q H ys) g tt (oq te):=by
 refine lZ xs.length hn SH Pv jc h0 hlen (λys H p=>⟨xs,hl _ _ _ p,Qh _⟩) (λi ys H hi p=>⟨xs,xs[i],hl _ _ _ p,Qc hi⟩) (λi ys σ x H H' hi sh p y hz=>?_) hd
 obtain ⟨e,y⟩:=y
 subst e
 exact hs i ys σ x _ (y xs (hl _ _ _ p)) sh p hz
theorem vS (SH:St->Prop) (Pv:Nat->List V->Hp->Prop) (hn:xs.length<=ak) (jc:SH (h_ own fr σ)) (h0:Pv 0 [] H) (hlen:∀ i ys H,Pv i ys H->ys.length<=i) (hl:∀ i ys H,Pv i ys H->fh K H a xs) (hs:∀ i ys σ x H,xs[i]?=some x->SH σ->Pv i ys H->ys.length < ak->g x σ H λfg H2=>tt fg H2 λb H3=>if b=true then te fg H3 λy H4=>ys.length < ak/\SH fg/\Pv (i+1) (ys++[y]) H4 else SH fg/\Pv (i+1) ys H3) (hd:∀ ys H,Pv xs.length ys H->Q H ys) :
  j4 (By K a) [] (h_ own fr σ) H (λys _ H=>Q H ys) g tt (oq te):=by
 refine lZ xs.length hn SH Pv jc h0 hlen (λys H p=>⟨xs,hl _ _ _ p,Qh _⟩) (λi ys H hi p=>⟨xs,xs[i],hl _ _ _ p,Qc hi⟩) (λi ys σ x H H' hi sh p y hz=>?_) hd
 obtain ⟨e,y⟩:=y
 subst e
 exact hs i ys σ x _ (y xs (hl _ _ _ p)) sh p hz
theorem gK {n:Nat} (SH:St->Prop) (Pv:Nat->List V->Hp->Prop) (hn:n<=ak) (jc:SH (h_ own fr σ)) (h0:Pv 0 [] H) (hlen:∀ i ys H,Pv i ys H->ys.length<=i) (hs:∀ i ys σ H,i < n->SH σ->Pv i ys H->ys.length < ak->g (.int (lo+i)) σ H λfg H2=>tt fg H2 λb H3=>if b=true then te fg H3 λy H4=>ys.length < ak/\SH fg/\Pv (i+1) (ys++[y]) H4 else SH fg/\Pv (i+1) ys H3) (hd:∀ ys H,Pv n ys H->Q H ys) :
  j4 (Bx lo n) [] (h_ own fr σ) H (λys _ H=>Q H ys) g tt (oq te):=by
 refine lZ n hn SH Pv jc h0 hlen (λys H p=>Qh _) (λi ys H hi p=>hi) (λi ys σ x H H' hi sh p y hz=>?_) hd
 obtain ⟨e,y⟩:=y
 subst e y
 exact hs i ys σ _ hi sh p hz
theorem aEB (SH:St->Prop) (Pv:Nat->List V->Hp->Prop) (hn:xs.length<=ak) (heq:xs.length=ys.length) (jc:SH (h_ own fr σ)) (h0:Pv 0 [] H) (hlen:∀ i zs H,Pv i zs H->zs.length<=i) (hl:∀ i zs H,Pv i zs H->i9 k1 K H a xs/\i9 k2 K H b ys) (hs:∀ i zs σ x y p H,xs[i]?=some x->ys[i]?=some y->SH σ->Pv i zs H->H p=none->zs.length < ak->g (.ref p) σ (upd H p (.tup [x,y])) λfg H2=>tt fg H2 λc H3=>if c=true then te fg H3 λy H4=>zs.length < ak/\SH fg/\Pv (i+1) (zs++[y]) H4 else SH fg/\Pv (i+1) zs H3) (hd:∀ zs H,Pv xs.length zs H->Q H zs) :
  j4 (yo K k1 k2 a b) [] (h_ own fr σ) H (λys _ H=>Q H ys) g tt (oq te):=by
 refine lZ xs.length hn SH Pv jc h0 hlen (λzs H p=>⟨xs,ys,(hl _ _ _ p).1,(hl _ _ _ p).2,by rw [<- heq,Qar]⟩) (λi zs H hi p=>⟨xs,ys,xs[i],ys[i]'(by omega),(hl _ _ _ p).1,(hl _ _ _ p).2,Qc hi,Qc (by omega)⟩) (λi zs σ v H H' hi sh p y hz=>?_) hd
 obtain ⟨q,hq,rfl,hy⟩:=y
 obtain ⟨x,y,h1,h2,rfl⟩:=hy xs ys (hl _ _ _ p).1 (hl _ _ _ p).2
 exact hs i zs σ x y q H h1 h2 sh p hq hz
end
theorem eU:i7 X (bc .IsNot) (λx y H Q=>∃ b c,x=.bl b/\y=.bl c/\Q (.bl (!decide (b=c))) H):=by
 intro a_ s σ H x y v u Q I rx ry h
 obtain ⟨b,c,rfl,rfl,q⟩:=h
 cases rx
 cases ry
 refine isnot_bool (bS I q ?_)
 cases b <;> cases c <;> rfl
theorem zT {f g:α->Option β}:∀ {l:List α},(∀ x∈l,f x=g x)->l.filterMap f=l.filterMap g
 | [],_=>rfl
 | x::r,h=>by rw [Zh,Zh,h x (Qi ..),zT λy hy=>h y (Qg _ hy)]
theorem aEC (xs:Array aa):((List.range xs.size).filterMap λ(k:Nat)=>xs[((xs.size:Int) - 1+(k:Int)*(-1)).toNat]?).toArray=xs.toList.reverse.toArray:=by
 have h:=HT.p_ xs.toList.reverse.toArray 0 xs.size
 have e:(List.range xs.size).filterMap (λ(k:Nat)=>xs[((xs.size:Int) - 1+(k:Int)*(-1)).toNat]?)=(List.range xs.size).filterMap (λ(m:Nat)=>xs.toList.reverse.toArray[(((0:Nat):Int)+(m:Int)*1).toNat]?):=by
  refine zT λk hk=>?_
  have Hk:=Jm.mp hk
  have h1:((xs.size:Int) - 1+(k:Int)*(-1)).toNat=xs.size - 1 - k:=by omega
  have h2:(((0:Nat):Int)+(k:Int)*1).toNat=k:=by omega
  rw [h1,h2]
  simp only [List.getElem?_toArray]
  rw [List.getElem?_reverse (by simpa using Hk)]
  simp
 rw [e,h]
 congr 1
 rw [Yv,Jb (by simp)]
noncomputable def Vw (S:List ae) (H:Hp):Hp:=λb=>if b∈S then none else H b
theorem Vw.out {S:List ae} (n:b∉S):Vw S H b=H b:=by unfold Vw; rw [if_neg n]
theorem Vw.keep {S:List ae} (e:∀ b o,b∉S->H b=some o->H' b=some o):aD (Vw S H) (Vw S H'):=λb o h=>by
 by_cases z:b∈S
 ·unfold Vw at h; rw [if_pos z] at h; cases h
 ·rw [Vw.out z] at h ⊢; exact e b o z h
theorem Vw.same {S:List ae} (e:aD H H'):aD (Vw S H) (Vw S H'):=Vw.keep λb o _ h=>e b o h
section
variable {S:List ae}
def Dn (K:Rc) (S:List ae) (H:Hp) (x:V):Prop:=∃ d,Den K (Vw S H) d x
def DT (K:Rc) (S:List ae) (n:Nat) (H:Hp) (x:V):Prop:=∃ a xs,x=.ref a/\d_ K (Vw S H) a xs/\xs.length<=n/\∀ y∈xs,Dn K S H y
def II (_:Hp) (x:V):Prop:=∃ i,x=.int i
class Mo (R:Hp->V->Prop):Prop where
 mo:∀ {H H':Hp} {v:V},aD H H'->R H v->R H' v
theorem Dn.keep {x:V} (h:Dn K S H x) (e:aD (Vw S H) (Vw S H')):Dn K S H' x:=let ⟨d,h⟩:=h; ⟨d,e.den _ _ h⟩
theorem Dn.same {x:V} (h:Dn K S H x) (e:aD H H'):Dn K S H' x:=h.keep (Vw.same e)
theorem DT.keep {n:Nat} {x:V} (h:DT K S n H x) (e:aD (Vw S H) (Vw S H')):DT K S n H' x:=let ⟨a,xs,h1,h2,h3,h4⟩:=h; ⟨a,xs,h1,e.d0 h2,h3,λy hy=>(h4 y hy).keep e⟩
theorem DT.same {n:Nat} {x:V} (h:DT K S n H x) (e:aD H H'):DT K S n H' x:=h.keep (Vw.same e)
instance:Mo (Dn K S):=⟨λe h=>Dn.same h e⟩
instance {n:Nat}:Mo (DT K S n):=⟨λe h=>DT.same h e⟩
instance:Mo II:=⟨λ_ h=>h⟩
variable {σ:St} {R R':Hp->V->Prop} {tb:TE} {t:TA} {tl th:TO}
def JV (K:Rc):R2:=λx y H Q=>∃ a b xs ys,x=.ref a/\y=.ref b/\d_ K H a xs/\d_ K H b ys/\xs.length+ys.length<=ak/\∀ p H',aD H H'->d_ K H' p (xs++ys)->Q (.ref p) H'
theorem oB (hK:X.K=K):i7 X (binaryOp .Add) (JV K):=by subst hK; exact aGb
def JF (K:Rc):V->Option Int->Option Int->Hp->VK->Prop:=λx lo hi H Q=>∃ a xs,x=.ref a/\d_ K H a xs/\∀ p H',aD H H'->d_ K H' p (rJ xs lo hi)->Q (.ref p) H'
theorem jV (hK:X.K=K):FZ X (JF K):=by subst hK; exact aGc
instance {a:ae} {xs:List V}:Mo (λH v=>v=.ref a/\d_ K H a xs):=⟨λe h=>⟨h.1,e.d0 h.2⟩⟩
instance {x:V}:Mo (λ_ v=>v=x):=⟨λ_ h=>h⟩
end
open PySem.AutoSeq1 (wpAny_loadPart')
theorem nf {b:Bool} (h:b=false):decide (b=true)=false:=by rw [h]; rfl
theorem nt {b:Bool} (h:b=true):decide (b=true)=true:=by rw [h]; rfl
theorem sQ (l:ae) (items:Array aa) (n:Nat) (dd:Option ae) (sl:Array (Option aa)) (x:Int) (u:dc) (h1:1 < x) (h2:x<=1000) (f':items.isEmpty=false) (hz:items.size<=1000) :
  Meets (ai.«tuple.__mul__» ⟨[.ref l,.int x u],[]⟩) (λ_ R s=>s.heap.get? l=some { cls:=.type "tuple",dict:=dd,data:=.seq items n,slots:=sl }/\R (.ok (.ret (aa.ref s.heap.objs.size))) { s with heap:=s.heap.push { cls:=aa.type "tuple",data:=Data.seq (List.foldl (λx1 x2=>x1++x2) #[] (List.replicate x.toNat items)) },toks:=s.toks }) :=
 .of_wp λprog w A R s h=>by
  obtain ⟨hp,g,d,tk,os⟩:=s
  obtain ⟨hl,h⟩:=h
  have f1:=AutoSeq1.idx_int
  have f2:=AutoSeq1.sub_tuple_tuple
  wp_walk using Ru hl
  refine Vh (nf (show (decide (x < -2^63) || decide (x≥2^63))=false from by rw [decide_eq_false (show ¬ x < -2^63 by omega),decide_eq_false (show ¬ x≥2^63 by omega)]; rfl)) ?_
  wp_walk using Ru hl
  refine Vh (nf (show (items.isEmpty || x==1)=false from by rw [f',beq_eq_false_iff_ne.mpr (show x≠1 by omega)]; rfl)) ?_
  wp_walk using Ru hl
  refine Vh (nf (show (decide (x<=0) || items.isEmpty)=false from by rw [f',decide_eq_false (show ¬ x<=0 by omega)]; rfl)) ?_
  wp_walk using Ru hl
  have hm:(items.size:Int)*x<=1000*1000:=Int.mul_le_mul (by omega) h2 (by omega) (by omega)
  refine Vh (decide_eq_false (show ¬ (items.size:Int)*x > (2^63 - 1) / 8 by omega)) ?_
  wp_walk using Ru hl
  refine Vh (nf (show decide ((items.size:Int)*x > (ak:Int))=false from decide_eq_false (by rw [Rf]; omega))) ?_
  have hsz:¬ (List.foldl (λx1 x2=>x1++x2) #[] (List.replicate x.toNat items)).size > ak:=by
   have e:=lY items.toList x.toNat []
   rw [Zr] at e
   have e2:List.foldl (λx1 x2=>x1++x2) #[] (List.replicate x.toNat items)=(List.replicate x.toNat items.toList).flatten.toArray:=e
   rw [e2,Qk,xC,Array.length_toList,Rf]
   have:x.toNat*items.size<=1000*1000:=Nat.mul_le_mul (by omega) hz
   omega
  wp_walk using Ru hl
  exact ⟨_,rfl,h⟩
theorem pS:fillsNumberSlot (.type "tuple") "mul" = pure false :=
 PySem.fillsNumberSlot_seq (id := "tuple.__mul__") (r:=some (.builtin "tuple.__rmul__")) PySem.F.slot_tuple_mul.lookup (by decide +kernel) PySem.F.slot_tuple_rmul.lookup (by decide +kernel)
theorem xH:seqRepeat? (.type "tuple")=pure (some (.builtin "tuple.__mul__")):=by
 unfold seqRepeat?
 rw [Raf (T := "tuple") (name := "__mul__") (id := "tuple.__mul__") PySem.F.slot_tuple_mul.lookup (by decide +kernel),Raf (T := "tuple") (name := "__rmul__") (id := "tuple.__rmul__") PySem.F.slot_tuple_rmul.lookup (by decide +kernel)]
 rfl
theorem sR (a:Int) (t:dc) (l:ae) (items:Array aa) (n:Nat) (dd:Option ae) (sl:Array (Option aa)) :
  Meets (ai.«int.__rmul__» ⟨[.int a t,.ref l],[]⟩) (λ_ R s=>s.heap.get? l=some { cls:=.type "tuple",dict:=dd,data:=.seq items n,slots:=sl }/\R (.ok (.ret aa.notImplemented)) s) :=
 .of_wp λprog w A R s h=>by
  obtain ⟨hp,g,d,tk,os⟩:=s
  obtain ⟨hl,h⟩:=h
  wp_walk using Ru hl
  exact ⟨_,rfl,h⟩
section
variable {σ:St}
end
section
variable {S:List ae} {E E':Hp->V->Prop}
def DTe (K:Rc) (S:List ae) (E:Hp->V->Prop) (n:Nat) (H:Hp) (x:V):Prop:=∃ a xs,x=.ref a/\d_ K (Vw S H) a xs/\xs.length<=n/\∀ y∈xs,E H y
def LTe (S:List ae) (E:Hp->V->Prop) (n:Nat) (H:Hp) (x:V):Prop:=∃ a xs,x=.ref a/\Vw S H a=some (.lst xs)/\xs.length<=n/\∀ y∈xs,E H y
instance {n:Nat} [m:Mo E]:Mo (DTe K S E n):=⟨λe ⟨a,xs,h1,h2,h3,h4⟩=>⟨a,xs,h1,(Vw.same e).d0 h2,h3,λy hy=>m.mo e (h4 y hy)⟩⟩
instance {n:Nat} [m:Mo E]:Mo (LTe S E n):=⟨λe ⟨a,xs,h1,h2,h3,h4⟩=>⟨a,xs,h1,Vw.same e _ _ h2,h3,λy hy=>m.mo e (h4 y hy)⟩⟩
variable {σ:St} {tb:TE} {t:TA} {tl th:TO}
end
section
variable {env:c8} {kU:List bq} {k:Nat} {a b c:bq}
end
theorem aBj {z0:ax} (sc:c7) (N:List ax) (h1:X.env.scope=sc) (h2:X.N=N) (cf:∀ (n:Nat) (cl:List (ax×ae)),cellsFrom n scope.names cl=(z0,n)::cl) (pc:∀ h:af,pushCells h scope.names=h.push { cls:=.type "cell",data:=.cell none }) (h:(jT sc scope (some z0) own fm && rP N fm fr)=true):fv X scope (some z0) own fr fm :=
 zS h1 h2 (λ_ q=>by cases q; exact ⟨cf,pc⟩) h
noncomputable def Pg (scope sc:c7):c7:={ scope with names:=scope.names.map λ(n,k)=>if (k==bj.free && sc.kind==.function && sc.names.lookup n==some .cell) then (n,bj.cell) else (n,k) }
theorem aC6 (hc:X.calm=true):eV X (.builtin "min") (λxs H Q=>∃ (p:ae) (ns:List Int),xs = [.ref p]/\fh X.K H p (ns.map V.int)/\0 < ns.length/\∀ M,M∈ns->(∀ a∈ns,M<=a)->Q (.int M) H):=by
 intro a_ s σ H xs us Q I r h
 obtain ⟨p,ns,rfl,hx,f',q⟩:=h
 obtain ⟨u,rfl,rx⟩:=fY r
 cases rx
 obtain ⟨b_,rv,pl,hz⟩:=I.list hx
 have hi:IntsAre b_ ns:=iR rv
 obtain ⟨xs,e⟩:=hi.allInts.items
 have nj:ns=xs.toList.map (·.1):=by
  rw [<- hi.numsOf,<- nums_intItems,<- e]
 have hsz:0 < xs.size:=by
  have h3:=f'; rw [nj,Qa,Array.length_toList] at h3; exact h3
 have hl:=pl.isList
 rw [e] at hl
 refine min_intList (I.ok.hd hc) hl hsz λv h' tk hv hk=>?_
 obtain ⟨t,rfl⟩:=intItems_at hv
 obtain ⟨h1,h2⟩:=Rar (numAt xs) (xs.size - 1)
 refine ⟨.int _,H,I.kept hk,⟨_,rfl⟩,q _ ?_ λa ha=>?_⟩
 ·rw [nj,numAt_eq]; exact getD_mem (by rw [Qa,Array.length_toList]; omega)
 ·rw [nj] at ha
  obtain ⟨j,hj,rfl⟩:=mem_getD ha
  rw [Qa,Array.length_toList] at hj
  rw [<- numAt_eq]; exact h2 j (by omega)
theorem z?:ay "min" = some (.builtin "min"):=by decide +kernel
theorem xI {σ:St} (Pv:Nat->St->Hp->Prop) (heq:xs.length=ys.length) (h0:Pv 0 σ H) (hl:∀ i σ H,i<=xs.length->Pv i σ H->i9 k1 K H a xs/\i9 k2 K H b ys) (hs:∀ i x y p σ H,xs[i]?=some x->ys[i]?=some y->Pv i σ H->H p=none->g (.ref p) σ (upd H p (.tup [x,y])) λfg H2=>tb { D with nx:=Pv (i+1),ct:=Pv (i+1),bk:=D.nx } fg H2) (hd:∀ σ H,Pv xs.length σ H->D.nx σ H) :
  ∃ W:Nat->Nat->St->Hp->Prop,(∃ m,W 0 m σ H)/\∀ i m σ H,W i m σ H ->
   ((yo K k1 k2 a b).stop i H/\D.nx σ H)∨((yo K k1 k2 a b).go i H/\∃ N:St->Hp->Prop,(∀ e_ H',N e_ H'->∃ m',m' < m/\W (i+1) m' e_ H')/\∀ x H',(yo K k1 k2 a b).qd i H x H'->g x σ H' λfg H2=>tb { D with nx:=N,ct:=N,bk:=D.nx } fg H2):=by
 refine ⟨λi m σ H=>m=xs.length - i/\i<=xs.length/\Pv i σ H,⟨xs.length,by simp,Jl _,h0⟩,?_⟩
 rintro i m σ H ⟨rfl,hi,p⟩
 obtain ⟨q1,q2⟩:=hl i σ H hi p
 by_cases ff:i < xs.length
 ·refine .inr ⟨⟨xs,ys,xs[i],ys[i]'(by omega),q1,q2,Qc ff,Qc (by omega)⟩,Pv (i+1),λe_ H' p'=>⟨xs.length - (i+1),by omega,rfl,ff,p'⟩,λx H' y=>?_⟩
  obtain ⟨z,hz,rfl,hy⟩:=y
  obtain ⟨x,y,h1,h2,rfl⟩:=hy xs ys q1 q2
  exact hs i x y z σ _ h1 h2 p hz
 ·have e:i=xs.length:=by omega
  subst e
  exact .inl ⟨⟨xs,ys,q1,q2,by rw [<- heq,Qar]⟩,hd σ H p⟩
theorem bJ.zl {o:HO} (x:bJ P w H h a o):∃ ob,h.get? a=some ob:=by
 cases o with
 | lst xs=>obtain ⟨_,_,_,_,e⟩:=x; exact ⟨_,e⟩
 | tup xs=>obtain ⟨_,_,_,_,e⟩:=x; exact ⟨_,e⟩
 | dK kvs=>obtain ⟨_,_,_,_,o,_,_,e,_⟩:=x; exact ⟨_,e⟩
 | dT kvs=>obtain ⟨_,_,_,_,o,_,_,e,_⟩:=x; exact ⟨_,e⟩
 | set S n=>obtain ⟨o,_,_,_,e,_⟩:=x; exact ⟨_,e⟩
 | ins C dx fs=>obtain ⟨_,_,_,e,_⟩:=x; exact ⟨_,e⟩
 | own y=>obtain ⟨_,e⟩:=x; exact ⟨_,e⟩
 | xd fs=>obtain ⟨_,⟨_,_,_,e,_⟩,_⟩:=x; exact ⟨_,e⟩
 | ow lo hi=>obtain ⟨_,_,_,e⟩:=x; exact ⟨_,e⟩
 | gh ob u=>obtain ⟨e,_⟩:=x; exact ⟨_,e⟩
 | zu ps=>exact ⟨_,(show h.get? a=some _ from x)⟩
 | tab q=>obtain ⟨_,e,_⟩:=x; exact ⟨_,e⟩
 | met f y=>exact ⟨_,(show h.get? a=some _ from x)⟩
 | ext φ=>obtain ⟨_,⟨_,e⟩,_⟩:=x; exact ⟨_,e⟩
section
variable {cd:aa} {outer:List c8} {s0:ah} {E:XK}
end
noncomputable abbrev kj:List aa:=[.type "ValueError",.type "Exception",.type "BaseException",.type "object"]
noncomputable def xo:List ax:=["__init__", "__getattribute__", "__getattr__", "__class__"]
inductive me (h:af) (xk:List aa):List aa->Prop
 | base:me h xk xk
 | own {A:ae} {c0:aa} {dd:Option ae} {cd:ClassData} {sl:Array (Option aa)} {mA:ax->Option aa} {tl:List aa} :
   h.get? A=some { cls:=c0,dict:=dd,data:=.cls cd,slots:=sl }->h.Ns cd.ns mA->(∀ n∈xo,mA n=none)->me h xk tl->me h xk (.ref A::tl)
theorem me.tail {xk tl:List aa} (T:me h xk tl):OwnTail h xk tl:=by
 induction T with
 | base=>exact .base
 | own hA hN hq _ ih=>exact .own hA hN (hq _ (.head _)) ih
def my (h:af) (C:ae) (bm:List aa):Prop:=∃ N nm q bs j5 sn sub ab col dd k0 k1 k2 k3 k5 mN,h.get? C=some (excClassObj nm q C N bs bm j5 sn sub ab col dd k0 k1 k2 k3 k5 "ValueError.__new__")/\h.Ns N mN/\(∀ n∈xo,mN n=none)/\me h kj bm
section
variable {g:Array GenState} {d:Drawn} {t:Nat} {os:OsState}
theorem aGd {xk tl:List aa} {n:ax} {y:Option aa} {Q:Option aa->ah->Prop} (hn:n∈xo) (T:me h xk tl) (sg:lookupAlong xk n=pure y) (hq:Q y ⟨h,g,d,t,os⟩) :
  ag M A (lookupAlong tl n) Q E ⟨h,g,d,t,os⟩:=by
 induction T with
 | base=>rw [sg]; exact Rb hq
 | own hA hN WM _ ih =>
  rw [RaB]
  refine Ra (wpAny_classOwn_cls hA hN ?_)
  rw [WM n hn]
  exact ih
theorem JZ {n:ax} {y:Option aa} {Q:Option aa->ah->Prop} (hn:n∈xo) (x:my h C bm) (hB:typeLookup (.type "ValueError") n=pure y) (hq:Q y ⟨h,g,d,t,os⟩):ag M A (typeLookup (.ref C) n) Q E ⟨h,g,d,t,os⟩:=by
 obtain ⟨N,nm,q,bs,j5,sn,sub,ab,col,dd,k0,k1,k2,k3,k5,mN,hC,hN,He,T⟩:=x
 have sg:lookupAlong kj n=pure y:=by rw [typeLookup_eq,PySem.F.excBase_ValueError.mroIs] at hB; exact hB
 rw [typeLookup_eq]
 refine Ra (wpAny_mroOf_exc hC ?_)
 rw [RaB]
 refine Ra (wpAny_classOwn_exc hC hN ?_)
 rw [He n hn]
 exact aGd hn T sg hq
theorem zU:typeLookup (.type "ValueError") "__class__" = pure (some (.builtin "object.__class__")):=by rw [Mu,Vu]; kernel_rfl
theorem zV {base:aa} {Q:Bool->ah->Prop} (x:my h C bm) (hq:Q ((aa.ref C::bm).contains base) ⟨h,g,d,t,os⟩):ag M A (isSubtype (.ref C) base) Q E ⟨h,g,d,t,os⟩:=by
 obtain ⟨N,nm,q,bs,j5,sn,sub,ab,col,dd,k0,k1,k2,k3,k5,mN,hC,hN,He,T⟩:=x
 exact wpAny_isSubtype_exc hC hq
theorem my.has (x:my h C bm) (hb:kj.contains (.type T)=true):(aa.ref C::bm).contains (.type T)=true:=by
 obtain ⟨N,nm,q,bs,j5,sn,sub,ab,col,dd,k0,k1,k2,k3,k5,mN,hC,hN,He,TT⟩:=x
 rw [Yc,TT.tail.hasType hb,Bool.or_true]
theorem zW (x:my h C bm) (hx:h.get? a=some o) (hc:o.cls=.ref C) (hq:R (.ok (.ret (.ref C))) ⟨h,g,d,t,os⟩) :
  codeAny (ao prog w) A (.call (.builtin "getset_descriptor.__get__") ⟨[.builtin "object.__class__",.ref a,.ref C],[]⟩) R ⟨h,g,d,t,os⟩:=by
 have NH:(⟨h,g,d,t,os⟩:ah).TypeIs (.builtin "object.__class__") "getset_descriptor" := Vb
 have Ht:(aa.ref C::bm).contains (.type (".".intercalate ("object.__class__".cutAt '.').dropLast))=true:=by
  rw [PySem.F.owner_object_class]; exact x.has (by decide +kernel)
 refine Vg PySem.F.slot_gs_get.plain PySem.F.entry_gs_get (PySem.F.slot_gs_get.check _ _ _ _ _ _ _ _ NH (PySem.F.args_gs_get _ _ _) ?_)
 repeat (any_goals (first | assumption | (with_reducible refine Rw hx ?_; rw [hc]) | (with_reducible refine zV x ?_; rw [Ht]) | wp_step))
 refine ⟨Code.quiet_builtin _ (by decide +kernel),Ti PySem.F.entry_object_class ?_⟩
 repeat (any_goals (first | assumption | (with_reducible refine Rw hx ?_; rw [hc]) | wp_step))
theorem uW {tk:dc} {Q:PySem.Fin->ah->Prop} (x:my h C bm) (hx:h.get? a=some o) (hc:o.cls=.ref C) (hq:Q (.done (.ret (.ref C))) ⟨h,g,d,t,os⟩) :
  ag (ao prog w) A (ai.«object.__getattribute__» ⟨[.ref a,.str "__class__" tk],[]⟩) Q E ⟨h,g,d,t,os⟩:=by
 have NH:(⟨h,g,d,t,os⟩:ah).TypeIs (.builtin "object.__class__") "getset_descriptor" := Vb
 have f5:=Vb
 have f6:=PySem.F.slot_gs_get.lookup
 have f7:=PySem.F.slot_gs_set.lookup
 have hm:("__class__" : ax)∈xo:=.tail _ (.tail _ (.tail _ (.head _)))
 repeat (any_goals (first | assumption | (with_reducible refine Rw hx ?_; rw [hc]) | with_reducible refine JZ hm x zU ?_ | wp_step))
 refine zW x hx hc ?_
 repeat (any_goals (first | assumption | wp_step))
theorem aBl {Ay:aa} {Q:Unit->ah->Prop} (x:my h C bm) (hx:h.get? a=some o) (hc:o.cls=.ref C) (hq:Q () ⟨h,g,d,t,os⟩):ag M A (checkBuiltinCall "BaseException.__getattribute__" ⟨[.ref a,Ay],[]⟩) Q E ⟨h,g,d,t,os⟩:=by
 have hk:builtinKind "BaseException.__getattribute__" = some .slot:=by decide +kernel
 have BZ:splitId "BaseException.__getattribute__" = some ("BaseException", "__getattribute__"):=by decide +kernel
 have Ht:(aa.ref C::bm).contains (.type "BaseException")=true:=x.has (by decide +kernel)
 have ha:=PySem.F.args_bexc_ga (.ref a) Ay
 simp only [checkBuiltinCall,hk,BZ]
 refine Ra ?_
 ·unfold isInstance
  repeat (first | (with_reducible refine Rw hx ?_; rw [hc]) | (with_reducible refine zV x ?_; rw [Ht]) | wp_step)
  exact hq
theorem aBm {tk:dc} (x:my h C bm) (hx:h.get? a=some o) (hc:o.cls=.ref C) (hq:Q (.ref C) ⟨h,g,d,t,os⟩):ag (ao prog w) A (getAttrBy (.ref a) (.str "__class__" tk) false) Q E ⟨h,g,d,t,os⟩:=by
 have FB:=PySem.F.attrBase_ValueError
 have f3:=FB.ga.bind (.ref a)
 have GV:(aa.builtin "BaseException.__getattribute__" == aa.builtin "object.__getattribute__")=false:=by decide +kernel
 have A0:(onTheHeap (aa.ref C) && aa.builtin "BaseException.__getattribute__" == aa.builtin "object.__getattribute__")=false:=by rw [GV]; rfl
 have WQ:("__getattribute__" : ax)∈xo:=.tail _ (.head _)
 have Hf:("__getattr__" : ax)∈xo:=.tail _ (.tail _ (.head _))
 repeat (any_goals (first | assumption | (with_reducible refine Rw hx ?_; rw [hc]) | with_reducible refine JZ WQ x FB.ga.lookup ?_ | with_reducible refine JZ Hf x FB.noGetattr ?_ | wp_step))
 refine Vg FB.ga.plain PySem.F.entry_bexc_ga (aBl x hx hc (uW x hx hc ?_))
 repeat (any_goals (first | assumption | wp_step))
theorem xJ {Q:Option aa->ah->Prop} (x:my h C bm) (hx:h.get? a=some o) (hc:o.cls=.ref C) (hq:Q (some (.ref C)) ⟨h,g,d,t+1,os⟩):ag (ao prog w) A (getAttr? (.ref a) "__class__") Q E ⟨h,g,d,t,os⟩:=by
 unfold getAttr? getAttrBy?
 repeat (any_goals (first | assumption | with_reducible apply aBm x hx hc | wp_step))
theorem aGe {ux:Option ae} {Z1:ClassData} {Gg:Array (Option aa)} (x:my h C bm) (hx:h.get? a=some o) (hc:o.cls=.ref C) (Bg:h.get? C'=some { cls:=.type "type",dict:=ux,data:=.cls Z1,slots:=Gg }) (hq:∀ t',Q (.bool ((aa.ref C::bm).contains (.ref C'))) ⟨h,g,d,t',os⟩):ag (ao prog w) A (call (.builtin "isinstance") [.ref a,.ref C']) Q E ⟨h,g,d,t,os⟩:=by
 have f3:=tc_sub
 have Ft:(⟨h,g,d,t,os⟩:ah).TypeIs (.ref C') "type" := ⟨_,Bg,rfl⟩
 obtain ⟨N,nm,q,bs,j5,sn,sub,ab,col,dd,k0,k1,k2,k3,k5,mN,hC,_⟩:=id x
 refine PyProof.Rows.call_isinstance_of ?_ (by intro e; cases e)
 by_cases e:C=C'
 ·subst e
  have hb:(aa.ref C::bm).contains (.ref C)=true:=by simp
  rw [hb] at hq
  unfold ai.«isinstance.nested»
  repeat (any_goals (first | assumption | (with_reducible refine Rw hx ?_; rw [hc]) | wp_step))
  exact hq _
 ·have f':(aa.ref C==aa.ref C')=false:=by simp [e]
  cases hb:(aa.ref C::bm).contains (.ref C') with
  | true =>
   rw [hb] at hq
   unfold ai.«isinstance.nested»
   repeat (any_goals (first | assumption | (with_reducible refine Rw hx ?_; rw [hc]) | (with_reducible refine Rw Bg ?_) | (with_reducible refine zV x ?_; rw [hb]) | wp_step))
   exact hq _
  | false =>
   rw [hb] at hq
   have hTC:∀ t',(⟨h,g,d,t',os⟩:ah).TypeIs (.ref C) "type" := λ_=>⟨_,hC,rfl⟩
   unfold ai.«isinstance.nested»
   repeat (any_goals (first | assumption | (with_reducible refine Rw hx ?_; rw [hc]) | (with_reducible refine Rw Bg ?_) | (with_reducible refine zV x ?_; rw [hb]) | with_reducible refine xJ x hx hc ?_ | (with_reducible refine Rw hC ?_) | wp_step))
   exact hq _
theorem T! (x:my h C bm) (hx:h.get? a=some o) (hc:o.cls=.ref C) (hq:∀ t',Q (.bool true) ⟨h,g,d,t',os⟩):ag (ao prog w) A (call (.builtin "isinstance") [.ref a,.type "ValueError"]) Q E ⟨h,g,d,t,os⟩:=by
 have f3:=tc_sub
 have Fb:typeOf (.type "ValueError")=pure (.type "type"):=by kernel_rfl
 have f':(aa.ref C==aa.type "ValueError")=false:=by rfl
 have hb:(aa.ref C::bm).contains (.type "ValueError")=true:=x.has (by decide +kernel)
 refine PyProof.Rows.call_isinstance_of ?_ (by intro e; cases e)
 unfold ai.«isinstance.nested»
 repeat (any_goals (first | assumption | (with_reducible refine Rw hx ?_; rw [hc]) | (with_reducible refine zV x ?_; rw [hb]) | wp_step))
 exact hq _
end
noncomputable def i_ (C a:ae):HO:=.ext λh=>∃ o,h.get? a=some o/\o.cls=.ref C
theorem Inv.OX {σ:St} (I:Inv X a_ σ H s) (h:H a=some (i_ C a)):∃ o,s.heap.get? a=some o/\o.cls=.ref C:=(I.fj a _ h).1
theorem oC (hK:X.K=K) (Bg:∀ h:af,K.In h->∃ dd cd sl,h.get? C'=some { cls:=.type "type",dict:=dd,data:=.cls cd,slots:=sl }) :
  eV X (.builtin "isinstance") (λxs H Q=>∃ a C bm,xs = [.ref a,.ref C']/\H a=some (i_ C a)/\(∀ h:af,K.In h->my h C bm)/\Q (.bl ((aa.ref C::bm).contains (.ref C'))) H):=by
 subst hK
 intro a_ s σ H xs us Q I r h
 obtain ⟨a,C,bm,rfl,hH,hE,q⟩:=h
 obtain ⟨u,t,rfl,rx,rt⟩:=nX r
 cases rx
 cases rt
 obtain ⟨o,ho,hc⟩:=I.OX hH
 obtain ⟨dd,cd,sl,h2⟩:=Bg _ I.rh
 obtain ⟨hh,g,d,tk,os⟩:=s
 exact aGe (hE _ I.rh) ho hc h2 λt'=>⟨.bl _,H,I.tok _,rfl,q⟩
theorem zX (hK:X.K=K) :
  eV X (.builtin "isinstance") (λxs H Q=>∃ a C bm,xs = [.ref a,.ty "ValueError"]/\H a=some (i_ C a)/\(∀ h:af,K.In h->my h C bm)/\Q (.bl true) H):=by
 subst hK
 intro a_ s σ H xs us Q I r h
 obtain ⟨a,C,bm,rfl,hH,hE,q⟩:=h
 obtain ⟨u,t,rfl,rx,rt⟩:=nX r
 cases rx
 cases rt
 obtain ⟨o,ho,hc⟩:=I.OX hH
 obtain ⟨hh,g,d,tk,os⟩:=s
 exact T! (hE _ I.rh) ho hc λt'=>⟨.bl _,H,I.tok _,rfl,q⟩
section
variable {l:List c8} {E:XK} {T:ae}
end
section
variable {σ:St} {E:XK} {e:aa} {F:aa->ah->Prop} {L:ae}
theorem Inv.BS {D:ae} {u:HO} (I:Inv X a_ σ H s) (new:bJ X.prog X.w (upd H D u) s.heap D u) (hn:H D=none) (hL:D≠X.env.locals)
  (h1:X.jm.heap.get? D=none) (h2:∀ x c,X.env.cells.lookup x=some c->c≠D) (h3:∀ p∈X.pn++a_,p.1≠D):Inv X a_ σ (upd H D u) s:=by
 have ne:∀ b v,H b=some v->b≠D:=λb v e z=>by rw [z,hn] at e; cases e
 refine ⟨I.ok,I.os,I.bare,⟨I.base.keep,I.base.slot,λb o q n hx=>?_,I.base.there,λb xs q=>?_,λb o v q=>?_,λb ps q=>?_⟩,I.loc,I.cell,?_,λx c q=>?_,λp hp=>?_,λb v q=>?_,I.len⟩
 ·rw [aG (λz=>by rw [z,h1] at q; cases q)]; exact I.base.free b o q n hx
 ·have:=I.base.ly b xs q
  rw [aG (ne b _ this)]; exact this
 ·have:=I.base.j6 b o v q
  rw [aG (ne b _ this)]; exact this
 ·obtain ⟨more,this⟩:=I.base.lz b ps q
  exact ⟨more,by rw [aG (ne b _ this)]; exact this⟩
 ·rw [aG (Ne.symm hL)]; exact I.free
 ·rw [aG (h2 x c q)]; exact I.g_ x c q
 ·obtain ⟨p1,p2,p3⟩:=I.pin p hp
  exact ⟨p1,by rw [aG (h3 p hp)]; exact p2,p3⟩
 ·by_cases hb:b=D
  ·subst hb
   rw [aB] at q; cases q
   exact new
  ·rw [aG hb] at q
   exact (I.fj b v q).ib (λc v _ q=>q) (λc q=>by rw [aG (ne c _ q)]; exact q) λc xs q=>by rw [aG (ne c _ q)]; exact q
end
section
variable {g:Array GenState} {d:Drawn} {t:Nat} {os:OsState} {oe:bz} {bm':List aa}
end
abbrev TB:=Ends->XK->St->Hp->Prop
section
variable {k:Nat} {vk:List V} {ds:List aa} {t:TA}
end
section
variable {a b:bq} {tb:TE} {t:TA} {kU:List bt} {ts us:TS}
end
section
variable {Z:List ae} {S:St->Prop} {a b:bq} {d:ar}
end
section
variable {l:bq}
end
noncomputable def zY (e:c9):Bool:=match e.key with
 | .str _ _=>true
 | _=>false
noncomputable def o6 (K:Rc) (C:ae) (bm:List aa):Bool:=match K.lookup C with
 | some ⟨.type "type", _, .cls cd, sl⟩ => (match sl.toList with
   | [_, _, _, _, some (.builtin n), _] => n == "ValueError.__new__" && cd.mro == .ref C :: bm && !cd.hasDel && (match K.lookup cd.ns with
     | some ⟨_,_,.dict es _,_⟩=>es.toList.all zY && xo.all (λn=>(es.toList.find? (·.key.isStr n)).isNone)
     | _=>false)
   | _=>false)
 | _=>false
theorem JU (X:K.In h) (q:o6 K C bm=true):∃ N nm qn bs j5 sn sub ab col dd k0 k1 k2 k3 k5 mN,
  h.get? C=some (excClassObj nm qn C N bs bm j5 sn sub ab col dd k0 k1 k2 k3 k5 "ValueError.__new__")/\h.Ns N mN/\∀ n∈xo,mN n=none:=by
 unfold o6 at q
 split at q
 ·rename_i dd cd sl ho
  split at q
  ·rename_i k0 k1 k2 k3 n k5 hs
   split at q
   ·rename_i c1 d1 es ep s1 hN
    simp only [Jf,beq_iff_eq,Wb,Qy,Option.isNone_iff_eq_none] at q
    obtain ⟨⟨⟨rfl,hm⟩,Ek⟩,hk,hq⟩:=q
    obtain ⟨nm,bs,mro,ns,qn,hd,sn,sub,ab,col,del⟩:=cd
    dsimp only at hm Ek hN
    subst hm Ek
    have G2:sl = #[k0,k1,k2,k3,some (.builtin "ValueError.__new__"),k5]:=by
     obtain ⟨l⟩:=sl
     simp only at hs
     rw [hs]
    subst G2
    refine ⟨ns,nm,qn,bs,hd,sn,sub,ab,col,dd,k0,k1,k2,k3,k5,nsFind es,X _ _ ho,⟨_,es,ep,X _ _ hN,rfl,λe he=>?_,λ_=>rfl⟩,λn hn=>?_⟩
    ·have:=hk e (Array.mem_toList_iff.mpr he)
     unfold zY at this
     split at this
     ·rename_i a b e; exact ⟨a,b,e⟩
     ·cases this
    ·have:=hq n hn
     unfold nsFind findBy
     rw [<- Array.find?_toList,this]
     rfl
   ·simp at q
  ·cases q
 ·cases q
theorem aEF (q:o6 K C kj=true) (h:af) (X:K.In h):my h C kj:=by
 obtain ⟨N,nm,qn,bs,j5,sn,sub,ab,col,dd,k0,k1,k2,k3,k5,mN,h1,h2,h3⟩:=JU X q
 exact ⟨N,nm,qn,bs,j5,sn,sub,ab,col,dd,k0,k1,k2,k3,k5,mN,h1,h2,h3,.base⟩
theorem gD {D:ae} (qD:o6 K D kj=true) (q:o6 K C (.ref D::kj)=true) (h:af) (X:K.In h):my h C (.ref D::kj):=by
 obtain ⟨N,nm,qn,bs,j5,sn,sub,ab,col,dd,k0,k1,k2,k3,k5,mN,h1,h2,h3⟩:=JU X q
 obtain ⟨_,_,_,_,_,_,_,_,_,_,_,_,_,_,_,mD,e1,e2,e3⟩:=JU X qD
 exact ⟨N,nm,qn,bs,j5,sn,sub,ab,col,dd,k0,k1,k2,k3,k5,mN,h1,h2,h3,.own e1 e2 e3 .base⟩
noncomputable def mR:List Int->Nat
 | []=>0
 | k::r=>if k∈r then mR r else mR r+1
noncomputable def nI (l:List Int):Nat:=mR l.reverse
theorem aC7 (l:List Int) (k:Int):nI (l++[k])=if k∈l then nI l else nI l+1:=by
 unfold nI
 rw [Qab]
 show mR (k::l.reverse)=_
 simp only [mR,List.mem_reverse]
theorem sS:∀ l:List Int,mR l<=l.length
 | []=>Qh _
 | k::r=>by
  have:=sS r
  unfold mR
  split <;> simp <;> omega
theorem aGf (l:List Int):nI l<=l.length:=by
 have:=sS l.reverse
 rwa [Zy] at this
theorem qV:∀ l:List Int,mR l=l.length↔l.Nodup
 | []=>by simp [mR]
 | k::r=>by
  have h1:=qV r
  have h2:=sS r
  unfold mR
  rw [Jv,<- h1,Ja]
  by_cases hk:k∈r
  ·rw [if_pos hk]
   constructor
   ·intro h; omega
   ·intro h; exact absurd hk h.1
  ·rw [if_neg hk]
   constructor
   ·intro h; exact ⟨hk,by omega⟩
   ·intro h; omega
theorem aBn (l:List Int):nI l=l.length↔l.Nodup:=by
 have h:=qV l.reverse
 rw [Zy] at h
 unfold nI
 rw [h]
 unfold List.Nodup
 rw [Yj]
 constructor <;> intro h <;> exact h.imp λz=>Ne.symm z
theorem aC8 {S:Int->Bool} {n:Nat} {k:Int} {t:dc} {Q:Bool->ah->Prop} (hS:s.heap.SetOf (intKind prog w) a S n) (wb:n+1 < scanBound) (h:∀ h',af.SameBut a s.heap h'->h'.SetOf (intKind prog w) a (λk'=>S k' || decide (k'=k)) (if S k then n else n+1)->Q (!S k) { s with heap:=h',toks:=s.toks+1 }) :
  ag (ao prog w) A (setAdd a (.int k t)) Q E s:=by
 have l9:(intKind prog w).is k (.int k t)=true:=by simp [intKind,aa.isInt]
 unfold setAdd
 refine Ra ((intKind prog w).pyHash l9 ?_)
 exact wpAny_setAddHashed_of (s:={ s with toks:=s.toks+1 }) l9 rfl hS wb λh' Ca yg=>h h' Ca yg
theorem aEG {wr:List ae} {P:Nat->aa->Prop} {St:Nat->af->Prop} {Z:Nat->af->Prop} (W:cz prog w A.in1 I fp wr ns.length P St) (hP:∀ i v,P i v->∃ k t,ns[i]?=some k/\v=.int k t) (yc:∀ c∈fp,c≠S) (u_:S∉wr) (kp:∀ i h h',Z i h->(∀ o,h.get? S=some o->h'.get? S=some o)->Z i h') (ad:∀ i k t {B:bw} {E':aa->ah->Prop} {s':ah} {Q':Bool->ah->Prop},ns[i]?=some k->Z i s'.heap->(∀ h3 b,af.SameBut S s'.heap h3->Z (i+1) h3->Q' b { s' with heap:=h3,toks:=s'.toks+1 })->ag (ao prog w) B (setAdd S (.int k t)) Q' E' s') :
  ∀ (j i:Nat) (s:ah),i+j=ns.length->St i s.heap->Z i s.heap ->
   (∀ h' tk,Z ns.length h'->(∀ b o,b≠S->b∉wr->s.heap.get? b=some o->h'.get? b=some o)->R (.ok (.ret .none)) { s with heap:=h',toks:=tk }) ->
   codeAny (ao prog w) A (.builtin "set.update.loop" ⟨[.ref S,.ref I],[]⟩) R s:=by
 intro j
 induction j with
 | zero =>
  intro i s hi st hS h
  obtain rfl:i=ns.length:=by omega
  exact aEx W st λh' tk k=>h h' tk (kp _ _ _ hS λo e=>k S o u_ e) λb o _ hb e=>k b o hb e
 | succ j ih =>
  intro i s hi st hS h
  refine aEw W (i:=i) (by omega) st λv h2 F' hv ja k2=>?_
  obtain ⟨k,t,hk,rfl⟩:=hP i v hv
  refine ad i k t (s':={ s with heap:=h2,toks:=F' }) hk (kp _ _ _ hS λo e=>k2 S o u_ e) λh3 b sb Bd=>?_
  exact ih (i+1) _ (by omega) (W.frame _ _ _ ja λc hc o e=>(sb.2 c (yc c hc)).trans e) Bd λh' tk yg GJ=>h h' tk yg λb o nb hb e=>GJ b o nb hb ((sb.2 b nb).trans (k2 b o hb e))
set_option maxHeartbeats 3200000 in
theorem aBo {l:ae} {b_:Array aa} {Z:Nat->af->Prop} (hh:A.handled=none) (hl:s.heap.IsList l b_) (hi:IntsAre b_.toList ns) (z0:∀ h:af,h.get? s.heap.objs.size=some { cls:=.type "set",dict:=none,data:=.set #[] 0 (.fresh 0 0 (Led w)) }->Z 0 h) (kp:∀ i h h',Z i h->(∀ o,h.get? s.heap.objs.size=some o->h'.get? s.heap.objs.size=some o)->Z i h') (ad:∀ i k t {B:bw} {E':aa->ah->Prop} {s':ah} {Q':Bool->ah->Prop},ns[i]?=some k->Z i s'.heap->(∀ h3 b,af.SameBut s.heap.objs.size s'.heap h3->Z (i+1) h3->Q' b { s' with heap:=h3,toks:=s'.toks+1 })->ag (ao prog w) B (setAdd s.heap.objs.size (.int k t)) Q' E' s') (h:∀ (h':af) (tk:Nat),Z ns.length h'->(∀ b o,b < s.heap.objs.size->s.heap.get? b=some o->h'.get? b=some o)->Q (.ref s.heap.objs.size) { s with heap:=h',toks:=tk }) :
  ag (ao prog w) A (call (.type "set") [.ref l]) Q E s:=by
 obtain ⟨c,tl,aag⟩:=PySem.F.called_set.mro
 have TY:=PySem.F.called_set.made
 have yy:=PySem.F.called_set.sub
 refine Io (Vs ?_)
 show ag _ _ (callAny (.type "set") _) _ _ _
 refine Rb ⟨Code.quiet_builtin _ (by decide +kernel),Ti PySem.F.entry_type_call ?_⟩
 rw [bw.under_plain (weight_type_call_type "set" [.ref l] []) rfl]
 have h1:=PySem.F.called_set.notType
 have h2:=PySem.F.called_set.canCreate
 have hct:=PySem.F.typeCall_set_1 (.ref l)
 repeat (any_goals (first | assumption | wp_step))
 refine Um (sO (.ref l) (E:=E) (Q₁:=λobj gf=>obj=.ref s.heap.objs.size/\gf={ s with heap:=s.heap.push { cls:=.type "set",dict:=none,data:=.set #[] 0 (.fresh 0 0 (Led w)) } }) ⟨rfl,rfl⟩) λr gf hr=>?_
 cases r with
 | error e=>exact hr
 | ok fl =>
  cases fl with
  | ret obj =>
   obtain ⟨rfl,rfl⟩:=hr
   generalize aai:Led w=led at z0 ⊢
   have hS:(s.heap.push { cls:=.type "set",dict:=none,data:=.set #[] 0 (.fresh 0 0 led) }).get? s.heap.objs.size=some { cls:=.type "set",dict:=none,data:=.set #[] 0 (.fresh 0 0 led) }:=af.get?_push_size _ rfl
   have hT:ah.TypeIs { s with heap:=s.heap.push { cls:=.type "set",dict:=none,data:=.set #[] 0 (.fresh 0 0 led) } } (.ref s.heap.objs.size) "set" := ⟨_,hS,rfl⟩
   have Hh:=PySem.F.called_set.init.lookup
   have Dy:=PySem.F.called_set.init.bind (.ref s.heap.objs.size)
   repeat (any_goals (first | assumption | wp_step))
   refine Um (Vg (R:=wants (λr kr=>r=.none/\∃ h' tk,kr={ s with heap:=h',toks:=tk }/\Z ns.length h' /\
     (∀ b o,b < s.heap.objs.size->s.heap.get? b=some o->h'.get? b=some o)) E) PySem.F.called_set.init.plain PySem.F.entry_set_init (check_set_init_1 hT ?_)) λU0 kr BH=>?_
   ·obtain ⟨ol,A5,ye,nl,jk⟩:=hl
    obtain ⟨aac,Et,TV,BU⟩:=ol
    simp only at ye jk
    subst ye; subst jk
    have K_:(s.heap.push { cls:=.type "set",dict:=none,data:=.set #[] 0 (.fresh 0 0 led) }).get? l=some { cls:=.type "list",dict:=Et,data:=.seq b_ nl,slots:=BU }:=af.get?_push_of_some _ A5
    have aad:=PySem.F.sub_list_set
    have aae:=PySem.F.sub_list_frozenset
    have f':(aa.type "list" == aa.type "dict")=false:=by decide
    have xc:(s.heap.push { cls:=.type "set",dict:=none,data:=.set #[] 0 (.fresh 0 0 led) }).IsList l b_:=⟨_,K_,rfl,nl,rfl⟩
    unfold ai.«set.__init__» noKeywords ai.Frozenset.updateFrom
    generalize X6:pyIter=PI
    wp_walk
    subst X6
    refine Tr xc ?_
    refine Ra (wpAny_runValue ?_)
    have Nk:l < s.heap.objs.size:=af.lt_size A5
    have XB:A.in1.in1.in1.handled=none:=by simp [hh]
    generalize N5:s.heap.push { cls:=.type "set",dict:=none,data:=.set #[] 0 (.fresh 0 0 led) }=H1 at *
    have Ku:H1.objs.size=s.heap.objs.size+1:=by rw [<- N5,af.size_push]
    have Lf:l≠H1.objs.size:=by rw [Ku]; exact Qx (Ju Nk)
    have W:=cz.list (prog:=prog) (w:=w) XB H1.objs.size l Lf b_
    have hsz:b_.size=ns.length:=by rw [<- hi.length,Array.length_toList]
    rw [hsz] at W
    generalize hS0:s.heap.objs.size=S at *
    have SI:S≠H1.objs.size:=by omega
    have lS:l≠S:=Qx Nk
    refine aEG W (λi v hv=>?_) (λc hc=>?_) (by simpa using SI) kp ad ns.length 0 _ (by omega) ⟨⟨_,af.get?_push_size _ rfl,rfl,rfl⟩,xc.push _⟩ ?_ λh6 UI x6 k6=>?_
    ·have Dc:b_[i]?=some v:=hv
     have Cg:i < b_.toList.length:=by
      rw [Array.length_toList]
      exact (Array.getElem?_eq_some_iff.mp Dc).1
     have e1:b_.toList[i]?=some v:=by rw [Array.getElem?_toList]; exact Dc
     obtain ⟨k,t,e2,e3⟩:=IntsAre.at hi i v e1
     exact ⟨k,t,e3,e2⟩
    ·rcases Ql.mp hc with z | z
     ·rw [z]; exact Ne.symm SI
     ·have z':c=l:=by simpa using z
      rw [z']; exact lS
    ·exact z0 _ (af.get?_push_of_some _ hS)
    ·show ag _ _ _ _ _ _
     refine Rb ?_
     show ag _ _ (ret aa.none) _ _ _
     refine Rb ⟨rfl,h6,UI,rfl,x6,λc o hc e=>?_⟩
     have c1:c≠S:=Qx hc
     have c2:c∉[H1.objs.size]:=by
      intro z
      have z':c=H1.objs.size:=by simpa using z
      omega
     exact k6 c o c1 c2 (af.get?_push_of_some _ (N5 ▸ af.get?_push_of_some _ e))
   ·cases U0 with
    | error e=>exact BH
    | ok YK =>
     cases YK with
     | ret r =>
      obtain ⟨rfl,h',tk,rfl,yg,Hk⟩:=BH
      repeat (any_goals (first | assumption | wp_step))
      exact h _ _ yg Hk
     | _=>exact BH.elim
  | _=>exact hr.elim
theorem uX {l:ae} {b_:Array aa} (hh:A.handled=none) (hl:s.heap.IsList l b_) (hi:IntsAre b_.toList ns) (hlen:ns.length+1 < scanBound) (h:∀ (h':af) (tk:Nat),h'.SetOf (intKind prog w) s.heap.objs.size (λk=>decide (k∈ns)) (nI ns)->(∀ b o,b < s.heap.objs.size->s.heap.get? b=some o->h'.get? b=some o)->Q (.ref s.heap.objs.size) { s with heap:=h',toks:=tk }) :
  ag (ao prog w) A (call (.type "set") [.ref l]) Q E s:=by
 refine aBo (Z:=λi h=>h.SetOf (intKind prog w) s.heap.objs.size (λk=>decide (k∈ns.take i)) (nI (ns.take i))) hh hl hi (λh e=>⟨_,#[],0,_,e,⟨rfl,rfl,rfl⟩,rfl,λe he=>by simp at he,λk=>by simp,by decide,by rfl,rfl⟩) (λi h h' ⟨o,es,ep,t,e,c⟩ k=>⟨o,es,ep,t,k _ e,c⟩) (λi k t _ _ s' Q' hk hS q=>?_) λh' tk z=>h h' tk (by rw [Jj] at z; exact z)
 have hd:=aGf (ns.take i)
 rw [Qq] at hd
 refine aC8 hS (by omega) λh3 sb Bd=>q h3 _ sb ?_
 have et:ns.take (i+1)=ns.take i++[k]:=by rw [Je,hk]; rfl
 have e1:(λk_1=>decide (k_1∈ns.take (i+1)))=(λk'=>decide (k'∈ns.take i) || decide (k'=k)):=by
  funext k'
  rw [et]
  simp
 have e2:nI (ns.take (i+1))=if decide (k∈ns.take i)=true then nI (ns.take i) else nI (ns.take i)+1:=by
  rw [et,aC7]
  by_cases z:k∈ns.take i
  ·rw [if_pos z,if_pos (decide_eq_true z)]
  ·rw [if_neg z,if_neg (by simpa using z)]
 rw [e1,e2]
 exact Bd
theorem vT:∀ {vs:List aa} {ns:List Int},bM (ns.map V.int) vs->IntsAre vs ns
 | [],[],_=>.nil
 | v::vs,n::ns,h=>by
  cases h with
  | cons r t =>
   obtain ⟨k,rfl⟩:=r
   exact .cons n k (vT t)
 | [],n::ns,h=>by cases h
 | v::vs,[],h=>by cases h
theorem aC9 (hK:X.K=K) (hc:X.calm=true):eV X (.type "set") (λxs H Q=>∃ (l:ae) (ns:List Int),xs = [.ref l]/\fh K H l (ns.map V.int)/\ns.length<=40/\∀ p,H p=none->Q (.ref p) (upd H p (.set (λk=>decide (k∈ns)) (nI ns)))):=by
 subst hK
 intro a_ s σ H xs us Q I r h
 obtain ⟨l,ns,rfl,hL,hn,q⟩:=h
 obtain ⟨u,rfl,rx⟩:=fY r
 cases rx
 obtain ⟨b_,rv,pl,hz⟩:=I.list hL
 refine uX (I.ok.hd hc) pl.isList (vT rv) (Ya (Zk hn) (by decide)) λh' tk x kp=>?_
 have GJ:∀ b o,s.heap.get? b=some o->h'.get? b=some o:=λb o e=>kp b o (af.lt_size e) e
 have hf:=I.fj.fresh (Qh s.heap.objs.size)
 exact ⟨.ref s.heap.objs.size,_,I.laid (t':=tk) GJ (Qh _) (show bJ X.prog X.w _ _ _ (.set _ _) from x),rfl,q _ hf⟩
theorem uY:eV X (.builtin "len") (λxs H Q=>∃ p S n,xs = [.ref p]/\H p=some (.set S n)/\Q (.int (n:Nat)) H):=by
 intro a_ s σ H xs us Q I r h
 obtain ⟨p,S,n,rfl,hp,q⟩:=h
 obtain ⟨u,rfl,rx⟩:=fY r
 cases rx
 obtain ⟨o,es,ep,t,ho,hex,hd,_,_,hb,hf,hn⟩:=I.fj p _ hp
 subst hn
 have ju:es.size < 2^20:=Yi hb (by decide)
 have:(2:Int)^63=9223372036854775808:=by decide
 have:(2:Nat)^20=1048576:=by decide
 exact PySem.call_len_set ho hex hd hf (by omega) ⟨.int es.size,H,I.tok _,⟨_,rfl⟩,q⟩
section
variable {e l:ae} {n:Nat} {P:Nat->aa->Prop} {st:Nat->af->Prop}
theorem aEH {old:aa} (S:Sub prog w it l n P st) (Ck:e≠it) (Ad:l≠e) (he:cg s.heap e it i old) (h1:st i s.heap) (hi:i < n) (hQ:∀ h' x tk,P i x->dk h' e it ((i:Int)+1) x s.heap.objs.size->st (i+1) h'->h'.get? s.heap.objs.size=some { cls:=.type "tuple",data:=.seq #[.int i tk,x] } ->
   (∀ c o,c≠e->c≠it->s.heap.get? c=some o->h'.get? c=some o)->Q (.ref s.heap.objs.size) { s with heap:=h',toks:=s.toks+1 }) :
  ag (ao prog w) A (ai.«enumerate.__next__» ⟨[.ref e],[]⟩) (λfin s'=>∃ v,fin=.done (.ret v)/\Q v s') E s:=by
 refine Ra (m:=field (.ref e) 2) (Rn he rfl (x:=.ref it) rfl ?_)
 refine Ra (m:=ai.SmallTypes.nextOf (.ref it)) (S.item _ i _ _ _ hi h1 λx g1 px t1 b1=>?_)
 have e1:cg g1 e it i old:=b1.extBut _ _ Ck he
 refine Ra (m:=field (.ref e) 3) (Rn e1 rfl (x:=rawInt i) rfl ?_)
 refine Ra (m:=field (.ref e) 4) (Rn e1 rfl (x:=.none) rfl ?_)
 refine Ra (m:=mkInt i) (wpAny_mkInt ?_)
 refine Ra (m:=setField (.ref e) 3 (rawInt ((i:Int)+1))) (Rj e1 (by simp) λg2 e2 b2=>?_)
 have mx:cg g2 e it ((i:Int)+1) old:=e2
 refine Ra (m:=setField (.ref e) 4 .none) (Rj mx (by simp) λg3 e3 b3=>?_)
 have IB:cg g3 e it ((i:Int)+1) old:=e3
 refine Ra (m:=newTuple [.int i s.toks,x]) (Ia ?_)
 have sz:g3.objs.size=s.heap.objs.size:=by rw [b3.1,b2.1,b1.1]
 have e4:cg (g3.push { cls:=.type "tuple",data:=.seq #[.int i s.toks,x] }) e it ((i:Int)+1) old:=af.get?_push_of_some _ IB
 have T4:(g3.push { cls:=.type "tuple",data:=.seq #[.int i s.toks,x] }).get? s.heap.objs.size=some { cls:=.type "tuple",data:=.seq #[.int i s.toks,x] }:=by rw [<- sz]; exact af.get?_push_size _ rfl
 have C4:∀ c o,c≠e->c≠it->s.heap.get? c=some o->(g3.push { cls:=.type "tuple",data:=.seq #[.int i s.toks,x] }).get? c=some o:=λc o c1 c2 q =>
  af.get?_push_of_some _ (b3.extBut _ _ c1 (b2.extBut _ _ c1 (b1.extBut _ _ c2 q)))
 have t4:st (i+1) (g3.push { cls:=.type "tuple",data:=.seq #[.int i s.toks,x] }):=S.keep _ _ _ t1 λc hc o q=>by
  have c1:c≠e:=by rcases hc with r | r <;> rw [r]; exact Ne.symm Ck; exact Ad
  exact af.get?_push_of_some _ (b3.extBut _ _ c1 (b2.extBut _ _ c1 q))
 have elt:s.heap.objs.size≠e:=Xm (af.lt_size he)
 rw [sz]
 generalize g3.push { cls:=.type "tuple",data:=.seq #[.int i s.toks,x] }=g4 at e4 T4 C4 t4 ⊢
 refine Ra (m:=ai.SmallTypes.ownedTupleIsFree (.ref e)) ?_
 unfold ai.SmallTypes.ownedTupleIsFree
 refine Ra (Rn e4 rfl (x:=.none) rfl (Rb ?_))
 simp only [if_true]
 refine Ra (Tu ?_)
 refine Ra (Rn e4 rfl (x:=old) rfl ?_)
 refine Ra (Rj e4 (by simp) λg5 e5 b5=>?_)
 have IA:cg g5 e it ((i:Int)+1) x:=e5
 refine Ra (m:=ai.SmallTypes.ownedTupleHandOut (.ref e) (.ref s.heap.objs.size)) ?_
 unfold ai.SmallTypes.ownedTupleHandOut
 refine Ra (Rj IA (by simp) λg6 e6 b6=>?_)
 have H_:dk g6 e it ((i:Int)+1) x s.heap.objs.size:=e6
 refine Rj H_ (by simp) λg7 e7 b7=>?_
 have HZ:dk g7 e it ((i:Int)+1) x s.heap.objs.size:=e7
 have up:∀ c o,c≠e->g4.get? c=some o->g7.get? c=some o:=λc o c1 q=>b7.extBut _ _ c1 (b6.extBut _ _ c1 (b5.extBut _ _ c1 q))
 refine Ra (Uj (Rb ⟨_,rfl,hQ g7 x s.toks px HZ ?_ (up _ _ elt T4) λc o c1 c2 q=>up c o c1 (C4 c o c1 c2 q)⟩))
 exact S.keep _ _ _ t4 λc hc o q=>up c o (by rcases hc with r | r <;> rw [r]; exact Ne.symm Ck; exact Ad) q
theorem aGg {old:aa} {Q:Fin->ah->Prop} (hh:A.handled=none) (S:Sub prog w it l n P st) (he:cg s.heap e it n old) (h1:st n s.heap)
  (hE:∀ h' x,af.ExtBut it s.heap h'->(∃ o,h'.get? x=some o/\o.cls=.type "StopIteration")->E (.ref x) { s with heap:=h' }) :
  ag (ao prog w) A (ai.«enumerate.__next__» ⟨[.ref e],[]⟩) Q E s:=by
 refine Ra (m:=field (.ref e) 2) (Rn he rfl (x:=.ref it) rfl ?_)
 exact Ra (m:=ai.SmallTypes.nextOf (.ref it)) (S.done _ _ _ _ hh h1 hE)
end
noncomputable def CG (K:Rc) (k:Sk) (a:ae):It :=
 ⟨λi H => ∃ xs x, i9 k K H a xs /\ xs[i]? = some x,
  λi H v H'=>∃ p,H p=none/\v=.ref p/\∀ xs,i9 k K H a xs->∃ x,xs[i]?=some x/\H'=upd H p (.tup [.int (i:Nat),x]),
  λi H=>∃ xs,i9 k K H a xs/\xs.length=i⟩
theorem aDa {x1} (k:Sk) (a e it:ae) (Ck:e≠it) :
  Turn P w K (.Tuple es x1 pos) (CG K k a) [e,it] e (λi h=>(∃ old,cg h e it i old)/\lx k h it a i) where
 mem:=by simp
 obj:=λi h st c hc=>by
  obtain ⟨⟨old,he⟩,h1⟩:=st
  simp only [Ql,Qp,or_false] at hc
  rcases hc with rfl | rfl
  ·exact ⟨_,he,λv q=>by cases q⟩
  ·exact h1.obj
 keep:=λi h h' st kp=>by
  obtain ⟨⟨old,he⟩,h1⟩:=st
  exact ⟨⟨old,kp e (by simp) _ he⟩,h1.at λo q=>kp it (by simp) o q⟩
 item:=by
  intro X hP hw hK hc i a_ s σ H E I hf st hg
  subst hP hw hK
  obtain ⟨⟨old,he⟩,h1⟩:=st
  obtain ⟨xs,x,ha,hx⟩:=hg
  obtain ⟨b_,rv,pa⟩:=I.jr ha
  obtain ⟨u,hu,ru⟩:=rv.get hx
  have na:∀ c∈[e,it],a≠c:=λc fu=>I.ik ha (hf c fu)
  have hT:s.TypeIs (.ref e) "enumerate" := ⟨_,he,rfl⟩
  have oy:i < b_.toArray.size:=by rw [Qk]; exact (Qb.mp hu).1
  unfold pyNext
  refine Ra (Tg (Rg (name:=ax.ofString "__next__") hT Rr (Ri Rr hT Tv
   (aEH (uV k X.prog X.w it a b_.toArray (na it (by simp))) Ck (na e (by simp)) he ⟨h1,pa⟩ oy λh' u' tk pu Hq s1 Ft kp=>Rb ?_) (Ts _))))
  have eu:u'=u:=by
   have q:b_[i]?=some u':=by simpa using pu
   rw [hu] at q
   exact (Option.some.inj q).symm
  subst eu
  refine ⟨_,rfl,Mw Hq λh2 Dt mf=>?_⟩
  have Te:s.heap.objs.size≠e:=Xm (af.lt_size he)
  have Ai:h2.get? s.heap.objs.size=some { cls:=.type "tuple",data:=.seq #[.int i tk,u'] }:=mf.extBut _ _ Te Ft
  have qr:=I.fj.fresh (Qh s.heap.objs.size)
  have fz:=I.k8 (Qh s.heap.objs.size) qr
  have I2:Inv X a_ σ H { s with heap:=h2,toks:=s.toks+1 }:=by
   refine I.jh (t':=s.toks+1) [e,it] (λc o fu q=>?_) hf
   simp only [Ql,Qp,or_false,not_or] at fu
   exact mf.extBut _ _ fu.1 (kp c o fu.1 fu.2 q)
  have I3:Inv X a_ σ (upd H s.heap.objs.size (.tup [.int (i:Nat),x])) { s with heap:=h2,toks:=s.toks+1 }:=by
   refine I2.n6 (show bJ X.prog X.w _ _ _ (.tup [.int (i:Nat),x]) from ⟨by show 2<=ak; rw [Rf]; decide,[.int i tk,u'],0,.cons ⟨tk,rfl⟩ (.cons ru .nil),Ai⟩) qr fz.2.1 I.sz fz.2.2.2.2.1 fz.2.2.2.2.2
  refine ⟨.ref s.heap.objs.size,_,I3,rfl,⟨s.heap.objs.size,qr,rfl,λLY Dz=>?_⟩,⟨⟨_,by simpa using Dt⟩,s1.1.at λo q=>mf.extBut _ _ (Ne.symm Ck) q⟩,λc fu=>?_⟩
  ·rw [I.jf Dz ha]
   exact ⟨x,hx,rfl⟩
  ·have cl:c≠s.heap.objs.size:=by
    obtain ⟨o,q⟩:∃ o,s.heap.get? c=some o:=by
     simp only [Ql,Qp,or_false] at fu
     rcases fu with rfl | rfl
     ·exact ⟨_,he⟩
     ·obtain ⟨o,q,_⟩:=h1.obj; exact ⟨o,q⟩
    exact Qx (af.lt_size q)
   rw [aG cl]
   exact (hf c fu).1
 done:=by
  intro X hP hw hK hc i a_ s σ H E I hf st hg
  subst hP hw hK
  obtain ⟨⟨old,he⟩,h1⟩:=st
  obtain ⟨xs,ha,hlen⟩:=hg
  obtain ⟨b_,rv,pa⟩:=I.jr ha
  have la:=rv.length
  have na:∀ c∈[e,it],a≠c:=λc fu=>I.ik ha (hf c fu)
  have hT:s.TypeIs (.ref e) "enumerate" := ⟨_,he,rfl⟩
  have ei:i=b_.toArray.size:=by rw [Qk]; omega
  subst ei
  unfold pyNext
  refine Ra (Tg (Rg (name:=ax.ofString "__next__") hT Rr (Ri Rr hT Tv
   (aGg (I.ok.hd hc) (uV k X.prog X.w it a b_.toArray (na it (by simp))) he ⟨h1,pa⟩ λh' x kp hx=>?_) (Ts _))))
  obtain ⟨oe,x_,Ag⟩:=hx
  refine Ra (Tw (T := "StopIteration") (b:=true) ⟨oe,x_,Ag⟩ Uz (Rb ⟨rfl,?_⟩))
  refine I.jh (t':=s.toks) [e,it] (λc o fu q=>?_) hf
  simp only [Ql,Qp,or_false,not_or] at fu
  exact kp c o fu.2 q
 self:=λ_ _ _ _ _ st h=>by
  obtain ⟨⟨old,he⟩,_⟩:=st
  exact Vj he h
theorem aDb (k:Sk) (a:ae) (xs:Array aa) :
  Meets (ai.«enumerate.__new__» ⟨[.type "enumerate",.ref a],[]⟩) (λ_ R s=>uj k s.heap a xs /\
   R (.ok (.ret (.ref (s.heap.push (t5 k a)).objs.size))) { s with heap:=(s.heap.push (t5 k a)).push { cls:=.type "enumerate",data:=.fields #[.none,.bool false,.ref s.heap.objs.size,rawInt 0,.none,.none] } }) :=
 .of_wp λprog w A R s h=>by
  obtain ⟨hp,g,d,tk,os⟩:=s
  obtain ⟨hl,h⟩:=h
  have yy:=sub_enumerate
  have hA:uj k (ah.heap ⟨hp,g,d,tk,os⟩) a xs:=hl
  obtain ⟨o,ho,hc⟩:∃ o,hp.get? a=some o/\(o.cls=.type "list" ∨ o.cls=.type "tuple"):=by
   cases k
   ·obtain ⟨o,e,c,_⟩:=hl; exact ⟨o,e,.inl c⟩
   ·obtain ⟨o,e,c,_⟩:=hl; exact ⟨o,e,.inr c⟩
  have ni:(ah.heap ⟨hp,g,d,tk,os⟩).get? a=some o:=ho
  wp_walk using AutoSeq1.wpAny_loadPart' ni
  refine RaM λst=>Rb ?_
  split
  ·rename_i c _ _ _ _ _
   cases (c==aa.type "enumerate")
   ·wp_walk using AutoSeq1.wpAny_loadPart' ni,zQ hA
    exact ⟨_,rfl,h⟩
   ·wp_walk using AutoSeq1.wpAny_loadPart' ni,zQ hA
    exact ⟨_,rfl,h⟩
  ·wp_walk using AutoSeq1.wpAny_loadPart' ni,zQ hA
   exact ⟨_,rfl,h⟩
def z! (K:Rc) (k:Sk) (ta:TA):TI:=λσ H R=>ta σ H λvs H1=>∃ a xs,vs = [.ref a]/\i9 k K H1 a xs/\R (CG K k a) H1
theorem xK (k:Sk) {a:bq} {ta:TA} (hg:Gl X "enumerate") (hm:X.mg "enumerate" = none) (ha:PA X [a] ta) (hs:autoParam (au [a] X.env = [(false,eval a X.env)]) L2.gj) :
  PI X (.Tuple es x1 vo) (.Call (.Name "enumerate" p) [a] [] pos) (z! X.K k ta):=by
 intro a_ s σ H R I h
 refine Call_ (iQ (u:=.type "enumerate") I hg hm (by decide +kernel) (PyProof.Rows.callWith_type1 (fk (ha pos a_ s σ H _ I h) λus s1 fe=>?_) hs rfl))
 obtain ⟨vs,H1,I1,r1,q1⟩:=fe
 obtain ⟨l,xs,rfl,hA,q⟩:=q1
 obtain ⟨u1,rfl,CW⟩:=fY r1
 cases CW
 obtain ⟨b_,rv,pa⟩:=I1.jr hA
 refine Iz Ma (by decide) (Ib _) (Ij _) (λobj=>Iv obj _) Ik (aDb k l b_.toArray) ⟨pa,?_⟩
 have n1:(s1.heap.push (t5 k l)).objs.size=s1.heap.objs.size+1:=af.size_push ..
 have g2:cg ((s1.heap.push (t5 k l)).push { cls:=.type "enumerate",data:=.fields #[.none,.bool false,.ref s1.heap.objs.size,rawInt 0,.none,.none] }) (s1.heap.push (t5 k l)).objs.size s1.heap.objs.size 0 .none:=af.get?_push_size _ rfl
 have g1:lx k ((s1.heap.push (t5 k l)).push { cls:=.type "enumerate",data:=.fields #[.none,.bool false,.ref s1.heap.objs.size,rawInt 0,.none,.none] }) s1.heap.objs.size l 0:=(lx.new k s1.heap l).at λo e=>af.get?_push_of_some _ e
 have kp:∀ c o,s1.heap.get? c=some o->((s1.heap.push (t5 k l)).push { cls:=.type "enumerate",data:=.fields #[.none,.bool false,.ref s1.heap.objs.size,rawInt 0,.none,.none] }).get? c=some o:=λc o e=>af.get?_push_of_some _ (af.get?_push_of_some _ e)
 generalize (s1.heap.push (t5 k l)).push { cls:=.type "enumerate",data:=.fields #[.none,.bool false,.ref s1.heap.objs.size,rawInt 0,.none,.none] }=h2 at g1 g2 kp ⊢
 refine ⟨⟨_,g2,rfl⟩,Vj g2 ?_⟩
 rw [n1] at *
 have I2:Inv X a_ σ H1 { s1 with heap:=h2 }:=I1.kept (t':=s1.toks) kp
 refine ⟨s1.heap.objs.size+1,[s1.heap.objs.size+1,s1.heap.objs.size],_,_,H1,rfl,I2,aDa k l (s1.heap.objs.size+1) s1.heap.objs.size (Nat.succ_ne_self _),⟨⟨_,g2⟩,g1⟩,λc hc=>?_,q⟩
 have fu:s1.heap.objs.size<=c:=by
  simp only [Ql,Qp,or_false] at hc
  rcases hc with r | r
  ·rw [r]; exact Xs _ _
  ·rw [r]; exact Qh _
 exact I1.k8 fu (I1.fj.fresh fu)
theorem zZ {k:Sk} {σ:St} (Pv:Nat->St->Hp->Prop) (h0:Pv 0 σ H) (hl:∀ i σ H,i<=xs.length->Pv i σ H->i9 k K H a xs) (hs:∀ i x p σ H,xs[i]?=some x->Pv i σ H->H p=none->g (.ref p) σ (upd H p (.tup [.int (i:Nat),x])) λfg H2=>tb { D with nx:=Pv (i+1),ct:=Pv (i+1),bk:=D.nx } fg H2) (hd:∀ σ H,Pv xs.length σ H->D.nx σ H) :
  ∃ W:Nat->Nat->St->Hp->Prop,(∃ m,W 0 m σ H)/\∀ i m σ H,W i m σ H ->
   ((CG K k a).stop i H/\D.nx σ H)∨((CG K k a).go i H/\∃ N:St->Hp->Prop,(∀ e_ H',N e_ H'->∃ m',m' < m/\W (i+1) m' e_ H')/\∀ x H',(CG K k a).qd i H x H'->g x σ H' λfg H2=>tb { D with nx:=N,ct:=N,bk:=D.nx } fg H2):=by
 refine ⟨λi m σ H=>m=xs.length - i/\i<=xs.length/\Pv i σ H,⟨xs.length,by simp,Jl _,h0⟩,?_⟩
 rintro i m σ H ⟨rfl,hi,p⟩
 have q:=hl i σ H hi p
 by_cases ff:i < xs.length
 ·refine .inr ⟨⟨xs,xs[i],q,Qc ff⟩,Pv (i+1),λe_ H' p'=>⟨xs.length - (i+1),by omega,rfl,ff,p'⟩,λx H' y=>?_⟩
  obtain ⟨p1,js,rfl,y⟩:=y
  obtain ⟨v,hv,rfl⟩:=y xs q
  exact hs i v p1 σ H hv p js
 ·have e:i=xs.length:=by omega
  subst e
  exact .inl ⟨⟨xs,q,rfl⟩,hd σ H p⟩
theorem JY {n:Nat} (h:n<=1000):n<=ak:=by rw [Rf]; omega
section
variable {own:Nat} {σ:St}
theorem aGh (h:vs[i]?=some v):vs.take (i+1)=vs.take i++[v]:=by rw [Je,h]; rfl
theorem oE {n:Nat} (SH:St->Prop) (hn:n<=1000) (hl:vs.length=n) (jc:SH (h_ own fr σ)) (ma:∀ H',aD H H'->J.stop n H') (A8:∀ i H',i < n->aD H H'->J.go i H') (hs:∀ i v x σ H1 H2,i < n->vs[i]?=some v->SH σ->aD H H1->J.qd i H1 x H2->∀ Q:V->St->Hp->Prop,(∀ fg H4,SH fg->aD H1 H4->Q v fg H4)->g x σ H2 λfg H3=>te fg H3 λy H4=>Q y fg H4) (hd:∀ H',aD H H'->Qf H' vs) :
  j4 J [] (h_ own fr σ) H (λys _ H=>Qf H ys) g pO (oq te):=by
 refine lZ n (JY hn) SH (λi ys H'=>ys=vs.take i/\aD H H') jc ⟨rfl,aD.refl H⟩ (λi ys H' p=>by rw [p.1,Qq]; omega) (λys H' p=>ma H' p.2) (λi ys H' hi p=>A8 i H' hi p.2) ?_ (λys H' p=>?_)
 ·rintro i ys e_ x H1 H2 hi sh ⟨rfl,s1⟩ hy hz
  have hv:vs[i]?=some vs[i]:=Qc (by omega)
  have h:=hs i vs[i] x e_ H1 H2 hi hv sh s1 hy (λy fg H4=>(vs.take i).length < ak/\SH fg/\(vs.take i++[y]=vs.take (i+1)/\aD H H4)) λfg H4 Gh s4=>⟨hz,Gh,(aGh hv).symm,s1.trans s4⟩
  exact h
 ·obtain ⟨rfl,s1⟩:=p
  rw [Jb (by omega)]
  exact hd H' s1
theorem Sw (SH:St->Prop) (hn:xs.length<=1000) (hl:vs.length=xs.length) (ha:fh K H a xs) (jc:SH (h_ own fr σ)) (hs:∀ (i:Nat) x v σ H1,xs[i]?=some x->vs[i]?=some v->SH σ->aD H H1->∀ Q:V->St->Hp->Prop,(∀ fg H4,SH fg->aD H1 H4->Q v fg H4)->g x σ H1 λfg H2=>te fg H2 λy H4=>Q y fg H4) (hd:∀ H',aD H H'->Qf H' vs) :
  j4 (By K a) [] (h_ own fr σ) H (λys _ H=>Qf H ys) g pO (oq te):=by
 refine oE SH hn hl jc (λH' s=>⟨xs,s.iy ha,Qh _⟩) (λi H' hi s=>⟨xs,xs[i],s.iy ha,Qc hi⟩) (λi v x σ H1 H2 hi hv sh s y Q k=>?_) hd
 obtain ⟨e,y⟩:=y
 subst e
 exact hs i x v σ _ (y xs (s.iy ha)) hv sh s Q k
theorem lF (SH:St->Prop) (hn:xs.length<=1000) (hl:vs.length=xs.length) (ha:d_ K H a xs) (jc:SH (h_ own fr σ)) (hs:∀ (i:Nat) x v σ H1,xs[i]?=some x->vs[i]?=some v->SH σ->aD H H1->∀ Q:V->St->Hp->Prop,(∀ fg H4,SH fg->aD H1 H4->Q v fg H4)->g x σ H1 λfg H2=>te fg H2 λy H4=>Q y fg H4) (hd:∀ H',aD H H'->Qf H' vs) :
  j4 (Bw K a) [] (h_ own fr σ) H (λys _ H=>Qf H ys) g pO (oq te):=by
 refine oE SH hn hl jc (λH' s=>⟨xs,s.d0 ha,Qh _⟩) (λi H' hi s=>⟨xs,xs[i],s.d0 ha,Qc hi⟩) (λi v x σ H1 H2 hi hv sh s y Q k=>?_) hd
 obtain ⟨e,y⟩:=y
 subst e
 exact hs i x v σ _ (y xs (s.d0 ha)) hv sh s Q k
theorem aEI (SH:St->Prop) (hn:xs.length<=1000) (hle:xs.length<=zs.length) (hl:vs.length=xs.length) (ha:∀ H',aD H H'->i9 k1 K H' a xs/\i9 k2 K H' b zs) (jc:SH (h_ own fr σ)) (hs:∀ (i:Nat) x z v p σ H1,xs[i]?=some x->zs[i]?=some z->vs[i]?=some v->H1 p=none->SH σ->aD H H1->∀ Q:V->St->Hp->Prop,(∀ fg H4,SH fg->aD H1 H4->Q v fg H4)->g (.ref p) σ (upd H1 p (.tup [x,z])) λfg H2=>te fg H2 λy H4=>Q y fg H4) (hd:∀ H',aD H H'->Qf H' vs) :
  j4 (yo K k1 k2 a b) [] (h_ own fr σ) H (λys _ H=>Qf H ys) g pO (oq te):=by
 refine oE SH hn hl jc (λH' s=>⟨xs,zs,(ha H' s).1,(ha H' s).2,by omega⟩) (λi H' hi s=>⟨xs,zs,xs[i],zs[i]'(by omega),(ha H' s).1,(ha H' s).2,Qc hi,Qc (by omega)⟩) (λi v x σ H1 H2 hi hv sh s y Q k=>?_) hd
 obtain ⟨q,hq,rfl,hy⟩:=y
 obtain ⟨x,z,h1,h2,rfl⟩:=hy xs zs (ha H1 s).1 (ha H1 s).2
 exact hs i x z v q σ H1 h1 h2 hv hq sh s Q k
end
section
variable {kU:List bt} {t u:TS}
end
theorem uZ (xs:Array aa):slicePick xs none none (some (-1))=xs.toList.reverse.toArray:=by
 unfold slicePick
 have e1:sliceBounds none none (some (-1)) xs.size=((xs.size:Int) - 1,-1,-1):=by simp [sliceBounds]
 rw [e1,<- aEC xs]
 congr 1
 show List.filterMap (λx=>xs[x]?) (sliceRange ((xs.size:Int) - 1) (-1) (-1))=_
 have e2:sliceRange ((xs.size:Int) - 1) (-1) (-1)=(List.range xs.size).map λ(k:Nat)=>((xs.size:Int) - 1+(k:Int)*(-1)).toNat:=by
  unfold sliceRange
  rw [if_neg (by decide)]
  have e3:(if (xs.size:Int) - 1 > -1 then ((xs.size:Int) - 1 - -1 - -1 - 1) / (- -1) else 0).toNat=xs.size:=by
   by_cases h0:xs.size=0
   ·rw [h0]; decide
   ·rw [if_pos (by omega),show (- -1:Int)=1 from rfl,Int.ediv_one]; omega
  show (List.range (if (xs.size:Int) - 1 > -1 then ((xs.size:Int) - 1 - -1 - -1 - 1) / (- -1) else 0).toNat).map _=_
  rw [e3]
  refine Xw λk _=>?_
  congr 1
  omega
 rw [e2,Qag]
 rfl
def y? (K:Rc) (te ts:TE):TE:=λσ H Q=>te σ H λx H1=>ts σ H1 λy H2=>y=.int (-1)/\∃ a xs,x=.ref a/\fh K H2 a xs/\∀ p,H2 p=none->Q (.ref p) (upd H2 p (.lst xs.reverse))
theorem aGi {st:bq} (he:PE X e te) (ku:PE X st ts):PE X (.Subscript e (.Slice none none (some st) p2) pos) (y? X.K te ts):=by
 intro a_ s σ H Q I h
 refine Ip (fk (he a_ s σ H _ I h) λv s1 fe=>?_)
 obtain ⟨x,H1,I1,r1,q1⟩:=fe
 refine wpAny_Slice ?_
 rw [Ig]
 refine Rb ?_
 show ag _ _ (evalPart none X.env) _ _ s1
 rw [Ig]
 refine Rb ?_
 show ag _ _ (evalPart (some st) X.env) _ _ s1
 rw [evalPart_some]
 refine fk (ku a_ s1 σ H1 _ I1 q1) λvst s3 fe=>?_
 obtain ⟨y,H3,I3,r3,q3⟩:=fe
 obtain ⟨rfl,a,xs,rfl,hx,q⟩:=q3
 obtain ⟨tk,rfl⟩:=r3
 cases r1
 have I4:Inv X a_ σ H3 { s3 with heap:=s3.heap.push { cls:=.type "slice",data:=.fields #[.none,.none,.int (-1) tk] } }:=I3.kept (t':=s3.toks) λb ob q=>af.get?_push_of_some _ q
 obtain ⟨b_,r,ht,hz⟩:=I4.list hx
 have hlen:=r.length
 have hg:ag (ao X.prog X.w) X.A (cp (.ref a) (.ref s3.heap.objs.size)) (EP X a_ σ Q) X.xe { s3 with heap:=s3.heap.push { cls:=.type "slice",data:=.fields #[.none,.none,.int (-1) tk] } }:=by
  refine wpAny_getItem_list_slice ht.isList (af.IsSliceOf.new ..) .none .none (.int (-1) tk) (by decide) ?_ (by rw [Qk]; omega)
  rw [uZ]
  refine ⟨.ref _,_,I4.laid (t':=s3.toks) (o:=.lst xs.reverse) (λb ob q=>af.get?_push_of_some _ q) (Qh _) ?_,rfl,q _ (I4.fj.fresh (Qh _))⟩
  exact ⟨by rw [Zy]; exact hz,b_.reverse,0,r.reverse,af.get?_push_size _ rfl⟩
 show ag (ao X.prog X.w) X.A (subscriptTail e (.Slice none none (some st) p2) (.ref a) (.ref s3.heap.objs.size)) (EP X a_ σ Q) X.xe { s3 with heap:=s3.heap.push { cls:=.type "slice",data:=.fields #[.none,.none,.int (-1) tk] } }
 exact tail_any (ops:=[.ref a,.ref s3.heap.objs.size]) ht.isList.typeIs slot_list_getitem.lookup hg (by with_unfolding_all rfl)
section
variable {S:List ae} {E E':Hp->V->Prop} {σ:St} {tb:TE} {t:TA} {tl th:TO}
instance {a:ae} {xs:List V}:Mo (λH v=>v=.ref a/\d_ K (Vw S H) a xs):=⟨λe h=>⟨h.1,(Vw.same e).d0 h.2⟩⟩
end
noncomputable def I_ (e fw:bq) (env:c8) (D:ae):Sem Unit:=do
 let x<-eval fw env
 standAt fw.pos
 let x<-foldedSetIterable fw env x
 let i<-holding [x] (pyIter x)
 let _<-runOwn (.compStart e 1 i (.ref D) env) env
section
variable {it acc:aa} {env:c8}
theorem vA:compTurn (.ListComp elt [⟨tg,iter,[],0⟩,⟨oo,fw,[],0⟩] scope pos) 0 it acc env=(standAt iter.pos >>= λ_=>pyNext it >>= λr=>match r with
   | none=>pure (.done .next)
   | some v=>letOwnedTupleGo tg it v >>= λ_=>assign tg env v >>= λ_ =>
    (eval fw env >>= λx=>standAt fw.pos >>= λ_=>foldedSetIterable fw env x >>= λx=>holding [x] (pyIter x) >>= λi =>
     runOwn (.compStart (.ListComp elt [⟨tg,iter,[],0⟩,⟨oo,fw,[],0⟩] scope pos) 1 i acc env) env >>= λ_ =>
     again (.compLoop (.ListComp elt [⟨tg,iter,[],0⟩,⟨oo,fw,[],0⟩] scope pos) 0 it acc env))):=by rfl
theorem kW
  (h0:codeAny (ao prog w) A (.compLoop (.ListComp elt [⟨tg,iter,[],0⟩,⟨oo,fw,[],0⟩] scope pos) 1 it acc env) R s)
  (h:ag (ao prog w) A (pyIter it) (λxr s'=>codeAny (ao prog w) A (.compLoop (.ListComp elt [⟨tg,iter,[],0⟩,⟨oo,fw,[],0⟩] scope pos) 1 xr acc env) R s')
   (notedBy (ao prog w) A env λx s'=>R (.error x) s') s) :
  codeAny (ao prog w) A (.compStart (.ListComp elt [⟨tg,iter,[],0⟩,⟨oo,fw,[],0⟩] scope pos) 1 it acc env) R s:=by
 refine Vs ?_
 show ag _ _ ((compStart (.ListComp elt [⟨tg,iter,[],0⟩,⟨oo,fw,[],0⟩] scope pos) 1 it acc env).onRaise (λx=>do noteFrame x env; standAt theWindowsPlace)) _ _ s
 refine wpAny_notedAt ?_
 unfold compStart
 show ag _ _ (ask >>= _) _ _ s
 refine Ra (Uo (wpAny_ite ?_))
 split
 ·first
   | exact Ra (Rb (Rb (And.intro rfl h0)))
   | exact Rb (And.intro rfl h0)
 ·first
   | exact Ra (Tu (Ra (Td (Ra (Rp h (λxr s' h'=>Rb (And.intro rfl h')) λ_ _ x=>x)))))
   | (refine Ra (Tu ?_); show ag _ _ (standAt fw.pos >>= _) _ _ s; exact Ra (Td (Ra (Rp h (λxr s' h'=>Rb (And.intro rfl h')) λ_ _ x=>x))))
theorem S?:gy prog w A (.ListComp elt [⟨tg,iter,[],0⟩,⟨oo,fw,[],0⟩] scope pos) 0 tg iter [] (I_ (.ListComp elt [⟨tg,iter,[],0⟩,⟨oo,fw,[],0⟩] scope pos) fw) where
 AK:=λ_ _ _=>⟨rfl,rfl⟩
 turn:=λit D env=>by
  rw [vA]
  refine congrArg (standAt iter.pos >>= ·) (funext λ_=>congrArg (pyNext it >>= ·) (funext λr=>?_))
  cases r with
  | none=>rfl
  | some v =>
   refine congrArg (letOwnedTupleGo tg it v >>= ·) (funext λ_=>congrArg (assign tg env v >>= ·) (funext λ_=>?_))
   simp only [Zn,pure_bind,if_true,I_,bind_assoc]
 start:=Rae
theorem S!:gy prog w A (.ListComp elt [⟨tg,iter,[],0⟩,⟨oo,fw,[],0⟩] scope pos) 1 oo fw [] (IZ elt) where
 AK:=λ_ _ _=>⟨rfl,rfl⟩
 turn:=λ_ _ _=>rfl
 start:=kW
end
def F_ (su:TI) (g2:TG) (tb:α->St->Hp->(α->St->Hp->Prop)->Prop) (a:α) (σ:St) (H:Hp) (R:α->St->Hp->Prop):Prop:=su σ H λJ2 H3=>j4 J2 a σ H3 R g2 pO tb
def R? (own:Nat) (fr:List Nat) (wi:TI) (g:TG) (su:TI) (g2:TG) (te:TE):TE:=λσ H Q=>wi σ H λJ H1=>j4 J [] (h_ own fr σ) H1 (λys _ H=>∀ p,H p=none->Q (.ref p) (upd H p (.lst ys))) g pO (F_ su g2 (oq te))
theorem JT {na:Sem aa} {a0:α} {Ok:ae->α->af->Prop} {tb:α->St->Hp->(α->St->Hp->Prop)->Prop} {su:TI} (LO:gy Y.prog Y.w Y.A e 1 oo fw [] bd) (AO:i8 Y.prog Y.w Y.A na a0 Ok) (hx:∀ v s',¬ Y.xe v s') (hc:Y.calm=true) (hs:∀ x,foldedSetIterable fw Y.env x=pure x) (hi:PI Y oo fw su) (hg:PG Y oo g2) (hb:jK Y bd Ok tb) :
  jK Y (I_ e fw) Ok (F_ su g2 tb):=by
 intro ps s σ H D o a R dn I pl h
 refine Ra (fk (hi _ s σ H _ I h) λv s1 h1=>Ra (Td (Ra (Vf (hs v) (Ra (Rm (fk h1 λE7 s2 h2=>?_)))))))
 obtain ⟨it,fp,tn,J,H2,e,I2,T,ja,f2,hw⟩:=h2
 subst e
 refine Ra (wpAny_runOwn (Um (vR (R:=λr s'=>match r with
  | .ok _=>∃ e_ H' a' o',Inv Y ((D,o')::ps) e_ H' s'/\Ok D a' s'.heap/\R a' e_ H'
  | .error _=>False) LO AO hx hc T hg cP hb dn I2 (AO.ib I I2 pl) ja f2 hw λs' e_ H' a' o' I' ok q=>⟨e_,H',a',o',I',ok,q⟩) λr s5 h5=>?_))
 cases r with
 | ok f=>exact Rb h5
 | error e=>exact False.elim h5
section
variable {wi su:TI}
theorem aEK (S:fv X scope z own fr fm) (hc:X.calm=true) (hi:PI X tg iter wi) (hg:∀ C s0 H0 fp,PG (bH X scope z (own++fm) C s0 H0 fp) tg g) (qq:∀ C s0 H0 fp,PI (bH X scope z (own++fm) C s0 H0 fp) oo fw su) (Hn:∀ C s0 H0 fp,PG (bH X scope z (own++fm) C s0 H0 fp) oo g2)
  (he:∀ C s0 H0 fp,PE (bH X scope z (own++fm) C s0 H0 fp) elt te) (hs:autoParam (∀ x,foldedSetIterable iter X.env x=pure x) L2.u4) (ur:∀ C s0 H0 fp x,foldedSetIterable fw (bH X scope z (own++fm) C s0 H0 fp).env x=pure x:=by intro _ _ _ _ _; rfl) :
  PE X (.ListComp elt [⟨tg,iter,[],0⟩,⟨oo,fw,[],0⟩] scope pos) (R? own.length fr wi g su g2 te) :=
 nZ S rfl S? CA hc (eval_ListComp ..) hi hg (λ_ _ _ _=>cP) (λC s0 H0 fp=>JT S! CA (λ_ _ z=>z) hc (ur C s0 H0 fp) (qq C s0 H0 fp) (Hn C s0 H0 fp) (JG (he C s0 H0 fp))) hs λok hn _ q=>L8 ok hn q
end
section
variable {own:Nat} {su:TI} {σ:St}
def aGj (g2:TG) (te:TE) (SH:St->Prop) (vs:List V) (fg:St) (J2:It) (H4:Hp):Prop:=∃ Bu:St->Prop,Bu fg/\(∀ ki,Bu ki->SH ki)/\(∀ H',aD H4 H'->J2.stop vs.length H')/\(∀ j H',j < vs.length->aD H4 H'->J2.go j H') /\
 ∀ j v y ki H5 H6,vs[j]?=some v->Bu ki->aD H4 H5->J2.qd j H5 y H6->∀ Q:V->St->Hp->Prop,(∀ u3 H7,Bu u3->aD H5 H7->Q v u3 H7)->g2 y ki H6 λu3 H7=>te u3 H7 λz H8=>Q z u3 H8
theorem vU (h:ji[i]?=some vs):(ji.take (i+1)).flatten=(ji.take i).flatten++vs:=by
 rw [Je,h,Qac]; simp
theorem aEL (h:ji[i]?=some vs):(ji.take i).flatten.length+vs.length<=ji.flatten.length:=by
 have e:=congrArg List.flatten (Za (i+1) ji)
 rw [Qac,vU h] at e
 rw [<- e,Qj,Qj]
 omega
theorem aEM {n:Nat} (SH:St->Prop) (hn:ji.flatten.length<=1000) (hl:ji.length=n) (jc:SH (h_ own fr σ)) (ma:∀ H',aD H H'->J.stop n H') (A8:∀ i H',i < n->aD H H'->J.go i H') (hs:∀ i vs x σ H1 H2,i < n->ji[i]?=some vs->SH σ->aD H H1->J.qd i H1 x H2->∀ P:St->It->Hp->Prop,(∀ fg J2 H4,aD H1 H4->aGj g2 te SH vs fg J2 H4->P fg J2 H4)->g x σ H2 λfg H3=>su fg H3 λJ2 H4=>P fg J2 H4) (hd:∀ H',aD H H'->Qf H' ji.flatten) :
  j4 J [] (h_ own fr σ) H (λys _ H=>Qf H ys) g pO (F_ su g2 (oq te)):=by
 refine ⟨λi m ys e_ H'=>i<=n/\m=n - i/\ys=(ji.take i).flatten/\SH e_/\aD H H',⟨n,Jl _,rfl,rfl,jc,aD.refl H⟩,?_⟩
 rintro i m ys e_ H1 ⟨hi,rfl,rfl,sh,s1⟩
 by_cases e:i=n
 ·subst e
  refine .inl ⟨ma H1 s1,?_⟩
  rw [Jb (by omega)]
  exact hd H1 s1
 have ff:i < n:=by omega
 refine .inr ⟨A8 i H1 ff s1,λAJ fg H2=>AJ=(ji.take (i+1)).flatten/\SH fg/\aD H H2,λAJ fg H2 ⟨e1,e2,e3⟩=>⟨n - (i+1),by omega,by omega,rfl,e1,e2,e3⟩,λx H2 hy=>?_⟩
 have hv:ji[i]?=some ji[i]:=Qc (by omega)
 have Fo:=aEL hv
 show g x e_ H2 λfg H3=>su fg H3 λJ2 H4=>j4 J2 _ fg H4 _ g2 pO (oq te)
 refine hs i ji[i] x e_ H1 H2 ff hv sh s1 hy _ λfg J2 H4 s4 fe=>?_
 obtain ⟨Bu,Gh,hb,ja,go2,JT⟩:=fe
 refine ⟨λj m2 zs ki H5=>j<=(ji[i]).length/\m2=(ji[i]).length - j/\zs=(ji.take i).flatten++(ji[i]).take j/\Bu ki/\aD H4 H5,⟨_,Jl _,rfl,by rw [Zo,Xq],Gh,aD.refl _⟩,?_⟩
 rintro j m2 zs ki H5 ⟨hj,rfl,rfl,MC,s5⟩
 by_cases e2:j=(ji[i]).length
 ·refine .inl ⟨e2 ▸ ja H5 s5,?_,hb _ MC,(s1.trans s4).trans s5⟩
  rw [vU hv,show (ji[i]).take j=ji[i] from Jb (by omega)]
 ·have ue:j < (ji[i]).length:=by omega
  refine .inr ⟨go2 j H5 ue s5,λzq u3 H6=>zq=(ji.take i).flatten++(ji[i]).take (j+1)/\Bu u3/\aD H4 H6,λzq u3 H6 ⟨q1,q2,q3⟩=>⟨(ji[i]).length - (j+1),by omega,by omega,rfl,q1,q2,q3⟩,λy H6 GU=>?_⟩
  have C_:(ji[i])[j]?=some (ji[i])[j]:=Qc ue
  show g2 y ki H6 λu3 H7=>te u3 H7 λz H8=>_/\_
  refine JT j _ y ki H5 H6 C_ MC s5 GU _ λu3 H7 UT s7=>⟨JY (n:=((ji.take i).flatten++(ji[i]).take j).length+1) (by rw [Qj,Qq]; omega),?_,UT,s5.trans s7⟩
  rw [Je,C_,<- Zv]
  rfl
end
theorem aDc (bs:List Bool) (tr:Nat->Bool) (h:∀ i b,bs[i]?=some b->tr i=b):(List.range bs.length).any tr=bs.any id:=by
 rw [Xf,Xg,Xg]
 constructor
 ·rintro ⟨i,hi,q⟩
  have uf:=Jm.mp hi
  rw [h i _ (Qc uf)] at q
  exact ⟨_,Jr uf,q⟩
 ·rintro ⟨b,hb,q⟩
  obtain ⟨i,hi⟩:=Wu hb
  exact ⟨i,Jm.mpr (Qb.mp hi).1,by rw [h i b hi]; exact q⟩
theorem aEN (hc:X.calm=true):eV X (.builtin "any") (λxs H Q=>∃ (p:ae) (bs:List Bool),xs = [.ref p]/\fh X.K H p (bs.map V.bl)/\Q (.bl (bs.any id)) H):=by
 intro a_ s σ H xs us Q I r h
 obtain ⟨p,bs,rfl,hx,q⟩:=h
 obtain ⟨u,rfl,rx⟩:=fY r
 cases rx
 obtain ⟨b_,rv,pl,hz⟩:=I.list hx
 have hl:=rv.length
 rw [Qa] at hl
 have ff:p < s.heap.objs.size:=by obtain ⟨o,n,e,_⟩:=pl; exact af.lt_size e
 refine call_any_walk (Tr pl.isList ?_)
 refine ⟨s.heap.objs.size,_,_,_,_,_,λi=>(bs[i]?).getD false,rfl,cz.list (A:=X.A.in1) (I.ok.hd hc) s.heap.objs.size p (Qx ff) b_.toArray,⟨⟨_,af.get?_push_size _ rfl,rfl,rfl⟩,pl.isList.push _⟩,?_,λh' tk hk=>?_⟩
 ·intro i v s' Q' E' hP j_
  have oz:b_[i]?=some v:=by simpa using hP
  have hi:i < bs.length:=by rw [hl]; exact (Qb.mp oz).1
  obtain ⟨w,hw,jb⟩:=rv.get (i:=i) (x:=.bl bs[i]) (by rw [Qd,Qc hi]; rfl)
  rw [hw] at oz
  cases oz
  cases jb
  have e:(bs[i]?).getD false=bs[i]:=by rw [Qc hi]; rfl
  rw [<- e]
  exact Rv j_
 ·have e:(List.range b_.toArray.size).any (λi=>(bs[i]?).getD false)=bs.any id:=by
   rw [Qk,<- hl]
   exact aDc bs _ λi b hb=>by rw [hb]; rfl
  rw [e]
  refine ⟨.bl _,H,I.kept (h':=h') λb o e=>hk b o ?_ (af.get?_push_of_some _ e),rfl,q⟩
  intro z
  have z':b=s.heap.objs.size:=by simpa using z
  exact Jo _ (z' ▸ af.lt_size e)
section
variable [DecidableEq κ]
noncomputable def dP (kvs:List (κ×V)) (k:κ):Option V:=(kvs.find? λkv=>decide (kv.1=k)).map (·.2)
noncomputable def jC (kvs:List (κ×V)) (k:κ) (v:V):List (κ×V) :=
 if (kvs.any λkv=>decide (kv.1=k))=true then kvs.map (λkv=>if kv.1=k then (kv.1,v) else kv) else kvs++[(k,v)]
theorem aEO {k:κ}:dP ([]:List (κ×V)) k=none:=rfl
theorem eM {p:κ×V} {r:List (κ×V)} {k:κ} (e:p.1=k):dP (p::r) k=some p.2:=by simp [dP,Xi,e]
theorem eS {p:κ×V} {r:List (κ×V)} {k:κ} (e:¬ p.1=k):dP (p::r) k=dP r k:=by simp [dP,Xi,e]
theorem hX (k:κ):∀ kvs:List (κ×V),(kvs.any λkv=>decide (kv.1=k))=(dP kvs k).isSome
 | []=>rfl
 | p::r=>by
  rw [Xz]
  by_cases e:p.1=k
  ·simp only [eM e,decide_eq_true e,Qas,Qah]
  ·rw [eS e,decide_eq_false e,Qai]; exact hX k r
theorem Sv (k j:κ) (y:V):∀ kvs:List (κ×V),dP (kvs.map λkv=>if kv.1=k then (kv.1,y) else kv) j=(dP kvs j).map λx=>if j=k then y else x
 | []=>rfl
 | p::r=>by
  have ih:=Sv k j y r
  rw [Qw]
  by_cases h:p.1=k
  ·rw [if_pos h]
   by_cases e:p.1=j
   ·rw [eM (p:=(p.1,y)) e,eM e,Xr,if_pos (e.symm.trans h)]
   ·rw [eS (p:=(p.1,y)) e,eS e,ih]
  ·rw [if_neg h]
   by_cases e:p.1=j
   ·rw [eM (p:=p) e,eM e,Xr,if_neg (λz=>h (e.trans z))]
   ·rw [eS (p:=p) e,eS e,ih]
theorem pT (k j:κ) (y:V):∀ kvs:List (κ×V),dP kvs k=none->dP (kvs++[(k,y)]) j=if j=k then some y else dP kvs j
 | [],_=>by
  by_cases e:k=j
  ·rw [if_pos e.symm]; exact eM (p:=(k,y)) e
  ·rw [if_neg (λz=>e z.symm)]; exact eS (p:=(k,y)) e
 | p::r,hn=>by
  rw [Yk]
  have hk:¬ p.1=k:=λz=>by rw [eM z] at hn; cases hn
  rw [eS hk] at hn
  have ih:=pT k j y r hn
  by_cases e:p.1=j
  ·rw [eM e,eM e,if_neg (λz=>hk (e.trans z))]
  ·rw [eS e,eS e,ih]
theorem Su (kvs:List (κ×V)) (k j:κ) (y:V):dP (jC kvs k y) j=if j=k then some y else dP kvs j:=by
 unfold jC
 by_cases a:(kvs.any λkv=>decide (kv.1=k))=true
 ·rw [if_pos a,Sv]
  rw [hX] at a
  by_cases e:j=k
  ·obtain ⟨x,hx⟩:=Yz.mp a
   rw [if_pos e,e,hx,Xr,if_pos rfl]
  ·rw [if_neg e]
   cases dP kvs j with
   | none=>rfl
   | some x=>rw [Xr,if_neg e]
 ·rw [if_neg a]
  refine pT k j y kvs ?_
  rw [hX] at a
  cases q:dP kvs k with
  | none=>rfl
  | some x=>rw [q] at a; exact (a rfl).elim
theorem jF (kvs:List (κ×V)) (k:κ) (v:V):(jC kvs k v).length<=kvs.length+1:=by
 unfold jC
 split
 ·rw [Qa]; omega
 ·rw [Qj,Ja,Xx]; omega
theorem aEP {kvs:List (κ×V)} {k:κ} (v:V) (h:dP kvs k=none):jC kvs k v=kvs++[(k,v)]:=by
 unfold jC
 rw [hX,h]
 exact if_neg (by decide)
theorem nR.iu {o:Option V} {u:Option aa} (r:nR o u):o.isSome=u.isSome:=by
 cases o with
 | none => cases u with
   | none=>rfl
   | some _=>exact (show False from r).elim
 | some _ => cases u with
   | none=>exact (show False from r).elim
   | some _=>rfl
theorem KV.val {kvs:List (κ×V)} {vs:List (κ×aa)} (r:KV kvs vs) (k:κ):nR (dP kvs k) (valueAt vs k):=by
 unfold KV at r
 induction r with
 | nil=>exact True.intro
 | @cons p q ps qs h t ih =>
  obtain ⟨h1,h2⟩:=h
  by_cases e:p.1=k
  ·have e':q.1=k:=h1.symm.trans e
   have b:valueAt (q::qs) k=some q.2:=by simp [valueAt,Xi,e']
   rw [eM e,b]; exact h2
  ·have e':¬ q.1=k:=λz=>e (h1.trans z)
   have b:valueAt (q::qs) k=valueAt qs k:=by simp [valueAt,Xi,e']
   rw [eS e,b]; exact ih
theorem KV.any {kvs:List (κ×V)} {vs:List (κ×aa)} (r:KV kvs vs) (k:κ):(kvs.any λkv=>decide (kv.1=k))=vs.any λkv=>decide (kv.1=k):=by
 unfold KV at r
 induction r with
 | nil=>rfl
 | cons h t ih=>rw [Xz,Xz,ih,h.1]
theorem KV.gq {kvs:List (κ×V)} {vs:List (κ×aa)} (r:KV kvs vs) (k:κ) (ry:bN y u) :
  KV (kvs.map λkv=>if kv.1=k then (kv.1,y) else kv) (vs.map λkv=>if kv.1=k then (kv.1,u) else kv):=by
 unfold KV at r ⊢
 induction r with
 | nil=>exact .nil
 | @cons p q ps qs h t ih =>
  rw [Qw,Qw]
  refine .cons ?_ ih
  obtain ⟨h1,h2⟩:=h
  by_cases e:p.1=k
  ·rw [if_pos e,if_pos (h1.symm.trans e)]; exact ⟨h1,ry⟩
  ·rw [if_neg e,if_neg (λz=>e (h1.trans z))]; exact ⟨h1,h2⟩
theorem KV.put {kvs:List (κ×V)} {vs:List (κ×aa)} (r:KV kvs vs) (k:κ) (ry:bN y u):KV (jC kvs k y) (stored vs k u):=by
 unfold jC stored
 rw [r.any k]
 by_cases e:(vs.any λkv=>decide (kv.1=k))=true
 ·rw [if_pos e,if_pos e]; exact r.gq k ry
 ·rw [if_neg e,if_neg e]; exact cm.snoc r ⟨rfl,ry⟩
theorem KV.keys {kvs:List (κ×V)} {vs:List (κ×aa)} (r:KV kvs vs):kvs.map (·.1)=vs.map (·.1):=by
 unfold KV at r
 induction r with
 | nil=>rfl
 | cons h t ih=>rw [Qw,Qw,ih,h.1]
theorem KV.length {kvs:List (κ×V)} {vs:List (κ×aa)} (r:KV kvs vs):kvs.length=vs.length:=cm.length r
end
theorem vV {k:Key} (r:bN (kV k) u):(cA P w).is k u=true:=by
 cases k with
 | inl i=>obtain ⟨t,e⟩:=(show ∃ t,u=aa.int i t from r); subst e; exact yU P w i t
 | inr x=>obtain ⟨t,e⟩:=(show ∃ t,u=aa.str x t from r); subst e; exact yV P w x t
theorem vW:∀ {ks:List Key} {us:List aa},bM (ks.map kV) us->ItemsAre (cA P w) ks us
 | [],_,r=>by rw [Qap] at r; cases r; exact .nil
 | k::ks,_,r=>by
  rw [Qw] at r
  cases r with
  | cons h t=>exact .cons (vV h) (vW t)
abbrev KT (H:Hp):List (List Key×V)->List (List Key×ae×aa)->Prop:=cm λp q=>p.1=q.1/\H q.2.1=some (.tup (p.1.map kV))/\bN p.2 q.2.2
theorem KT.val {xs:List (List Key×ae×aa)} (r:KT H kvs xs) (k:List Key):nR (dP kvs k) ((atKey xs k).map (·.2)):=by
 induction r with
 | nil=>exact True.intro
 | @cons p q ps qs h t ih =>
  obtain ⟨h1,_,h2⟩:=h
  by_cases e:p.1=k
  ·have e':q.1=k:=h1.symm.trans e
   have b:atKey (q::qs) k=some q.2:=by simp [atKey,Xi,e']
   rw [eM e,b]; exact h2
  ·have e':¬ q.1=k:=λz=>e (h1.trans z)
   have b:atKey (q::qs) k=atKey qs k:=by simp [atKey,Xi,e']
   rw [eS e,b]; exact ih
theorem KT.gq {xs:List (List Key×ae×aa)} (r:KT H kvs xs) (k:List Key) (ry:bN y u) :
  KT H (kvs.map λkv=>if kv.1=k then (kv.1,y) else kv) (xs.map (putAt k u)):=by
 induction r with
 | nil=>exact .nil
 | @cons p q ps qs h t ih =>
  rw [Qw,Qw]
  refine .cons ?_ ih
  obtain ⟨h1,h2,h3⟩:=h
  unfold putAt
  by_cases e:p.1=k
  ·rw [if_pos e,if_pos (h1.symm.trans e)]; exact ⟨h1,h2,ry⟩
  ·rw [if_neg e,if_neg (λz=>e (h1.trans z))]; exact ⟨h1,h2,h3⟩
theorem KT.put {xs:List (List Key×ae×aa)} (r:KT H kvs xs) (k:List Key) (hb:H b=some (.tup (k.map kV))) (ry:bN y u) :
  KT H (jC kvs k y) (storedH xs k b u):=by
 have e:(kvs.any λkv=>decide (kv.1=k))=(atKey xs k).isSome:=by
  rw [hX,(r.val k).iu,Wc]
 unfold jC storedH
 rw [e]
 by_cases q:(atKey xs k).isSome=true
 ·rw [if_pos q,if_pos q]; exact r.gq k ry
 ·rw [if_neg q,if_neg q]; exact cm.snoc r ⟨rfl,hb,ry⟩
theorem KT.keeps {xs:List (List Key×ae×aa)} (r:KT H kvs xs) (ht:∀ b ys,H b=some (.tup ys)->H' b=some (.tup ys)):KT H' kvs xs :=
 cm.Ea r λ_ _ z=>⟨z.1,ht _ _ z.2.1,z.2.2⟩
theorem PL {u:HO} (ok:jq P w H h) (e:Rd H a u):bJ P w H h a u:=e.ok ok
theorem DW {kvs:List (Key×V)} (ok:jq P w H h) (e:Rd H a (.dK kvs)):kvs.length<=ak/\(a==bg)=false/\∃ vs,KV kvs vs/\h.DictOf (cA P w) a vs :=
 show bJ P w H h a (.dK kvs) from PL ok e
theorem y! {kvs:List (Key×V)} (ok:jq P w H h) (e:H a=some (.dK kvs)):kvs.length<=ak/\(a==bg)=false/\∃ vs,KV kvs vs/\h.DictOf (cA P w) a vs:=DW ok (.inl e)
theorem kJ {ks:List Key} (ok:jq P w H h) (e:H a=some (.tup (ks.map kV))):(tupleKind (cA P w)).is h ks a:=by
 obtain ⟨_,b_,n,r,e1⟩:=(show bJ P w H h a (.tup (ks.map kV)) from ok a _ e)
 exact ⟨_,b_.toArray,n,e1,rfl,rfl,by simpa using vW r⟩
theorem vX (ok:jq P w H h) (e:Rd H a (.dT kvs)):kvs.length<=ak/\(a==bg)=false /\
  ∃ xs,KT H kvs xs/\h.DictOfH (tupleKind (cA P w)) a xs:=by
 obtain ⟨z,y,xs,r,o,es,ep,h1,h2,h3,h4,h5⟩:=(show bJ P w H h a (.dT kvs) from PL ok e)
 refine ⟨z,y,xs,r,o,es,ep,h1,h2,h3,h4,λx hx=>?_,h5⟩
 have all:∀ {l:List (List Key×V)} {m:List (List Key×ae×aa)},KT H l m->∀ x∈m,(tupleKind (cA P w)).is h x.1 x.2.1:=by
  intro l m q
  induction q with
  | nil=>intro x hx; exact nomatch hx
  | @cons p q ps qs hq t ih =>
   intro x hx
   rcases Ql.mp hx with e | hx
   ·subst e
    exact kJ ok (by rw [<- hq.1]; exact hq.2.1)
   ·exact ih x hx
 exact all r x hx
theorem PJ (ok:jq P w H h) (e:H a=some (.dT kvs)):kvs.length<=ak/\(a==bg)=false /\
  ∃ xs,KT H kvs xs/\h.DictOfH (tupleKind (cA P w)) a xs:=vX ok (.inl e)
def sT (H:Hp) (a:ae) (y:V) (r:Option V):Prop :=
 (∃ kvs k,Rd H a (.dK kvs)/\y=kV k/\r=dP kvs k)∨∃ kvs k b,Rd H a (.dT kvs)/\y=.ref b/\H b=some (.tup (k.map kV))/\r=dP kvs k
def vB (H:Hp) (a:ae) (y v:V) (H':Hp):Prop :=
 (∃ kvs k,H a=some (.dK kvs)/\y=kV k/\kvs.length < ak/\H'=upd H a (.dK (jC kvs k v))) ∨
 ∃ kvs k b,H a=some (.dT kvs)/\y=.ref b/\H b=some (.tup (k.map kV))/\kvs.length < ak/\H'=upd H a (.dT (jC kvs k v))
theorem sT.k {kvs:List (Key×V)} {k:Key} (e:H a=some (.dK kvs)):sT H a (kV k) (dP kvs k):=.inl ⟨kvs,k,.inl e,rfl,rfl⟩
theorem vB.k {kvs:List (Key×V)} {k:Key} (e:H a=some (.dK kvs)) (hl:kvs.length < ak):vB H a (kV k) v (upd H a (.dK (jC kvs k v))):=.inl ⟨kvs,k,e,rfl,hl,rfl⟩
theorem vB.t {k:List Key} (e:H a=some (.dT kvs)) (eb:H b=some (.tup (k.map kV))) (hl:kvs.length < ak) :
  vB H a (.ref b) v (upd H a (.dT (jC kvs k v))):=.inr ⟨kvs,k,b,e,rfl,eb,hl,rfl⟩
section
variable {σ:St} {r:aa} {o:Option V}
theorem Inv.big (I:Inv X a_ σ H s):bg < s.heap.objs.size:=by
 have h:aq < s.heap.objs.size:=(I.mod.glob.keeps I.bk).lt
 exact Yi (by decide) h
theorem aDd (hu:A.units+1 < cn) (I:Inv X a_ σ H s) (g:sT H a y (some v)) (ry:bN y u) (h:∀ w' s',Inv X a_ σ H s'->bN v w'->Q w' s') :
  ag (ao X.prog X.w) A (cp (.ref a) u) Q E s:=by
 rcases g with ⟨kvs,k,e,ey,l⟩ | ⟨kvs,k,b,e,ey,eb,l⟩
 ·subst ey
  obtain ⟨z,hd,vs,rel,dd⟩:=DW I.fj e
  obtain ⟨w',hw,jb⟩:=nR.some_of (v:=v) (o:=valueAt vs k) (by rw [l]; exact rel.val k)
  exact wpAny_getItem_of (vV ry) dd.mapOf hw (h w' _ (I.tok _) jb)
 ·subst ey
  cases (show u=aa.ref b from ry)
  obtain ⟨z,hd,xs,rel,dd⟩:=vX I.fj e
  obtain ⟨w',hw,jb⟩:=nR.some_of (v:=v) (o:=(atKey xs k).map (·.2)) (by rw [l]; exact rel.val k)
  obtain ⟨p,hp,oh⟩:=Option.map_eq_some_iff.mp hw
  refine wpAny_getItem_heap (Uv hu) (kJ I.fj eb) dd hp ?_
  rw [oh]
  exact h w' _ (I.tok _) jb
theorem h! (hu:A.units+1 < cn) (I:Inv X a_ σ H s) (g:sT H a y o) (ry:bN y u) (h:∀ s',Inv X a_ σ H s'->Q (.bool o.isSome) s') :
  ag (ao X.prog X.w) A (bc .In u (.ref a)) Q E s:=by
 rcases g with ⟨kvs,k,e,ey,l⟩ | ⟨kvs,k,b,e,ey,eb,l⟩
 ·subst ey
  obtain ⟨z,hd,vs,rel,dd⟩:=DW I.fj e
  refine wpAny_in_of (vV ry) hd dd.mapOf ?_
  rw [<- (rel.val k).iu,<- l]
  exact h _ (I.tok _)
 ·subst ey
  cases (show u=aa.ref b from ry)
  obtain ⟨z,hd,xs,rel,dd⟩:=vX I.fj e
  refine wpAny_in_heap (Uv hu) (kJ I.fj eb) hd dd ?_
  have q:=(rel.val k).iu
  rw [Wc] at q
  rw [<- q,<- l]
  exact h _ (I.tok _)
theorem aGk (hu:A.units+1 < cn) (I:Inv X a_ σ H s) (g:sT H a y o) (ry:bN y u) (h:∀ s',Inv X a_ σ H s'->Q (.bool (!o.isSome)) s') :
  ag (ao X.prog X.w) A (bc .NotIn u (.ref a)) Q E s:=by
 rcases g with ⟨kvs,k,e,ey,l⟩ | ⟨kvs,k,b,e,ey,eb,l⟩
 ·subst ey
  obtain ⟨z,hd,vs,rel,dd⟩:=DW I.fj e
  refine wpAny_notIn_of (vV ry) hd dd.mapOf ?_
  rw [<- (rel.val k).iu,<- l]
  exact h _ (I.tok _)
 ·subst ey
  cases (show u=aa.ref b from ry)
  obtain ⟨z,hd,xs,rel,dd⟩:=vX I.fj e
  refine wpAny_notIn_heap (Uv hu) (kJ I.fj eb) hd dd ?_
  have q:=(rel.val k).iu
  rw [Wc] at q
  rw [<- q,<- l]
  exact h _ (I.tok _)
theorem rQ {ob:HO} (I:Inv X a_ σ H s) (mu:ym (H a)) (hs:af.SameBut a s.heap h') (he:∃ q,h'.get? a=some q) (new:bJ X.prog X.w (upd H a ob) h' a ob) :
  Inv X a_ σ (upd H a ob) { s with heap:=h',toks:=t' } :=
 I.write (x:=a) (e:=a) mu (.inl rfl) (λb q hb z=>(hs.2 b hb).trans z) he new
theorem QR {kvs:List (Key×V)} {vs:List (Key×aa)} (z:kvs.length<=ak) (hd:(a==bg)=false) (rel:KV kvs vs) (dd:h'.DictOf (cA P w) a vs) :
  bJ P w H' h' a (.dK kvs):=⟨z,hd,vs,rel,dd⟩
theorem aDe {Q:Unit->ah->Prop} (hu:A.units+1 < cn) (I:Inv X a_ σ H s) (g:vB H a y v H') (ry:bN y u) (rv:bN v r) (h:∀ s',Inv X a_ σ H' s'->Q () s') :
  ag (ao X.prog X.w) A (setItem (.ref a) u r) Q E s:=by
 rcases g with ⟨kvs,k,e,ey,l,eH⟩ | ⟨kvs,k,b,e,ey,eb,l,eH⟩
 ·subst ey eH
  obtain ⟨z,hd,vs,rel,dd⟩:=y! I.fj e
  have hz:vs.length<=ak:=by rw [<- rel.length]; exact z
  have hl:(jC kvs k v).length<=ak:=by have:=jF kvs k v; omega
  refine wpAny_setItem_pairs (hsz:=hz) (vV ry) dd λh' ux hs=>h _ ?_
  have he:∃ q,h'.get? a=some q:=let ⟨q,_,_,hq,_⟩:=ux; ⟨q,hq⟩
  exact rQ I (by rw [e]; exact True.intro) hs he (QR hl hd (rel.put k rv) ux)
 ·subst ey eH
  cases (show u=aa.ref b from ry)
  obtain ⟨z,hd,xs,rel,dd⟩:=PJ I.fj e
  have hz:xs.length<=ak:=by rw [<- cm.length rel]; exact z
  have hl:(jC kvs k v).length<=ak:=by have:=jF kvs k v; omega
  refine wpAny_setItem_heap (hsz:=hz) (Uv hu) (kJ I.fj eb) dd λh' ux hs=>h _ ?_
  obtain ⟨q,es,ep,hq,h2,h3,h4,_,h5⟩:=ux
  refine rQ I (by rw [e]; exact True.intro) hs ⟨q,hq⟩ ⟨hl,hd,_,(rel.put k eb rv).keeps λc ys ec=>?_,q,es,ep,hq,h2,h3,h4,h5⟩
  rw [aG (PX ec e (λz=>nomatch z))]
  exact ec
end
section
variable {σ:St} {kvs:List (Key×V)} {k:Key}
end
def Pf (i:bq):Prop:=∀ ov iv,subscripted i false ov iv=operate [ov,iv] (cp ov iv)
theorem aGl {env:c8} {slice:bq} {id:String} (hl:typeLookup (.type T) "__getitem__" = pure (some (.builtin id))) (hs:Pf slice) (h:ag (ao prog w) A (eval value env) (λo gf=>ag (ao prog w) A (eval slice env) (λi kr=>kr.TypeIs o T/\ag (ao prog w) A (cp o i) Q E kr) E gf) E s) :
  ag (ao prog w) A (eval (.Subscript value slice pos) env) Q E s:=by
 refine Ip (Rp h (λo gf mw=>Rp mw (λi kr Bh=>?_) λ_ _ x=>x) λ_ _ x=>x)
 obtain ⟨hT,Bh⟩:=Bh
 unfold subscriptTail
 refine Ra ?_
 rw [getitemInPython_of_ne hT.not_modules]
 refine Ra (RaN hT hl ?_)
 have fin:ag (ao prog w) A (subscripted slice false o i) (λr wx=>ag (ao prog w) A (letTemporaryGo value o r >>= λ_=>pure r) Q E wx) E kr:=by
  rw [hs o i]
  exact wpAny_operating (Rp Bh (λr wx FD=>Ra (wpAny_letTemporaryGo (Rb FD))) λ_ _ x=>x)
 first
  | exact Rb (Ra fin)
  | exact Ra (Rb (Ra fin))
  | exact Ra fin
theorem aAe {σ:St} {o:Option V} (I:Inv X a_ σ H s) (g:sT H a y o):s.TypeIs (.ref a) "dict" := by
 rcases g with ⟨kvs,k,e,_,_⟩ | ⟨kvs,k,b,e,_,_,_⟩
 ·obtain ⟨_,_,vs,_,dd⟩:=DW I.fj e
  exact dd.typeIs
 ·obtain ⟨_,_,xs,_,dd⟩:=vX I.fj e
  exact dd.typeIs
def x? (td ty:TE):TE:=λσ H Q=>td σ H λx H1=>ty σ H1 λy H2=>∃ a v,x=.ref a/\sT H2 a y (some v)/\Q v H2
def g? (ty td:TE):TE:=λσ H Q=>ty σ H λy H1=>td σ H1 λx H2=>∃ a o,x=.ref a/\sT H2 a y o/\Q (.bl o.isSome) H2
def aGm (ty td:TE):TE:=λσ H Q=>ty σ H λy H1=>td σ H1 λx H2=>∃ a o,x=.ref a/\sT H2 a y o/\Q (.bl (!o.isSome)) H2
def x! (td ty tv:TE):TS:=λD σ H=>tv σ H λv H1=>td σ H1 λx H2=>ty σ H2 λy H3=>∃ a H4,x=.ref a/\vB H3 a y v H4/\D.nx σ H4
section
variable {o i:bq} {ty:TE}
theorem oF (hu:X.A.units+1 < cn) (ho:PE X o td) (hi:PE X i ty) (hs:Pf i):PE X (.Subscript o i pos) (x? td ty):=by
 intro a_ s σ H Q I h
 refine aGl PySem.F.slot_dict_getitem.lookup hs (fk (ho a_ s σ H _ I h) λu s1 ⟨x,H1,I1,rx,q1⟩=>fk (hi a_ s1 σ H1 _ I1 q1) λiv s2 fe=>?_)
 obtain ⟨y,H2,I2,ry,a,v,ex,g,q2⟩:=fe
 subst ex
 obtain rfl:u=aa.ref a:=rx
 exact ⟨aAe I2 g,aDd hu I2 g ry λw' s3 I3 jb=>⟨v,H2,I3,jb,q2⟩⟩
theorem R! (hu:X.A.units+1 < cn) (hi:PE X i ty) (ho:PE X o td):PC X .In i o (g? ty td):=by
 intro a_ s σ H Q I h
 refine fk (hi a_ s σ H _ I h) λiv s1 ⟨y,H1,I1,ry,q1⟩=>fk (ho a_ s1 σ H1 _ I1 q1) λu s2 fe=>?_
 obtain ⟨x,H2,I2,rx,a,ov,ex,g,q2⟩:=fe
 subst ex
 obtain rfl:u=aa.ref a:=rx
 exact h! hu I2 g ry λs3 I3=>⟨.bl ov.isSome,H2,I3,rfl,q2⟩
theorem aDf (hu:X.A.units+1 < cn) (hi:PE X i ty) (ho:PE X o td):PC X .NotIn i o (aGm ty td):=by
 intro a_ s σ H Q I h
 refine fk (hi a_ s σ H _ I h) λiv s1 ⟨y,H1,I1,ry,q1⟩=>fk (ho a_ s1 σ H1 _ I1 q1) λu s2 fe=>?_
 obtain ⟨x,H2,I2,rx,a,ov,ex,g,q2⟩:=fe
 subst ex
 obtain rfl:u=aa.ref a:=rx
 exact aGk hu I2 g ry λs3 I3=>⟨.bl (!ov.isSome),H2,I3,rfl,q2⟩
theorem rR (hu:X.A.units+1 < cn) (ho:PE X o td) (hi:PE X i ty) (hv:PE X value tv) (hs:swapsWith value (some (.Subscript o i pos')) pos.line X.env=pure false) :
  PS X (.Assign [.Subscript o i pos'] value pos) (x! td ty tv):=by
 intro a_ s σ H D I h
 refine wpAny_Assign_Subscript (fk (hv a_ s σ H _ I h) λr s1 ⟨v,H1,I1,rv,q1⟩=>fk (ho a_ s1 σ H1 _ I1 q1) λu s2 ⟨x,H2,I2,rx,q2⟩=>fk (hi a_ s2 σ H2 _ I2 q2) λiv s3 fe=>?_) hs
 obtain ⟨y,H3,I3,ry,a,H4,ex,g,q3⟩:=fe
 subst ex
 obtain rfl:u=aa.ref a:=rx
 exact aDe hu I3 g ry rv λs4 I4=>⟨σ,H4,I4,q3⟩
end
theorem Ss (h:af) (hb:bg < h.objs.size):bJ P w H (h.push { cls:=.type "dict",data:=.dict #[] }) h.objs.size (.dK []) :=
 ⟨Jl _,beq_eq_false_iff_ne.mpr (Ne.symm (Qx hb)),[],.nil,af.DictOf.new h⟩
theorem Sr (h:af) (hb:bg < h.objs.size):bJ P w H (h.push { cls:=.type "dict",data:=.dict #[] }) h.objs.size (.dT []) :=
 ⟨Jl _,beq_eq_false_iff_ne.mpr (Ne.symm (Qx hb)),[],.nil,_,#[],0,af.get?_push_size _ rfl,⟨rfl,rfl,rfl⟩,rfl,rfl,Zx⟩
def Q?:TE:=λ_ H Q=>∀ p,H p=none->Q (.ref p) (upd H p (.dK []))
def Q!:TE:=λ_ H Q=>∀ p,H p=none->Q (.ref p) (upd H p (.dT []))
theorem Sq:PE X (.Dict [] [] pos) Q?:=λa_ s σ H Q I h =>
 RaC ⟨.ref s.heap.objs.size,_,I.laid (a:=s.heap.objs.size) (o:=.dK []) (t':=s.toks) (λ_ _ q=>af.get?_push_of_some _ q) (Qh _) (Ss s.heap I.big),rfl,h _ (I.fj.fresh (Qh _))⟩
theorem aER:PE X (.Dict [] [] pos) Q!:=λa_ s σ H Q I h =>
 RaC ⟨.ref s.heap.objs.size,_,I.laid (a:=s.heap.objs.size) (o:=.dT []) (t':=s.toks) (λ_ _ q=>af.get?_push_of_some _ q) (Qh _) (Sr s.heap I.big),rfl,h _ (I.fj.fresh (Qh _))⟩
def NF (H0:Hp) (a:ae):Prop:=∀ o u,H0 a≠some (.gh o u)
section
variable {σ:St}
theorem Inv.freeze {kvs:List (Key×V)} (I:Inv X a_ σ H s) (e:H a=some (.dK kvs)) (ho:s.heap.get? a=some o):Inv X a_ σ (upd H a (.gh o (.dK kvs))) s:=by
 have m:ym (H a):=by rw [e]; trivial
 have q:bJ X.prog X.w H s.heap a (.dK kvs):=I.fj a _ e
 exact I.write (x:=a) (e:=a) (t':=s.toks) m (.inl rfl) (λb u _ z=>z) ⟨o,ho⟩ ⟨ho,q⟩
theorem Inv.nf {kvs:List (Key×V)} (I:Inv X a_ σ H s) (e:H a=some (.dK kvs)):NF X.qk a:=λo u z=>by
 have:=I.base.j6 a o u z
 rw [e] at this; cases this
theorem Inv.Kt {kvs:List (Key×V)} (I:Inv X a_ σ H s) (e:H a=some (.gh o (.dK kvs))) (nf:NF X.qk a):Inv X a_ σ (upd H a (.dK kvs)) s:=by
 have ne:∀ b,H b=none->b≠a:=λb n z=>by rw [z,e] at n; cases n
 have nt:∀ b xs,H b=some (.tup xs)->b≠a:=λb xs n z=>by rw [z,e] at n; cases n
 have no:∀ b x,H b=some (.own x)->b≠a:=λb xs n z=>by rw [z,e] at n; cases n
 obtain ⟨ho,q⟩:s.heap.get? a=some o/\bJ X.prog X.w H s.heap a (.dK kvs):=I.fj a _ e
 have un:Un X.fs X.ex X.qk (upd H a (.dK kvs)) X.jm.heap s.heap:=by
  refine ⟨I.base.keep,I.base.slot,λb ob q n hx=>?_,I.base.there,λb xs q=>?_,λb ob u q=>?_,λb ps q=>?_⟩
  ·have z:=I.base.free b ob q n hx
   rw [aG (ne b z)]; exact z
  ·have z:=I.base.ly b xs q
   rw [aG (nt b xs z)]; exact z
  ·have z:=I.base.j6 b ob u q
   have n:b≠a:=λy=>nf ob u (y ▸ q)
   rw [aG n]; exact z
  ·obtain ⟨m,z⟩:=I.base.lz b ps q
   have n:b≠a:=λy=>by rw [y,e] at z; cases z
   exact ⟨m,by rw [aG n]; exact z⟩
 refine ⟨I.ok,I.os,I.bare,un,I.loc,I.cell,?_,λx c h=>?_,λp hp=>?_,λb u h=>?_,I.len⟩
 ·rw [aG (ne _ I.free)]; exact I.free
 ·have z:=I.g_ x c h
  rw [aG (ne _ z)]; exact z
 ·obtain ⟨p1,p2,p3⟩:=I.pin p hp
  exact ⟨p1,by rw [aG (ne _ p2)]; exact p2,p3⟩
 ·by_cases hb:b=a
  ·subst hb
   rw [aB] at h
   cases h
   exact bJ.ib q (λ_ _ _ z=>z) (λc z=>by rw [aG (no c _ z)]; exact z) (λc xs z=>by rw [aG (nt c xs z)]; exact z)
  ·rw [aG hb] at h
   exact bJ.ib (I.fj b u h) (λ_ _ _ z=>z) (λc z=>by rw [aG (no c _ z)]; exact z) (λc xs z=>by rw [aG (nt c xs z)]; exact z)
end
noncomputable def CH (a:ae) (o:bz) (kvs:List (Key×V)):It :=
 ⟨λi H=>H a=some (.gh o (.dK kvs))/\i < kvs.length,λi H x H'=>H'=H/\∃ p,kvs[i]?=some p/\x=kV p.1,λi H=>H a=some (.gh o (.dK kvs))/\i=kvs.length⟩
theorem So {k:Key} (h:(cA P w).is k u=true):bN (kV k) u:=by
 rcases cU h with ⟨i,t,rfl,rfl⟩ | ⟨x,t,rfl,rfl⟩
 ·exact ⟨t,rfl⟩
 ·exact ⟨t,rfl⟩
theorem pU {es:Array c9} {vs:List (Key×aa)} (ho:h.get? a=some o) (hd:o.data=.dict es ep) (d:h.DictOf (cA P w) a vs):h.DictAt (cA P w) a vs ep:=by
 obtain ⟨o',uw,yj,q1,q2,q3,r⟩:=d
 rw [ho] at q1; cases q1
 rw [hd] at q3; cases q3
 exact ⟨o,es,ho,q2,hd,r⟩
theorem aDg (a it:ae) (o:bz) (es:Array c9) (ep:Nat) (hd:o.data=.dict es ep) (kvs:List (Key×V)) :
  Turn P w K tg (CH a o kvs) [it] it (λi h=>h.IsKeyIter it a i kvs.length ep) where
 mem:=by simp
 obj:=λi h st b hb=>by
  have e:b=it:=by simpa using hb
  subst e
  obtain ⟨o,e,c,d⟩:=st
  exact ⟨o,e,λv z=>by rw [d] at z; cases z⟩
 keep:=λi h h' st k=>st.at λo e=>k it (by simp) o e
 item:=by
  intro X hP hw hK hc i a_ s σ H E I hf st hg
  subst hP hw hK
  obtain ⟨hA,hi⟩:=hg
  obtain ⟨ho,hz,hs,vs,kv,dd⟩:s.heap.get? a=some o/\bJ X.prog X.w H s.heap a (.dK kvs):=I.fj a _ hA
  have da:=pU ho hd dd
  have hl:kvs.length=vs.length:=kv.length
  obtain ⟨f0,f1,f2,f3,f4,f5⟩:=hf it (by simp)
  obtain ⟨⟨k,x⟩,hx⟩:∃ p,vs[i]?=some p:=⟨vs[i]'(by omega),by simp⟩
  rw [hl] at st
  refine wpAny_pyNext_dict_item st da hx λkey h' l9 n9 sb=>?_
  have I1:Inv X a_ σ H { s with heap:=h' }:=I.turned (t':=s.toks) (λb o hb e=>(sb.2 b hb).trans e) f0 f1 f3 f4 f5
  obtain ⟨o',e',c',d'⟩:=id n9
  have hk:kvs[i]?=some (kvs[i]):=Qc hi
  have Fj:(kvs[i]).1=k:=by
   have e:=kv.keys
   have e1:(kvs.map (·.1))[i]?=some (kvs[i]).1:=by rw [Qd,hk]; rfl
   have e2:(vs.map (·.1))[i]?=some k:=by rw [Qd,hx]; rfl
   rw [e,e2] at e1
   exact (Option.some.inj e1).symm
  rw [<- hl] at n9
  exact ⟨key,rfl,yX (s:={ s with heap:=h' }) e' c' d' (by decide) ⟨kV k,H,I1,So l9,⟨rfl,_,hk,by rw [Fj]⟩,n9,λb hb=>(hf b hb).1⟩⟩
 done:=by
  intro X hP hw hK hc i a_ s σ H E I hf st hg
  subst hP hw hK
  obtain ⟨hA,hi⟩:=hg
  obtain ⟨ho,hz,hs,vs,kv,dd⟩:s.heap.get? a=some o/\bJ X.prog X.w H s.heap a (.dK kvs):=I.fj a _ hA
  have da:=pU ho hd dd
  have hl:kvs.length=vs.length:=kv.length
  obtain ⟨f0,f1,f2,f3,f4,f5⟩:=hf it (by simp)
  rw [hl] at st
  exact wpAny_pyNext_dict_end (I.ok.hd hc) st da (by simp; omega) λh' eb=>⟨rfl,I.turned (t':=s.toks) (λb o hb e=>eb b o hb e) f0 f1 f3 f4 f5⟩
 self:=λ_ _ _ _ _ st h=>Ram st h
def w? (H0:Hp) (td:TE):TI:=λσ H R=>td σ H λx H1=>∃ a kvs,x=.ref a/\H1 a=some (.dK kvs)/\∀ o,NF H0 a->R (CH a o kvs) (upd H1 a (.gh o (.dK kvs)))
theorem RI (hl:PE X d td):PI X tg d (w? X.qk td):=by
 intro a_ s σ H R I h
 refine fk (hl a_ s σ H _ I h) λv s1 fe=>?_
 obtain ⟨x,H1,I1,r1,q1⟩:=fe
 obtain ⟨a,kvs,e,hq,q⟩:=q1
 subst e
 cases r1
 obtain ⟨hz,hs,vs,kv,dd⟩:bJ X.prog X.w H1 s1.heap a (.dK kvs):=I1.fj a _ hq
 obtain ⟨o,es,ep,ho,oe,hd,r⟩:=id dd
 have da:=pU ho hd dd
 refine Raz hs da ?_
 have I2:=(I1.freeze hq ho).kept (h':=s1.heap.push { cls:=.type "dict_keyiterator",data:=.fields #[.ref a,.int 0 0,.int vs.length 0,.int ep 0] }) (t':=s1.toks) λb o e=>af.get?_push_of_some _ e
 have nA:a≠s1.heap.objs.size:=Qx (af.lt_size ho)
 refine ⟨s1.heap.objs.size,[s1.heap.objs.size],_,_,_,rfl,I2,aDg a _ o es ep hd kvs,?_,λb hb=>?_,q o (I1.nf hq)⟩
 ·refine ⟨_,af.get?_push_size _ rfl,rfl,?_⟩
  rw [kv.length]; rfl
 ·have e:b=s1.heap.objs.size:=by simpa using hb
  subst e
  exact I1.k8 (Qh _) (by rw [aG (Ne.symm nA)]; exact I1.fj.fresh (Qh _))
def w! (H0:Hp) (t:TS):TS:=λD σ H=>t { D with nx:=λe_ H'=>∃ a o kvs,H' a=some (.gh o (.dK kvs))/\NF H0 a/\D.nx e_ (upd H' a (.dK kvs)) } σ H
theorem RH {t:TS} (h:PS X st t):PS X st (w! X.qk t):=by
 intro a_ s σ H D I q
 refine fk (h a_ s σ H _ I q) λf s1 z=>?_
 cases f with
 | next =>
  obtain ⟨e_,H',I',a,o,kvs,e,nf,k⟩:=z
  exact ⟨e_,_,I'.Kt e nf,k⟩
 | brk=>exact z
 | cont=>exact z
 | ret u=>exact z
theorem aES {kvs:List (Key×V)} {σ:St} (Pv:Nat->St->Hp->Prop) (h0:Pv 0 σ H) (hl:∀ i σ H,i<=kvs.length->Pv i σ H->H a=some (.gh o (.dK kvs))) (hs:∀ i p σ H,kvs[i]?=some p->Pv i σ H->g (kV p.1) σ H λfg H2=>tb { D with nx:=Pv (i+1),ct:=Pv (i+1),bk:=D.nx } fg H2) (hd:∀ σ H,Pv kvs.length σ H->D.nx σ H) :
  ∃ W:Nat->Nat->St->Hp->Prop,(∃ m,W 0 m σ H)/\∀ i m σ H,W i m σ H ->
   ((CH a o kvs).stop i H/\D.nx σ H)∨((CH a o kvs).go i H/\∃ N:St->Hp->Prop,(∀ e_ H',N e_ H'->∃ m',m' < m/\W (i+1) m' e_ H')/\∀ x H',(CH a o kvs).qd i H x H'->g x σ H' λfg H2=>tb { D with nx:=N,ct:=N,bk:=D.nx } fg H2):=by
 refine ⟨λi m σ H=>m=kvs.length - i/\i<=kvs.length/\Pv i σ H,⟨kvs.length,by simp,Jl _,h0⟩,?_⟩
 rintro i m σ H ⟨rfl,hi,p⟩
 have q:=hl i σ H hi p
 by_cases ff:i < kvs.length
 ·refine .inr ⟨⟨q,ff⟩,Pv (i+1),λe_ H' p'=>⟨kvs.length - (i+1),by omega,rfl,ff,p'⟩,λx H' y=>?_⟩
  obtain ⟨rfl,v,hv,rfl⟩:=y
  exact hs i v σ H' hv p
 ·have e:i=kvs.length:=by omega
  subst e
  exact .inl ⟨⟨q,rfl⟩,hd σ H p⟩
def P? (tk tv:TE):TE:=λσ H Q=>∀ p,H p=none->tk σ (upd H p (.dK [])) λx H1=>tv σ H1 λy H2=>∃ k,x=kV k/\H2 p=some (.dK [])/\Q (.ref p) (upd H2 p (.dK [(k,y)]))
section
variable {ek ev:bq}
theorem aET (hk:PE X ek tk) (hv:PE X ev tv) (he:autoParam (evalEachOpt [some ek] X.env = [some (eval ek X.env)]) L2.gj) (Dt:autoParam (evalEach [ev] X.env = [eval ev X.env]) L2.gj):PE X (.Dict [some ek] [ev] pos) (P? tk tv):=by
 intro a_ s σ H Q I h
 have I0:Inv X a_ σ (upd H s.heap.objs.size (.dK [])) { s with heap:=s.heap.push { cls:=.type "dict",data:=.dict #[] } }:=I.laid (a:=s.heap.objs.size) (o:=.dK []) (t':=s.toks) (λ_ _ q=>af.get?_push_of_some _ q) (Qh _) (Ss s.heap I.big)
 have h0:=h s.heap.objs.size (I.fj.fresh (Qh _))
 refine wpAny_Dict_pairs (knd:=cA X.prog X.w) (pairs:=[(eval ek X.env,do let x<-eval ev X.env; standAt pos; pure x)]) (by rw [he,Dt]; rfl) (by simp) (by simp) ?_
 refine evalPairs_cons (fk (hk a_ _ σ _ _ I0 h0) λkv s1 fe=>?_)
 obtain ⟨x,H1,I1,r1,q1⟩:=fe
 refine Ra (fk (hv a_ _ σ _ _ I1 q1) λvv s2 fe=>?_)
 obtain ⟨y,H2,I2,r2,q2⟩:=fe
 refine Ra (Td (Rb (evalPairs_nil ?_)))
 obtain ⟨k,rfl,hp,q⟩:=q2
 obtain ⟨hz,hs,vs,VQ,dd⟩:bJ X.prog X.w H2 s2.heap s.heap.objs.size (.dK []):=I2.fj _ _ hp
 have Y5:vs = []:=by
  have:=VQ.length
  exact Jq.mp this.symm
 subst Y5
 refine ⟨[(k,vv)],⟨vV r1,rfl,trivial⟩,dd,λh' ux sb=>?_⟩
 have em:merged ([]:List (Key×aa)) [(k,vv)] = [(k,vv)]:=by simp [merged,stored]
 rw [em] at ux
 obtain ⟨o',uw,yj,k_,_⟩:=id ux
 have mu:ym (H2 s.heap.objs.size):=by rw [hp]; trivial
 refine ⟨.ref s.heap.objs.size,_,rQ (t':=s2.toks+1) I2 mu sb ⟨_,k_⟩ (QR (kvs:=[(k,y)]) (by simp [Rf]) hs (.cons ⟨rfl,r2⟩ .nil) ux),rfl,q⟩
end
def jO (h:af) (u:aa) (i:Int) (v:aa):Prop:=∃ p,u=.ref p/\((∃ b_:Array aa,h.IsTuple p b_/\0<=i/\i < 1000/\b_[i.toNat]?=some v)∨∃ b_:Array aa,h.IsList p b_/\0<=i/\i < 1000/\b_[i.toNat]?=some v)
theorem jO.keeps {i:Int} {v:aa} (x:jO h u i v) (k:∀ b o,h.get? b=some o->h'.get? b=some o):jO h' u i v:=by
 obtain ⟨p,rfl,⟨b_,⟨o,ho,r⟩,q⟩ | ⟨b_,⟨o,ho,r⟩,q⟩⟩:=x
 ·exact ⟨p,rfl,.inl ⟨b_,⟨o,k _ _ ho,r⟩,q⟩⟩
 ·exact ⟨p,rfl,.inr ⟨b_,⟨o,k _ _ ho,r⟩,q⟩⟩
theorem oG {i:Int} {n:Nat} (h0:0<=i) (h1:i.toNat < n):seqIndex? i n=some i.toNat:=by
 unfold seqIndex?
 have e:¬ (i < 0):=by omega
 simp only [e,if_false]
 have e2:(decide (0<=i) && decide (i < (n:Int)))=true:=by simp; omega
 rw [if_pos e2]
theorem aGn {env:c8} {m:ax->Option aa} {v:aa} {i:Int} {t:dc} (hk:env.scope.kind=.function) (hv:env.kindOf vn=some .free) (hx:env.kindOf xn=some .local) (hc:env.cells.lookup vn=some c) (hC:s.heap.IsCell c (some u)) (hn:s.heap.Ns env.locals m) (hm:m xn=some (.int i t)) (hI:jO s.heap u i v) (h:Q v s) (d1:(vn==("__debug__" : ax))=false) (d2:(vn==("__classdict__" : ax))=false) (d3:(xn==("__debug__" : ax))=false) :
  ag (ao prog w) A (eval (.Subscript (.Name vn p1) (.Name xn p2) p3) env) Q E s:=by
 refine Ip (Il (Rao hk hv hc hC ?_ d2) d1)
 refine Il (Vy hk hx hn hm ?_) d3
 obtain ⟨p,rfl,⟨b_,hp,i0,i1,e⟩ | ⟨b_,hp,i0,i1,e⟩⟩:=hI
 ·have ff:i.toNat < b_.size:=(Array.getElem?_eq_some_iff.mp e).1
  exact Ux (x:=v) hp.typeIs slot_tuple_getitem.lookup
   (getItem_tuple (j:=i.toNat) (Q:=λr s'=>r=v/\Q r s') hp (by omega) (by omega) (oG i0 ff) e ⟨rfl,h⟩)
 ·have ff:i.toNat < b_.size:=(Array.getElem?_eq_some_iff.mp e).1
  exact Ux (x:=v) hp.typeIs slot_list_getitem.lookup
   (Ras (Q:=λr s'=>r=v/\Q r s') hp (by omega) (by omega) e ⟨rfl,h⟩)
theorem aEU {c':ae} {nm:ax} {rq v:aa} {i:Int} {t:dc} (wb:A.depth < recursionLimit) (vy:s.heap.NoLimit) (hf:s.heap.get? f=some { cls:=.type "function",data:=.func (Ur nm q params (.Subscript (.Name vn p1) (.Name xn p2) p3) scope cl pm (.ref c') rq) }) (nu:s.heap.CodeRec (.ref c') q) (pj:cu (Ur nm q params (.Subscript (.Name vn p1) (.Name xn p2) p3) scope cl pm (.ref c') rq) ⟨[.int i t],[]⟩=pure [(xn,.int i t)]) (hx:scope.names.lookup xn=some .local) (hv:scope.names.lookup vn=some .free) (Hs:scope.isCoroutine=false) (BM:scope.isGenerator=false) (hk:scope.kind=.function) (ig:∀ x∈scope.names,x.2≠.cell) (hc:cl.lookup vn=some c) (hC:s.heap.IsCell c (some u)) (hI:jO s.heap u i v) (h:∀ h' tk,(∀ b o,s.heap.get? b=some o->h'.get? b=some o)->Q v { s with heap:=h',toks:=tk }) (d1:(vn==("__debug__" : ax))=false) (d2:(vn==("__classdict__" : ax))=false) (d3:(xn==("__debug__" : ax))=false) :
  ag (ao prog w) A (call (.ref f) [.int i t]) Q E s:=by
 refine Io (PySem.W.kla_callFunE wb hf rfl Hs BM rfl nu ?_)
 rw [pj]
 refine Rb (Rak ig (λy hy=>by rw [Qr.mp hy]; exact hx) (λmw nj Ca=>⟨vy.fresh _ Ca,?_⟩) hk)
 have BL:∀ b o,s.heap.get? b=some o->mw.get? b=some o:=λb o e=>Ca.extBut b o (Qx (af.lt_size e)) (af.get?_push_of_some _ e)
 obtain ⟨oc,rj,yd⟩:=hC
 refine PySem.W.kla_codeExpr (aGn (env:=newEnv scope s.heap.objs.size aq cl (q ++ ".<locals>.") (some f) (.ref c') none builtinsNs) (m:=λx=>[(xn,aa.int i t)].reverse.lookup x) (t:=t) hk hv hx hc ⟨oc,BL _ _ rj,yd⟩ nj ?_ (hI.keeps BL) (h mw _ BL) d1 d2 d3)
 simp [List.lookup]
section
variable {wr:List ae} {n:Nat} {Pv:Nat->aa->Prop} {St:Nat->af->Prop} {kf:Nat->Int} {L:List (ae×bz)}
def JS (prog:br) (w:bf) (A:bw) (f:ae) (L:List (ae×bz)) (n:Nat) (Pv:Nat->aa->Prop) (kf:Nat->Int):Prop :=
 ∀ i v (s:ah) (Q:aa->ah->Prop) (E:aa->ah->Prop),i < n->Pv i v->(∀ p∈L,s.heap.get? p.1=some p.2) ->
  (∀ h' tk t,(∀ b o,s.heap.get? b=some o->h'.get? b=some o)->Q (.int (kf i) t) { s with heap:=h',toks:=tk })->ag (ao prog w) A (call (.ref f) [v]) Q E s
noncomputable abbrev mj (kf:Nat->Int):Nat->Nat->Bool:=λi j=>decide (kf i < kf j)
theorem xL (W:cz prog w A.in1 I fp wr n Pv St) (l9:JS prog w A.in1 f L n Pv kf) (S:ae) (Aj:S∉fp) (hL:∀ p∈L,p.1∉wr/\p.1≠S) :
  ∀ (k j:Nat) (s:ah) (vb:aa) (t:dc) (c:Nat),n - (j+1)=k->j+1<=n->St (j+1) s.heap->Pv (argBest (mj kf) j) vb ->
  s.heap.get? S=some { cls:=.type "list",dict:=none,data:=.seq #[vb,.int (kf (argBest (mj kf) j)) t] c,slots:=#[] }->(∀ p∈L,s.heap.get? p.1=some p.2) ->
  (∀ v h' tk,Pv (argBest (mj kf) (n - 1)) v->(∀ b o,b∉wr->b≠S->s.heap.get? b=some o->h'.get? b=some o)->R (.ok (.ret v)) { s with heap:=h',toks:=tk }) ->
  codeAny (ao prog w) A (.builtin "min.loop" ⟨[.ref I,.ref f,.ref S],[]⟩) R s:=by
 have Fu:S∉wr:=λh=>Aj (W.sub _ h)
 have mz:(toString "min" ++ toString ".loop" : String) = "min.loop" := by decide
 intro k
 induction k with
 | zero =>
  intro j s vb t c hk hj ku HB hS xg hR
  have vh:j+1=n:=by omega
  refine Ti F.entry_min_loop ?_
  rw [bw.under_plainId F.plain_min_loop _]
  show ag _ A.in1 (seqItems? (.ref S) >>= _) _ _ s
  refine Ra (Th hS rfl ?_)
  show ag _ A.in1 (tryCatch (pyNext (.ref I)) _ >>= _) _ _ s
  refine Ra (Va (W.done s _ _ (vh ▸ ku) λh' tk kk=>?_))
  have yg:=kk S _ Fu hS
  show ag _ A.in1 (updateSeq S (λ_=>#[]) >>= _) _ _ _
  refine Ra ?_
  refine Vi yg rfl (Ra (Uj (Rb ?_)))
  exact hR vb _ _ (by rw [<- vh]; exact HB) λb o hb yf e=>(af.get?_update_other _ _ (Ne.symm yf)).trans (kk b o hb e)
 | succ k ih =>
  intro j s vb t c hk hj ku HB hS xg hR
  have ff:j+1 < n:=by omega
  refine Ti F.entry_min_loop ?_
  rw [bw.under_plainId F.plain_min_loop _]
  show ag _ A.in1 (seqItems? (.ref S) >>= _) _ _ s
  refine Ra (Th hS rfl ?_)
  show ag _ A.in1 (tryCatch (pyNext (.ref I)) _ >>= _) _ _ s
  refine Ra (Va (W.item (j+1) s _ _ ff ku λv h1 UK hP BF AZ=>?_))
  have Hz:=AZ S _ Fu hS
  show ag _ A.in1 (tryCatch (holding [v] (call (.ref f) [v])) _ >>= _) _ _ _
  refine Ra (Va (Rm (l9 (j+1) v _ _ _ ff hP (λp hp=>AZ _ _ (hL p hp).1 (xg p hp)) λh2 F' t2 AY=>?_)))
  have Cn:=AY S _ Hz
  have yz:St (j+1+1) h2:=W.frame _ _ _ BF λb _ o e=>AY b o e
  show ag _ A.in1 (tryCatch (holding [v,.int (kf (j+1)) t2] (richCompare .Lt (.int (kf (j+1)) t2) (.int (kf (argBest (mj kf) j)) t) >>= _)) _ >>= _) _ _ _
  have Lu:CmpOf prog w A.in1 .Lt (λi u=>∃ t,u=.int (kf i) t) (mj kf):=CmpOf.ints_lt kf λi v h=>h
  refine Ra (Va (Rm (Ra (Lu (j+1) (argBest (mj kf) j) _ _ _ _ _ ⟨_,rfl⟩ ⟨_,rfl⟩ ?_))))
  refine Ra (Rm (Rv ?_))
  refine Ra (Uj (Rb ?_))
  have kk:∀ b o,b∉wr->s.heap.get? b=some o->h2.get? b=some o:=λb o hb e=>AY b o (AZ b o hb e)
  cases hb:mj kf (j+1) (argBest (mj kf) j) with
  | true =>
   simp only [if_true]
   refine Ra ?_
   refine Vi Cn rfl (Ra (Uj ?_))
   rw [mz]
   have eb:argBest (mj kf) (j+1)=j+1:=by simp only [argBest,hb,if_true]
   refine Rb ⟨Tt F.plain_min_loop _,ih (j+1) _ v t2 _ (by omega) ff (W.frame _ _ _ yz λb Bb o e=>?_) (by rw [eb]; exact hP) (by rw [eb]; exact af.get?_update_self _ Cn rfl) (λp hp=>?_) λv' h' tk oz xq=>?_⟩
   ·exact (af.get?_update_other _ _ (λh:S=b=>Aj (by rw [h]; exact Bb))).trans e
   ·exact (af.get?_update_other _ _ (Ne.symm (hL p hp).2)).trans (kk _ _ (hL p hp).1 (xg p hp))
   ·exact hR v' h' tk oz λb o hb yf e=>xq b o hb yf ((af.get?_update_other _ _ (Ne.symm yf)).trans (kk b o hb e))
  | false =>
   simp only [Jh,if_false]
   refine Ra (Uj ?_)
   rw [mz]
   have eb:argBest (mj kf) (j+1)=argBest (mj kf) j:=by simp only [argBest,hb,Jh,if_false]
   refine Rb ⟨Tt F.plain_min_loop _,ih (j+1) _ vb t c (by omega) ff yz (by rw [eb]; exact HB) (by rw [eb]; exact Cn) (λp hp=>kk _ _ (hL p hp).1 (xg p hp)) λv' h' tk oz xq=>?_⟩
   exact hR v' h' tk oz λb o hb yf e=>xq b o hb yf (kk b o hb e)
theorem vC (W:cz prog w A.in1 I fp wr n Pv St) (l9:JS prog w A.in1 f L n Pv kf) (S:ae) (Aj:S∉fp) (hL:∀ p∈L,p.1∉wr/\p.1≠S) (hn:0 < n) {c:Nat} (ku:St 0 s.heap) (hS:s.heap.get? S=some { cls:=.type "list",dict:=none,data:=.seq #[] c,slots:=#[] }) (xg:∀ p∈L,s.heap.get? p.1=some p.2) (hR:∀ v h' tk,Pv (argBest (mj kf) (n - 1)) v->(∀ b o,b∉wr->b≠S->s.heap.get? b=some o->h'.get? b=some o)->R (.ok (.ret v)) { s with heap:=h',toks:=tk }) :
  codeAny (ao prog w) A (.builtin "min.loop" ⟨[.ref I,.ref f,.ref S],[]⟩) R s:=by
 have Fu:S∉wr:=λh=>Aj (W.sub _ h)
 have mz:(toString "min" ++ toString ".loop" : String) = "min.loop" := by decide
 refine Ti F.entry_min_loop ?_
 rw [bw.under_plainId F.plain_min_loop _]
 show ag _ A.in1 (seqItems? (.ref S) >>= _) _ _ s
 refine Ra (Th hS rfl ?_)
 show ag _ A.in1 (tryCatch (pyNext (.ref I)) _ >>= _) _ _ s
 refine Ra (Va (W.item 0 s _ _ hn ku λv h1 UK hP BF AZ=>?_))
 have Hz:=AZ S _ Fu hS
 show ag _ A.in1 (tryCatch (holding [v] (call (.ref f) [v])) _ >>= _) _ _ _
 refine Ra (Va (Rm (l9 0 v _ _ _ hn hP (λp hp=>AZ _ _ (hL p hp).1 (xg p hp)) λh2 F' t2 AY=>?_)))
 have Cn:=AY S _ Hz
 have yz:St (0+1) h2:=W.frame _ _ _ BF λb _ o e=>AY b o e
 show ag _ A.in1 (updateSeq S (λ_=>#[v,.int (kf 0) t2]) >>= _) _ _ _
 refine Ra ?_
 refine Vi Cn rfl ?_
 rw [mz]
 have kk:∀ b o,b∉wr->s.heap.get? b=some o->h2.get? b=some o:=λb o hb e=>AY b o (AZ b o hb e)
 refine Rb ⟨Tt F.plain_min_loop _,xL W l9 S Aj hL _ 0 _ v t2 _ rfl hn (W.frame _ _ _ yz λb Bb o e=>?_) hP (af.get?_update_self _ Cn rfl) (λp hp=>?_) λv' h' tk oz xq=>?_⟩
 ·exact (af.get?_update_other _ _ (λh:S=b=>Aj (by rw [h]; exact Bb))).trans e
 ·exact (af.get?_update_other _ _ (Ne.symm (hL p hp).2)).trans (kk _ _ (hL p hp).1 (xg p hp))
 ·exact hR v' h' tk oz λb o hb yf e=>xq b o hb yf ((af.get?_update_other _ _ (Ne.symm yf)).trans (kk b o hb e))
theorem xM (a k:aa):argsOk "min" ⟨[a],[(ax.ofString "key",k)]⟩:=by unfold argsOk; kernel_rfl
theorem xN {id:String} {b:ai} {args:List aa} {kw:List (ax×aa)} (hk:builtinKind id=none) (hp:plainId id=true) (hb:entryFor table id=some b) (ha:argsOk id ⟨args,kw⟩) (hc:ag (ao prog w) A.in1 (b ⟨args,kw⟩) (λfin s'=>match fin with
   | .done f=>(match (Except.ok f:Result) with | .ok (.ret v)=>Q v s' | .ok _=>False | .error e=>E e s')
   | .again c'=>c'.quiet=true/\codeAny (ao prog w) A c' (λr s'=>match r with | .ok (.ret v)=>Q v s' | .ok _=>False | .error e=>E e s') s') E s) :
  ag (ao prog w) A (call (.builtin id) args kw) Q E s:=by
 refine Io (Vg hp hb ?_)
 simp only [checkBuiltinCall,hk]
 cases K6:Manifest.signature? id with
 | none=>exact Rb hc
 | some sig =>
  simp only [argsOk,K6] at ha
  have h2:Bind.checkArgs id sig ⟨args,kw⟩=pure ():=ha
  show ag _ A.in1 (Bind.checkArgs id sig ⟨args,kw⟩) _ _ s
  rw [h2]; exact Rb hc
theorem xO {x:aa} (h:ag (ao prog w) A.in1 (pyIter x) (λit kr=>∃ I fp wr n Pv St kf L,it=.ref I/\cz prog w A.in1 I fp wr n Pv St/\St 0 kr.heap/\(∀ b∈fp,b < kr.heap.objs.size)/\0 < n/\JS prog w A.in1 f L n Pv kf /\
   (∀ p∈L,p.1∉wr)/\(∀ p∈L,kr.heap.get? p.1=some p.2) /\
   ∀ v h' tk,Pv (argBest (mj kf) (n - 1)) v->(∀ b o,b∉wr->kr.heap.get? b=some o->h'.get? b=some o)->Q v { kr with heap:=h',toks:=tk }) E s) :
  ag (ao prog w) A (call (.builtin "min") [x] [(ax.ofString "key",.ref f)]) Q E s:=by
 have mz:(toString "min" ++ toString ".loop" : String) = "min.loop" := by decide
 refine xN F.kind_min F.plain_min F.entry_min (xM _ _) ?_
 show ag _ A.in1 (ai.Builtins.bindParams "min" ["key", "default"] 0 ⟨[],[(ax.ofString "key",.ref f)]⟩ >>= _) _ _ s
 refine Ra (Vf (show ai.Builtins.bindParams "min" ["key", "default"] 0 ⟨[],[(ax.ofString "key",.ref f)]⟩=pure [some (.ref f),none] from rfl) ?_)
 refine Ra (Rb ?_)
 refine Ra (Rp h (λit kr Bh=>?_) λ_ _ e=>e)
 obtain ⟨I,fp,wr,n,Pv,St,kf,L,rfl,W,ku,yc,hn,l9,X9,xg,hQ⟩:=Bh
 refine Ra (Rk ?_)
 have Aj:kr.heap.objs.size∉fp:=λhm=>Jo _ (yc _ hm)
 rw [mz]
 refine Rb ⟨Tt F.plain_min_loop _,vC W l9 kr.heap.objs.size Aj (λp hp=>⟨X9 p hp,Qx (af.lt_size (xg p hp))⟩) hn (W.frame _ _ _ ku λb _ o e=>af.get?_push_of_some _ e) (af.get?_push_size _ rfl) (λp hp=>af.get?_push_of_some _ (xg p hp)) λv h' tk hP hk=>?_⟩
 exact hQ v h' tk hP λb o XU e=>hk b o XU (Qx (af.lt_size e)) (af.get?_push_of_some _ e)
end
structure Lm (K:Rc) (mg:ax->Option aa) (base:af) (c P:ae):Prop where
 hd:Uw K c P=true
 gP:aq≠P
 bu:base.BuiltinsAt mg P
theorem mS {p0:Pos} {c cv:aa}:∀ {l:List aa},TriplesOk l->codeAmong pos (l++[rawInt p0.line,rawInt p0.col,c])=some cv->codeAmong pos l=some cv∨cv=c
 | [],_,e=>by
  simp only [Zr,rawInt,codeAmong] at e
  split at e
  ·exact .inr (Option.some.inj e).symm
  ·cases e
 | .int a t::.int b u::x::r,h,e=>by
  simp only [Yk,codeAmong] at e ⊢
  split
  ·rename_i hc
   rw [if_pos hc] at e
   exact .inl e
  ·rename_i hc
   rw [if_neg hc] at e
   exact mS (show TriplesOk r from h) e
section
variable {σ:St} {P c':ae} {ps:Array aa}
theorem Inv.grown {p0:Pos} (I:Inv X a_ σ H s) (hT:H P=some (.tab q)) (hx:af.ExtBut P s.heap h') (vi:s.heap.objs.size<=c') (Cm:h'.CodeRec (.ref c') q) (X8:s.heap.get? P=some (Rx ps)) (Fy:h'.get? P=some (Rx (ps++#[rawInt p0.line,rawInt p0.col,.ref c']))) :
  Inv X a_ σ (upd H c' (.own P)) { s with heap:=h',toks:=t' }:=by
 have hf:H c'=none:=I.fj.fresh vi
 have hn:∀ b,H b=none->b≠P:=λb n z=>by rw [z,hT] at n; cases n
 have hc:∀ b u,H b=some u->b≠c':=λb u n z=>by rw [z,hf] at n; cases n
 have ff:∀ b o,s.heap.get? b=some o->b≠c':=λb o e=>Qx (Qt (af.lt_size e) vi)
 obtain ⟨c2,oc,vs,tq,ec,rj,yd,hv⟩:=Cm
 cases ec
 refine I.un ⟨λb o e n _ _=>hx b o (hn b n) e,λb o e n _ _=>⟨o.slots,hx b o (hn b n) e⟩,λb o e n _=>by rw [aG (ff b o e)]; exact n,λb o e _=>?_,λb xs e=>by rw [aG (hc b _ e)]; exact e,λb o u e=>by rw [aG (hc b _ e)]; exact e,λb ps e=>⟨#[],by rw [aG (hc b _ e),e]; simp⟩⟩ ?_
 ·by_cases hb:b=P
  ·subst hb; exact ⟨_,Fy⟩
  ·exact ⟨o,hx b o hb e⟩
 ·intro b u e
  by_cases hb:b=c'
  ·subst hb
   rw [aB] at e; cases e
   exact ⟨oc,rj⟩
  ·rw [aG hb] at e
   by_cases Fq:b=P
   ·subst Fq
    rw [hT] at e; cases e
    obtain ⟨ps0,e0,tr,r⟩:∃ ps:Array aa,s.heap.get? b=some { cls:=.none,data:=.fields ps }/\TriplesOk ps.toList/\∀ (pos:Pos) (cv:aa),codeAmong pos ps.toList=some cv->∃ (c:ae) (o:bz) (vs:Array aa) (t:dc),cv=.ref c/\H c=some (.own b)/\s.heap.get? c=some o/\o.data=.fields vs/\(vs[1]?:Option aa)=some (.str q t):=I.fj b _ hT
    rw [X8] at e0
    cases e0
    have el:(ps++#[rawInt p0.line,rawInt p0.col,aa.ref c']).toList=ps.toList++[rawInt p0.line,rawInt p0.col,.ref c']:=by simp
    refine ⟨_,Fy,by rw [el]; exact TriplesOk_snoc _ _ _ _ tr,λpos cv z=>?_⟩
    rw [el] at z
    rcases mS tr z with z | rfl
    ·obtain ⟨c3,o3,UG,t3,r1,r2,r3,r4⟩:=r pos cv z
     have n3:c3≠b:=λy=>by rw [y,hT] at r2; cases r2
     exact ⟨c3,o3,UG,t3,r1,by rw [aG (hc _ _ r2)]; exact r2,hx _ _ n3 r3,r4⟩
    ·exact ⟨c',oc,vs,tq,rfl,aB,rj,yd,hv⟩
   ·refine (I.fj b u e).ib (λd v hd z=>hx d v ?_ z) (λd z=>by rw [aG (hc _ _ z)]; exact z) λd xs z=>by rw [aG (hc _ _ z)]; exact z
    rcases hd with rfl | hd
    ·exact Fq
    ·intro z
     rw [z,hT] at hd; cases hd
theorem aEW {body:bq} (I:Inv X a_ σ H s) (Z:Lm X.K X.mg X.base c P) (si:X.env.code=.ref c) (hT:H P=some (.tab q)) (hq:X.env.qual ++ "<lambda>" = q) (BO:defaultsOf params X.env=([],[])) (ye:closureFor scope X.env=pure cl) (h:∀ f c' rq pm s' H',Inv X a_ σ H' s'->aD H H'->(∀ b o,b≠P->s.heap.get? b=some o->s'.heap.get? b=some o) ->
   s'.heap.get? f=some { cls:=.type "function",data:=.func (Ur "<lambda>" q params body scope cl pm (.ref c') rq) }->s'.heap.CodeRec (.ref c') q->Q (.ref f) s') :
  ag (ao X.prog X.w) X.A (eval (.Lambda params body scope pos) X.env) Q E s:=by
 obtain ⟨ps,hP,tr,r⟩:∃ ps:Array aa,s.heap.get? P=some { cls:=.none,data:=.fields ps }/\TriplesOk ps.toList/\∀ (pos:Pos) (cv:aa),codeAmong pos ps.toList=some cv->∃ (c:ae) (o:bz) (vs:Array aa) (t:dc),cv=.ref c/\H c=some (.own P)/\s.heap.get? c=some o/\o.data=.fields vs/\(vs[1]?:Option aa)=some (.str q t):=I.fj P _ hT
 have hg:s.heap.Ns aq X.mg:=I.mod.glob.keeps I.bk
 have C:Vl s.heap c P:=Vn I.rh Z.hd
 have hb:s.heap.BuiltinsAt X.mg P:=by
  obtain ⟨bm,o,e1,e2,e3,e4,e5,e6⟩:=Z.bu
  exact ⟨bm,o,e1,e2,e3,e4,I.bk _ _ e5,e6⟩
 refine PySem.W.kla_eval BO ?_
 rw [hq]
 cases hf:codeAmong pos ps.toList with
 | none =>
  refine PySem.W.kla_makeFunction ye I.ok.glob hg si C hP tr hf Z.gP hb λc' rq h' tk hx vi ff Cm Fy=>?_
  have I1:Inv X a_ σ (upd H c' (.own P)) { s with heap:=h',toks:=tk }:=I.grown hT hx vi Cm hP Fy
  have I2:=I1.kept (h':=h'.push (PySem.W.kla_obj "<lambda>" q params body scope cl ((X.mg "__name__").getD .none) c' rq)) (t':=tk) λb o e=>af.get?_push_of_some _ e
  refine h _ c' rq _ _ _ I2 (aD.new (I.fj.fresh vi)) (λb o Fq e=>af.get?_push_of_some _ (hx b o Fq e)) (af.get?_push_size _ rfl) ?_
  obtain ⟨c2,oc,vs,tq,ec,rj,r⟩:=Cm
  exact ⟨c2,oc,vs,tq,ec,af.get?_push_of_some _ rj,r⟩
 | some cv =>
  obtain ⟨c',o,vs,t,rfl,r2,r3,r4,r5⟩:=r pos cv hf
  refine PySem.W.kla_makeFunctionHit ye I.ok.glob hg si C hP tr hf hb λrq h' tk kk hsz=>?_
  have I2:=I.kept (h':=h'.push { cls:=.type "function",data:=.func (Ur "<lambda>" q params body scope cl ((X.mg "__name__").getD .none) (.ref c') rq) }) (t':=tk) λb o e=>af.get?_push_of_some _ (kk b o e)
  exact h _ c' rq _ _ _ I2 (aD.refl H) (λb o _ e=>af.get?_push_of_some _ (kk b o e)) (af.get?_push_size _ rfl) ⟨c',o,vs,t,rfl,af.get?_push_of_some _ (kk _ _ r3),r4,r5⟩
end
theorem mT (num:Nat->Int):∀ k,∀ l,l < argBest (mj num) k->num (argBest (mj num) k) < num l
 | 0=>λl hl=>by simp [argBest] at hl
 | k+1=>λl hl=>by
  have h2:=(Rar num k).2
  simp only [argBest] at hl ⊢
  by_cases hc:num (k+1) < num (argBest (mj num) k)
  ·rw [if_pos (show mj num (k+1) (argBest (mj num) k)=true from decide_eq_true hc)] at hl ⊢
   have:=h2 l (by omega)
   show num (k+1) < num l
   have e:num (argBest (λi j=>decide (num i < num j)) k)=num (argBest (mj num) k):=rfl
   omega
  ·rw [if_neg (show ¬ mj num (k+1) (argBest (mj num) k)=true from λz=>hc (of_decide_eq_true z))] at hl ⊢
   exact mT num k l hl
def FV (K:Rc) (H:Hp) (x:V) (ns:List Int):Prop:=∃ a,x=.ref a/\(fh K H a (ns.map V.int)∨d_ K H a (ns.map V.int)∨∃ kvs:List (Key×V),H a=some (.dK kvs)/\kvs.map (·.1)=ns.map Sum.inl)
def FU (K:Rc) (H:Hp) (u:V) (n k:Int):Prop:=0<=n/\n < 1000/\∃ a xs,u=.ref a/\(d_ K H a xs∨fh K H a xs)/\xs[n.toNat]?=some (.int k)
def aGo (K:Rc) (P:ae) (q:ax) (iv:Nat) (te:TE):TE:=λσ H Q=>te σ H λx H1=>∃ (ns:List Int) (kf:Int->Int) (u:V),FV K H1 x ns/\0 < ns.length/\H1 P=some (.tab q)/\σ[iv]?=some (some u)/\(∀ n∈ns,FU K H1 u n (kf n)) /\
 ∀ (j:Nat) (m:Int) (H2:Hp),aD H1 H2->ns[j]?=some m->(∀ n∈ns,kf m<=kf n)->(∀ (l:Nat) (n:Int),l < j->ns[l]?=some n->kf m < kf n)->Q (.int m) H2
section
variable {σ:St}
theorem aBq {x:V} (hh:A.handled=none) (I:Inv X a_ σ H s) (hx:FV X.K H x ns) (r:bN x u) (h:∀ (It:ae) fp (Pv:Nat->aa->Prop) St s2,cz X.prog X.w A It fp [It] ns.length Pv St->(∀ i v,Pv i v->∃ n t,ns[i]?=some n/\v=.int n t)->St 0 s2.heap->(∀ b∈fp,b < s2.heap.objs.size)->s.heap.objs.size<=It ->
   (∀ b o,s.heap.get? b=some o->s2.heap.get? b=some o)->(∃ h2,s2={ s with heap:=h2 })->Q (.ref It) s2):ag (ao X.prog X.w) A (pyIter u) Q E s:=by
 obtain ⟨a,rfl,hx⟩:=hx
 cases r
 rcases hx with hx | hx | ⟨kvs,hx,hk⟩
 ·obtain ⟨b_,rv,p,hz⟩:=I.list hx
  have hl:=rv.length
  rw [Qa] at hl
  have ht:=p.isList
  have ff:a < s.heap.objs.size:=by obtain ⟨o,e,_⟩:=ht; exact af.lt_size e
  have f':a≠s.heap.objs.size:=Qx ff
  have W0:=cz.list (prog:=X.prog) (w:=X.w) (A:=A) hh s.heap.objs.size a f' b_.toArray
  rw [show b_.toArray.size=ns.length by rw [Qk,hl]] at W0
  refine Tr ht (h s.heap.objs.size [s.heap.objs.size,a] _ _ { s with heap:=s.heap.push { cls:=.type "list_iterator",data:=.fields #[.ref a,.int 0 0] } } W0 (λi v e=>?_) ⟨⟨_,af.get?_push_size _ rfl,rfl,rfl⟩,ht.push _⟩ (λb hb=>?_) (Qh _) (λb o e=>af.get?_push_of_some _ e) ⟨_,rfl⟩)
  ·have e':b_[i]?=some v:=by simpa using e
   obtain ⟨hi,_⟩:=Qb.mp e'
   obtain ⟨w',ew,jb⟩:=rv.get (i:=i) (x:=.int (ns[i]'(by omega))) (by rw [Qd,Qc (show i < ns.length by omega)]; rfl)
   rw [e'] at ew; cases ew
   obtain ⟨t,rfl⟩:=jb
   exact ⟨_,t,Qc (show i < ns.length by omega),rfl⟩
  ·show b < (s.heap.push _).objs.size
   rw [af.size_push]
   simp only [Ql,Qp,or_false] at hb
   rcases hb with hb | hb
   ·rw [hb]; exact Xy _
   ·rw [hb]; exact Ju ff
 ·obtain ⟨b_,rv,p,hz⟩:=I.tuple hx
  have hl:=rv.length
  rw [Qa] at hl
  have ht:s.heap.IsTuple a b_.toArray:=p
  have ff:a < s.heap.objs.size:=by obtain ⟨o,e,_⟩:=ht; exact af.lt_size e
  have f':a≠s.heap.objs.size:=Qx ff
  have W0:=cz.tuple (prog:=X.prog) (w:=X.w) (A:=A) hh s.heap.objs.size a f' b_.toArray
  rw [show b_.toArray.size=ns.length by rw [Qk,hl]] at W0
  refine Im ht (h s.heap.objs.size [s.heap.objs.size,a] _ _ { s with heap:=s.heap.push { cls:=.type "tuple_iterator",data:=.fields #[.ref a,.int 0 0] } } W0 (λi v e=>?_) ⟨⟨_,af.get?_push_size _ rfl,rfl,rfl⟩,ht.push _⟩ (λb hb=>?_) (Qh _) (λb o e=>af.get?_push_of_some _ e) ⟨_,rfl⟩)
  ·have e':b_[i]?=some v:=by simpa using e
   obtain ⟨hi,_⟩:=Qb.mp e'
   obtain ⟨w',ew,jb⟩:=rv.get (i:=i) (x:=.int (ns[i]'(by omega))) (by rw [Qd,Qc (show i < ns.length by omega)]; rfl)
   rw [e'] at ew; cases ew
   obtain ⟨t,rfl⟩:=jb
   exact ⟨_,t,Qc (show i < ns.length by omega),rfl⟩
  ·show b < (s.heap.push _).objs.size
   rw [af.size_push]
   simp only [Ql,Qp,or_false] at hb
   rcases hb with hb | hb
   ·rw [hb]; exact Xy _
   ·rw [hb]; exact Ju ff
 ·obtain ⟨hz,hs,vs,kv,dd⟩:bJ X.prog X.w H s.heap a (.dK kvs):=I.fj a _ hx
  obtain ⟨ep,da⟩:=dd.dictAt
  have hl:kvs.length=vs.length:=kv.length
  have Dk:vs.length=ns.length:=by
   have:=congrArg Ye hk
   rw [Qa,Qa] at this
   omega
  have ff:=da.lt_size
  have f':a≠s.heap.objs.size:=Qx ff
  have W0:=cz.dictKeys (prog:=X.prog) (w:=X.w) (A:=A) (knd:=cA X.prog X.w) hh s.heap.objs.size a f' vs ep
  rw [Dk] at W0
  refine Raz hs da (h s.heap.objs.size [s.heap.objs.size,a] _ _ { s with heap:=s.heap.push { cls:=.type "dict_keyiterator",data:=.fields #[.ref a,.int 0 0,.int vs.length 0,.int ep 0] } } W0 (λi v e=>?_) ⟨⟨_,af.get?_push_size _ rfl,rfl,by rw [Dk]; rfl⟩,da.push _⟩ (λb hb=>?_) (Qh _) (λb o e=>af.get?_push_of_some _ e) ⟨_,rfl⟩)
  ·obtain ⟨k,x,hi,Hj⟩:=e
   have e1:(vs.map (·.1))[i]?=some k:=by rw [Qd,hi]; rfl
   rw [<- kv.keys,hk,Qd] at e1
   cases q:ns[i]? with
   | none=>rw [q] at e1; cases e1
   | some n =>
    rw [q] at e1
    have:k=Sum.inl n:=(Option.some.inj e1).symm
    subst this
    obtain ⟨t,rfl⟩:bN (.int n) v:=So Hj
    exact ⟨n,t,rfl,rfl⟩
  ·show b < (s.heap.push _).objs.size
   rw [af.size_push]
   simp only [Ql,Qp,or_false] at hb
   rcases hb with hb | hb
   ·rw [hb]; exact Xy _
   ·rw [hb]; exact Ju ff
theorem RG {u:V} {uv:aa} {k:Int} (I:Inv X a_ σ H s) (hk:FU X.K H u n k) (r:bN u uv):∃ t,jO s.heap uv n (.int k t):=by
 obtain ⟨h0,h1,a,xs,rfl,hx | hx,he⟩:=hk
 ·cases r
  obtain ⟨b_,rv,p,hz⟩:=I.tuple hx
  obtain ⟨w',ew,t,rfl⟩:=rv.get he
  exact ⟨t,a,rfl,.inl ⟨b_.toArray,p,h0,h1,by simpa using ew⟩⟩
 ·cases r
  obtain ⟨b_,rv,p,hz⟩:=I.list hx
  obtain ⟨w',ew,t,rfl⟩:=rv.get he
  exact ⟨t,a,rfl,.inr ⟨b_.toArray,p.isList,h0,h1,by simpa using ew⟩⟩
theorem jO.obj {i:Int} {v:aa} (x:jO h u i v):∃ p o,u=.ref p/\h.get? p=some o/\∀ h':af,h'.get? p=some o->jO h' u i v:=by
 obtain ⟨p,rfl,⟨b_,⟨o,ho,r⟩,q⟩ | ⟨b_,⟨o,ho,r⟩,q⟩⟩:=x
 ·exact ⟨p,o,rfl,ho,λh' e=>⟨p,rfl,.inl ⟨b_,⟨o,e,r⟩,q⟩⟩⟩
 ·exact ⟨p,o,rfl,ho,λh' e=>⟨p,rfl,.inr ⟨b_,⟨o,e,r⟩,q⟩⟩⟩
theorem vY {KC:Pos} {P:ae} (iv:Nat) (hc:X.calm=true) (hr:ee 1 X.A) (hg:Gl X "min") (hm:X.mg "min" = none) (Z:Lm X.K X.mg X.base c P) (si:X.env.code=.ref c) (hq:X.env.qual ++ "<lambda>" = q) (he:PE X e te) (hN:X.N[iv]?=some vn) (A6:X.env.kindOf vn=some .cell) (BO:autoParam (defaultsOf params X.env=([],[])) L2.gj) (ye:autoParam (eR X.env scope.names []=(match X.env.cells.lookup vn with | some c=>[(vn,c)] | none=>[])) L2.gj) (XD:autoParam (∀ y∈scope.names,y.2=.free->y.1=vn) L2.CN) (pj:∀ (cl:List (ax×ae)) (pm ft rq:aa) (i:Int) (t:dc),cu (Ur "<lambda>" q params (.Subscript (.Name vn p1) (.Name xn p2) p3) scope cl pm ft rq) ⟨[.int i t],[]⟩=pure [(xn,.int i t)]:=by intro _ _ _ _ _ _; rfl) (hx:autoParam (scope.names.lookup xn=some .local) L2.gj) (hv:autoParam (scope.names.lookup vn=some .free) L2.gj) (Hs:autoParam (scope.isCoroutine=false) L2.gj) (BM:autoParam (scope.isGenerator=false) L2.gj) (hk:autoParam (scope.kind=.function) L2.gj) (ig:autoParam (∀ x∈scope.names,x.2≠.cell) L2.CN) (d1:autoParam ((vn==("__debug__" : ax))=false) L2.ka) (d2:autoParam ((vn==("__classdict__" : ax))=false) L2.ka) (d3:autoParam ((xn==("__debug__" : ax))=false) L2.ka) (G4:autoParam (au [e] X.env = [(false,eval e X.env)]) L2.gj) :
  PE X (.Call (.Name "min" p) [e] [⟨some "key",.Lambda params (.Subscript (.Name vn p1) (.Name xn p2) p3) scope KC,yu⟩] pos) (aGo X.K P q iv te):=by
 intro a_ s σ H Q I h
 refine Tf (iQ (u:=.builtin "min") I hg hm (by decide +kernel) ?_)
 have G_:PA X [e] (sI te zF):=aA he aC G4
 refine callWith_kw (fk (G_ pos a_ s σ H (λvs H1=>match vs with
   | [x] => ∃ (ns : List Int) (kf : Int -> Int) (u : V), FV X.K H1 x ns /\ 0 < ns.length /\ H1 P = some (.tab q) /\ σ[iv]? = some (some u) /\ (∀ n ∈ ns, FU X.K H1 u n (kf n)) /\
       ∀ (j:Nat) (m:Int) (H2:Hp),aD H1 H2->ns[j]?=some m->(∀ n∈ns,kf m<=kf n)->(∀ (l:Nat) (n:Int),l < j->ns[l]?=some n->kf m < kf n)->Q (.int m) H2
   | _=>False) I h) λus s1 ⟨vs,H1,I1,r1,q1⟩=>?_) (by rw [G4]; rfl) (by rw [G4]; rfl)
 match vs,r1,q1 with
 | [x],r1,q1 =>
  obtain ⟨ns,kf,u,hit,vw,hT,hu,Ez,k⟩:=q1
  obtain ⟨xv,rfl,rx⟩:=fY r1
  -- the cell of the name
  obtain ⟨m1,aaf,xc⟩:=id I1.loc
  obtain ⟨uv,ru,lk⟩:=xc iv vn u hN hu (.inr (.inl A6))
  obtain ⟨cc,Ba,YA⟩:∃ cc,X.env.cells.lookup vn=some cc/\s1.heap.IsCell cc (some uv):=by
   rcases lk with ⟨z,_⟩ | ⟨_,z⟩
   ·rw [A6] at z; cases z
   ·exact z
  have Lx:closureFor scope X.env=pure [(vn,cc)]:=by
   rw [QI λy hy z=>⟨cc,by rw [XD y hy z]; exact Ba⟩,ye,Ba]
  refine kws_cons (aEW I1 Z si hT hq BO Lx λf c' rq pm s2 H2 I2 sm kk hf Cm=>kws_nil ?_)
  show ag (ao X.prog X.w) X.A (call (.builtin "min") [xv] [(ax.ofString "key",.ref f)]) _ _ _
  have Ll:FV X.K H2 x ns:=by
   obtain ⟨a,rfl,z | z | ⟨kvs,z,y⟩⟩:=hit
   ·exact ⟨a,rfl,.inl (sm.iy z)⟩
   ·exact ⟨a,rfl,.inr (.inl (sm.d0 z))⟩
   ·exact ⟨a,rfl,.inr (.inr ⟨kvs,sm _ _ z,y⟩)⟩
  have wg:∀ n∈ns,FU X.K H2 u n (kf n):=λn hn=>by
   obtain ⟨h0,h1,a,xs,rfl,z | z,y⟩:=Ez n hn
   ·exact ⟨h0,h1,a,xs,rfl,.inl (sm.d0 z),y⟩
   ·exact ⟨h0,h1,a,xs,rfl,.inr (sm.iy z),y⟩
  -- what stays through the loop
  obtain ⟨fo,Y_,hf⟩:∃ fo:bz,fo={ cls:=.type "function",data:=.func (Ur "<lambda>" q params (.Subscript (.Name vn p1) (.Name xn p2) p3) scope [(vn,cc)] pm (.ref c') rq) }/\s2.heap.get? f=some fo:=⟨_,rfl,hf⟩
  obtain ⟨c2,oc,Z0,tq,ec,rj,yd,XS⟩:=Cm
  cases ec
  obtain ⟨Gr,Ef,Lr⟩:s2.heap.IsCell cc (some uv):=by
   obtain ⟨o,ho,hd⟩:=YA
   have nP:cc≠P:=λz=>by rw [z] at Ba; have:=I1.g_ _ _ Ba; rw [hT] at this; cases this
   exact ⟨o,kk _ _ nP ho,hd⟩
  obtain ⟨mc,⟨oL,Y7,Y9,ni,XO,rL⟩,vy⟩:=I2.nolimit
  have n0:ns[0]?=some (ns[0]):=Qc vw
  obtain ⟨t0,VY⟩:=RG I2 (wg _ (Qe n0)) ru
  obtain ⟨pu,ou,eu,Hc,_⟩:=VY.obj
  refine xO (f:=f) (aBq (A:=X.A.in1) (I2.ok.hd hc) I2 Ll rx λIt fp Pv St s3 W NK ku yc NZ Cf fe=>?_)
  obtain ⟨h3,e3⟩:=fe
  subst e3
  refine ⟨It,fp,[It],ns.length,Pv,St,λi=>kf (ns.getD i 0),[(f,fo),(c',oc),(cc,Gr),(cStatics,oL),(pu,ou)],rfl,W,ku,yc,vw,?_,?_,?_,λv h' tk hP xq=>?_⟩
  ·intro i v s4 Q4 E4 hi X5 hL X3
   obtain ⟨n,t,hn,rfl⟩:=NK i v X5
   have eg:ns.getD i 0=n:=by rw [Qn,hn]; rfl
   obtain ⟨tk,VW⟩:=RG I2 (wg _ (Qe hn)) ru
   have VX:jO s4.heap uv n (.int (kf n) tk):=by
    obtain ⟨p',o',e',k_,hh⟩:=VW.obj
    rw [eu] at e'; cases e'
    rw [Hc] at k_; cases k_
    exact hh _ (hL (pu,ou) (by simp))
   have rm:X.A.in1.depth < recursionLimit:=(ee.in1 hr).depth
   refine aEU (cl:=[(vn,cc)]) (c:=cc) rm ⟨mc,⟨oL,Y7,Y9,hL (cStatics,oL) (by simp),XO,rL⟩,vy⟩ (by rw [<- Y_]; exact hL (f,fo) (by simp)) ⟨c',oc,Z0,tq,rfl,hL (c',oc) (by simp),yd,XS⟩ (pj _ _ _ _ _ _) hx hv Hs BM hk ig (by simp [List.lookup]) ⟨Gr,hL (cc,Gr) (by simp),Lr⟩ VX (λh5 UJ k5=>?_) d1 d2 d3
   have:=X3 h5 UJ tk k5
   dsimp only at this
   rw [eg] at this
   exact this
  ·intro pr A3 hz
   have ff:∀ b o,s2.heap.get? b=some o->b≠It:=λb o e=>Qx (Qt (af.lt_size e) NZ)
   simp only [Qr] at hz
   simp only [Ql,Qp,or_false] at A3
   rcases A3 with rfl | rfl | rfl | rfl | rfl
   ·exact ff _ _ hf hz
   ·exact ff _ _ rj hz
   ·exact ff _ _ Ef hz
   ·exact ff _ _ ni hz
   ·exact ff _ _ Hc hz
  ·intro pr A3
   simp only [Ql,Qp,or_false] at A3
   rcases A3 with rfl | rfl | rfl | rfl | rfl
   ·exact Cf _ _ hf
   ·exact Cf _ _ rj
   ·exact Cf _ _ Ef
   ·exact Cf _ _ ni
   ·exact Cf _ _ Hc
  ·obtain ⟨n,t,hn,rfl⟩:=NK _ v hP
   have I3:Inv X a_ σ H2 { s2 with heap:=h',toks:=tk }:=I2.kept λb o e=>xq b o (by simp; exact Qx (Qt (af.lt_size e) NZ)) (Cf b o e)
   have b1:=Rar (λi=>kf (ns.getD i 0)) (ns.length - 1)
   have b2:=mT (λi=>kf (ns.getD i 0)) (ns.length - 1)
   have lg:∀ i y,ns[i]?=some y->ns.getD i 0=y:=λi y e=>by rw [Qn,e]; rfl
   refine ⟨.int n,H2,I3,⟨t,rfl⟩,k _ n H2 sm hn (λy hy=>?_) (λl y hl hy=>?_)⟩
   ·obtain ⟨i,hi⟩:=Qu.mp hy
    have:=b1.2 i (by have:=(Qb.mp hi).1; omega)
    have e1:=lg _ _ hn
    have e2:=lg _ _ hi
    show kf n<=kf y
    rw [<- e1,<- e2]; exact this
   ·have:=b2 l hl
    have e1:=lg _ _ hn
    have e2:=lg _ _ hy
    rw [<- e1,<- e2]; exact this
end
def JR (ts:List (ae×ax)) (H:Hp):Prop:=(∀ b,H b=none∨(∃ o xs,H b=some (.gh o (.lst xs)))∨∃ q,H b=some (.tab q)/\(b,q)∈ts)/\∀ p∈ts,H p.1=some (.tab p.2)
theorem sU {P:ae} (C:Vl h c P) (e:h.get? P=some (Rx #[])):isCodeTable h P:=(C.tab e).isCodeTable
theorem aDh {mb:ax->Option aa} {k:Nat} {fa:ae} {gf:ah} {vs:List aa} {ts:List (ae×ax)} (KX:K.In gf.heap) (nj:gf.heap.Ns aq mg) (hb:gf.heap.Ns builtinsNs mb) (XZ:∀ x:ax,x ≠ "__name__" -> mb x=ay x) (vy:gf.heap.NoLimit) (Lh:∃ mm,gf.heap.Ns bg mm) (hg:gf.gens = #[]) (XY:∃ bm ob,mg "__builtins__" = some (.ref bm)/\bm≠builtinsNs/\gf.heap.get? bm=some ob/\ob.cls=.type "module" /\ ob.dict=some builtinsNs/\ob.data=.plain) (va:∀ p∈ts,gf.heap.get? p.1=some (Rx #[])/\K.lookup p.1=none/\∃ c,Vl gf.heap c p.1) (zy:(ts.map (·.1)).Nodup) (ha:gf.heap.get? a=some { cls:=.type "list",data:=.seq vs.toArray }) (hi:IntsAre vs ns) (hl:ns.length<=ak) (hr:ee k callerA) (F:∀ base:af,K.In base->base.Ns aq mg->(∀ p∈ts,base.BuiltinsAt mg p.1)->c_ P w K mg base CX k fa fd [x] sp) (pj:∀ (s:ah) (u:aa),dt s fd ⟨[u],[]⟩ [(x,u)]) (oa:∀ H:Hp,JR ts H->fh K H a (ns.map V.int)->sp [.ref a] H (λv H'=>v=.bl true/\∀ p∈ts,H' p.1=some (.tab p.2)) λ_ _ _=>False) (HI:∀ H e s',CX [] H gf (λ_ _ _=>False) e s'->False) :
  codeAny (ao P w) callerA (.call (.ref fa) ⟨[.ref a],[]⟩) (λr s'=>r=.ok (.ret (.bool true))/\OldK gf.heap s'.heap/\s'.os=gf.os/\AllBare s'.gens) gf:=by
 have rv:=pN hi
 have KD:=hi.length
 have na:∀ p∈ts,p.1≠a:=λp hp z=>by
  have:=(va p hp).1
  rw [z,ha] at this; cases this
 -- from an abstract heap in which nothing but the script and the tables may be tracked
 have core:∀ H:Hp,JR ts H->fh K H a (ns.map V.int)->jq P w H gf.heap->(∀ b,H b≠none->b=a∨∃ q,(b,q)∈ts)->(H a≠none->K.lookup a=none) ->
   codeAny (ao P w) callerA (.call (.ref fa) ⟨[.ref a],[]⟩) (λr s'=>r=.ok (.ret (.bool true))/\OldK gf.heap s'.heap/\s'.os=gf.os/\AllBare s'.gens) gf:=by
  intro H hO hS fj hA hK
  have base_of:∀ {b:ae} {o:bz},gf.heap.get? b=some o->H b=none->(uQ gf.heap H).get? b=some o:=λe n=>aD1 e n
  have C0:∀ {b:ae} {o:bz} {es:Array c9} {ep:Nat},gf.heap.get? b=some o->o.data=.dict es ep->H b=none:=λ{b o es ep} e d=>by
   cases q:H b with
   | none=>rfl
   | some u =>
    rcases hA b (by rw [q]; simp) with e' | ⟨q',e'⟩
    ·subst e'
     rw [ha] at e; cases e
     have d':Data.seq vs.toArray _=Data.dict es ep:=d
     cases d'
    ·have:=(va _ e').1
     have e2:gf.heap.get? b=some (Rx #[]):=this
     rw [e] at e2; cases e2
     have d':Data.fields _=Data.dict es ep:=d
     cases d'
  have CZ:∀ {b:ae} {m:ax->Option aa},gf.heap.Ns b m->(uQ gf.heap H).Ns b m:=λ{b m} ⟨o,es,ep,e,d,r⟩=>⟨o,es,ep,base_of e (C0 e d),d,r⟩
  have NX:K.In (uQ gf.heap H):=λb o e=>base_of (KX b o e) (by
   cases q:H b with
   | none=>rfl
   | some u =>
    rcases hA b (by rw [q]; simp) with e' | ⟨q',e'⟩
    ·subst e'
     rw [hK (by rw [q]; simp)] at e; cases e
    ·have:=(va _ e').2.1
     have e2:K.lookup b=none:=this
     rw [e] at e2; cases e2)
  have HK:∀ p∈ts,(uQ gf.heap H).BuiltinsAt mg p.1:=λp hp=>by
   obtain ⟨bm,ob,b1,b2,b3,b4,b5,b6⟩:=XY
   have hn:H bm=none:=by
    cases q:H bm with
    | none=>rfl
    | some u =>
     rcases hA bm (by rw [q]; simp) with e' | ⟨q',e'⟩
     ·subst e'
      rw [ha] at b3; cases b3
      have d':Data.seq vs.toArray _=Data.plain:=b6
      cases d'
     ·have e2:gf.heap.get? bm=some (Rx #[]):=(va _ e').1
      rw [b3] at e2; cases e2
      have d':Data.fields _=Data.plain:=b6
      cases d'
   refine ⟨bm,ob,b1,b2,λz=>?_,λz=>?_,base_of b3 hn,b4,b5,b6⟩
   ·obtain ⟨o,es,ep,e,d,r⟩:=nj
    rw [<- z,b3] at e; cases e
    rw [b6] at d; cases d
   ·have e2:gf.heap.get? p.1=some (Rx #[]):=(va _ hp).1
    rw [<- z,b3] at e2; cases e2
    have d':Data.fields _=Data.plain:=b6
    cases d'
  have hM:Mod K mg (uQ gf.heap H):=⟨NX,CZ nj,⟨mb,CZ hb,XZ⟩,let ⟨mc,h1,h2⟩:=vy; ⟨mc,CZ h1,h2⟩,let ⟨mm,h1⟩:=Lh; ⟨mm,CZ h1⟩⟩
  have e0:zk P w K mg (uQ gf.heap H) callerA [] gf H:=⟨rfl,hM,λb o e=>aF1 e,Nat.le_of_eq (aCU _ _),trivial,λb hb=>absurd (show b∈([]:List ae) from hb) (by simp),fj,.of_eq hg⟩
  refine Um ((F _ NX (CZ nj) HK).run callerA [] gf H ⟨[.ref a],[]⟩ [.ref a] [.ref a] _ _ hr e0 (pj gf (.ref a)) (.cons rfl .nil) (oa H hO hS)) λr s' h=>?_
  cases r with
  | error e=>exact (HI H e s' h).elim
  | ok fl =>
   cases fl with
   | next=>exact False.elim h
   | brk=>exact False.elim h
   | cont=>exact False.elim h
   | ret u =>
    obtain ⟨v,H',os,bare,un,Ee,r',q,qt⟩:=h
    have q':v=.bl true:=q
    subst q'
    obtain rfl:u=aa.bool true:=r'
    have keep:∀ b o,(∀ q,(b,q)∉ts)->gf.heap.get? b=some o->s'.heap.get? b=some o:=λb o hb e=>by
     cases q:H b with
     | none=>exact un.keep b o e q (by intro z; exact absurd (show b∈([]:List ae) from z) (by simp)) (by simp)
     | some u =>
      rcases hO.1 b with z | ⟨ob,xs,z⟩ | ⟨q',z,zm⟩
      ·rw [q] at z; cases z
      ·have z2:=un.j6 b ob _ z
       obtain ⟨e1,_⟩:=fj b _ z
       obtain ⟨e2,_⟩:=Ee b _ z2
       rw [e] at e1; cases e1
       exact e2
      ·exact absurd zm (hb q')
    have grown:∀ b o q,(b,q)∈ts->gf.heap.get? b=some o->isCodeTable gf.heap b/\o=Rx #[]/\∃ ps,s'.heap.get? b=some (Rx ps):=λb o q hm e=>by
     obtain ⟨h1,h2,c,h3⟩:=va _ hm
     have Ol:gf.heap.get? b=some (Rx #[]):=h1
     rw [e] at Ol
     obtain ⟨ps,Cc,_⟩:bJ P w H' s'.heap b (.tab q):=Ee b _ (qt _ hm)
     exact ⟨sU h3 h1,Option.some.inj Ol,ps,Cc⟩
    refine ⟨rfl,⟨λb o e=>?_,λb o e=>?_⟩,os,bare⟩
    ·by_cases hb:∃ q,(b,q)∈ts
     ·obtain ⟨q,hm⟩:=hb
      obtain ⟨ht,rfl,ps,hP⟩:=grown b o q hm e
      exact .inr (.inl ⟨ht,rfl,#[],ps,rfl,by rw [Array.empty_append]; exact hP⟩)
     ·exact .inl (keep b o (λq z=>hb ⟨q,z⟩) e)
    ·by_cases hb:∃ q,(b,q)∈ts
     ·obtain ⟨q,hm⟩:=hb
      obtain ⟨_,_,ps,hP⟩:=grown b o q hm e
      exact ⟨_,hP⟩
     ·exact ⟨o,keep b o (λq z=>hb ⟨q,z⟩) e⟩
 -- the tables
 have look:∀ {b:ae} {q:ax},ts.lookup b=some q->(b,q)∈ts:=λ{b q} e=>by
  clear va zy oa core na F
  induction ts with
  | nil=>cases e
  | cons p r ih =>
   rw [Jt] at e
   cases hb:b==p.1 with
   | true=>rw [hb] at e; cases e; rw [eq_of_beq hb]; exact .head _
   | false=>rw [hb] at e; exact .tail _ (ih e)
 have Az:∀ {b:ae} {q:ax},(b,q)∈ts->ts.lookup b=some q:=λ{b q} e=>by
  clear va oa core na look F
  induction ts with
  | nil=>cases e
  | cons p r ih =>
   rw [Jt]
   rw [Qw,Jv] at zy
   rcases Ql.mp e with rfl | e
   ·simp
   ·have:(b==p.1)=false:=by
     rw [beq_eq_false_iff_ne]
     intro z
     exact zy.1 (Qv.mpr ⟨(b,q),e,z⟩)
    rw [this]
    exact ih zy.2 e
 have Aw:∀ (H:Hp) (b:ae) (q:ax),(b,q)∈ts->bJ P w H gf.heap b (.tab q):=λH b q hm=>⟨#[],(va _ hm).1,trivial,λpos cv z=>by simp [codeAmong] at z⟩
 cases hk:K.lookup a with
 | some o =>
  have e:=KX a o hk
  rw [ha] at e
  cases e
  refine core (λb=>(ts.lookup b).map HO.tab) ⟨λb=>?_,λp hp=>by show (ts.lookup p.1).map HO.tab=_; rw [Az (q:=p.2) hp]; rfl⟩ (.inr ⟨_,vs.toArray,_,hk,rfl,rfl,rfl,by rw [Qk,KD]; exact hl,by simpa using rv⟩) (λb u z=>?_) (λb z=>?_) λz=>?_
  ·cases q:ts.lookup b with
   | none=>exact .inl (by show (ts.lookup b).map HO.tab=none; rw [q]; rfl)
   | some y=>exact .inr (.inr ⟨y,by show (ts.lookup b).map HO.tab=_; rw [q]; rfl,look q⟩)
  ·have z':(ts.lookup b).map HO.tab=some u:=z
   cases q:ts.lookup b with
   | none=>rw [q] at z'; cases z'
   | some y=>rw [q] at z'; cases z'; exact Aw _ _ _ (look q)
  ·have z':(ts.lookup b).map HO.tab≠none:=z
   cases q:ts.lookup b with
   | none=>rw [q] at z'; exact absurd rfl z'
   | some y=>exact .inr ⟨y,look q⟩
  ·exfalso
   have z':(ts.lookup a).map HO.tab≠none:=z
   cases q:ts.lookup a with
   | none=>rw [q] at z'; exact absurd rfl z'
   | some y=>exact na _ (look q) rfl
 | none =>
  have noa:ts.lookup a=none:=by
   cases q:ts.lookup a with
   | none=>rfl
   | some y=>exact absurd rfl (na _ (look q))
  refine core (λb=>if b=a then some (.gh { cls:=.type "list",data:=.seq vs.toArray } (.lst (ns.map V.int))) else (ts.lookup b).map HO.tab) ⟨λb=>?_,λp hp=>?_⟩ (.inl (.inr ⟨{ cls:=.type "list",data:=.seq vs.toArray },if_pos rfl⟩)) (λb u z=>?_) (λb z=>?_) λ_=>hk
  ·by_cases hb:b=a
   ·exact .inr (.inl ⟨_,_,if_pos hb⟩)
   ·cases q:ts.lookup b with
    | none=>exact .inl ((if_neg hb).trans (by rw [q]; rfl))
    | some y=>exact .inr (.inr ⟨y,(if_neg hb).trans (by rw [q]; rfl),look q⟩)
  ·exact (if_neg (na p hp)).trans (by rw [Az (q:=p.2) hp]; rfl)
  ·by_cases hb:b=a
   ·have z':=(if_pos hb).symm.trans z
    cases z'
    subst hb
    exact ⟨ha,by rw [Qa]; exact hl,vs,_,rv,ha⟩
   ·have z':=(if_neg hb).symm.trans z
    cases q:ts.lookup b with
    | none=>rw [q] at z'; cases z'
    | some y=>rw [q] at z'; cases z'; exact Aw _ _ _ (look q)
  ·by_cases hb:b=a
   ·exact .inl hb
   ·cases q:ts.lookup b with
    | none=>exact absurd ((if_neg hb).trans (by rw [q]; rfl)) z
    | some y=>exact .inr ⟨y,look q⟩
theorem aEY {l:Ic} {n k:Nat} {q:br} {d:DefRec} {K:Params->Rc} {CX:bf->Bz} {sp:bf->Sp} {ts:List (ae×ax)} (hn:l.most=some n) (WN:n<=ak) (Dv:d.params.defaults = []) (hr:ee k callerA) (hq:importsNone q=true) (hY:∀ (w:bf) (h:af),YP w h->(K w.params).In h) (va:∀ (w:bf) (h:af),YP w h->∀ p∈ts,h.get? p.1=some (Rx #[])/\(K w.params).lookup p.1=none/\∃ c,Vl h c p.1) (zy:(ts.map (·.1)).Nodup) (F:∀ (w:bf) (mg:ax->Option aa) (fa:ae) (h:af),(K w.params).In h->h.Ns aq mg->mg d.name=some (.ref fa) ->
   ∃ fd:bo,(∀ (s:ah) (u:aa),dt s fd ⟨[u],[]⟩ [(x,u)]) /\
    ∀ base:af,(K w.params).In base->base.Ns aq mg->(∀ p∈ts,base.BuiltinsAt mg p.1)->c_ l.prog w (K w.params) mg base (CX w) k fa fd [x] (sp w)) (oa:∀ (w:bf) (H:Hp) (a:ae) (ns:List Int),ns.length<=n->JR ts H->fh (K w.params) H a (ns.map V.int)->sp w [.ref a] H (λv H'=>v=.bl true/\∀ p∈ts,H' p.1=some (.tab p.2)) λ_ _ _=>False) (HI:∀ (w:bf) (H:Hp) (s:ah) (e:aa) (s':ah),CX w [] H s (λ_ _ _=>False) e s'->False) :
  Rai q loose XP YP l.row.toRowW d [] (λf vs=>Rac f vs):=by
 refine TU.qb hn Dv λw jm gf mg mb fa o pm cd doc a vs ns G Y ho hd nu z_ BI hints hlen hg=>?_
 have KX:=hY w _ Y
 obtain ⟨fd,hb,hF⟩:=F w mg fa _ KX G.T.g z_
 exact aDh KX G.T.g G.T.b G.T.builtins G.T.nolimit (let ⟨mm,h1,_⟩:=(G.T.seer hq).mods; ⟨mm,h1⟩) hg G.T.bmain (va w _ Y) zy BI hints (Jd hlen WN) hr hF hb (λH hO hS=>oa w H a ns hlen hO hS) λH e s'=>HI w H gf e s'
theorem qy.MR {k:Nat} (F:qy K x qual st f fd) (hc:fd.code=.ref c) (S:dz N ps (aF st)) (len:∀ vs H Q E,sp vs H Q E->vs.length=ps.length) (md:∀ (A:bw) (outer:List c8) (s:ah) (H:Hp) (vs:List V) (Q:VK) (E:XK),ee k (A.deeper (envOfC qual (aF st) s.heap.objs.size f (.ref c)))->sp vs H Q E ->
   ∃ t,qj (zG fc P w K mg base N qual (aF st) f (.ref c) A outer s H E).AW (dY st) t/\t { nx:=λ_ H'=>Q .f_ H',rt:=Q } (start N vs) H):c_ P w K mg base fc (k+1) f fd ps sp:=by
 obtain ⟨oc,od,kV,doc,pm,an,ft,ct,uo,rfl,lk,nu⟩:=F.ex
 have e:ft=.ref c:=hc
 subst e
 refine PU lk nu S len λA outer s H vs Q E hr oa=>?_
 obtain ⟨t,h,q⟩:=md A outer s H vs Q E hr oa
 exact ⟨t,h.AW,q⟩
section
variable {z TI TO:ae} {n1:Nat}
structure sj (h:af) (z TI TO i1 i2:ae):Prop where
 hz:∃ f0 f1,F0 f0/\gC h z TI TO f0 f1
 ti:cb h TI (.ref i1) (.ref i2)
 to:∃ a b,cb h TO a b
theorem aAj {e:ae} {old:aa} (D:dm z TI TO i1 i2 l1 l2) (S1:Sub prog w i1 l1 n1 P1 qe) (S2:Sub prog w i2 l2 n2 P2 ja) (he:cg s.heap e z i old) (Z:sj s.heap z TI TO i1 i2) (h1:qe i s.heap) (h2:ja i s.heap) (k1:i < n1) (k2:i < n2) (ne:e≠z/\e≠TI/\e≠TO/\e≠i1/\e≠i2/\e≠l1/\e≠l2) (hQ:∀ h' x y tk,P1 i x->P2 i y->dk h' e z ((i:Int)+1) (.ref s.heap.objs.size) (s.heap.objs.size+1)->sj h' z TI TO i1 i2->qe (i+1) h'->ja (i+1) h'->cb h' s.heap.objs.size x y ->
   h'.get? (s.heap.objs.size+1)=some { cls:=.type "tuple",data:=.seq #[.int i tk,.ref s.heap.objs.size] } ->
   (∀ c o,c≠e->c≠z->c≠TO->c≠i1->c≠i2->s.heap.get? c=some o->h'.get? c=some o)->Q (.ref (s.heap.objs.size+1)) { s with heap:=h',toks:=s.toks+1 }) :
  ag (ao prog w) A (ai.«enumerate.__next__» ⟨[.ref e],[]⟩) (λfin s'=>∃ v,fin=.done (.ret v)/\Q v s') E s:=by
 obtain ⟨⟨f0,f1,hf,hz⟩,lh,⟨a,b,ll⟩⟩:=Z
 obtain ⟨ne1,ne2,ne3,ne4,ne5,VH,Gx⟩:=ne
 have DC:s.TypeIs (.ref z) "zip" := ⟨_,hz,rfl⟩
 refine Ra (m:=field (.ref e) 2) (Rn he rfl (x:=.ref z) rfl ?_)
 refine Ra (m:=ai.SmallTypes.nextOf (.ref z)) ?_
 unfold ai.SmallTypes.nextOf
 refine Ra (Rg (name:=ax.ofString "__next__") DC Ry (Ri Ry DC Uq
  (zP D S1 S2 hz hf lh ll h1 h2 k1 k2 λg1 x y FG HS _ px py Nr C9 nz t1 t2 hp hsz kp=>?_) (Ul _)))
 refine Rb ?_
 have e1:cg g1 e z i old:=kp _ _ ne1 ne3 ne4 ne5 he
 refine Ra (m:=field (.ref e) 3) (Rn e1 rfl (x:=rawInt i) rfl ?_)
 refine Ra (m:=field (.ref e) 4) (Rn e1 rfl (x:=.none) rfl ?_)
 refine Ra (m:=mkInt i) (wpAny_mkInt ?_)
 refine Ra (m:=setField (.ref e) 3 (rawInt ((i:Int)+1))) (Rj e1 (by simp) λg2 e2 b2=>?_)
 have mx:cg g2 e z ((i:Int)+1) old:=e2
 refine Ra (m:=setField (.ref e) 4 .none) (Rj mx (by simp) λg3 e3 b3=>?_)
 have IB:cg g3 e z ((i:Int)+1) old:=e3
 refine Ra (m:=newTuple [.int i s.toks,.ref s.heap.objs.size]) (Ia ?_)
 have sz:g3.objs.size=s.heap.objs.size+1:=by rw [b3.1,b2.1,hsz]
 have e4:cg (g3.push { cls:=.type "tuple",data:=.seq #[.int i s.toks,.ref s.heap.objs.size] }) e z ((i:Int)+1) old:=af.get?_push_of_some _ IB
 have T4:(g3.push { cls:=.type "tuple",data:=.seq #[.int i s.toks,.ref s.heap.objs.size] }).get? (s.heap.objs.size+1)=some { cls:=.type "tuple",data:=.seq #[.int i s.toks,.ref s.heap.objs.size] }:=by rw [<- sz]; exact af.get?_push_size _ rfl
 have L6:∀ c o,c≠e->g1.get? c=some o->(g3.push { cls:=.type "tuple",data:=.seq #[.int i s.toks,.ref s.heap.objs.size] }).get? c=some o:=λc o c1 q=>af.get?_push_of_some _ (b3.extBut _ _ c1 (b2.extBut _ _ c1 q))
 have elt:s.heap.objs.size+1≠e:=Xm (Ju (af.lt_size he))
 have LJ:s.heap.objs.size≠e:=Xm (af.lt_size he)
 rw [sz]
 generalize g3.push { cls:=.type "tuple",data:=.seq #[.int i s.toks,.ref s.heap.objs.size] }=g4 at e4 T4 L6 ⊢
 refine Ra (m:=ai.SmallTypes.ownedTupleIsFree (.ref e)) ?_
 unfold ai.SmallTypes.ownedTupleIsFree
 refine Ra (Rn e4 rfl (x:=.none) rfl (Rb ?_))
 simp only [if_true]
 refine Ra (Tu ?_)
 refine Ra (Rn e4 rfl (x:=old) rfl ?_)
 refine Ra (Rj e4 (by simp) λg5 e5 b5=>?_)
 have IA:cg g5 e z ((i:Int)+1) (.ref s.heap.objs.size):=e5
 refine Ra (m:=ai.SmallTypes.ownedTupleHandOut (.ref e) (.ref (s.heap.objs.size+1))) ?_
 unfold ai.SmallTypes.ownedTupleHandOut
 refine Ra (Rj IA (by simp) λg6 e6 b6=>?_)
 have H_:dk g6 e z ((i:Int)+1) (.ref s.heap.objs.size) (s.heap.objs.size+1):=e6
 refine Rj H_ (by simp) λg7 e7 b7=>?_
 have HZ:dk g7 e z ((i:Int)+1) (.ref s.heap.objs.size) (s.heap.objs.size+1):=e7
 have up:∀ c o,c≠e->g4.get? c=some o->g7.get? c=some o:=λc o c1 q=>b7.extBut _ _ c1 (b6.extBut _ _ c1 (b5.extBut _ _ c1 q))
 have all:∀ c o,c≠e->g1.get? c=some o->g7.get? c=some o:=λc o c1 q=>up c o c1 (L6 c o c1 q)
 obtain ⟨a',b',nz⟩:=nz
 refine Ra (Uj (Rb ⟨_,rfl,hQ g7 x y s.toks px py HZ ⟨⟨_,_,Nr,all _ _ ne1.symm C9⟩,all _ _ ne2.symm (kp _ _ D.TIz D.TITO D.TIi1 D.TIi2 lh),⟨_,_,all _ _ ne3.symm nz⟩⟩ (S1.keep _ _ _ t1 λc hc o q=>all c o ?_ q) (S2.keep _ _ _ t2 λc hc o q=>all c o ?_ q) (all _ _ LJ hp) (up _ _ elt T4) λc o c0 c1 c2 c3 c4 q=>all c o c0 (kp c o c1 c2 c3 c4 q)⟩))
 ·rcases hc with r | r <;> rw [r]
  ·exact ne4.symm
  ·exact VH.symm
 ·rcases hc with r | r <;> rw [r]
  ·exact ne5.symm
  ·exact Gx.symm
theorem aBr {e:ae} {old:aa} {Q:Fin->ah->Prop} (hh:A.handled=none) (D:dm z TI TO i1 i2 l1 l2) (S1:Sub prog w i1 l1 n1 P1 qe) (S2:Sub prog w i2 l2 n2 P2 ja) (he:cg s.heap e z i old) (Z:sj s.heap z TI TO i1 i2) (h1:qe i s.heap) (h2:ja i s.heap) (o9:i=n1/\i<=n2∨i=n2/\i < n1) (hE:∀ h' x,(∀ c o,c≠z->c≠TO->c≠i1->c≠i2->s.heap.get? c=some o->h'.get? c=some o)->(∃ o,h'.get? x=some o/\o.cls=.type "StopIteration")->E (.ref x) { s with heap:=h' }) :
  ag (ao prog w) A (ai.«enumerate.__next__» ⟨[.ref e],[]⟩) Q E s:=by
 obtain ⟨⟨f0,f1,hf,hz⟩,lh,⟨a,b,ll⟩⟩:=Z
 have DC:s.TypeIs (.ref z) "zip" := ⟨_,hz,rfl⟩
 refine Ra (m:=field (.ref e) 2) (Rn he rfl (x:=.ref z) rfl ?_)
 refine Ra (m:=ai.SmallTypes.nextOf (.ref z)) ?_
 unfold ai.SmallTypes.nextOf
 exact Ra (Rg (name:=ax.ofString "__next__") DC Ry (Ri Ry DC Uq
  (R0 hh D S1 S2 hz hf lh ll h1 h2 o9 λh' x kp hx=>hE h' x kp hx) (Ul _)))
end
noncomputable def DR (K:Rc) (k1 k2:Sk) (a b:ae):It :=
 ⟨λi H => ∃ xs ys x y, i9 k1 K H a xs /\ i9 k2 K H b ys /\ xs[i]? = some x /\ ys[i]? = some y,
  λi H v H'=>∃ p q,H p=none/\H q=none/\q≠p/\v=.ref q/\∀ xs ys,i9 k1 K H a xs->i9 k2 K H b ys->∃ x y,xs[i]?=some x/\ys[i]?=some y/\H'=upd (upd H p (.tup [x,y])) q (.tup [.int (i:Nat),.ref p]),
  λi H=>∃ xs ys,i9 k1 K H a xs/\i9 k2 K H b ys/\min xs.length ys.length=i⟩
theorem xP {x1} (k1 k2:Sk) (a b e z TI TO i1 i2:ae) (D:∀ l1 l2:ae,(∀ c∈[e,z,TI,TO,i1,i2],l1≠c)->(∀ c∈[e,z,TI,TO,i1,i2],l2≠c)->dm z TI TO i1 i2 l1 l2) (ne:e≠z/\e≠TI/\e≠TO/\e≠i1/\e≠i2) :
  Turn P w K (.Tuple es x1 pos) (DR K k1 k2 a b) [e,z,TI,TO,i1,i2] e (λi h=>(∃ old,cg h e z i old)/\sj h z TI TO i1 i2/\lx k1 h i1 a i/\lx k2 h i2 b i) where
 mem:=by simp
 obj:=λi h st c hc=>by
  obtain ⟨⟨old,he⟩,⟨⟨f0,f1,hf,hz⟩,lh,⟨x,y,ll⟩⟩,h1,h2⟩:=st
  simp only [Ql,Qp,or_false] at hc
  rcases hc with rfl | rfl | rfl | rfl | rfl | rfl
  ·exact ⟨_,he,λv q=>by cases q⟩
  ·exact ⟨_,hz,λv q=>by cases q⟩
  ·exact ⟨_,lh,λv q=>by cases q⟩
  ·exact ⟨_,ll,λv q=>by cases q⟩
  ·exact h1.obj
  ·exact h2.obj
 keep:=λi h h' st k=>by
  obtain ⟨⟨old,he⟩,⟨⟨f0,f1,hf,hz⟩,lh,⟨x,y,ll⟩⟩,h1,h2⟩:=st
  exact ⟨⟨old,k e (by simp) _ he⟩,⟨⟨f0,f1,hf,k z (by simp) _ hz⟩,k TI (by simp) _ lh,⟨x,y,k TO (by simp) _ ll⟩⟩,h1.at λo e=>k i1 (by simp) o e,h2.at λo e=>k i2 (by simp) o e⟩
 item:=by
  intro X hP hw hK hc i a_ s σ H E I hf st hg
  subst hP hw hK
  obtain ⟨⟨old,he⟩,Z,h1,h2⟩:=st
  obtain ⟨xs,ys,x,y,ha,hb,hx,hy⟩:=hg
  obtain ⟨b_,rv,pa⟩:=I.jr ha
  obtain ⟨qp,jb,pb⟩:=I.jr hb
  obtain ⟨u,hu,ru⟩:=rv.get hx
  obtain ⟨v,hv,Gk⟩:=jb.get hy
  have na:∀ c∈[e,z,TI,TO,i1,i2],a≠c:=λc fu=>I.ik ha (hf c fu)
  have nb:∀ c∈[e,z,TI,TO,i1,i2],b≠c:=λc fu=>I.ik hb (hf c fu)
  have DD:=D a b na nb
  have hT:s.TypeIs (.ref e) "enumerate" := ⟨_,he,rfl⟩
  have oy:i < b_.toArray.size:=by rw [Qk]; exact (Qb.mp hu).1
  have qq:i < qp.toArray.size:=by rw [Qk]; exact (Qb.mp hv).1
  unfold pyNext
  refine Ra (Tg (Rg (name:=ax.ofString "__next__") hT Rr (Ri Rr hT Tv
   (aAj DD (uV k1 X.prog X.w i1 a b_.toArray (na i1 (by simp))) (uV k2 X.prog X.w i2 b qp.toArray (nb i2 (by simp))) he Z ⟨h1,pa⟩ ⟨h2,pb⟩ oy qq
    ⟨ne.1,ne.2.1,ne.2.2.1,ne.2.2.2.1,ne.2.2.2.2,(na e (by simp)).symm,(nb e (by simp)).symm⟩ λh' u' v' tk pu pv Hq Z' s1 s2 js oh kp=>Rb ?_) (Ts _))))
  have eu:u'=u:=by
   have q:b_[i]?=some u':=by simpa using pu
   rw [hu] at q
   exact (Option.some.inj q).symm
  have ev:v'=v:=by
   have q:qp[i]?=some v':=by simpa using pv
   rw [hv] at q
   exact (Option.some.inj q).symm
  subst eu ev
  refine ⟨_,rfl,Mw Hq λvj Dt mf=>?_⟩
  have T0:s.heap.objs.size≠e:=Xm (af.lt_size he)
  have T1:s.heap.objs.size+1≠e:=Xm (Ju (af.lt_size he))
  have y8:cb vj s.heap.objs.size u' v':=mf.extBut _ _ T0 js
  have K9:vj.get? (s.heap.objs.size+1)=some { cls:=.type "tuple",data:=.seq #[.int i tk,.ref s.heap.objs.size] }:=mf.extBut _ _ T1 oh
  have qr:=I.fj.fresh (Qh s.heap.objs.size)
  have Ds:=I.fj.fresh (Qaa s.heap.objs.size)
  have fz:=I.k8 (Qh s.heap.objs.size) qr
  have HQ:=I.k8 (Qaa s.heap.objs.size) Ds
  have I2:Inv X a_ σ H { s with heap:=vj,toks:=s.toks+1 }:=by
   refine I.jh (t':=s.toks+1) [e,z,TO,i1,i2] (λc o fu q=>?_) (λc fu=>hf c ?_)
   ·simp only [Ql,Qp,or_false,not_or] at fu
    exact mf.extBut _ _ fu.1 (kp c o fu.1 fu.2.1 fu.2.2.1 fu.2.2.2.1 fu.2.2.2.2 q)
   ·simp only [Ql,Qp,or_false] at fu ⊢
    rcases fu with r | r | r | r | r
    ·exact .inl r
    ·exact .inr (.inl r)
    ·exact .inr (.inr (.inr (.inl r)))
    ·exact .inr (.inr (.inr (.inr (.inl r))))
    ·exact .inr (.inr (.inr (.inr (.inr r))))
  have I3:Inv X a_ σ (upd H s.heap.objs.size (.tup [x,y])) { s with heap:=vj,toks:=s.toks+1 }:=by
   refine I2.n6 (show bJ X.prog X.w _ _ _ (.tup [x,y]) from ⟨by show 2<=ak; rw [Rf]; decide,[u',v'],0,.cons ru (.cons Gk .nil),y8⟩) qr fz.2.1 I.sz fz.2.2.2.2.1 fz.2.2.2.2.2
  have nn:s.heap.objs.size+1≠s.heap.objs.size:=Nat.succ_ne_self _
  have I4:Inv X a_ σ (upd (upd H s.heap.objs.size (.tup [x,y])) (s.heap.objs.size+1) (.tup [.int (i:Nat),.ref s.heap.objs.size])) { s with heap:=vj,toks:=s.toks+1 }:=by
   refine I3.n6 (show bJ X.prog X.w _ _ _ (.tup [.int (i:Nat),.ref s.heap.objs.size]) from ⟨by show 2<=ak; rw [Rf]; decide,[.int i tk,.ref s.heap.objs.size],0,.cons ⟨tk,rfl⟩ (.cons rfl .nil),K9⟩) (by rw [aG nn]; exact Ds) HQ.2.1 (Jd I.sz (Qaa _)) HQ.2.2.2.2.1 HQ.2.2.2.2.2
  obtain ⟨⟨g0,g1,hg,C9⟩,LB,⟨a',b',nz⟩⟩:=Z'
  refine ⟨.ref (s.heap.objs.size+1),_,I4,rfl,⟨s.heap.objs.size,s.heap.objs.size+1,qr,Ds,nn,rfl,λLY AJ Dz ju=>?_⟩,⟨⟨_,by simpa using Dt⟩,⟨⟨g0,g1,hg,mf.extBut _ _ ne.1.symm C9⟩,mf.extBut _ _ ne.2.1.symm LB,⟨_,_,mf.extBut _ _ ne.2.2.1.symm nz⟩⟩,s1.1.at λo q=>mf.extBut _ _ ne.2.2.2.1.symm q,s2.1.at λo q=>mf.extBut _ _ ne.2.2.2.2.symm q⟩,λc fu=>?_⟩
  ·rw [I.jf Dz ha,I.jf ju hb]
   exact ⟨x,y,hx,hy,rfl⟩
  ·have cl:c < s.heap.objs.size:=by
    obtain ⟨o,q⟩:∃ o,s.heap.get? c=some o:=by
     obtain ⟨⟨f0,f1,Nr,hz⟩,lh,⟨x',y',ll⟩⟩:=Z
     simp only [Ql,Qp,or_false] at fu
     rcases fu with rfl | rfl | rfl | rfl | rfl | rfl
     ·exact ⟨_,he⟩
     ·exact ⟨_,hz⟩
     ·exact ⟨_,lh⟩
     ·exact ⟨_,ll⟩
     ·obtain ⟨o,q,_⟩:=h1.obj; exact ⟨o,q⟩
     ·obtain ⟨o,q,_⟩:=h2.obj; exact ⟨o,q⟩
    exact af.lt_size q
   rw [aG (Qx (Ju cl)),aG (Qx cl)]
   exact (hf c fu).1
 done:=by
  intro X hP hw hK hc i a_ s σ H E I hf st hg
  subst hP hw hK
  obtain ⟨⟨old,he⟩,Z,h1,h2⟩:=st
  obtain ⟨xs,ys,ha,hb,q_⟩:=hg
  obtain ⟨b_,rv,pa⟩:=I.jr ha
  obtain ⟨qp,jb,pb⟩:=I.jr hb
  have la:=rv.length
  have lb:=jb.length
  have na:∀ c∈[e,z,TI,TO,i1,i2],a≠c:=λc fu=>I.ik ha (hf c fu)
  have nb:∀ c∈[e,z,TI,TO,i1,i2],b≠c:=λc fu=>I.ik hb (hf c fu)
  have DD:=D a b na nb
  have hT:s.TypeIs (.ref e) "enumerate" := ⟨_,he,rfl⟩
  unfold pyNext
  refine Ra (Tg (Rg (name:=ax.ofString "__next__") hT Rr (Ri Rr hT Tv
   (aBr (I.ok.hd hc) DD (uV k1 X.prog X.w i1 a b_.toArray (na i1 (by simp))) (uV k2 X.prog X.w i2 b qp.toArray (nb i2 (by simp))) he Z ⟨h1,pa⟩ ⟨h2,pb⟩ (by rw [Qk,Qk]; omega) λh' x kp hx=>?_) (Ts _))))
  obtain ⟨oe,x_,Ag⟩:=hx
  refine Ra (Tw (T := "StopIteration") (b:=true) ⟨oe,x_,Ag⟩ Uz (Rb ⟨rfl,?_⟩))
  refine I.jh (t':=s.toks) [z,TO,i1,i2] (λc o fu q=>?_) (λc fu=>hf c ?_)
  ·simp only [Ql,Qp,or_false,not_or] at fu
   exact kp c o fu.1 fu.2.1 fu.2.2.1 fu.2.2.2 q
  ·simp only [Ql,Qp,or_false] at fu ⊢
   rcases fu with r | r | r | r
   ·exact .inr (.inl r)
   ·exact .inr (.inr (.inr (.inl r)))
   ·exact .inr (.inr (.inr (.inr (.inl r))))
   ·exact .inr (.inr (.inr (.inr (.inr r))))
 self:=λ_ _ _ _ _ st h=>by
  obtain ⟨⟨old,he⟩,_⟩:=st
  exact Vj he h
theorem vD (z TI TO:ae) :
  Meets (ai.«enumerate.__new__» ⟨[.type "enumerate",.ref z],[]⟩) (λ_ R s=>IsZip s.heap z TI TO .none /\
   R (.ok (.ret (.ref s.heap.objs.size))) { s with heap:=s.heap.push { cls:=.type "enumerate",data:=.fields #[.none,.bool false,.ref z,rawInt 0,.none,.none] } }) :=
 .of_wp λprog w A R s h=>by
  obtain ⟨hp,g,d,tk,os⟩:=s
  obtain ⟨hl,h⟩:=h
  have yy:=sub_enumerate
  have hZ:IsZip (ah.heap ⟨hp,g,d,tk,os⟩) z TI TO .none:=hl
  wp_walk using AutoSeq1.wpAny_loadPart' hZ
  refine RaM λst=>Rb ?_
  split
  ·rename_i c _ _ _ _ _
   cases (c==aa.type "enumerate")
   ·wp_walk using AutoSeq1.wpAny_loadPart' hZ,Vd hZ
    exact ⟨_,rfl,h⟩
   ·wp_walk using AutoSeq1.wpAny_loadPart' hZ,Vd hZ
    exact ⟨_,rfl,h⟩
  ·wp_walk using AutoSeq1.wpAny_loadPart' hZ,Vd hZ
   exact ⟨_,rfl,h⟩
def aE0 (K:Rc) (k1 k2:Sk) (ta:TA):TI:=λσ H R=>ta σ H λvs H1=>∃ a b xs ys,vs = [.ref a,.ref b]/\i9 k1 K H1 a xs/\i9 k2 K H1 b ys/\R (DR K k1 k2 a b) H1
theorem sV (k1 k2:Sk) {a b:bq} {ta:TA} {p':Pos} (hg:Gl X "enumerate") (hm:X.mg "enumerate" = none) (Hn:Gl X "zip") (Hf:X.mg "zip" = none) (ha:PA X [a,b] ta) (hs:autoParam (au [a,b] X.env = [(false,eval a X.env),(false,eval b X.env)]) L2.gj) (ur:autoParam (au [b] X.env = [(false,eval b X.env)]) L2.gj) (Nb:autoParam (au [bq.Call (.Name "zip" p') [a,b] [] pos'] X.env = [(false,eval (.Call (.Name "zip" p') [a,b] [] pos') X.env)]) L2.gj) :
  PI X (.Tuple es x1 vo) (.Call (.Name "enumerate" p) [.Call (.Name "zip" p') [a,b] [] pos'] [] pos) (aE0 X.K k1 k2 ta):=by
 intro a_ s σ H R I h
 refine Call_ (iQ (u:=.type "enumerate") I hg hm (by decide +kernel) (PyProof.Rows.callWith_type1 ?_ Nb rfl))
 rw [Nb]
 show ag _ _ (spliced ((false,eval (.Call (.Name "zip" p') [a,b] [] pos') X.env)::[])) _ _ s
 refine Calls.spliced_cons ?_
 refine Call_ (iQ (u:=.type "zip") I Hn Hf (by decide +kernel) (PyProof.Rows.callWith_type1 (fk (ha pos' a_ s σ H _ I h) λus s1 fe=>?_) (by rw [hs,ur]) (by rw [ur]; rfl)))
 obtain ⟨vs,H1,I1,r1,q1⟩:=fe
 obtain ⟨l1,l2,xs,ys,rfl,hA,hB,q⟩:=q1
 obtain ⟨u1,u2,rfl,CW,Gn⟩:=nX r1
 cases CW
 cases Gn
 obtain ⟨b_,rv,pa⟩:=I1.jr hA
 obtain ⟨qp,jb,pb⟩:=I1.jr hB
 refine Iz Mz (by decide) (Mk _ _) (Mn _ _) (λobj=>Iu obj _ _) Mp (zR k1 k2 l1 l2 b_.toArray qp.toArray) ⟨pa,pb,?_⟩
 have n1:(wo k1 s1.heap l1).objs.size=s1.heap.objs.size+1:=af.size_push ..
 have n2:(zt k1 k2 s1.heap l1 l2).objs.size=s1.heap.objs.size+2:=by rw [af.size_push,n1]
 have n3:(zr k1 k2 s1.heap l1 l2).objs.size=s1.heap.objs.size+3:=by rw [af.size_push,n2]
 have n4:(B2 k1 k2 s1.heap l1 l2).objs.size=s1.heap.objs.size+4:=by rw [af.size_push,n3]
 have n5:(qc k1 k2 s1.heap l1 l2).objs.size=s1.heap.objs.size+5:=by rw [af.size_push,n4]
 have g5:IsZip (qc k1 k2 s1.heap l1 l2) (B2 k1 k2 s1.heap l1 l2).objs.size (zt k1 k2 s1.heap l1 l2).objs.size (zr k1 k2 s1.heap l1 l2).objs.size .none:=af.get?_push_size _ rfl
 have g4:cb (qc k1 k2 s1.heap l1 l2) (zr k1 k2 s1.heap l1 l2).objs.size .none .none:=af.get?_push_of_some _ (af.get?_push_size _ rfl)
 have g3:cb (qc k1 k2 s1.heap l1 l2) (zt k1 k2 s1.heap l1 l2).objs.size (.ref s1.heap.objs.size) (.ref (wo k1 s1.heap l1).objs.size):=af.get?_push_of_some _ (af.get?_push_of_some _ (af.get?_push_size _ rfl))
 have g2:lx k2 (qc k1 k2 s1.heap l1 l2) (wo k1 s1.heap l1).objs.size l2 0:=(lx.new k2 (wo k1 s1.heap l1) l2).at λo e=>af.get?_push_of_some _ (af.get?_push_of_some _ (af.get?_push_of_some _ e))
 have g1:lx k1 (qc k1 k2 s1.heap l1 l2) s1.heap.objs.size l1 0:=(lx.new k1 s1.heap l1).at λo e=>af.get?_push_of_some _ (af.get?_push_of_some _ (af.get?_push_of_some _ (af.get?_push_of_some _ e)))
 have kp:∀ c o,s1.heap.get? c=some o->(qc k1 k2 s1.heap l1 l2).get? c=some o:=λc o e=>af.get?_push_of_some _ (af.get?_push_of_some _ (af.get?_push_of_some _ (af.get?_push_of_some _ (af.get?_push_of_some _ e))))
 refine ⟨⟨_,g5,rfl⟩,Calls.spliced_nil ?_⟩
 rw [n1,n2,n3,n4] at *
 generalize qc k1 k2 s1.heap l1 l2=wz at *
 refine Iz Ma (by decide) (Ib _) (Ij _) (λobj=>Iv obj _) Ik (vD (s1.heap.objs.size+4) (s1.heap.objs.size+2) (s1.heap.objs.size+3)) ⟨g5,?_⟩
 have ge:cg (wz.push { cls:=.type "enumerate",data:=.fields #[.none,.bool false,.ref (s1.heap.objs.size+4),rawInt 0,.none,.none] }) wz.objs.size (s1.heap.objs.size+4) 0 .none:=af.get?_push_size _ rfl
 have AX:∀ c o,wz.get? c=some o->(wz.push { cls:=.type "enumerate",data:=.fields #[.none,.bool false,.ref (s1.heap.objs.size+4),rawInt 0,.none,.none] }).get? c=some o:=λc o e=>af.get?_push_of_some _ e
 rw [n5] at ge
 show (∃ _,_)/\_
 rw [n5]
 generalize wz.push { cls:=.type "enumerate",data:=.fields #[.none,.bool false,.ref (s1.heap.objs.size+4),rawInt 0,.none,.none] }=h6 at ge AX ⊢
 refine ⟨⟨_,ge,rfl⟩,Vj ge ?_⟩
 have I2:Inv X a_ σ H1 { s1 with heap:=h6 }:=I1.kept (t':=s1.toks) λc o e=>AX c o (kp c o e)
 have d:∀ i j:Nat,i≠j->s1.heap.objs.size+i≠s1.heap.objs.size+j:=λi j h=>by omega
 refine ⟨s1.heap.objs.size+5,[s1.heap.objs.size+5,s1.heap.objs.size+4,s1.heap.objs.size+2,s1.heap.objs.size+3,s1.heap.objs.size,s1.heap.objs.size+1],_,_,H1,rfl,I2,xP k1 k2 l1 l2 _ _ _ _ _ _ ?_ ⟨d 5 4 (by decide),d 5 2 (by decide),d 5 3 (by decide),d 5 0 (by decide),d 5 1 (by decide)⟩,⟨⟨_,ge⟩,⟨⟨_,_,.inl rfl,AX _ _ g5⟩,AX _ _ g3,⟨_,_,AX _ _ g4⟩⟩,g1.at λo e=>AX _ _ e,g2.at λo e=>AX _ _ e⟩,λc hc=>?_,q⟩
 ·intro m1 m2 h1 h2
  exact ⟨d 2 4 (by decide),d 3 4 (by decide),d 0 4 (by decide),d 1 4 (by decide),d 2 3 (by decide),d 2 0 (by decide),d 2 1 (by decide),d 3 0 (by decide),d 3 1 (by decide),d 0 1 (by decide),
   h1 _ (by simp),h1 _ (by simp),h1 _ (by simp),h1 _ (by simp),h2 _ (by simp),h2 _ (by simp),h2 _ (by simp),h2 _ (by simp)⟩
 ·have fu:s1.heap.objs.size<=c:=by
   simp only [Ql,Qp,or_false] at hc
   rcases hc with r | r | r | r | r | r <;> rw [r]
   all_goals first | exact Qh _ | exact Xs _ _
  exact I1.k8 fu (I1.fj.fresh fu)
theorem qW {σ:St} (Pv:Nat->St->Hp->Prop) (heq:xs.length=ys.length) (h0:Pv 0 σ H) (hl:∀ i σ H,i<=xs.length->Pv i σ H->i9 k1 K H a xs/\i9 k2 K H b ys) (hs:∀ i x y p q σ H,xs[i]?=some x->ys[i]?=some y->Pv i σ H->H p=none->H q=none->q≠p->g (.ref q) σ (upd (upd H p (.tup [x,y])) q (.tup [.int (i:Nat),.ref p])) λfg H2=>tb { D with nx:=Pv (i+1),ct:=Pv (i+1),bk:=D.nx } fg H2) (hd:∀ σ H,Pv xs.length σ H->D.nx σ H) :
  ∃ W:Nat->Nat->St->Hp->Prop,(∃ m,W 0 m σ H)/\∀ i m σ H,W i m σ H ->
   ((DR K k1 k2 a b).stop i H/\D.nx σ H)∨((DR K k1 k2 a b).go i H/\∃ N:St->Hp->Prop,(∀ e_ H',N e_ H'->∃ m',m' < m/\W (i+1) m' e_ H')/\∀ x H',(DR K k1 k2 a b).qd i H x H'->g x σ H' λfg H2=>tb { D with nx:=N,ct:=N,bk:=D.nx } fg H2):=by
 refine ⟨λi m σ H=>m=xs.length - i/\i<=xs.length/\Pv i σ H,⟨xs.length,by simp,Jl _,h0⟩,?_⟩
 rintro i m σ H ⟨rfl,hi,p⟩
 obtain ⟨q1,q2⟩:=hl i σ H hi p
 by_cases ff:i < xs.length
 ·refine .inr ⟨⟨xs,ys,xs[i],ys[i]'(by omega),q1,q2,Qc ff,Qc (by omega)⟩,Pv (i+1),λe_ H' p'=>⟨xs.length - (i+1),by omega,rfl,ff,p'⟩,λx H' y=>?_⟩
  obtain ⟨p1,U2,js,mh,f',rfl,hy⟩:=y
  obtain ⟨x,y,h1,h2,rfl⟩:=hy xs ys q1 q2
  exact hs i x y p1 U2 σ H h1 h2 p js mh f'
 ·have e:i=xs.length:=by omega
  subst e
  exact .inl ⟨⟨xs,ys,q1,q2,by rw [<- heq,Qar]⟩,hd σ H p⟩
end L2
namespace L2
open PySem
def P! (K:Rc):List V->Hp->VK->Prop:=λxs H Q=>∃ p ys,xs = [.ref p]/\((fh K H p ys/\∀ l,H l=none->Q (.ref l) (upd H l (.tup ys)))∨(d_ K H p ys/\Q (.ref p) H))
theorem O? (hK:X.K=K):eV X (.type "tuple") (P! K):=by subst hK; exact bR
section
variable {γ δ ε ζ η θ ι:Type}
end
end L2
namespace L2
open PySem PySem.Spec PyProof.Rows
noncomputable def oV:Option Int->V
 | some i=>.int i
 | none=>.f_
theorem Sn:∀ {os:List (Option Int)} {us:List aa},bM (os.map oV) us->∀ y∈us,y=.none∨∃ m t,y=.int m t
 | [],_,r,y,hy=>by cases r; cases hy
 | o::os,us,r,y,hy=>by
  cases r with
  | cons r1 r2 =>
   rcases Ql.mp hy with rfl | hy
   ·cases o with
    | none=>exact .inl r1
    | some m=>obtain ⟨t,rfl⟩:=r1; exact .inr ⟨m,t,rfl⟩
   ·exact Sn r2 y hy
theorem vZ (n:Int):∀ {os:List (Option Int)} {us:List aa},bM (os.map oV) us->us.countP (isInt n)=os.count (some n)
 | [],_,r=>by cases r; rfl
 | o::os,us,r=>by
  cases r with
  | cons r1 r2 =>
   rw [Wj,Xc,vZ n r2]
   cases o with
   | none=>rw [show (_:aa)=.none from r1]; rfl
   | some m =>
    obtain ⟨t,rfl⟩:=r1
    by_cases e:m=n
    ·subst e; simp [isInt]
    ·have e1:((some m:Option Int)==some n)=false:=by simpa using e
     have e2:isInt n (.int m t)=false:=by simpa [isInt] using e
     rw [e1,e2]
theorem aDi:Ar X "tuple.count" (λx vs H Q=>∃ (a:ae) (os:List (Option Int)) (n:Int),x=.ref a/\vs = [.int n]/\d_ X.K H a (os.map oV)/\Q (.int (os.count (some n):Nat)) H):=by
 intro a_ s σ H x v vs us Q I rx r h
 obtain ⟨a,os,n,rfl,rfl,ha,q⟩:=h
 obtain ⟨u,rfl,t,rfl⟩:=fY r
 cases rx
 obtain ⟨b_,rv,⟨⟨cls,dd,data,sl⟩,ho,hc,k,hd⟩,wy⟩:=I.tuple ha
 simp only at hc hd
 subst hc hd
 refine Ui Uh ⟨_,ho,rfl⟩ Iw (Ir _ _) (SeqAt.tuple_countAt a b_.toArray k dd sl (.int n t) (isInt n)) ⟨ho,λy hy=>?_,?_⟩
 ·rcases Sn rv y (by simpa using hy) with rfl | ⟨m,t',rfl⟩
  ·exact SeqAt.EqAt.none_int n t
  ·exact SeqAt.EqAt.int_int m t' n t
 ·have e:(b_.toArray.toList.countP (isInt n))=os.count (some n):=by
   simp only [Yq]
   exact vZ n rv
  rw [e]
  exact ⟨.int _,H,I.tok _,⟨_,rfl⟩,q⟩
theorem aBs (hK:X.K=K):Ar X "tuple.count" (λx vs H Q=>∃ (a:ae) (os:List (Option Int)) (n:Int),x=.ref a/\vs = [.int n]/\d_ K H a (os.map oV)/\Q (.int (os.count (some n):Nat)) H):=by subst hK; exact aDi
section
variable {own:Nat} {σ:St}
theorem aE1 {k:Sk} (SH:St->Prop) (hn:xs.length<=1000) (hl:vs.length=xs.length) (ha:∀ H',aD H H'->i9 k K H' a xs) (jc:SH (h_ own fr σ)) (hs:∀ (i:Nat) x v p σ H1,xs[i]?=some x->vs[i]?=some v->H1 p=none->SH σ->aD H H1->∀ Q:V->St->Hp->Prop,(∀ fg H4,SH fg->aD H1 H4->Q v fg H4)->g (.ref p) σ (upd H1 p (.tup [.int (i:Nat),x])) λfg H2=>te fg H2 λy H4=>Q y fg H4) (hd:∀ H',aD H H'->Qf H' vs) :
  j4 (CG K k a) [] (h_ own fr σ) H (λys _ H=>Qf H ys) g pO (oq te):=by
 refine oE SH hn hl jc (λH' s=>⟨xs,ha H' s,rfl⟩) (λi H' hi s=>⟨xs,xs[i],ha H' s,Qc hi⟩) (λi v x σ H1 H2 hi hv sh s y Q k=>?_) hd
 obtain ⟨q,hq,rfl,hy⟩:=y
 obtain ⟨x,h1,rfl⟩:=hy xs (ha H1 s)
 exact hs i x v q σ H1 h1 hv hq sh s Q k
end
theorem aE2 {xs:Array Nat} (hs:xs.toList.Pairwise (· < ·)):∀ (fuel lo hi:Nat),hi - lo<=fuel->lo<=hi->hi<=xs.size->(∀ i v,i < lo->xs[i]?=some v->v < j)->(∀ i v,hi<=i->xs[i]?=some v->j<=v) ->
  aj.below.go xs j fuel lo hi<=xs.size/\(∀ i v,i < aj.below.go xs j fuel lo hi->xs[i]?=some v->v < j)/\(∀ i v,aj.below.go xs j fuel lo hi<=i->xs[i]?=some v->j<=v):=by
 have mono:∀ i k u v,i < k->xs[i]?=some u->xs[k]?=some v->u < v:=λi k u v Ac hu hv=>by
  rw [<- Array.getElem?_toList] at hu hv
  obtain ⟨h1,e1⟩:=Qb.mp hu
  obtain ⟨h2,e2⟩:=Qb.mp hv
  rw [<- e1,<- e2]
  exact Xo.mp hs i k h1 h2 Ac
 intro fuel
 induction fuel with
 | zero =>
  intro lo hi h1 h2 h3 h4 h5
  have e:hi=lo:=by omega
  subst e
  exact ⟨h3,h4,h5⟩
 | succ fuel ih =>
  intro lo hi h1 h2 h3 h4 h5
  have e:aj.below.go xs j (fuel+1) lo hi=if lo < hi then (if xs.getD ((lo+hi) / 2) j < j then aj.below.go xs j fuel ((lo+hi) / 2+1) hi else aj.below.go xs j fuel lo ((lo+hi) / 2)) else lo:=rfl
  rw [e]
  by_cases ff:lo < hi
  ·rw [if_pos ff]
   have hm:(lo+hi) / 2 < xs.size:=by omega
   have hg:xs[(lo+hi) / 2]?=some (xs.getD ((lo+hi) / 2) j):=by
    rw [Array.getD_eq_getD_getElem?,Array.getElem?_eq_getElem hm]; rfl
   by_cases hc:xs.getD ((lo+hi) / 2) j < j
   ·rw [if_pos hc]
    refine ih _ _ (by omega) (by omega) h3 (λi v uf hv=>?_) h5
    rcases Ys i ((lo+hi) / 2) with z | z
    ·exact Yi (mono _ _ _ _ z hv hg) hc
    ·have:i=(lo+hi) / 2:=by omega
     subst this
     rw [hg] at hv
     rw [<- Option.some.inj hv]; exact hc
   ·rw [if_neg hc]
    refine ih _ _ (by omega) (by omega) (by omega) h4 (λi v uf hv=>?_)
    rcases Ys ((lo+hi) / 2) i with z | z
    ·have:=mono _ _ _ _ z hg hv
     omega
    ·have:i=(lo+hi) / 2:=by omega
     subst this
     rw [hg] at hv
     rw [<- Option.some.inj hv]; omega
  ·rw [if_neg ff]
   have e:hi=lo:=by omega
   subst e
   exact ⟨h3,h4,h5⟩
theorem wA {xs:Array Nat} (hs:xs.toList.Pairwise (· < ·)) (j:Nat):aj.below xs j<=xs.size/\(∀ i v,i < aj.below xs j->xs[i]?=some v->v < j)/\(∀ i v,aj.below xs j<=i->xs[i]?=some v->j<=v) :=
 aE2 hs xs.size 0 xs.size (by omega) (Jl _) (Qh _) (λi v h=>absurd h (Zt _)) (λi v h e=>by rw [Array.getElem?_eq_none h] at e; cases e)
noncomputable def mU (xs:Array Nat) (i:Nat):Nat:=if i=0 then 0 else (xs[i - 1]?).getD 0+1
theorem aBt {xs:Array Nat} (hs:xs.toList.Pairwise (· < ·)) (hi:i<=xs.size):aj.below xs (mU xs i)=i:=by
 obtain ⟨h1,h2,h3⟩:=wA hs (mU xs i)
 have mono:∀ i k u v,i < k->xs[i]?=some u->xs[k]?=some v->u < v:=λi k u v Ac hu hv=>by
  rw [<- Array.getElem?_toList] at hu hv
  obtain ⟨h1,e1⟩:=Qb.mp hu
  obtain ⟨h2,e2⟩:=Qb.mp hv
  rw [<- e1,<- e2]
  exact Xo.mp hs i k h1 h2 Ac
 rcases Nat.lt_trichotomy (aj.below xs (mU xs i)) i with z | z | z
 ·exfalso
  have ff:i - 1 < xs.size:=by omega
  have e:xs[i - 1]?=some xs[i - 1]:=Array.getElem?_eq_getElem ff
  have:=h3 (i - 1) _ (by omega) e
  unfold mU at this
  rw [if_neg (by omega),e] at this
  have:xs[i - 1]+1<=xs[i - 1]:=this
  omega
 ·exact z
 ·exfalso
  have ff:i < xs.size:=by omega
  have e:xs[i]?=some xs[i]:=Array.getElem?_eq_getElem ff
  have:=h2 i _ z e
  unfold mU at this
  by_cases h0:i=0
  ·rw [if_pos h0] at this; omega
  ·have Li:i - 1 < xs.size:=by omega
   have e':xs[i - 1]?=some xs[i - 1]:=Array.getElem?_eq_getElem Li
   rw [if_neg h0,e'] at this
   have this:xs[i] < xs[i - 1]+1:=this
   have:=mono (i - 1) i _ _ (by omega) e' e
   omega
noncomputable def xp (mask:Nat):Nat->Nat×Nat->Nat×Nat
 | 0,p=>p
 | n+1,p=>xp mask n (aj.leap mask p.1 p.2)
theorem RF (mask:Nat):∀ (a b:Nat) (p:Nat×Nat),xp mask (a+b) p=xp mask b (xp mask a p)
 | 0,b,p=>by rw [Qat]; rfl
 | a+1,b,p=>by
  rw [show a+1+b=(a+b)+1 by omega]
  exact RF mask a b _
theorem Sl (mask:Nat):∀ (k:Nat) (p:Nat×Nat),p.2 < 32^k->p.1<=mask->∃ i,i<=mask/\xp mask k p=(i,0)
 | 0,p,h,hi=>⟨p.1,hi,by
   obtain ⟨a,b⟩:=p
   have:b=0:=by have h:b < 32^0:=h; omega
   subst this; rfl⟩
 | k+1,p,h,hi=>by
  refine Sl mask k _ ?_ ?_
  ·show p.2 / 32 < 32^k
   rw [Nat.pow_succ] at h
   omega
  ·show (p.1*5+1+p.2 / 32) % (mask+1)<=mask
   have:=Nat.mod_lt (p.1*5+1+p.2 / 32) (show 0 < mask+1 by omega)
   omega
theorem VP:∀ i j:Fin 8,∃ n:Fin 8,(xp 7 n.val (i.val,0)).1=j.val:=by decide +kernel
theorem v? {mask:Nat} (hm:mask=7) {pt:Nat} (hi:i<=mask) (hp:pt < 2^64) (hj:j<=mask):∃ n,n<=mask+13/\(xp mask n (i,pt)).1=j:=by
 obtain ⟨i',uf,e⟩:=Sl mask 13 (i,pt) (show pt < 32^13 by omega) hi
 subst hm
 obtain ⟨n,hn⟩:=VP ⟨i',by omega⟩ ⟨j,by omega⟩
 exact ⟨13+n.val,by have:=n.isLt; omega,by rw [RF,e]; exact hn⟩
noncomputable def xQ (t:aj):Nat->aj.Probe->aj.Probe
 | 0,p=>p
 | n+1,p=>xQ t n (t.advance p)
theorem Sj (t:aj):∀ (a b:Nat) (p:aj.Probe),xQ t (a+b) p=xQ t b (xQ t a p)
 | 0,b,p=>by rw [Qat]; rfl
 | a+1,b,p=>by
  rw [show a+1+b=(a+b)+1 by omega]
  exact Sj t a b _
theorem aDj (t:aj) (p:aj.Probe):(t.advance p).dummy=p.dummy:=by
 unfold aj.advance
 split <;> rfl
theorem xR (j:Nat):aj.has #[] j=false:=rfl
theorem sW {t:aj} (hd:t.dummies = #[]) (j:Nat):t.slot j=.empty∨∃ i,t.slot j=.live i:=by
 unfold aj.slot
 dsimp only
 by_cases h:(t.place[aj.below t.place j]?==some j)=true
 ·rw [if_pos h]; exact .inr ⟨_,rfl⟩
 ·rw [if_neg h,hd,xR]
  exact .inl (if_neg (by decide))
theorem Si {t:aj} (hd:t.dummies = #[]) {hashAt:Nat->Int} {h:Int} (hh:∀ i,(hashAt i==h)=false):∀ (fuel:Nat) (p:aj.Probe) (n:Nat),n < fuel->p.dummy=none->t.slot (xQ t n p).j=.empty->∃ j,aj.probe.go t hashAt h fuel p=some (.empty j none)/\t.slot j=.empty
 | 0,p,n,hn,_,_=>absurd hn (Zt _)
 | fuel+1,p,n,hn,hp,hs=>by
  have e:aj.probe.go t hashAt h (fuel+1) p=(match t.slot p.j with
   | .empty=>some (.empty p.j p.dummy)
   | .dummy=>aj.probe.go t hashAt h fuel (t.advance { p with dummy:=some p.j })
   | .live i=>if (hashAt i==h)=true then some (.candidate p.j i (t.advance p)) else aj.probe.go t hashAt h fuel (t.advance p)):=rfl
  rcases sW hd p.j with q | ⟨i,q⟩
  ·refine ⟨p.j,?_,q⟩
   rw [e,q,hp]
  ·rw [e,q]
   simp only [hh,Jh,if_false]
   cases n with
   | zero=>rw [show xQ t 0 p=p from rfl,q] at hs; cases hs
   | succ n=>exact Si hd hh fuel (t.advance p) n (by omega) (by rw [aDj]; exact hp) hs
noncomputable def CC (mask:Nat) (p:Nat×Nat):aj.Probe:={ j:=p.1,more:=aj.runEnd mask p.1 - p.1,i:=p.1,perturb:=p.2,dummy:=none }
theorem RE (t:aj) (i pt:Nat):∀ (m j:Nat),xQ t (m+1) { j:=j,more:=m,i:=i,perturb:=pt,dummy:=none }=CC t.mask (aj.leap t.mask i pt)
 | 0,j=>rfl
 | m+1,j=>RE t i pt m (j+1)
theorem O! (mask i:Nat):aj.runEnd mask i - i<=9:=by
 unfold aj.runEnd
 split <;> omega
theorem wB (t:aj):∀ (k:Nat) (p:Nat×Nat),∃ n,n<=10*k/\xQ t n (CC t.mask p)=CC t.mask (xp t.mask k p)
 | 0,p=>⟨0,Qh _,rfl⟩
 | k+1,p=>by
  obtain ⟨n,hn,e⟩:=wB t k (aj.leap t.mask p.1 p.2)
  refine ⟨(aj.runEnd t.mask p.1 - p.1+1)+n,by have:=O! t.mask p.1; omega,?_⟩
  rw [Sj]
  have e2:xQ t (aj.runEnd t.mask p.1 - p.1+1) (CC t.mask p)=CC t.mask (aj.leap t.mask p.1 p.2):=RE t p.1 p.2 _ _
  rw [e2]
  exact e
theorem aGp (h:Int):aj.bits h < 2^64:=by
 unfold aj.bits
 have h1:=Yt h (show (0:Int) < 2^64 by decide)
 have h2:=Wn h (show (2^64:Int)≠0 by decide)
 omega
theorem aGq {t:aj} (hm:t.mask=7) (hd:t.dummies = #[]) {j0:Nat} (hj:j0<=t.mask) (hs:t.slot j0=.empty) (h:Int):∃ j,t.freeSlot h=some (j,false)/\t.slot j=.empty:=by
 have ff:=Nat.mod_lt (aj.bits h) (show 0 < t.mask+1 by omega)
 obtain ⟨k,hk,e⟩:=v? hm (i:=aj.bits h % (t.mask+1)) (pt:=aj.bits h) (by omega) (aGp h) hj
 obtain ⟨n,hn,e2⟩:=wB t k (aj.bits h % (t.mask+1),aj.bits h)
 obtain ⟨j,e3,e4⟩:=Si hd (hashAt:=λ_=>h+1) (h:=h) (λi=>beq_eq_false_iff_ne.mpr (by omega)) (10*aj.turns t.mask) (CC t.mask (aj.bits h % (t.mask+1),aj.bits h)) n (by unfold aj.turns; omega) rfl (by
  rw [e2]
  show t.slot (xp t.mask k (aj.bits h % (t.mask+1),aj.bits h)).1=_
  rw [e]; exact hs)
 refine ⟨j,?_,e4⟩
 have e5:t.probe (λx=>h+1) h (t.probeStart h)=some (.empty j none):=e3
 unfold aj.freeSlot
 rw [e5]
 rfl
theorem gap:∀ (l:List Nat) (b:Nat),l.Pairwise (· < ·)->(∀ x∈l,b<=x)->∃ j,b<=j/\j<=b+l.length/\j∉l
 | [],b,_,_=>⟨b,Qh _,Qh _,Qp⟩
 | x::r,b,h,hb=>by
  obtain ⟨h1,h2⟩:=Zp.mp h
  by_cases z:x=b
  ·obtain ⟨j,j1,j2,j3⟩:=gap r (b+1) h2 λy hy=>by have:=h1 y hy; omega
   refine ⟨j,by omega,by rw [Ja]; omega,λm=>?_⟩
   rcases Ql.mp m with m | m
   ·omega
   ·exact j3 m
  ·refine ⟨b,Qh _,by omega,λm=>?_⟩
   have hx:=hb x (Qi ..)
   rcases Ql.mp m with m | m
   ·exact z m.symm
   ·have:=h1 b m; omega
theorem aBu {t:aj} (hd:t.dummies = #[]) (h:j∉t.place.toList):t.slot j=.empty:=by
 rcases sW hd j with q | ⟨i,q⟩
 ·exact q
 ·exfalso
  unfold aj.slot at q
  dsimp only at q
  by_cases z:(t.place[aj.below t.place j]?==some j)=true
  ·have z':=eq_of_beq z
   rw [<- Array.getElem?_toList] at z'
   exact h (Qe z')
  ·rw [if_neg z,hd,xR] at q
   simp at q
theorem aE3 {t:aj} (h:t.slot j=.empty):t.place[aj.below t.place j]?≠some j:=λz=>by
 unfold aj.slot at h
 dsimp only at h
 rw [if_pos (by rw [z]; exact beq_self_eq_true _)] at h
 cases h
theorem jG (xs:Array α) (p:Nat) (x:α):(aj.insertAt xs p x).toList=xs.toList.take p++x::xs.toList.drop p:=by
 unfold aj.insertAt
 rw [Array.toList_append,Array.toList_push,Array.toList_extract,Array.toList_extract]
 simp only [List.extract_eq_drop_take,Yv,Qaq]
 rw [Zv]
 congr 1
 rw [Wo]
 congr 1
 rw [Jb]
 rw [Jy,Array.length_toList]
 exact Qh _
theorem vE {xs:Array Nat} (hs:xs.toList.Pairwise (· < ·)) (h:xs[aj.below xs j]?≠some j):(aj.insertAt xs (aj.below xs j) j).toList.Pairwise (· < ·):=by
 obtain ⟨h1,h2,h3⟩:=wA hs j
 rw [jG]
 have Nq:∀ y∈xs.toList.drop (aj.below xs j),j < y:=λy hy=>by
  obtain ⟨i,hi⟩:=Qu.mp hy
  rw [Qaj,Array.getElem?_toList] at hi
  have hle:=h3 _ _ (Xs _ _) hi
  rcases Ys j y with z | z
  ·exact z
  ·exfalso
   have e:y=j:=by omega
   subst e
   cases i with
   | zero=>exact h hi
   | succ i =>
    have ff:aj.below xs y < xs.size:=by
     have:=(Array.getElem?_eq_some_iff.mp hi).1
     omega
    have e1:xs[aj.below xs y]?=some xs[aj.below xs y]:=Array.getElem?_eq_getElem ff
    have h4:=h3 _ _ (Qh _) e1
    have h5:xs[aj.below xs y] < y:=by
     rw [<- Array.getElem?_toList] at hi e1
     obtain ⟨q1,r1⟩:=Qb.mp e1
     obtain ⟨q2,r2⟩:=Qb.mp hi
     have:=Xo.mp hs _ _ q1 q2 (by omega)
     rw [r1,r2] at this
     exact this
    omega
 have ff:∀ y∈xs.toList.take (aj.below xs j),y < j:=λy hy=>by
  obtain ⟨i,hi⟩:=Qu.mp hy
  have qq:i < aj.below xs j:=by
   have:=(Qb.mp hi).1
   rw [Qq] at this
   omega
  rw [Wa qq,Array.getElem?_toList] at hi
  exact h2 _ _ qq hi
 refine List.pairwise_append.mpr ⟨hs.sublist (List.take_sublist _ _),Zp.mpr ⟨Nq,hs.sublist (List.drop_sublist _ _)⟩,λa ha b hb=>?_⟩
 rcases Ql.mp hb with rfl | hb
 ·exact ff a ha
 ·exact Yi (ff a ha) (Nq b hb)
structure Tb (L:Bool) (t:aj) (n:Nat):Prop where
 mask:t.mask=7
 Cq:n<=4
 vz:t.dummies = #[]
 plain:t.plain=true
 led:t.led=L
 size:t.place.size=n
 rise:t.place.toList.Pairwise (· < ·)
theorem Tb.fits {t:aj} {n:Nat} (T:Tb L t n):t.fits n=true:=by
 unfold aj.fits aj.fill
 rw [T.size,T.vz]
 have:n+(#[]:Array Nat).size<=t.mask:=by
  show n+0<=_
  have:=T.mask
  have:=T.Cq
  omega
 rw [decide_eq_true this,beq_self_eq_true]
 rfl
theorem Tb.full {t:aj} {n:Nat} (T:Tb L t n):t.tooFull=false:=by
 have e:t.tooFull=decide (n*5≥t.mask*3):=by
  unfold aj.tooFull aj.fill
  rw [T.size,T.vz]; rfl
 have:=T.Cq
 rw [e,T.mask]
 exact decide_eq_false (by omega)
theorem Tb.lay {t:aj} {es:Array (Int×aa)} (T:Tb L t es.size) (hn:es.size<=3) (h:Int) (x:aa) :
  ∃ uw t',layNew t es h x=(uw,t',false,false)/\uw.toList.Perm ((h,x)::es.toList)/\Tb L t' uw.size/\uw.size=es.size+1:=by
 have hm:=T.mask
 obtain ⟨j0,_,j2,j3⟩:=gap t.place.toList 0 T.rise λx _=>Jl _
 rw [Array.length_toList,T.size] at j2
 obtain ⟨j,ej,hj⟩:=aGq hm T.vz (by omega) (aBu T.vz j3) h
 have HW:(aj.insertAt es (aj.below t.place j) (h,x)).size=es.size+1:=by
  rw [<- Array.length_toList,jG,Qj,Ja,Qq,Jy,Array.length_toList]
  omega
 have LI:t.put j=({ t with place:=aj.insertAt t.place (aj.below t.place j) j,dummies:=#[] },aj.below t.place j):=by
  unfold aj.put
  dsimp only
  rw [T.vz,xR]
  rfl
 have T':Tb L { t with place:=aj.insertAt t.place (aj.below t.place j) j,dummies:=#[] } (es.size+1):=by
  refine ⟨hm,by omega,rfl,T.plain,T.led,?_,vE T.rise (aE3 hj)⟩
  show (aj.insertAt t.place _ j).size=_
  rw [<- Array.length_toList,jG,Qj,Ja,Qq,Jy,Array.length_toList,T.size]
  omega
 refine ⟨aj.insertAt es (aj.below t.place j) (h,x),_,?_,?_,by rw [HW]; exact T',HW⟩
 ·unfold layNew
  rw [ej]
  dsimp only
  rw [LI]
  dsimp only
  rw [HW]
  unfold aj.orStandIn
  rw [T'.fits]
  rfl
 ·rw [jG]
  exact List.perm_middle.trans (List.Perm.cons _ (by rw [Za]))
theorem RD (next:Nat->Nat):∀ (fuel k:Nat) (left:List α) (out:Array α),left.length<=fuel->(pickOrder.go next fuel k left out).toList.Perm (out.toList++left)
 | 0,k,left,out,h=>by
  have:left = []:=Jq.mp (by omega)
  subst this
  rw [Xq]; exact List.Perm.refl _
 | fuel+1,k,left,out,h=>by
  have e:pickOrder.go next (fuel+1) k left out=(match left[next k % left.length]? with
   | some x=>pickOrder.go next fuel (k+1) (left.eraseIdx (next k % left.length)) (out.push x)
   | none=>out):=rfl
  rw [e]
  cases q:left[next k % left.length]? with
  | none =>
   have hl:left.length=0:=by
    rcases Yu left.length with z | z
    ·exact z
    ·have:=Nat.mod_lt (next k) z
     rw [Qc this] at q; cases q
   rw [Jq.mp hl,Xq]
  | some x =>
   obtain ⟨hi,ex⟩:=Qb.mp q
   refine (RD next fuel (k+1) _ (out.push x) (by rw [List.length_eraseIdx_of_lt hi]; omega)).trans ?_
   rw [Array.toList_push,Zv]
   refine List.Perm.append_left _ ?_
   rw [List.eraseIdx_eq_take_drop_succ,Wo,<- ex]
   refine List.perm_middle.symm.trans ?_
   rw [List.getElem_cons_drop hi]
   first | done | rw [Za]
theorem aDk (next:Nat->Nat) (xs:Array α):(pickOrder next xs).toList.Perm xs.toList:=by
 have:=RD next xs.size 0 xs.toList #[] (by rw [Array.length_toList]; exact Qh _)
 exact this
noncomputable def ent (p:Int×dc):Int×aa:=(hashInt p.1,.int p.1 p.2)
def SG (L:Bool) (h:af) (a:ae) (ks:List (Int×dc)):Prop:=∃ o ep es t,h.get? a=some o/\o.ExactSet/\o.data=.set es ep t/\es.toList.Perm (ks.map ent)/\Tb L t es.size
theorem SG.keep {l:List (Int×dc)} (x:SG L h a l) (k:∀ o,h.get? a=some o->h'.get? a=some o):SG L h' a l:=by
 obtain ⟨o,ep,es,t,e,r⟩:=x
 exact ⟨o,ep,es,t,k o e,r⟩
theorem aDl (prog:br) (w:bf) {es:Array (Int×aa)} (h:es.toList.Perm (ks.map ent)):ElemsOf (intKind prog w) es.toList:=by
 intro e he
 obtain ⟨p,hp,rfl⟩:=Qv.mp (h.mem_iff.mp he)
 exact ⟨⟨p.1,Mx _ _ _ _,rfl⟩,rfl⟩
theorem N? {k:Int} {t:dc} {Q:Bool->ah->Prop} (hS:SG L s.heap a ks) (hlen:ks.length<=3) (hQ:∀ h' b,af.SameBut a s.heap h'->((∃ p∈ks,p.1=k)->SG L h' a ks)->((∀ p∈ks,p.1≠k)->SG L h' a ((k,t)::ks))->Q b { s with heap:=h',toks:=s.toks+1 }) :
  ag (ao prog w) A (setAdd a (.int k t)) Q E s:=by
 obtain ⟨o,ep,es,tb,ho,hex,hd,hp,T⟩:=hS
 unfold setAdd
 refine Rm (Ra ((intKind prog w).pyHash (k:=k) (Mx _ _ _ _) ?_))
 have Ad:=aDl prog w hp
 have hsz:es.size=ks.length:=by rw [<- Array.length_toList,hp.length_eq,Qa]
 have rf:=T.fits
 have Ew:byScan (.int k t) es=true:=byScan_of (knd:=intKind prog w) rfl (by rw [hsz]; unfold scanBound; omega) Ad
 unfold setAddHashed setAddHashedIn
 refine Rm (Ra (Tn (s:={ s with toks:=s.toks+1 }) ho hd rf ?_))
 dsimp only
 rw [Ew]
 simp only [↓reduceIte]
 unfold setAddByScan
 refine Ra ?_
 refine Ra (Tu ?_)
 refine Ra (wpAny_setScan_of (knd:=intKind prog w) (k:=k) (Mx _ _ _ _) ho hd rf Ad ?_)
 cases hr:List.findIdx? (λe=>(intKind prog w).is k e.2) es.toList with
 | some j =>
  dsimp only
  obtain ⟨hj,Nf,_⟩:=List.findIdx?_eq_some_iff_getElem.mp hr
  have BY:∃ p∈ks,p.1=k:=by
   obtain ⟨p,vc,e⟩:=Qv.mp (hp.mem_iff.mp (Jr hj))
   refine ⟨p,vc,?_⟩
   rw [<- e] at Nf
   obtain ⟨t',e2⟩:=aa.isInt_shape (show aa.isInt k (aa.int p.1 p.2)=true from Nf)
   injection e2
  refine Rb (Rb ?_)
  exact hQ s.heap false (af.SameBut.refl a s.heap) (λ_=>⟨o,ep,es,tb,ho,hex,hd,hp,T⟩) λhn=>by
   obtain ⟨p,hp,e⟩:=BY
   exact absurd e (hn p hp)
 | none =>
  dsimp only
  have xa:∀ p∈ks,p.1≠k:=λp vc e=>by
   have:=List.findIdx?_eq_none_iff.mp hr (ent p) (hp.mem_iff.mpr (Qv.mpr ⟨p,vc,rfl⟩))
   have h2:(intKind prog w).is k (aa.int k p.2)=true:=Mx _ _ _ _
   simp only [ent,e] at this
   rw [h2] at this
   cases this
  obtain ⟨FI,t1,e1,p1,T1,z1⟩:=T.lay (by omega) ((intKind prog w).hash k) (.int k t)
  have WE:FI.toList.Perm (((k,t)::ks).map ent):=p1.trans (List.Perm.cons _ hp)
  rw [e1]
  dsimp only
  refine Ra (Rb ?_)
  rw [if_pos T1.plain,hashByValue_scannable 8 (x:=.int k t) rfl]
  refine Ra (Rb ?_)
  rw [if_pos (show plainKind (.int k t)=true from rfl)]
  refine Ra (wpAny_storeSet_of (s:={ s with toks:=s.toks+1 }) ho hd ?_ (by rw [z1,Rf]; omega))
  have g1:=af.get?_update_self (bz.putSet FI t1) ho (by rw [putSet_of _ _ hd]; rfl)
  rw [putSet_of _ _ hd] at g1
  rw [T1.full]
  simp only [Bool.not_false,Xp,Jh,if_false]
  refine Rb (Rb ?_)
  exact hQ (s.heap.update a (bz.putSet FI t1)) true (af.SameBut.update _ _ _) (λ⟨p,hp,e⟩=>absurd e (xa p hp)) λ_=>⟨_,_,FI,t1,g1,hex,rfl,WE,T1⟩
structure LQ (ks:List (Int×dc)) (ns:List Int):Prop where
 nd:(ks.map (·.1)).Nodup
 mem:∀ k,k∈ks.map (·.1)↔k∈ns
 len:ks.length<=ns.length
noncomputable def rM (w:bf) (S:ae) (ep:Nat) (es:Array (Int×aa)):Array (Int×aa):=if w.params.followText "set-order" then pickOrder (w.params.setOrder S ep) es else es
noncomputable def iJ (w:bf) (t:aj) (i:Nat):Nat:=if w.params.followText "set-order" then 0 else mU t.place i
theorem pV (w:bf) (S:ae) (ep:Nat) (es:Array (Int×aa)):(rM w S ep es).toList.Perm es.toList:=by
 unfold rM
 split
 ·exact aDk _ _
 ·exact List.Perm.refl _
theorem pW (w:bf) (S:ae) (ep:Nat) (es:Array (Int×aa)):(rM w S ep es).size=es.size:=by
 rw [<- Array.length_toList,(pV w S ep es).length_eq,Array.length_toList]
section
variable {es:Array (Int×aa)} {t:aj}
theorem qX {Q:Option (aa×Nat)->ah->Prop} (T:Tb (Led w) t es.size) (ho:s.heap.get? S=some o) (hd:o.data=.set es ep t) (hi:i<=es.size) (h:Q (((rM w S ep es)[i]?).map λe=>(e.2,iJ w t (i+1))) s):ag (ao prog w) A (setNext S (iJ w t i) i ep) Q E s:=by
 have rf:=T.fits
 unfold setNext
 refine Ra (Tn ho hd rf ?_)
 dsimp only
 refine Ra (pP ?_)
 cases hb:w.params.followText "set-order" with
 | true =>
  have e1:rM w S ep es=pickOrder (w.params.setOrder S ep) es:=by unfold rM; rw [hb]; rfl
  have e2:∀ i,iJ w t i=0:=λi=>by unfold iJ; rw [hb]; rfl
  rw [e1,e2] at h
  rw [e2]
  simp only [if_true,bne_self_eq_false,Jh,if_false]
  refine Ra ?_
  unfold setWalk
  refine Ra (Tn ho hd rf ?_)
  dsimp only
  refine Ra (pP ?_)
  rw [hb]
  simp only [if_true]
  refine Ra (Uo (Rb (Rb h)))
 | false =>
  have e1:rM w S ep es=es:=by unfold rM; rw [hb]; rfl
  have e2:∀ i,iJ w t i=mU t.place i:=λi=>by unfold iJ; rw [hb]; rfl
  have eL:t.led=true:=by rw [T.led]; unfold Led; rw [hb]; rfl
  rw [e1,e2] at h
  rw [e2]
  simp only [Jh,if_false]
  have Hw:=aBt T.rise (i:=i) (by rw [T.size]; exact hi)
  refine Tq (λui=>absurd (show (!t.plain && decide (es.size > 1))=true from ui) (by rw [T.plain]; simp)) (λ_=>?_)
  refine Ra ?_
  show ag _ _ (if (!t.led && !es.isEmpty)=true then unsupported "set:maker-not-led" else pure ()) _ _ _
  rw [eL]
  refine Rb (Rb ?_)
  rw [Hw]
  cases q:es[i]? with
  | none=>rw [q] at h; exact h
  | some p =>
   rw [q] at h
   have ff:i < t.place.size:=by rw [T.size]; exact (Array.getElem?_eq_some_iff.mp q).1
   rw [Array.getElem?_eq_getElem ff]
   have e5:mU t.place (i+1)=t.place[i]+1:=by
    unfold mU
    rw [if_neg (by omega),Nat.add_sub_cancel,Array.getElem?_eq_getElem ff]
    rfl
   rw [e5] at h
   exact h
def oH (w:bf) (h:af) (I S:ae) (t:aj) (n ep i:Nat):Prop :=
 h.get? I=some { cls:=.type "set_iterator",data:=.fields #[rawInt (iJ w t i:Nat),rawInt (i:Nat),.ref S,rawInt (n:Nat),rawInt (ep:Nat)] }
theorem aDm (hh:A.handled=none) (I S:ae) (f':S≠I) (o:bz) (ep:Nat) (es:Array (Int×aa)) (t:aj) (T:Tb (Led w) t es.size) (hd:o.data=.set es ep t) :
  cz prog w A I [I,S] [I] es.size (λi v=>∃ k,(rM w S ep es)[i]?=some (k,v)) (λi h=>oH w h I S t es.size ep i/\h.get? S=some o) where
 sub:=λb hb=>by simp at hb; simp [hb]
 frame:=λ_ _ _ st hk=>⟨hk I (by simp) _ st.1,hk S (by simp) _ st.2⟩
 item:=λi s Q E hi st hQ=>by
  obtain ⟨hit,hS⟩:=st
  have hT:s.TypeIs (.ref I) "set_iterator" := ⟨_,hit,rfl⟩
  unfold pyNext
  refine Ra (Tg (Rg (name:=ax.ofString "__next__") hT bT
   (Ri bT hT fV ?_ (eX _))))
  unfold ai.«set_iterator.__next__» slotArgs
  simp only [Yl,Wg,Jh,↓reduceIte,Xx,bne_self_eq_false]
  refine Ra (Rb ?_)
  dsimp only
  refine Ra (Tj hit rfl ?_)
  show ag _ _ (setEntries S >>= _) _ _ s
  refine Ra (Ra (Tn hS hd (T.fits) (Rb ?_)))
  dsimp only
  refine Tq (λui=>absurd ui (by simp)) (λ_=>?_)
  show ag _ _ (setNext S (iJ w t i:Int).toNat (i:Int).toNat (ep:Int).toNat >>= _) _ _ s
  rw [Jc,Jc,Jc]
  refine Ra (qX T hS hd (by omega) ?_)
  obtain ⟨⟨k,v⟩,A6⟩:∃ e,(rM w S ep es)[i]?=some e:=⟨_,Array.getElem?_eq_getElem (by rw [pW]; exact hi)⟩
  rw [A6]
  show ag _ _ (setField (aa.ref I) 0 (rawInt ↑(iJ w t (i+1))) >>= _) _ _ s
  refine Ra (Rj hit (by show 0 < 5; decide) λh1 g1 EO=>?_)
  refine Ra (Rj g1 (by show 1 < 5; decide) λh2 g2 mf=>?_)
  refine Rb ⟨v,rfl,Rb ?_⟩
  refine hQ v h2 s.toks ⟨k,A6⟩ ⟨?_,(mf.2 S f').trans ((EO.2 S f').trans hS)⟩ λb ob hb e=>?_
  ·unfold oH
   rw [g2]
   congr 1
  ·have ju:b≠I:=by simpa using hb
   exact (mf.2 b ju).trans ((EO.2 b ju).trans e)
 done:=λs Q E st hQ=>by
  obtain ⟨hit,hS⟩:=st
  have hT:s.TypeIs (.ref I) "set_iterator" := ⟨_,hit,rfl⟩
  unfold pyNext
  refine Ra (Tg (Rg (name:=ax.ofString "__next__") hT bT
   (Ri bT hT fV ?_ (eX _))))
  unfold ai.«set_iterator.__next__» slotArgs
  simp only [Yl,Wg,Jh,↓reduceIte,Xx,bne_self_eq_false]
  refine Ra (Rb ?_)
  dsimp only
  refine Ra (Tj hit rfl ?_)
  show ag _ _ (setEntries S >>= _) _ _ s
  refine Ra (Ra (Tn hS hd (T.fits) (Rb ?_)))
  dsimp only
  refine Tq (λui=>absurd ui (by simp)) (λ_=>?_)
  show ag _ _ (setNext S (iJ w t es.size:Int).toNat (es.size:Int).toNat (ep:Int).toNat >>= _) _ _ s
  rw [Jc,Jc,Jc]
  refine Ra (qX T hS hd (Qh _) ?_)
  have A6:(rM w S ep es)[es.size]?=none:=by rw [Array.getElem?_eq_none]; rw [pW]; exact Qh _
  rw [A6]
  show ag _ _ (setField (aa.ref I) 2 aa.none >>= _) _ _ s
  refine Ra (Rj hit (by show 2 < 5; decide) λh1 g1 EO=>?_)
  show ag _ _ (newExc (.type "StopIteration") [] >>= _) _ _ _
  refine Ra ?_
  simp only [newExc,newTuple]
  refine Ra (Rk ?_ (by size_fits))
  refine Ra (m:=firstArgMember _ _) (Vf (a:=aa.none) (by first | rfl | (simp only [firstArgMember]; rfl)) ?_)
  refine Rk ?_ (by size_fits)
  simp only [raiseNew]
  refine Ra (Ih ?_)
  first | rw [show A.in1.handled=none from hh] | rw [hh]
  refine Ra (Rb (Ml ?_))
  refine Ra (Tw (T := "StopIteration") (b:=true) ⟨_,af.get?_push_size _ rfl,rfl⟩ Uz ?_)
  refine Rb (hQ _ s.toks λb ob hb e=>?_)
  have ju:b≠I:=by simpa using hb
  exact af.get?_push_of_some _ (af.get?_push_of_some _ ((EO.2 b ju).trans e))
 self:=λi s Q E st h=>by
  obtain ⟨hit,hS⟩:=st
  have hT:s.TypeIs (.ref I) "set_iterator" := ⟨_,hit,rfl⟩
  refine Vk hT gB (Ri gB hT jU ?_ (jN _))
  show ag _ _ (ret (.ref I)) _ _ s
  exact Rb ⟨_,rfl, "set_iterator",_,hT,bT.lookup,h⟩
theorem aAo (T:Tb (Led w) t es.size) (ho:s.heap.get? S=some o) (hex:o.ExactSet) (hd:o.data=.set es ep t) (h:Q (.ref s.heap.objs.size) { s with heap:=s.heap.push { cls:=.type "set_iterator",data:=.fields #[rawInt (iJ w t 0:Nat),rawInt ((0:Nat):Int),.ref S,rawInt (es.size:Nat),rawInt (ep:Nat)] } }):ag (ao prog w) A (pyIter (.ref S)) Q E s:=by
 have hT:s.TypeIs (.ref S) "set" := ⟨o,ho,hex.1⟩
 refine Vk hT Mq (Ri Mq hT sP ?_ (PySem.F.args_set_iter_1 _))
 unfold ai.«frozenset.__iter__» ai.Frozenset.slot0 slotArgs
 simp only [Yl,Wg,Jh,↓reduceIte,bind_assoc,Xx,bne_self_eq_false]
 refine Ra (Rb ?_)
 dsimp only
 refine Ra (m:=ai.Frozenset.addrOf (.ref S)) (Rb ?_)
 unfold ai.Frozenset.sizeOf setEntries
 refine Ra (Ra (Ra (Tn ho hd (T.fits) (Rb (Rb ?_)))))
 dsimp only
 unfold setDrawn
 refine Ra (Ra (Tn ho hd (T.fits) (Ra (pP (Rb ?_)))))
 have hb:∀ b:Bool,(!b && false)=false:=by decide
 refine Tq (λui=>absurd (show (!(w.params.followText "set-order") && (!t.plain && decide (es.size > 1)))=true from ui) (by rw [T.plain]; rw [show (!true && decide (es.size > 1))=false from rfl,hb]; decide)) (λ_=>?_)
 refine Ra (Rb ?_)
 unfold setEpoch
 refine Ra (Ra (Tn ho hd (T.fits) (Rb ?_)))
 dsimp only
 have e0:iJ w t 0=0:=by unfold iJ mU; split <;> rfl
 refine Ra (Rk (Rb ⟨_,rfl, "set_iterator",_,⟨_,af.get?_push_size _ rfl,rfl⟩,bT.lookup,?_⟩))
 rw [e0] at h
 exact h
theorem aDn {Q:Bool->ah->Prop} (T:Tb (Led w) t es.size) (ho:s.heap.get? S=some o) (hex:o.ExactSet) (hd:o.data=.set es ep t)
  (h:∀ b,Q b s):ag (ao prog w) A (ai.List.listLengthHint (.ref S)) Q E s:=by
 have hT:s.TypeIs (.ref S) "set" := ⟨o,ho,hex.1⟩
 unfold ai.List.listLengthHint
 refine Ra (RaN hT PySem.F.slot_set_len.lookup ?_)
 generalize Nm:("set.__len__" : String)=V0
 wp_delta
 rw [show splitId V0=some ("set", "__len__") from by subst Nm; decide +kernel]
 subst Nm
 refine Ra (Tw (T := "set") (b:=true) hT (by rw [Mv]; kernel_rfl) ?_)
 refine Tq (λui=>absurd ui (by decide)) (λ_=>?_)
 refine Tq (λ_=>?_) (λui=>absurd (by decide +kernel) ui)
 refine Ra (Vp hT ?_)
 exact Rb (h false)
theorem xS {Q:List aa->ah->Prop} (hh:A.handled=none) (T:Tb (Led w) t es.size) (ho:s.heap.get? S=some o) (hex:o.ExactSet) (hd:o.data=.set es ep t)
  (h:∀ h' tk vs,(∀ b o,s.heap.get? b=some o->h'.get? b=some o)->vs=(rM w S ep es).toList.map (·.2)->Q vs { s with heap:=h',toks:=tk }):ag (ao prog w) A (collect (.ref S)) Q E s:=by
 refine aBi λR hR=>?_
 generalize hD:s.heap.objs.size=D at *
 have Fv : @LT.lt Nat instLTNat S D:=by rw [<- hD]; exact af.lt_size ho
 generalize Fz:s.heap.push { cls:=.type "list",data:=.seq ([]:List aa).toArray }=H0
 have aab:H0.objs.size=D+1:=by rw [<- Fz,af.size_push,hD]
 have k_:H0.get? S=some o:=by rw [<- Fz]; exact af.get?_push_of_some _ ho
 have YB:H0.get? D=some { cls:=.type "list",data:=.seq #[] 0 }:=by rw [<- Fz,<- hD]; exact af.get?_push_size _ rfl
 have Kx:∀ b ob,s.heap.get? b=some ob->H0.get? b=some ob:=λb ob e=>by rw [<- Fz]; exact af.get?_push_of_some _ e
 unfold ai.List.listExtendWith
 refine Ra (Vp (T := "set") ⟨o,k_,hex.1⟩ ?_)
 have h1:ai.List.listSameRef (.ref D) (.ref S)=false:=by simp [ai.List.listSameRef]; exact Xm Fv
 have h2:(aa.type "set" == aa.type "list")=false:=by decide
 have h3:(aa.type "set" == aa.type "tuple")=false:=by decide
 simp only [h1,h2,h3,Bool.or_false,Jh,if_false]
 refine Ra (aAo (s:={ s with heap:=H0 }) T k_ hex hd ?_)
 generalize hI:H0.objs.size=I at *
 have W:=(aDm (prog:=prog) (w:=w) (A:=A.in1) hh I S (Qx (by omega)) o ep es t T hd).toS
 have key:∀ (hp:af) (c tk:Nat),oH w hp I S t es.size ep 0->hp.get? S=some o->(∀ b ob,b≠D->H0.get? b=some ob->hp.get? b=some ob)->hp.get? D=some { cls:=.type "list",data:=.seq #[] c } ->
   codeAny (ao prog w) A (.builtin "list.extend.loop" ⟨[.ref D,.ref I,.ref D],[]⟩) R { s with heap:=hp,toks:=tk }:=by
  intro hp c tk hit hS hk LF
  refine codeAny_extend_loopS W (by rw [Rf]; have:=T.Cq; omega) D (by
   simp only [Ql,Qr,Qp,or_false,not_or]
   exact ⟨Qx (by omega),Xm Fv⟩) (.ref D) es.size 0 _ #[] c rfl (Jl _) ⟨hit,hS⟩ LF (ItemsOf.nil _) λs' BR c' hm yg zf=>?_
  rw [Moved.eq_with hm]
  refine hR { s with heap:=s'.heap,toks:=s'.toks } BR c' yg (h s'.heap s'.toks BR.toList (λb ob e=>hm.heap b ob (λnv=>?_) (hk b ob ?_ (Kx b ob e))) ?_)
  ·have hb : @LT.lt Nat instLTNat b D:=by rw [<- hD]; exact af.lt_size e
   rcases Ql.mp nv with z | z
   ·exact absurd z (Qx hb)
   ·have z':b=I:=by simpa using z
    exact absurd z' (Qx (by omega))
  ·have hb : @LT.lt Nat instLTNat b D:=by rw [<- hD]; exact af.lt_size e
   exact Qx hb
  ·obtain ⟨hs,hi⟩:=zf
   apply Yf
   intro j
   rw [Qd,Array.getElem?_toList,Array.getElem?_toList]
   cases e:BR[j]? with
   | none =>
    have hj:es.size<=j:=by
     rw [<- hs]
     exact Array.getElem?_eq_none_iff.mp e
    rw [Array.getElem?_eq_none (by rw [pW]; exact hj)]
    rfl
   | some v =>
    obtain ⟨k,hk⟩:=hi j v e
    rw [hk]
    rfl
 have Ei:oH w (H0.push { cls:=.type "set_iterator",data:=.fields #[rawInt (iJ w t 0:Nat),rawInt ((0:Nat):Int),.ref S,rawInt (es.size:Nat),rawInt (ep:Nat)] }) I S t es.size ep 0:=by
  rw [<- hI]; exact af.get?_push_size _ rfl
 have HH:=af.get?_push_of_some { cls:=.type "set_iterator",data:=.fields #[rawInt (iJ w t 0:Nat),rawInt ((0:Nat):Int),.ref S,rawInt (es.size:Nat),rawInt (ep:Nat)] } YB
 refine Ra (Rm (aDn (s:={ s with heap:=H0.push { cls:=.type "set_iterator",data:=.fields #[rawInt (iJ w t 0:Nat),rawInt ((0:Nat):Int),.ref S,rawInt (es.size:Nat),rawInt (ep:Nat)] } }) T (af.get?_push_of_some _ k_) hex hd λbb=>?_))
 have DI:D≠I:=Qx (by omega)
 refine Tq (λ_=>?_) (λ_=>Rb ⟨Tt Iy _,key _ 0 _ Ei (af.get?_push_of_some _ k_) (λb ob _ e=>af.get?_push_of_some _ e) HH⟩)
 refine Ra (Tu ?_)
 refine Ra ?_
 show ag _ _ (updateSeq D (·.push .none) >>= λ_=>updateSeq D (·.pop)) _ _ _
 refine Ra (Vi HH rfl ?_)
 have El:=af.get?_update_self (bz.mapSeq (·.push aa.none)) HH rfl
 refine Vi (hz:=by seq_fits) El rfl ?_
 have LC:=af.get?_update_self (bz.mapSeq (·.pop)) El rfl
 refine Rb ⟨Tt Iy _,key _ _ _ ?_ ?_ (λb ob hb e=>?_) LC⟩
 ·exact (af.get?_update_other _ _ DI).trans ((af.get?_update_other _ _ DI).trans Ei)
 ·exact (af.get?_update_other _ _ (Xm Fv)).trans ((af.get?_update_other _ _ (Xm Fv)).trans (af.get?_push_of_some _ k_))
 ·exact (af.get?_update_other _ _ (Ne.symm hb)).trans ((af.get?_update_other _ _ (Ne.symm hb)).trans (af.get?_push_of_some _ e))
end
def sX (out ns:List Int):Prop:=out.Pairwise (· < ·)/\∀ k,k∈out↔k∈ns
noncomputable def Br (w:bf) (p:ae) (ns:List Int):HO:=.ext λh=>∃ ks,SG (Led w) h p ks/\LQ ks ns
theorem wC:∀ {l:List (Int×aa)} {ks:List (Int×dc)},l=ks.map ent->IntsAre (l.map (·.2)) (ks.map (·.1))
 | _,[],rfl=>.nil
 | _,p::ks,rfl=>.cons _ p.2 (wC rfl)
theorem aDo:∀ {l l':List (Int×aa)},l.Perm l'->(∀ e∈l',∃ p,e=ent p)->∃ ks:List (Int×dc),l=ks.map ent:=λ{l l'} h q=>by
 have q':∀ e∈l,∃ p,e=ent p:=λe he=>q e (h.mem_iff.mp he)
 clear h q
 induction l with
 | nil=>exact ⟨[],rfl⟩
 | cons e r ih =>
  obtain ⟨p,rfl⟩:=q' e (Qi ..)
  obtain ⟨ks,rfl⟩:=ih λy hy=>q' y (Qg _ hy)
  exact ⟨p::ks,rfl⟩
theorem aE4 {B8:List (Int×dc)} (h:(ks.map ent).Perm (B8.map ent)):(ks.map (·.1)).Perm (B8.map (·.1)):=by
 have e:∀ l:List (Int×dc),l.map (·.1)=(l.map ent).map λe=>match e.2 with | .int k _=>k | _=>0:=λl=>by rw [Jn]; rfl
 rw [e,e]
 exact h.map _
theorem xT (hc:X.calm=true):eV X (.builtin "sorted") (λxs H Q=>∃ (p:ae) (ns:List Int),xs = [.ref p]/\H p=some (Br X.w p ns)/\ns.length<=12/\∀ q out,sX out ns->H q=none->Q (.ref q) (upd H q (.lst (out.map V.int)))):=by
 intro a_ s σ H xs us Q I r h
 obtain ⟨p,ns,rfl,hp,hn,q⟩:=h
 obtain ⟨u,rfl,rx⟩:=fY r
 cases rx
 obtain ⟨⟨ks,⟨o,ep,es,t,ho,hex,hd,Fe,T⟩,hk⟩,_,_⟩:=I.fj p _ hp
 obtain ⟨B8,e'⟩:=aDo ((pV X.w p ep es).trans Fe) λe he=>by
  obtain ⟨y,_,rfl⟩:=Qv.mp he
  exact ⟨y,rfl⟩
 have Fj:(B8.map (·.1)).Perm (ks.map (·.1)):=aE4 (by rw [<- e']; exact (pV X.w p ep es).trans Fe)
 have ny:=hk.len
 have hlen:(B8.map (·.1)).length<=12:=by rw [Fj.length_eq,Qa]; omega
 refine aC4 (ns:=B8.map (·.1)) (by omega) (λQ' j_=>?_) λh1 h' tk out nh k1 k2 pl uf vc k_=>?_
 ·exact xS (A:=X.A.in1) (I.ok.hd hc) T ho hex hd λh' tk vs kp e=>j_ h' tk vs kp (by rw [e]; exact wC e')
 ·have I1:Inv X a_ σ H { s with heap:=h1,toks:=tk }:=I.kept k1
  have hf:=I1.fj.fresh (Qh _)
  have Nd:=vc.trans Fj
  have hs:sX nh ns:=by
   refine ⟨?_,λk=>Nd.mem_iff.trans (hk.mem k)⟩
   have nd:nh.Nodup:=Nd.nodup_iff.mpr hk.nd
   exact (List.Pairwise.and k_ nd).imp λ⟨a,b⟩=>by omega
  have xb:nh.length<=12:=by rw [vc.length_eq]; exact hlen
  obtain ⟨n,e⟩:=pl
  have I2:Inv X a_ σ (upd H h1.objs.size (.lst (nh.map V.int))) { s with heap:=h',toks:=tk } :=
   I1.laid (t':=tk) k2 (Qh _) (show bJ X.prog X.w _ _ _ (.lst _) from ⟨by rw [Qa,Rf]; omega,out.toList,n,pN uf,by simpa using e⟩)
  exact ⟨.ref h1.objs.size,_,I2,rfl,q _ _ hs hf⟩
open PySem.AutoSeq1 (wpAny_loadPart')
theorem vF (l:ae) (items:Array aa) (n:Nat) (dd:Option ae) (sl:Array (Option aa)) (u:dc) :
  Meets (ai.«tuple.__mul__» ⟨[.ref l,.int 1 u],[]⟩) (λ_ R s=>s.heap.get? l=some { cls:=.type "tuple",dict:=dd,data:=.seq items n,slots:=sl }/\R (.ok (.ret (aa.ref l))) s) :=
 .of_wp λprog w A R s h=>by
  obtain ⟨hp,g,d,tk,os⟩:=s
  obtain ⟨hl,h⟩:=h
  have f1:=AutoSeq1.idx_int
  have f2:=AutoSeq1.sub_tuple_tuple
  wp_walk using Ru hl
  exact ⟨_,rfl,h⟩
section
variable {z TI TO i3 l3:ae} {n n3:Nat} {P3:Nat->aa->Prop} {CS:Nat->af->Prop}
end
section
variable (k1 k2 k3:Sk) (h:af) (a b d:ae)
end
section
variable {own:Nat} {σ:St}
theorem aDp (SH:St->Prop) (hn:zs.length<=1000) (hle:zs.length<=xs.length) (hl:vs.length=zs.length) (ha:∀ H',aD H H'->i9 k1 K H' a xs/\i9 k2 K H' b zs) (jc:SH (h_ own fr σ)) (hs:∀ (i:Nat) x z v p σ H1,xs[i]?=some x->zs[i]?=some z->vs[i]?=some v->H1 p=none->SH σ->aD H H1->∀ Q:V->St->Hp->Prop,(∀ fg H4,SH fg->aD H1 H4->Q v fg H4)->g (.ref p) σ (upd H1 p (.tup [x,z])) λfg H2=>te fg H2 λy H4=>Q y fg H4) (hd:∀ H',aD H H'->Qf H' vs) :
  j4 (yo K k1 k2 a b) [] (h_ own fr σ) H (λys _ H=>Qf H ys) g pO (oq te):=by
 refine oE SH hn hl jc (λH' s=>⟨xs,zs,(ha H' s).1,(ha H' s).2,by omega⟩) (λi H' hi s=>⟨xs,zs,xs[i]'(by omega),zs[i],(ha H' s).1,(ha H' s).2,Qc (by omega),Qc hi⟩) (λi v x σ H1 H2 hi hv sh s y Q k=>?_) hd
 obtain ⟨q,hq,rfl,hy⟩:=y
 obtain ⟨x,z,h1,h2,rfl⟩:=hy xs zs (ha H1 s).1 (ha H1 s).2
 exact hs i x z v q σ H1 h1 h2 hv hq sh s Q k
end
theorem aDq (hK:X.K=K):Ar X "list.count" (λx vs H Q=>∃ (a:ae) (ns:List Int) (n:Int),x=.ref a/\vs = [.int n]/\fh K H a (ns.map V.int)/\Q (.int (ns.count n:Nat)) H):=by
 subst hK
 intro a_ s σ H x v vs us Q I rx r h
 obtain ⟨a,ns,n,rfl,rfl,ha,q⟩:=h
 obtain ⟨u,rfl,t,rfl⟩:=fY r
 cases rx
 obtain ⟨b_,rv,⟨⟨cls,dd,data,sl⟩,k,ho,hc,XN,hd⟩,wy⟩:=I.list ha
 simp only at hc hd
 subst hc hd
 have hi:IntsAre b_ ns:=iR rv
 refine Ui Mg ⟨_,ho,rfl⟩ PySem.F.entry_list_count (PySem.F.args_list_count_2 _ _) (SeqAt.list_countAt a b_.toArray k dd sl (.int n t) (isInt n)) ⟨ho,λy hy=>(eq_isInt n t hi y (by simpa using hy)).at _ _,?_⟩
 have e:(b_.toArray.toList.countP (isInt n))=ns.count n:=by
  simp only [Yq]
  clear q r ha rv ho wy XN
  induction hi with
  | nil=>rfl
  | cons m t' _ ih =>
   rw [Wj,Xc,ih]
   rfl
 rw [e]
 exact ⟨.int _,H,I.tok _,⟨_,rfl⟩,q⟩
def EJ (P:α->V->V->Hp->(α->Hp->Prop)->Prop) (tk tv:TE) (ys:α) (σ:St) (H:Hp) (R:α->St->Hp->Prop):Prop:=tk σ H λx H4=>tv σ H4 λy H5=>P ys x y H5 λa H=>R a σ H
noncomputable def O9 (kx vx:bq) (env:c8) (D:ae):Sem Unit:=do
 let kv<-eval kx env
 let vv<-holding [kv] (eval vx env)
 standAt { kx.pos with endLine:=vx.pos.endLine,endCol:=vx.pos.endCol }
 holding [kv,vv] (dictSet D kv vv)
section
variable {a0:α} {Ok:ae->α->af->Prop}
theorem v!:gy P w A (.DictComp kx vx [⟨tg,iter,ifs,0⟩] scope pos) 0 tg iter ifs (O9 kx vx) where
 AK:=λ_ _ _=>⟨rfl,rfl⟩
 turn:=λit D env=>compTurn_dict kx vx tg iter ifs scope pos it D env
 start:=codeAny_compStart_dict
theorem u? {p:α->V->V->Hp->(α->Hp->Prop)->Prop} (AO:i8 Y.prog Y.w Y.A newDict a0 Ok) (hk:PE Y kx tk) (he:PE Y vx tv) (st:∀ {D:ae} {a:α} {s:ah} {H:Hp} {x y:V} {kv vv:aa} {R:α->Hp->Prop},jq Y.prog Y.w H s.heap->Ok D a s.heap->bN x kv->bN y vv->p a x y H R->ag (ao Y.prog Y.w) Y.A (dictSet D kv vv) (λ_ s'=>∃ h' tk a',s'={ s with heap:=h',toks:=tk }/\af.SameBut D s.heap h'/\Ok D a' h'/\R a' H) Y.xe s) :
  jK Y (O9 kx vx) Ok (EJ p tk tv):=by
 intro ps s σ H D o ys R dn I pl h
 refine Ra (fk (hk _ s σ H _ I h) λkv s1 hx=>?_)
 obtain ⟨xv,H1,I1,r1,q1⟩:=hx
 refine Ra (Rm (fk (he _ s1 σ H1 _ I1 q1) λvv s2 hx=>?_))
 obtain ⟨yv,H2,I2,r2,q2⟩:=hx
 refine Ra (Td (Rm (fk (st I2.fj (AO.ib I I2 pl) r1 r2 q2) λ_ s3 hx=>?_)))
 obtain ⟨h',tk,a',rfl,sb,ok,r⟩:=hx
 obtain ⟨o',I'⟩:=dn.put (t:=tk) AO I2 sb ok
 exact ⟨σ,H2,a',o',I',ok,r⟩
end
noncomputable def G?:bz:={ cls:=.type "dict",dict:=none,data:=.dict #[] }
section
variable {wi:TI}
end
def UL (t:TE):TE:=λσ H Q=>∃ P:V->Hp->Prop,t σ H P/\∀ x H1,P x H1->Q x H1
section
variable {t:TE}
theorem PH (h:PE X e t):PE X e (UL t):=by
 intro a_ s σ H Q I q
 obtain ⟨P,h1,h2⟩:=q
 refine fk (h a_ s σ H P I h1) λv s1 hx=>?_
 obtain ⟨x,H1,I1,r1,q1⟩:=hx
 exact ⟨x,H1,I1,r1,h2 _ _ q1⟩
end
theorem aDr {kvs:List (Key×V)} {own:Nat} {σ:St} {Q:Hp->List V->Prop} (SH:St->Prop) (Pv:Nat->List V->Hp->Prop) (hn:kvs.length<=ak) (jc:SH (h_ own fr σ)) (h0:Pv 0 [] H) (hlen:∀ i ys H,Pv i ys H->ys.length<=i) (hl:∀ i ys H,Pv i ys H->H a=some (.gh o (.dK kvs))) (hs:∀ i ys σ p H,kvs[i]?=some p->SH σ->Pv i ys H->ys.length < ak->g (kV p.1) σ H λfg H2=>tt fg H2 λb H3=>if b=true then te fg H3 λy H4=>ys.length < ak/\SH fg/\Pv (i+1) (ys++[y]) H4 else SH fg/\Pv (i+1) ys H3) (hd:∀ ys H,Pv kvs.length ys H->Q H ys) :
  j4 (CH a o kvs) [] (h_ own fr σ) H (λys _ H=>Q H ys) g tt (oq te):=by
 refine lZ kvs.length hn SH Pv jc h0 hlen (λys H p=>⟨hl _ _ _ p,rfl⟩) (λi ys H hi p=>⟨hl _ _ _ p,hi⟩) (λi ys σ x H H' hi sh p y hz=>?_) hd
 obtain ⟨rfl,v,hv,rfl⟩:=y
 exact hs i ys σ v _ hv sh p hz
theorem aE5:Pb X (λx y H Q=>∃ p xs i v,x=.ref p/\y=.int i/\fh X.K H p xs/\0<=i/\xs[i.toNat]?=some v/\Q v H):=by
 intro a_ s σ H o i ov iv Q I ro ri h
 obtain ⟨p,xs,k,z,rfl,rfl,hq,h0,he,q⟩:=h
 cases ro
 obtain ⟨t,rfl⟩:=ri
 obtain ⟨b_,r,pl,hz⟩:=I.list hq
 obtain ⟨w,ew,jb⟩:=r.get he
 have ff:k.toNat < xs.length:=(Qb.mp he).1
 have hsz:ak < 2^62:=by rw [Rf]; decide
 exact Ras (Q:=EP X a_ σ Q) pl.isList h0 (by omega) (by simpa using ew) ⟨z,H,I,jb,q⟩
theorem N!:i7 X (bc .Is) (λx y H Q=>∃ b c,x=.bl b/\y=.bl c/\Q (.bl (decide (b=c))) H):=by
 intro a_ s σ H x y v u Q I rx ry h
 obtain ⟨b,c,rfl,rfl,q⟩:=h
 cases rx
 cases ry
 refine is_bool (bS I q ?_)
 cases b <;> cases c <;> rfl
section
variable {d:ae} {es:Array c9}
theorem aE6 (hs:(d==bg)=false) (g:s.heap.get? d=some ob) (gx:ob.ExactDict) (gd:ob.data=.dict es ep) (k:Q (.ref s.heap.objs.size) { s with heap:=s.heap.push { cls:=.type "dict_keyiterator",data:=.fields #[.ref d,.int 0 0,.int es.size 0,.int ep 0] } }):ag (ao P w) A (pyIter (.ref d)) Q E s:=by
 have ty:s.TypeIs (.ref d) "dict" := ⟨ob,g,gx.1⟩
 refine Vk ty F.slot_dict_iter (Ri F.slot_dict_iter ty F.entry_dict_iter ?_ (F.args_dict_iter_1 _))
 unfold ai.«dict.__iter__»
 refine Ra ?_
 unfold ai.Dict.dictSlotNone
 refine Ra (Rah ty (Rb ?_))
 show ag _ _ (ai.Dict.showsAll d >>= _) _ _ s
 unfold ai.Dict.showsAll
 rw [if_neg (show ¬ (d==bg)=true by rw [hs]; decide)]
 refine Ra (Rb (Ra (Ud g gd (Ra (Uu g gd ?_)))))
 exact Ra (Rk (Rb ⟨_,rfl, "dict_keyiterator",_,⟨_,af.get?_push_size _ rfl,rfl⟩,F.slot_dict_keyiterator_next.lookup,by simpa [rawInt] using k⟩))
theorem aE7 {Q:Option aa->ah->Prop} (st:s.heap.IsKeyIter it d i es.size ep) (g:s.heap.get? d=some ob) (gd:ob.data=.dict es ep) (lt:i < es.size)
  (k:∀ h',h'.IsKeyIter it d (i+1) es.size ep->af.SameBut it s.heap h'->Q (some es[i].key) { s with heap:=h' }):ag (ao P w) A (pyNext (.ref it)) Q E s:=by
 obtain ⟨oi,gi,ci,di⟩:=id st
 unfold pyNext
 refine Ra (Tg (Rg (name:=ax.ofString "__next__") st.typeIs F.slot_dict_keyiterator_next (Ri F.slot_dict_keyiterator_next st.typeIs F.entry_dict_keyiterator_next ?_ (F.args_dict_keyiterator_next_1 _))))
 refine Ra (Rb (Ra (Ra ?_)))
 first
  | refine Ra (Tx st.typeIs (Rb (Ra (Tj gi di ?_))))
  | refine Ra (Us st.typeIs (Rb (Ra (Tj gi di ?_))))
 simp only [show ai.Dict_items.ownsTuple "dict_keyiterator" = false by decide,Jh,if_false]
 show ag _ _ (if (aa.ref d==aa.none)=true then _ else _) _ _ s
 rw [if_neg (λz:(aa.ref d==aa.none)=true=>Qm z)]
 refine Ra (Rb (Ra (Ud g gd ?_)))
 rw [if_neg (by simp)]
 refine Ra (Rb (Ra (Uu g gd ?_)))
 rw [if_neg (by simp)]
 refine Rb ?_
 simp only [show ¬ ((i:Int) < 0) from by omega,if_false,Jc,Array.getElem?_eq_getElem lt]
 refine Ra ?_
 first
  | refine Ra (Tx st.typeIs (Rb (Ra (Vv st.typeIs ?_))))
  | refine Ra (Us st.typeIs (Rb (Ra (Vv st.typeIs ?_))))
 show ag _ _ (setField (.ref it) 1 (rawInt ((i:Int)+1)) >>= _) _ _ s
 refine Ra (Uy gi di (by simp) ?_)
 have ja:(s.heap.update it (bz.mapFields (·.setIfInBounds 1 (rawInt ((i:Int)+1))))).IsKeyIter it d (i+1) es.size ep :=
  ⟨_,af.get?_update_self _ gi (bz.isFreed_of_fields (bz.data_mapFields di _)),(bz.cls_mapFields ..).trans ci,by rw [bz.data_mapFields di]; simp [rawInt]⟩
 refine Ra (Rm (Ra (Vv (s:={ s with heap:=s.heap.update it (bz.mapFields (·.setIfInBounds 1 (rawInt ((i:Int)+1)))) }) ja.typeIs ?_)))
 show ag _ _ (pure es[i].key) _ _ _
 exact Rb (Rb ⟨_,rfl,Rb (k _ ja (af.SameBut.update ..))⟩)
theorem aGr {Q:Option aa->ah->Prop} (hh:A.handled=none) (st:s.heap.IsKeyIter it d i es.size ep) (g:s.heap.get? d=some ob) (gd:ob.data=.dict es ep) (ge:es.size<=i)
  (k:∀ h',af.ExtBut it s.heap h'->Q none { s with heap:=h' }):ag (ao P w) A (pyNext (.ref it)) Q E s:=by
 obtain ⟨oi,gi,ci,di⟩:=id st
 unfold pyNext
 refine Ra (Tg (Rg (name:=ax.ofString "__next__") st.typeIs F.slot_dict_keyiterator_next (Ri F.slot_dict_keyiterator_next st.typeIs F.entry_dict_keyiterator_next ?_ (F.args_dict_keyiterator_next_1 _))))
 refine Ra (Rb (Ra (Ra ?_)))
 first
  | refine Ra (Tx st.typeIs (Rb (Ra (Tj gi di ?_))))
  | refine Ra (Us st.typeIs (Rb (Ra (Tj gi di ?_))))
 simp only [show ai.Dict_items.ownsTuple "dict_keyiterator" = false by decide,Jh,if_false]
 show ag _ _ (if (aa.ref d==aa.none)=true then _ else _) _ _ s
 rw [if_neg (λz:(aa.ref d==aa.none)=true=>Qm z)]
 refine Ra (Rb (Ra (Ud g gd ?_)))
 rw [if_neg (by simp)]
 refine Ra (Rb (Ra (Uu g gd ?_)))
 rw [if_neg (by simp)]
 refine Rb ?_
 simp only [show ¬ ((i:Int) < 0) from by omega,if_false,Jc,Array.getElem?_eq_none ge]
 refine Ra ?_
 first
  | refine Ra (Tx st.typeIs (Rb ?_))
  | refine Ra (Us st.typeIs (Rb ?_))
 show ag _ _ (setField (.ref it) 0 .none >>= _) _ _ s
 refine Ra (Uy gi di (by simp) ?_)
 show ag _ _ (newExc (.type "StopIteration") [] >>= _) _ _ _
 refine Ra ?_
 simp only [newExc,newTuple]
 refine Ra (Rk (Ra (m:=firstArgMember _ _) (Vf (a:=aa.none) (by first | rfl | (simp only [firstArgMember]; rfl)) (Rk ?_ (by size_fits)))) (by size_fits))
 simp only [raiseNew]
 refine Ra (Ih ?_)
 rw [show A.in1.handled=none from hh]
 refine Ra (Rb (Ml ?_))
 exact Ra (Tw (T := "StopIteration") (b:=true) ⟨_,af.get?_push_size _ rfl,rfl⟩ Uz (Rb (k _ (((af.SameBut.update ..).extBut.push _).push _))))
end
section
variable {σ:St}
theorem Inv.zo (I:Inv X a_ σ H s) (e:H a=some (.dT kvs)) (ho:s.heap.get? a=some o):Inv X a_ σ (upd H a (.gh o (.dT kvs))) s:=by
 have m:ym (H a):=by rw [e]; trivial
 have q:bJ X.prog X.w H s.heap a (.dT kvs):=I.fj a _ e
 exact I.write (x:=a) (e:=a) (t':=s.toks) m (.inl rfl) (λb u _ z=>z) ⟨o,ho⟩ ⟨ho,bJ.ib q (λ_ _ _ z=>z) (λc z=>by rw [aG (λy=>by rw [y,e] at z; cases z)]; exact z) (λc xs z=>by rw [aG (λy=>by rw [y,e] at z; cases z)]; exact z)⟩
theorem Inv.VF (I:Inv X a_ σ H s) (e:H a=some (.dT kvs)):NF X.qk a:=λo u z=>by
 have y:=I.base.j6 a o u z
 rw [e] at y
 cases y
theorem Inv.Av (I:Inv X a_ σ H s) (e:H a=some (.gh o (.dT kvs))) (nf:NF X.qk a):Inv X a_ σ (upd H a (.dT kvs)) s:=by
 have ne:∀ b,H b=none->b≠a:=λb n z=>by rw [z,e] at n; cases n
 have nt:∀ b xs,H b=some (.tup xs)->b≠a:=λb xs n z=>by rw [z,e] at n; cases n
 have no:∀ b x,H b=some (.own x)->b≠a:=λb xs n z=>by rw [z,e] at n; cases n
 obtain ⟨ho,q⟩:s.heap.get? a=some o/\bJ X.prog X.w H s.heap a (.dT kvs):=I.fj a _ e
 have un:Un X.fs X.ex X.qk (upd H a (.dT kvs)) X.jm.heap s.heap:=by
  refine ⟨I.base.keep,I.base.slot,λb ob q n hx=>?_,I.base.there,λb xs q=>?_,λb ob u q=>?_,λb ps q=>?_⟩
  ·have z:=I.base.free b ob q n hx
   rw [aG (ne b z)]; exact z
  ·have z:=I.base.ly b xs q
   rw [aG (nt b xs z)]; exact z
  ·have z:=I.base.j6 b ob u q
   have n:b≠a:=λy=>nf ob u (y ▸ q)
   rw [aG n]; exact z
  ·obtain ⟨m,z⟩:=I.base.lz b ps q
   have n:b≠a:=λy=>by rw [y,e] at z; cases z
   exact ⟨m,by rw [aG n]; exact z⟩
 refine ⟨I.ok,I.os,I.bare,un,I.loc,I.cell,?_,λx c h=>?_,λp hp=>?_,λb u h=>?_,I.len⟩
 ·rw [aG (ne _ I.free)]; exact I.free
 ·have z:=I.g_ x c h
  rw [aG (ne _ z)]; exact z
 ·obtain ⟨p1,p2,p3⟩:=I.pin p hp
  exact ⟨p1,by rw [aG (ne _ p2)]; exact p2,p3⟩
 ·by_cases hb:b=a
  ·subst hb
   rw [aB] at h
   cases h
   exact bJ.ib q (λ_ _ _ z=>z) (λc z=>by rw [aG (no c _ z)]; exact z) (λc xs z=>by rw [aG (nt c xs z)]; exact z)
  ·rw [aG hb] at h
   exact bJ.ib (I.fj b u h) (λ_ _ _ z=>z) (λc z=>by rw [aG (no c _ z)]; exact z) (λc xs z=>by rw [aG (nt c xs z)]; exact z)
end
noncomputable def yp (a:ae) (o:bz) (kvs:List (List Key×V)):It :=
 ⟨λi H=>H a=some (.gh o (.dT kvs))/\i < kvs.length,λi H x H'=>H'=H/\∃ p b,kvs[i]?=some p/\x=.ref b/\H b=some (.tup (p.1.map kV)),λi H=>H a=some (.gh o (.dT kvs))/\i=kvs.length⟩
theorem KT.length {xs:List (List Key×ae×aa)} (r:KT H kvs xs):kvs.length=xs.length:=by
 induction r with
 | nil=>rfl
 | cons _ _ ih=>rw [Ja,Ja,ih]
theorem KT.at {xs:List (List Key×ae×aa)} (r:KT H kvs xs):∀ {i:Nat} {p:List Key×V} {x:List Key×ae×aa},kvs[i]?=some p->xs[i]?=some x->p.1=x.1/\H x.2.1=some (.tup (p.1.map kV)):=by
 induction r with
 | nil=>intro i p x h; simp at h
 | cons h1 _ ih =>
  intro i p x hp hx
  cases i with
  | zero =>
   simp only [Wh,Option.some.injEq] at hp hx
   subst hp hx
   exact ⟨h1.1,h1.2.1⟩
  | succ j =>
   simp only [Wi] at hp hx
   exact ih hp hx
theorem aBw (a it:ae) (o:bz) (es:Array c9) (ep:Nat) (hd:o.data=.dict es ep) (kvs:List (List Key×V)) :
  Turn P w K tg (yp a o kvs) [it] it (λi h=>h.IsKeyIter it a i kvs.length ep) where
 mem:=by simp
 obj:=λi h st b hb=>by
  have e:b=it:=by simpa using hb
  subst e
  obtain ⟨o,e,c,d⟩:=st
  exact ⟨o,e,λv z=>by rw [d] at z; cases z⟩
 keep:=λi h h' st k=>st.at λo e=>k it (by simp) o e
 item:=by
  intro X hP hw hK hc i a_ s σ H E I hf st hg
  subst hP hw hK
  obtain ⟨hA,hi⟩:=hg
  obtain ⟨ho,hz,hs,xs,kt,o',uw,yj,q1,q2,q3,q4,q5⟩:s.heap.get? a=some o/\bJ X.prog X.w H s.heap a (.dT kvs):=I.fj a _ hA
  rw [ho] at q1
  cases q1
  rw [hd] at q3
  cases q3
  have hl:kvs.length=xs.length:=KT.length kt
  have t7:es.size=xs.length:=Uc q4
  have E8:es.size=kvs.length:=t7.trans hl.symm
  obtain ⟨f0,f1,f2,f3,f4,f5⟩:=hf it (by simp)
  have lt:i < es.size:=by omega
  rw [<- E8] at st
  refine aE7 st ho hd lt λh' n9 sb=>?_
  have I1:Inv X a_ σ H { s with heap:=h' }:=I.turned (t':=s.toks) (λb o hb e=>(sb.2 b hb).trans e) f0 f1 f3 f4 f5
  obtain ⟨oi,e',c',d'⟩:=id n9
  have hk:kvs[i]?=some (kvs[i]):=Qc hi
  have hx:xs[i]?=some (xs[i]'(by omega)):=Qc (by omega)
  have lg:=KT.at kt hk hx
  have ek:es[i].key=.ref (xs[i]'(by omega)).2.1:=by
   have z:=entry_at q4 i
   rw [hx,Array.getElem?_eq_getElem lt] at z
   rw [Option.some.inj z]
   rfl
  rw [E8] at n9
  rw [ek]
  exact ⟨_,rfl,yX (s:={ s with heap:=h' }) e' c' d' (by decide) ⟨.ref (xs[i]'(by omega)).2.1,H,I1,rfl,⟨rfl,_,_,hk,rfl,lg.2⟩,n9,λb hb=>(hf b hb).1⟩⟩
 done:=by
  intro X hP hw hK hc i a_ s σ H E I hf st hg
  subst hP hw hK
  obtain ⟨hA,hi⟩:=hg
  obtain ⟨ho,hz,hs,xs,kt,o',uw,yj,q1,q2,q3,q4,q5⟩:s.heap.get? a=some o/\bJ X.prog X.w H s.heap a (.dT kvs):=I.fj a _ hA
  rw [ho] at q1
  cases q1
  rw [hd] at q3
  cases q3
  have E8:es.size=kvs.length:=(Uc q4).trans (KT.length kt).symm
  obtain ⟨f0,f1,f2,f3,f4,f5⟩:=hf it (by simp)
  rw [<- E8] at st
  exact aGr (I.ok.hd hc) st ho hd (by omega) λh' eb=>⟨rfl,I.turned (t':=s.toks) (λb o hb e=>eb b o hb e) f0 f1 f3 f4 f5⟩
 self:=λ_ _ _ _ _ st h=>Ram st h
def M? (H0:Hp) (td:TE):TI:=λσ H R=>td σ H λx H1=>∃ a kvs,x=.ref a/\H1 a=some (.dT kvs)/\∀ o,NF H0 a->R (yp a o kvs) (upd H1 a (.gh o (.dT kvs)))
theorem sY (hl:PE X d td):PI X tg d (M? X.qk td):=by
 intro a_ s σ H R I h
 refine fk (hl a_ s σ H _ I h) λv s1 fe=>?_
 obtain ⟨x,H1,I1,r1,q1⟩:=fe
 obtain ⟨a,kvs,e,hq,q⟩:=q1
 subst e
 cases r1
 obtain ⟨hz,hs,xs,kt,o,es,ep,ho,ox,hd,q4,q5⟩:bJ X.prog X.w H1 s1.heap a (.dT kvs):=I1.fj a _ hq
 refine aE6 hs ho ox hd ?_
 have I2:=(I1.zo hq ho).kept (h':=s1.heap.push { cls:=.type "dict_keyiterator",data:=.fields #[.ref a,.int 0 0,.int es.size 0,.int ep 0] }) (t':=s1.toks) λb o e=>af.get?_push_of_some _ e
 have nA:a≠s1.heap.objs.size:=Qx (af.lt_size ho)
 refine ⟨s1.heap.objs.size,[s1.heap.objs.size],_,_,_,rfl,I2,aBw a _ o es ep hd kvs,?_,λb hb=>?_,q o (I1.VF hq)⟩
 ·refine ⟨_,af.get?_push_size _ rfl,rfl,?_⟩
  rw [KT.length kt,<- Uc q4]
  rfl
 ·have e:b=s1.heap.objs.size:=by simpa using hb
  subst e
  exact I1.k8 (Qh _) (by rw [aG (Ne.symm nA)]; exact I1.fj.fresh (Qh _))
def M! (H0:Hp) (t:TS):TS:=λD σ H=>t { D with nx:=λe_ H'=>∃ a o kvs,H' a=some (.gh o (.dT kvs))/\NF H0 a/\D.nx e_ (upd H' a (.dT kvs)) } σ H
theorem aE8 {t:TS} (h:PS X st t):PS X st (M! X.qk t):=by
 intro a_ s σ H D I q
 refine fk (h a_ s σ H _ I q) λf s1 z=>?_
 cases f with
 | next =>
  obtain ⟨e_,H',I',a,o,kvs,e,nf,k⟩:=z
  exact ⟨e_,_,I'.Av e nf,k⟩
 | brk=>exact z
 | cont=>exact z
 | ret u=>exact z
theorem aDs {σ:St} (Pv:Nat->St->Hp->Prop) (h0:Pv 0 σ H) (hl:∀ i σ H,i<=kvs.length->Pv i σ H->H a=some (.gh o (.dT kvs))) (hs:∀ i p b σ H,kvs[i]?=some p->H b=some (.tup (p.1.map kV))->Pv i σ H->g (.ref b) σ H λfg H2=>tb { D with nx:=Pv (i+1),ct:=Pv (i+1),bk:=D.nx } fg H2) (hd:∀ σ H,Pv kvs.length σ H->D.nx σ H) :
  ∃ W:Nat->Nat->St->Hp->Prop,(∃ m,W 0 m σ H)/\∀ i m σ H,W i m σ H ->
   ((yp a o kvs).stop i H/\D.nx σ H)∨((yp a o kvs).go i H/\∃ N:St->Hp->Prop,(∀ e_ H',N e_ H'->∃ m',m' < m/\W (i+1) m' e_ H')/\∀ x H',(yp a o kvs).qd i H x H'->g x σ H' λfg H2=>tb { D with nx:=N,ct:=N,bk:=D.nx } fg H2):=by
 refine ⟨λi m σ H=>m=kvs.length - i/\i<=kvs.length/\Pv i σ H,⟨kvs.length,by simp,Jl _,h0⟩,?_⟩
 rintro i m σ H ⟨rfl,hi,p⟩
 have q:=hl i σ H hi p
 by_cases ff:i < kvs.length
 ·refine .inr ⟨⟨q,ff⟩,Pv (i+1),λe_ H' p'=>⟨kvs.length - (i+1),by omega,rfl,ff,p'⟩,λx H' y=>?_⟩
  obtain ⟨rfl,v,b,hv,rfl,hb⟩:=y
  exact hs i v b σ H' hv hb p
 ·have e:i=kvs.length:=by omega
  subst e
  exact .inl ⟨⟨q,rfl⟩,hd σ H p⟩
def aGs (tk tv:TE):TE:=λσ H Q=>∀ p,H p=none->tk σ (upd H p (.dT [])) λx H1=>tv σ H1 λy H2=>∃ k b,x=.ref b/\H2 b=some (.tup (k.map kV))/\H2 p=some (.dT [])/\Q (.ref p) (upd H2 p (.dT [(k,y)]))
section
variable {ek ev:bq}
theorem aDt (hu:X.A.units+1 < cn) (hk:PE X ek tk) (hv:PE X ev tv) (he:autoParam (pairTrees [some ek] [ev] X.env pos = [(eval ek X.env,do let x<-eval ev X.env; standAt pos; pure x)]) L2.gj):PE X (.Dict [some ek] [ev] pos) (aGs tk tv):=by
 intro a_ s σ H Q I h
 have I0:Inv X a_ σ (upd H s.heap.objs.size (.dT [])) { s with heap:=s.heap.push { cls:=.type "dict",data:=.dict #[] } }:=I.laid (a:=s.heap.objs.size) (o:=.dT []) (t':=s.toks) (λ_ _ q=>af.get?_push_of_some _ q) (Qh _) (Sr s.heap I.big)
 have h0:=h s.heap.objs.size (I.fj.fresh (Qh _))
 refine wpAny_Dict_any rfl rfl (by simp) (by simp) ?_
 rw [he]
 refine evalPairs_cons (fk (hk a_ _ σ _ _ I0 h0) λkv s1 fe=>?_)
 obtain ⟨x,H1,I1,r1,q1⟩:=fe
 refine Ra (fk (hv a_ _ σ _ _ I1 q1) λvv s2 fe=>?_)
 obtain ⟨y,H2,I2,r2,q2⟩:=fe
 refine Ra (Td (Rb (evalPairs_nil ?_)))
 obtain ⟨k,b,rfl,hb,hp,q⟩:=q2
 cases (show kv=aa.ref b from r1)
 obtain ⟨z,hd,xs,rel,dd⟩:=PJ I2.fj hp
 have x0:xs = []:=Jq.mp (KT.length rel).symm
 subst x0
 unfold storeAll
 rw [Zs]
 refine Ra (Ra (Rau (hsz:=Jl _) (show X.A.units < cn by omega) (kJ I2.fj hb) dd λh' ux hs=>Rb ?_))
 dsimp only
 rw [Zn]
 refine Rb ?_
 obtain ⟨qo,es,ep,hq,h2,h3,h4,_,h5⟩:=ux
 have mu:ym (H2 s.heap.objs.size):=by rw [hp]; trivial
 have put:=KT.keeps (H':=upd H2 s.heap.objs.size (.dT [(k,y)])) (KT.put (kvs:=[]) (xs:=[]) .nil k hb r2) λc ys ec=>by
  rw [aG (PX ec hp (λz=>nomatch z))]
  exact ec
 exact ⟨.ref s.heap.objs.size,_,rQ (ob:=.dT [(k,y)]) I2 mu hs ⟨_,hq⟩ ⟨by rw [Rf]; simp,hd,_,put,qo,es,ep,hq,h2,h3,h4,h5⟩,rfl,q⟩
end
abbrev KE:=List Key×ae×V
noncomputable def E3 (e:KE):List Key×V:=(e.1,e.2.2)
def Kp (ys:List KE) (H:Hp):Prop:=∀ e∈ys,H e.2.1=some (.tup (e.1.map kV))
def KY (ys:List KE) (b_:List (List Key×ae×aa)):Prop:=cm (λ(p:KE) (q:List Key×ae×aa)=>p.1=q.1/\p.2.1=q.2.1/\bN p.2.2 q.2.2) ys b_
def DH (P:br) (w:bf) (h:af) (D:ae) (b_:List (List Key×ae×aa)):Prop:=∃ o es ep,h.get? D=some o/\o.ExactDict/\o.data=.dict es ep/\es.toList=b_.map (entryOfKey (tupleKind (cA P w)))/\(b_.map (·.1)).Nodup
theorem Kp.wr {ys:List KE} {D:ae} {o:HO} (h:Kp ys H) (n:H D=none):Kp ys (upd H D o):=λe he=>by
 rw [aG (λz=>by have q:=h e he; rw [z,n] at q; cases q)]
 exact h e he
theorem KY.length {ys:List KE} (r:KY ys b_):ys.length=b_.length:=by
 induction r with
 | nil=>rfl
 | cons _ _ ih=>rw [Ja,Ja,ih]
theorem KY.kt {ys:List KE} (r:KY ys b_):Kp ys H->KT H (ys.map E3) b_:=by
 induction r with
 | nil=>intro _; exact .nil
 | cons h1 _ ih=>intro hp; exact .cons ⟨h1.1,by rw [<- h1.2.1]; exact hp _ (Qi ..),h1.2.2⟩ (ih λe he=>hp e (Qg _ he))
theorem KY.snoc {ys:List KE} {k:List Key} {v:aa} (r:KY ys b_) (h:bN y v):KY (ys++[(k,b,y)]) (b_++[(k,b,v)]):=by
 induction r with
 | nil=>exact .cons ⟨rfl,rfl,h⟩ .nil
 | cons h1 _ ih=>exact .cons h1 ih
theorem KY.keys {ys:List KE} (r:KY ys b_):ys.map (·.1)=b_.map (·.1):=by
 induction r with
 | nil=>rfl
 | cons h1 _ ih=>rw [Qw,Qw,ih,h1.1]
theorem KY.Eu {ys:List KE} {k:List Key} (r:KY ys b_) (n:k∉ys.map (·.1)):atKey b_ k=none:=by
 rw [r.keys] at n
 exact atKey_none_of_get λj p h=>n (Qv.mpr ⟨_,Qe h,rfl⟩)
theorem DH.at {D:ae} (d:DH P w h D b_) (k:∀ o,h.get? D=some o->h'.get? D=some o):DH P w h' D b_:=let ⟨o,es,ep,h1,r⟩:=d; ⟨o,es,ep,k _ h1,r⟩
theorem DH.of {D:ae} (d:h.DictOfH (tupleKind (cA P w)) D b_):DH P w h D b_:=let ⟨o,es,ep,h1,h2,h3,h4,_,h5⟩:=d; ⟨o,es,ep,h1,h2,h3,h4,h5⟩
theorem DH.U9 {D:ae} {ys:List KE} (d:DH P w h D b_) (r:KY ys b_) (kp:Kp ys H) (ok:jq P w H h):h.DictOfH (tupleKind (cA P w)) D b_:=by
 obtain ⟨o,es,ep,h1,h2,h3,h4,h5⟩:=d
 refine ⟨o,es,ep,h1,h2,h3,h4,?_,h5⟩
 clear h1 h2 h3 h4 h5
 induction r with
 | nil=>intro x hx; cases hx
 | @cons p q ps qs hq _ ih =>
  intro x hx
  rcases Ql.mp hx with e | hx
  ·subst e
   exact kJ ok (by rw [<- hq.1,<- hq.2.1]; exact kp _ (Qi ..))
  ·exact ih (λe he=>kp e (Qg _ he)) x hx
def J_ (ys:List KE) (x y:V) (H:Hp) (R:List KE->Hp->Prop):Prop:=∃ k b,x=.ref b/\H b=some (.tup (k.map kV))/\Kp ys H/\k∉ys.map (·.1)/\ys.length < ak/\R (ys++[(k,b,y)]) H
def OkT (P:br) (w:bf) (D:ae) (ys:List KE) (h:af):Prop:=ys.length<=ak/\∃ b_,KY ys b_/\DH P w h D b_
theorem Pq:i8 P w A newDict [] (OkT P w) where
 new:=⟨G?,λv z=>(by cases z),rfl,λh D e=>⟨Jl _,[],.nil,_,#[],0,e,⟨rfl,rfl,rfl⟩,rfl,rfl,Zx⟩,λh=>Rk h⟩
 keep:=λ⟨hl,b_,v,d⟩ k=>⟨hl,b_,v,d.at k⟩
 obj:=λ⟨_,_,_,o,es,ep,h1,h2,h3,_⟩=>⟨o,h1,λv z=>by rw [h3] at z; cases z⟩
def aGt (own:Nat) (fr:List Nat) (wi:TI) (g:TG) (tt:TT) (tk tv:TE):TE:=λσ H Q=>wi σ H λJ H1=>j4 J [] (h_ own fr σ) H1 (λys _ H=>Kp ys H/\∀ p,H p=none->Q (.ref p) (upd H p (.dT (ys.map E3)))) g tt (EJ J_ tk tv)
section
variable {wi:TI}
theorem aDu (hu:X.A.units+1 < cn) (S:fv X scope z own fr fm) (hc:X.calm=true) (hi:PI X tg iter wi) (hg:∀ C s0 H0 fp,PG (bH X scope z (own++fm) C s0 H0 fp) tg g) (ht:∀ C s0 H0 fp,PF (bH X scope z (own++fm) C s0 H0 fp) ifs tt)
  (hk:∀ C s0 H0 fp,PE (bH X scope z (own++fm) C s0 H0 fp) kx tk) (he:∀ C s0 H0 fp,PE (bH X scope z (own++fm) C s0 H0 fp) vx tv) (hs:autoParam (∀ x,foldedSetIterable iter X.env x=pure x) L2.u4) :
  PE X (.DictComp kx vx [⟨tg,iter,ifs,0⟩] scope pos) (aGt own.length fr wi g tt tk tv) :=
 nZ S rfl v! Pq hc (arm_eval_DictComp ..) hi hg ht (λC s0 H0 fp=>u? Pq (hk C s0 H0 fp) (he C s0 H0 fp) λ{D a s H x y kv vv R} ok ⟨hl,b_,v,d⟩ r1 r2 ⟨k,b,ek,hb,kp,nk,lt,q⟩=>by
  subst ek
  cases (show kv=aa.ref b from r1)
  have ua:=v.length
  refine Rau (hsz:=by rw [<- ua]; exact Yh lt) (show X.A.units < cn by omega) (kJ ok hb) (d.U9 v kp ok) λDG Ep vq=>?_
  rw [storedH_new (v.Eu nk)] at Ep
  exact ⟨DG,_,_,rfl,vq,⟨by rw [Qj]; exact lt,_,v.snoc r2,DH.of Ep⟩,q⟩) hs
  λ⟨hl,b_,v,d⟩ hn hm q=>⟨.dT _,⟨by rw [Qa]; exact hl,hm,b_,v.kt (q.1.wr hn),d⟩,q.2 _ hn⟩
end
def aGu (H0:Hp) (t:TE):TE:=λσ H Q=>t σ H λx H'=>∃ a o kvs,H' a=some (.gh o (.dT kvs))/\NF H0 a/\Q x (upd H' a (.dT kvs))
def aGv (own:Nat) (fr:List Nat) (td:TE) (g:TG) (tt:TT) (tk tv:TE):TE:=λσ H Q=>td σ H λx H1=>∃ a kvs,x=.ref a/\H1 a=some (.dT kvs)/\∀ o:bz,j4 (yp a o kvs) [] (h_ own fr σ) (upd H1 a (.gh o (.dT kvs))) (λys _ H=>Kp ys H/\∀ p,H p=none->Q (.ref p) (upd (upd H p (.dT (ys.map E3))) a (.dT kvs))) g tt (EJ J_ tk tv)
section
variable {t:TE}
theorem Sh (h:PE X e t):PE X e (aGu X.qk t):=by
 intro a_ s σ H Q I q
 refine fk (h a_ s σ H _ I q) λv s1 hx=>?_
 obtain ⟨x,H1,I1,r1,a,o,kvs,ea,nf,k⟩:=hx
 exact ⟨x,_,I1.Av ea nf,r1,k⟩
theorem aDv (hu:X.A.units+1 < cn) (S:fv X scope z own fr fm) (hc:X.calm=true) (hi:PE X d td) (hg:∀ C s0 H0 fp,PG (bH X scope z (own++fm) C s0 H0 fp) tg g) (ht:∀ C s0 H0 fp,PF (bH X scope z (own++fm) C s0 H0 fp) ifs tt)
  (hk:∀ C s0 H0 fp,PE (bH X scope z (own++fm) C s0 H0 fp) kx tk) (he:∀ C s0 H0 fp,PE (bH X scope z (own++fm) C s0 H0 fp) vx tv) (hs:autoParam (∀ x,foldedSetIterable d X.env x=pure x) L2.u4) :
  PE X (.DictComp kx vx [⟨tg,d,ifs,0⟩] scope pos) (aGv own.length fr td g tt tk tv):=by
 intro a_ s σ H Q I h
 refine Sh (aDu hu S hc (sY (PH hi)) hg ht hk he hs) a_ s σ H Q I ⟨_,h,λx H1 q=>?_⟩
 obtain ⟨a,kvs,ex,hx,k⟩:=q
 refine ⟨a,kvs,ex,hx,λo nf=>?_⟩
 obtain ⟨W,w0,wk⟩:=k o
 refine ⟨W,w0,λi m ys e_ H' w=>?_⟩
 rcases wk i m ys e_ H' w with ⟨st,kp,q⟩ | z
 ·refine .inl ⟨st,kp,λp hp=>⟨a,o,kvs,?_,nf,q p hp⟩⟩
  rw [aG (λz=>by rw [<- z,st.1] at hp; cases hp)]
  exact st.1
 ·exact .inr z
end
theorem aAq {own:Nat} {σ:St} {Q:Hp->List KE->Prop} (SH:St->Prop) (Pv:Nat->List KE->Hp->Prop) (hn:kvs.length<=ak) (jc:SH (h_ own fr σ)) (h0:Pv 0 [] H) (hlen:∀ i ys H,Pv i ys H->ys.length<=i) (hl:∀ i ys H,Pv i ys H->H a=some (.gh o (.dT kvs))/\Kp ys H) (hs:∀ i ys σ p b H,kvs[i]?=some p->H b=some (.tup (p.1.map kV))->SH σ->Pv i ys H->ys.length < ak->g (.ref b) σ H λfg H2=>tt fg H2 λc H3=>if c=true then tk fg H3 λx H4=>tv fg H4 λy H5=>∃ k b,x=.ref b/\H5 b=some (.tup (k.map kV))/\Kp ys H5/\k∉ys.map (·.1)/\ys.length < ak/\SH fg/\Pv (i+1) (ys++[(k,b,y)]) H5 else SH fg/\Pv (i+1) ys H3) (hd:∀ ys H,Pv kvs.length ys H->Q H ys) :
  j4 (yp a o kvs) [] (h_ own fr σ) H (λys _ H=>Kp ys H/\Q H ys) g tt (EJ J_ tk tv) :=
 xG (Q:=λH ys=>Kp ys H/\Q H ys) kvs.length SH Pv jc h0 (λys H p=>⟨(hl _ _ _ p).1,rfl⟩) (λi ys H hi p=>⟨(hl _ _ _ p).1,hi⟩) (λi ys σ x H H' hi sh p y=>by
  obtain ⟨rfl,v,b,hv,rfl,hb⟩:=y
  exact hs i ys σ v b _ hv hb sh p (by have:=hlen i ys _ p; omega)) λys H p=>⟨(hl _ _ _ p).2,hd _ _ p⟩
section
variable {d v:ae} {es:Array c9}
theorem aDw (hv:s.heap.IsValuesView v d) (g:s.heap.get? d=some ob) (gd:ob.data=.dict es ep) (k:Q (.ref s.heap.objs.size) { s with heap:=s.heap.push { cls:=.type "dict_valueiterator",data:=.fields #[.ref d,.int 0 0,.int es.size 0,.int ep 0] } }):ag (ao P w) A (pyIter (.ref v)) Q E s:=by
 obtain ⟨ov,gv,cv,dv⟩:=id hv
 refine Vk hv.typeIs F.slot_dict_values_iter (Ri F.slot_dict_values_iter hv.typeIs F.entry_dict_values_iter ?_ (F.args_dict_values_iter_1 _))
 unfold ai.«dict_values.__iter__»
 refine Ra (Rb (Ra ?_))
 unfold ai.Dict_items.dictOf
 refine Ra (Rn gv dv (x:=.ref d) rfl (Rb (Ra ?_)))
 unfold ai.Dict_items.newIterator
 refine Ra (Ud g gd (Ra (Uu g gd ?_)))
 simp only [show ai.Dict_items.ownsTuple "dict_valueiterator" = false by decide,Jh,if_false]
 exact Rk (Rb ⟨_,rfl, "dict_valueiterator",_,⟨_,af.get?_push_size _ rfl,rfl⟩,F.slot_dict_valueiterator_next.lookup,by simpa [rawInt] using k⟩)
theorem aDx {Q:Option aa->ah->Prop} (st:s.heap.IsValIter it d i es.size ep) (g:s.heap.get? d=some ob) (gd:ob.data=.dict es ep) (lt:i < es.size)
  (k:∀ h',h'.IsValIter it d (i+1) es.size ep->af.SameBut it s.heap h'->Q (some es[i].val) { s with heap:=h' }):ag (ao P w) A (pyNext (.ref it)) Q E s:=by
 obtain ⟨oi,gi,ci,di⟩:=id st
 unfold pyNext
 refine Ra (Tg (Rg (name:=ax.ofString "__next__") st.typeIs F.slot_dict_valueiterator_next (Ri F.slot_dict_valueiterator_next st.typeIs F.entry_dict_valueiterator_next ?_ (F.args_dict_valueiterator_next_1 _))))
 refine Ra (Rb (Ra (Ra ?_)))
 first
  | refine Ra (Ua st.typeIs (Rb (Ra (Tj gi di ?_))))
  | refine Ra (Ut st.typeIs (Rb (Ra (Tj gi di ?_))))
 simp only [show ai.Dict_items.ownsTuple "dict_valueiterator" = false by decide,Jh,if_false]
 show ag _ _ (if (aa.ref d==aa.none)=true then _ else _) _ _ s
 rw [if_neg (λz:(aa.ref d==aa.none)=true=>Qm z)]
 refine Ra (Rb (Ra (Ud g gd ?_)))
 rw [if_neg (by simp)]
 refine Ra (Rb (Ra (Uu g gd ?_)))
 rw [if_neg (by simp)]
 refine Rb ?_
 simp only [show ¬ ((i:Int) < 0) from by omega,if_false,Jc,Array.getElem?_eq_getElem lt]
 refine Ra ?_
 first
  | refine Ra (Ua st.typeIs (Rb (Ra (Vc st.typeIs ?_))))
  | refine Ra (Ut st.typeIs (Rb (Ra (Vc st.typeIs ?_))))
 show ag _ _ (setField (.ref it) 1 (rawInt ((i:Int)+1)) >>= _) _ _ s
 refine Ra (Uy gi di (by simp) ?_)
 have ja:(s.heap.update it (bz.mapFields (·.setIfInBounds 1 (rawInt ((i:Int)+1))))).IsValIter it d (i+1) es.size ep :=
  ⟨_,af.get?_update_self _ gi (bz.isFreed_of_fields (bz.data_mapFields di _)),(bz.cls_mapFields ..).trans ci,by rw [bz.data_mapFields di]; simp [rawInt]⟩
 refine Ra (Rm (Ra (Vc (s:={ s with heap:=s.heap.update it (bz.mapFields (·.setIfInBounds 1 (rawInt ((i:Int)+1)))) }) ja.typeIs ?_)))
 refine Ra (Vc (s:={ s with heap:=s.heap.update it (bz.mapFields (·.setIfInBounds 1 (rawInt ((i:Int)+1)))) }) ja.typeIs ?_)
 show ag _ _ (pure es[i].val) _ _ _
 exact Rb (Rb ⟨_,rfl,Rb (k _ ja (af.SameBut.update ..))⟩)
theorem aE9 {Q:Option aa->ah->Prop} (hh:A.handled=none) (st:s.heap.IsValIter it d i es.size ep) (g:s.heap.get? d=some ob) (gd:ob.data=.dict es ep) (ge:es.size<=i)
  (k:∀ h',af.ExtBut it s.heap h'->Q none { s with heap:=h' }):ag (ao P w) A (pyNext (.ref it)) Q E s:=by
 obtain ⟨oi,gi,ci,di⟩:=id st
 unfold pyNext
 refine Ra (Tg (Rg (name:=ax.ofString "__next__") st.typeIs F.slot_dict_valueiterator_next (Ri F.slot_dict_valueiterator_next st.typeIs F.entry_dict_valueiterator_next ?_ (F.args_dict_valueiterator_next_1 _))))
 refine Ra (Rb (Ra (Ra ?_)))
 first
  | refine Ra (Ua st.typeIs (Rb (Ra (Tj gi di ?_))))
  | refine Ra (Ut st.typeIs (Rb (Ra (Tj gi di ?_))))
 simp only [show ai.Dict_items.ownsTuple "dict_valueiterator" = false by decide,Jh,if_false]
 show ag _ _ (if (aa.ref d==aa.none)=true then _ else _) _ _ s
 rw [if_neg (λz:(aa.ref d==aa.none)=true=>Qm z)]
 refine Ra (Rb (Ra (Ud g gd ?_)))
 rw [if_neg (by simp)]
 refine Ra (Rb (Ra (Uu g gd ?_)))
 rw [if_neg (by simp)]
 refine Rb ?_
 simp only [show ¬ ((i:Int) < 0) from by omega,if_false,Jc,Array.getElem?_eq_none ge]
 refine Ra ?_
 first
  | refine Ra (Ua st.typeIs (Rb ?_))
  | refine Ra (Ut st.typeIs (Rb ?_))
 show ag _ _ (setField (.ref it) 0 .none >>= _) _ _ s
 refine Ra (Uy gi di (by simp) ?_)
 show ag _ _ (newExc (.type "StopIteration") [] >>= _) _ _ _
 refine Ra ?_
 simp only [newExc,newTuple]
 refine Ra (Rk (Ra (m:=firstArgMember _ _) (Vf (a:=aa.none) (by first | rfl | (simp only [firstArgMember]; rfl)) (Rk ?_ (by size_fits)))) (by size_fits))
 simp only [raiseNew]
 refine Ra (Ih ?_)
 rw [show A.in1.handled=none from hh]
 refine Ra (Rb (Ml ?_))
 exact Ra (Tw (T := "StopIteration") (b:=true) ⟨_,af.get?_push_size _ rfl,rfl⟩ Uz (Rb (k _ (((af.SameBut.update ..).extBut.push _).push _))))
theorem aBx (hh:A.handled=none) (f':d≠it) (gd:ob.data=.dict es ep) :
  cz P w A it [it,d] [it] es.size (λi v=>∃ e,es[i]?=some e/\v=e.val) (λi h=>h.IsValIter it d i es.size ep/\h.get? d=some ob) where
 sub:=λb hb=>by simp at hb; simp [hb]
 frame:=λ_ _ _ st hk=>⟨st.1.at λo e=>hk it (by simp) o e,hk d (by simp) _ st.2⟩
 item:=λi s Q E hi st hQ=>aDx st.1 st.2 gd hi λh' n9 sb=>hQ _ h' s.toks ⟨_,Array.getElem?_eq_getElem hi,rfl⟩ ⟨n9,(sb.2 d f').trans st.2⟩ λb o hb e=>sb.extBut b o (λh=>hb (by simp [h])) e
 done:=λs Q E st hQ=>aE9 hh st.1 st.2 gd (Qh _) λh' eb=>hQ h' s.toks λb o hb e=>eb b o (λh=>hb (by simp [h])) e
 self:=λ_ _ _ _ st hQ=>wpAny_pyIter_valiter st.1 hQ
theorem aAr (d:ae) (hd:(d==bg)=false):MeetsIn P w (ai.«dict.values» ⟨[.ref d],[]⟩) (λ_ R s=>s.TypeIs (.ref d) "dict" /\ R (.ok (.ret (.ref s.heap.objs.size))) { s with heap:=s.heap.push { cls:=.type "dict_values",data:=.fields #[.ref d] } }) :=
 .of_wp λA R s ⟨ty,h⟩=>by
  refine Ra ?_
  unfold ai.Dict.noArgs
  refine Ra (Rah ty (Rb ?_))
  show ag _ _ (ai.Dict.showsAll d >>= _) _ _ s
  unfold ai.Dict.showsAll
  rw [if_neg (show ¬ (d==bg)=true by rw [hd]; decide)]
  exact Ra (Rb (Ra (Rk (Rb ⟨_,rfl,h⟩))))
end
def G! (te:TE):TE:=λσ H Q=>te σ H λx H1=>∃ (a:ae) (kvs:List (List Key×V)) (ns:List Int),x=.ref a/\H1 a=some (.dT kvs)/\kvs.map (·.2)=ns.map V.int/\(∀ n∈ns,0<=n/\n < 10000000000)/\ns.length<=10000000/\Q (.int (aL ns)) H1
theorem KT.vals {xs:List (List Key×ae×aa)} (r:KT H kvs xs):∀ {i:Nat} {p:List Key×V} {x:List Key×ae×aa},kvs[i]?=some p->xs[i]?=some x->bN p.2 x.2.2:=by
 induction r with
 | nil=>intro i p x h; simp at h
 | cons h1 _ ih =>
  intro i p x hp hx
  cases i with
  | zero =>
   simp only [Wh,Option.some.injEq] at hp hx
   subst hp hx
   exact h1.2.2
  | succ j =>
   simp only [Wi] at hp hx
   exact ih hp hx
theorem aDy (ms:List Int) (hh:∀ n∈ms,0<=n/\n < 10000000000):0<=aL ms/\aL ms<=ms.length*10000000000:=by
 induction ms with
 | nil=>exact ⟨Js _,Js _⟩
 | cons a l ih =>
  have h1:=hh a Qi
  have h2:=ih λn hn=>hh n (Qg _ hn)
  have e:aL (a::l)=a+aL l:=rfl
  rw [e,Ja,Yb]
  omega
section
variable {o:bq}
theorem aGw (hc:X.calm=true) (hg:Gl X "sum") (hm:X.mg "sum" = none) (hv:ay "sum" = some (.builtin "sum")) (ho:PE X o to) (pq:autoParam (attributeBase o "values" X.env (eval o X.env)=eval o X.env) L2.gj) (pf:autoParam ((apos.endLine==ir.line)=true) L2.gj)
  (hs:autoParam (au [.Call (.Attribute o "values" apos) [] [] ir] X.env = [(false,eval (.Call (.Attribute o "values" apos) [] [] ir) X.env)]) L2.gj):PE X (.Call (.Name "sum" p) [.Call (.Attribute o "values" apos) [] [] ir] [] pos) (G! to):=by
 intro a_ s σ H Q I h
 refine Tf (iQ I hg hm hv ?_ (by decide) (by decide))
 refine PyProof.Rows.callWith_builtin1 ?_ hs rfl
 rw [hs]
 show ag _ _ (spliced ((false,eval (.Call (.Attribute o "values" apos) [] [] ir) X.env)::cy pos [])) _ _ s
 refine Calls.spliced_cons ?_
 refine wpAny_Call_method0_late pq pf (fk (ho a_ s σ H _ I h) λv s1 fe=>?_)
 obtain ⟨x,H1,I1,r1,a,kvs,ns,ex,ha,hk,hb,hl,q⟩:=fe
 subst ex
 cases r1
 obtain ⟨h1,h2⟩:=QL (T := "dict") I1 (show bN (.ref a) (.ref a) from rfl) (.inr (.inr (.inl ⟨rfl,.inr ⟨_,ha⟩⟩)))
 obtain ⟨hz,hs,xs,kt,ob,es,ep,g,gx,gd,q4,q5⟩:bJ X.prog X.w H1 s1.heap a (.dT kvs):=I1.fj a _ ha
 refine ⟨"dict", "dict.values",Mh,Mb,PySem.F.type_dict_values,h1,h2,Calls.callWith_builtin rfl (PySem.evalArgs_none ?_)⟩
 have ty:s1.TypeIs (.ref a) "dict" := ⟨ob,g,gx.1⟩
 refine call_meetsIn Mb ty PySem.F.entry_dict_values (PySem.F.args_dict_values_1 _) (aAr a hs) ⟨ty,?_⟩
 refine Calls.spliced_nil ?_
 have Hd:ns.length=kvs.length:=by
  have z:=congrArg Ye hk
  rw [Qa,Qa] at z
  exact z.symm
 have t7:es.size=ns.length:=(Uc q4).trans ((KT.length kt).symm.trans Hd.symm)
 have ff:a < s1.heap.objs.size:=af.lt_size g
 have o8:∀ (i:Nat) (v:Int),ns[i]?=some v->(ns[i]?).getD 0=v:=λi v e=>by rw [e]; rfl
 have gp:(s1.heap.push { cls:=.type "dict_values",data:=.fields #[.ref a] }).get? a=some ob:=af.get?_push_of_some _ g
 refine call_sum_walk (aDw (v:=s1.heap.objs.size) ⟨_,af.get?_push_size _ rfl,rfl,rfl⟩ gp gd ?_)
 have yx:(s1.heap.push { cls:=.type "dict_values",data:=.fields #[.ref a] }).objs.size=s1.heap.objs.size+1:=af.size_push ..
 refine ⟨(s1.heap.push { cls:=.type "dict_values",data:=.fields #[.ref a] }).objs.size,_,_,_,_,_,λi=>(ns[i]?).getD 0,rfl,aBx (A:=X.A.in1) (d:=a) (I1.ok.hd hc) (Qx (by rw [yx]; exact Ju ff)) gd,⟨⟨_,af.get?_push_size _ rfl,rfl,rfl⟩,af.get?_push_of_some _ gp⟩,?_,?_,?_,λh' tk t' Hj=>?_⟩
 ·intro b ju
  show b < (af.push _ _).objs.size
  rw [af.size_push,yx]
  rcases Ql.mp ju with e | e
  ·rw [e,yx]; exact Xy _
  ·have e':b=a:=by simpa using e
   rw [e']; exact Ju (Ju ff)
 ·intro i v hP
  obtain ⟨e,he,rfl⟩:=hP
  have hi:i < es.size:=by
   rcases Ys i es.size with h | h
   ·exact h
   ·rw [Array.getElem?_eq_none h] at he; cases he
  have Ac:kvs[i]?=some (kvs[i]'(by omega)):=Qc (by omega)
  have Fl:xs[i]?=some (xs[i]'(by have:=Uc q4; omega)):=Qc (by have:=Uc q4; omega)
  have rv:=KT.vals kt Ac Fl
  have z:=entry_at q4 i
  rw [Fl,he] at z
  have ev:e.val=(xs[i]'(by have:=Uc q4; omega)).2.2:=by rw [Option.some.inj z]; rfl
  have kn:(kvs[i]'(by omega)).2=.int (ns[i]'(by omega)):=by
   have y:(kvs.map (·.2))[i]?=(ns.map V.int)[i]?:=by rw [hk]
   rw [Qd,Qd,Ac,Qc (show i < ns.length by omega)] at y
   exact Option.some.inj y
  rw [kn] at rv
  obtain ⟨t,et⟩:=rv
  exact ⟨t,by rw [ev,et]; show aa.int _ t=aa.int ((ns[i]?).getD 0) t; rw [Qc (show i < ns.length by omega)]; rfl⟩
 ·intro j hj
  have Dm:j < ns.length:=by omega
  have e:ns[j]?=some ns[j]:=Qc Dm
  have h1:=hb _ (Jr Dm)
  have h2:=aDy (ns.take (j+1)) λn hn=>hb n (Xl hn)
  rw [hG ns _ o8 (j+1) (by omega)]
  have h3:(ns.take (j+1)).length<=10000000:=by rw [Qq]; omega
  unfold InLong
  have e5:(λi:Nat=>(ns[i]?).getD 0) j=ns[j]:=by show (ns[j]?).getD 0=_; rw [e]; rfl
  rw [e5]
  have h4:((ns.take (j+1)).length:Int)*10000000000<=10000000*10000000000:=by omega
  omega
 ·have e:preSum (λi=>(ns[i]?).getD 0) es.size=aL ns:=by
   rw [t7,hG ns _ o8 ns.length (Qh _),Jj]
  rw [e]
  refine ⟨.int _,H1,I1.kept (h':=h') λb o e=>Hj b o ?_ (af.get?_push_of_some _ (af.get?_push_of_some _ e)),⟨_,rfl⟩,q⟩
  intro z
  have z':b=s1.heap.objs.size+1:=by rw [<- yx]; simpa using z
  have y:=af.lt_size e
  rw [z'] at y
  exact Jo _ (Yi y (Xy _))
end
structure yn (ks:List (Int×dc)) (ns:List Int):Prop where
 nd:(ks.map (·.1)).Nodup
 mem:∀ k,k∈ks.map (·.1)↔k∈ns
theorem mB:∀ {l m:List Int},l.Nodup->(∀ x∈l,x∈m)->l.length<=m.length
 | [],m,_,_=>Jl _
 | x::l,m,h,k=>by
  obtain ⟨h1,h2⟩:=Jv.mp h
  have hx:=k x (Qi ..)
  have hl:=mB (l:=l) (m:=m.erase x) h2 λy hy=>(List.mem_erase_of_ne (a:=y) (b:=x) (λe=>h1 (by rw [<- e]; exact hy))).mpr (k y (Qg _ hy))
  have he:=Wd hx
  have hp:0 < m.length:=List.length_pos_of_mem hx
  rw [Ja]
  omega
theorem yn.Cq (h:yn ks ns) (hU:U.length<=3) (k:∀ n∈ns,n∈U):ks.length<=3:=by
 have:=mB h.nd λx hx=>k x ((h.mem x).mp hx)
 rw [Qa] at this
 omega
theorem yn.old {k:Int} (h:yn ks ns) (q:∃ p∈ks,p.1=k):yn ks (ns++[k]):=⟨h.nd,λx=>by
 rw [h.mem,Jk,Qr]
 refine ⟨.inl,λz=>?_⟩
 rcases z with z | z
 ·exact z
 ·obtain ⟨p,hp,e⟩:=q
  rw [z,<- e]
  exact (h.mem _).mp (Qv.mpr ⟨p,hp,rfl⟩)⟩
theorem yn.new {k:Int} {t:dc} (h:yn ks ns) (q:∀ p∈ks,p.1≠k):yn ((k,t)::ks) (ns++[k]):=⟨by
 rw [Qw]
 refine Jv.mpr ⟨λm=>?_,h.nd⟩
 obtain ⟨p,hp,e⟩:=Qv.mp m
 exact q p hp e,λx=>by
 rw [Qw,Ql,h.mem,Jk,Qr]
 exact Or.comm⟩
theorem aFa (h:Q (.ref s.heap.objs.size) { s with heap:=s.heap.push { cls:=.type "set",dict:=none,data:=.set #[] 0 (.fresh 0 0 (Led w)) } }):ag (ao prog w) A (newSet (.type "set")) Q E s:=by
 unfold newSet setsByText
 refine Ra (Ra (Uo (Rb ?_)))
 dsimp only
 simp only [newObj]
 exact Ra (Ral (Rb h))
theorem aAs {k:Int} {t:dc} (hS:SG L s.heap a ks) (hlen:ks.length<=3) (hQ:∀ h',af.SameBut a s.heap h'->((∃ p∈ks,p.1=k)->SG L h' a ks)->((∀ p∈ks,p.1≠k)->SG L h' a ((k,t)::ks))->Q .none { s with heap:=h',toks:=s.toks+1 }) :
  ag (ao prog w) A (call (.builtin "set.add") [.ref a,.int k t]) Q E s:=by
 obtain ⟨o,ep,es,tb,ho,hex,_⟩:=id hS
 have ty:s.TypeIs (.ref a) "set" := ⟨o,ho,hex.1⟩
 refine Ri F.slot_set_add ty F.entry_set_add ?_ (F.args_set_add_2 _ _)
 unfold ai.«set.add» ai.Frozenset.oneOther
 simp only [Yl,bind_assoc]
 unfold ai.Frozenset.addrOf
 refine Ra (Rb ?_)
 try dsimp only
 refine Ra (Rb ?_)
 try dsimp only
 refine Ra (N? hS (by omega) λh' b sb x1 x2=>?_)
 show ag _ _ (ret aa.none) _ _ _
 exact Rb ⟨_,rfl,hQ h' sb x1 x2⟩
theorem xU (elt target iter:bq) (ifs:List bq) (scope:c7) (pos:Pos) (it:aa) (D:ae) (env:c8) :
  compTurn (.SetComp elt [⟨target,iter,ifs,0⟩] scope pos) 0 it (.ref D) env=(do
   standAt iter.pos
   match<-pyNext it with
   | none=>pure (.done .next)
   | some v =>
    letOwnedTupleGo target it v
    assign target env v
    let mut ok:=true
    for c in ifs do
     if ok then ok<-isTrue c env (eval c env)
    if ok then
     (do
      let u<-eval elt env
      standAt elt.pos
      let _<-call (.builtin "set.add") [.ref D,u])
    again (.compLoop (.SetComp elt [⟨target,iter,ifs,0⟩] scope pos) 0 it (.ref D) env)):=by rfl
theorem vG {elt target iter ifs kU scope pos it acc env} (h0:codeAny (ao prog w) A (.compLoop (.SetComp elt (⟨target,iter,ifs,0⟩::kU) scope pos) 0 it acc env) R s) (h:ag (ao prog w) A (pyIter it) (λxr s'=>codeAny (ao prog w) A (.compLoop (.SetComp elt (⟨target,iter,ifs,0⟩::kU) scope pos) 0 xr acc env) R s') (notedBy (ao prog w) A env λx s'=>R (.error x) s') s) :
  codeAny (ao prog w) A (.compStart (.SetComp elt (⟨target,iter,ifs,0⟩::kU) scope pos) 0 it acc env) R s:=by
 refine Vs ?_
 show ag _ A ((compStart (.SetComp elt (⟨target,iter,ifs,0⟩::kU) scope pos) 0 it acc env).onRaise (λx=>do noteFrame x env; standAt theWindowsPlace)) _ _ s
 refine wpAny_notedAt ?_
 unfold compStart
 show ag _ A (ask >>= _) _ _ s
 refine Ra (Uo (wpAny_ite ?_))
 split
 ·first
   | exact Ra (Rb (Rb (And.intro rfl h0)))
   | exact Rb (And.intro rfl h0)
 ·first
   | exact Ra (Tu (Ra (Td (Ra (Rp h (λxr s' h'=>Rb (And.intro rfl h')) λ_ _ x=>x)))))
   | (refine Ra (Tu ?_); show ag _ _ (standAt iter.pos >>= _) _ _ s; exact Ra (Td (Ra (Rp h (λxr s' h'=>Rb (And.intro rfl h')) λ_ _ x=>x))))
def F1 (U:List Int) (te:TE) (ys:List Int) (σ:St) (H:Hp) (R:List Int->St->Hp->Prop):Prop:=te σ H λy H4=>∃ k,y=.int k/\k∈U/\R (ys++[k]) σ H4
def L? (w:bf) (own:Nat) (fr:List Nat) (wi:TI) (g:TG) (tt:TT) (te:TE) (U:List Int):TE:=λσ H Q=>wi σ H λJ H1=>j4 J [] (h_ own fr σ) H1 (λys _ H=>∀ p us,H p=none->us.Nodup->(∀ k,k∈us↔k∈ys)->us.length<=3->Q (.ref p) (upd H p (Br w p us))) g tt (F1 U te)
def Ka (w:bf) (U:List Int) (D:ae) (ys:List Int) (h:af):Prop:=(∀ n∈ys,n∈U)/\∃ b_,yn b_ ys/\SG (Led w) h D b_
section
variable {wi:TI}
noncomputable def O8 (elt:bq) (env:c8) (D:ae):Sem Unit:=do
 let u<-eval elt env
 standAt elt.pos
 let _<-call (.builtin "set.add") [.ref D,u]
theorem F?:gy P w A (.SetComp elt [⟨tg,iter,ifs,0⟩] scope pos) 0 tg iter ifs (O8 elt) where
 AK:=λ_ _ _=>⟨rfl,rfl⟩
 turn:=λit D env=>xU elt tg iter ifs scope pos it D env
 start:=vG
theorem JI:i8 P w A (newSet (.type "set")) [] (Ka w U) where
 new:=⟨{ cls:=.type "set",dict:=none,data:=.set #[] 0 (.fresh 0 0 (Led w)) },λv z=>(by cases z),rfl,λh D e=>⟨λ_ h=>(Qp h).elim,[],⟨Zx,λk=>by simp⟩,_,0,#[],_,e,⟨rfl,rfl,rfl⟩,rfl,List.Perm.refl _,⟨rfl,Jl _,rfl,rfl,rfl,rfl,List.Pairwise.nil⟩⟩,λh=>aFa h⟩
 keep:=λ⟨hl,b_,v,d⟩ f=>⟨hl,b_,v,d.keep f⟩
 obj:=λ⟨_,b_,_,o,ep,es,tb,h1,h2,h3,_⟩=>⟨o,h1,λv z=>by rw [h3] at z; cases z⟩
theorem F! (hU:U.length<=3) (he:PE Y elt te):jK Y (O8 elt) (Ka Y.w U) (F1 U te):=by
 intro ps s σ H D o ys R dn I pl h
 refine Ra (fk (he _ s σ H _ I h) λy s1 hx=>Ra (Td (Ra ?_)))
 obtain ⟨yv,H1,I1,r1,k,ek,W5,q⟩:=hx
 subst ek
 obtain ⟨tk,rfl⟩:∃ t,y=aa.int k t:=r1
 obtain ⟨z5,b_,v,d⟩:=JI.ib I I1 pl
 refine aAs d (v.Cq hU z5) λDG vq x1 x2=>Rb ?_
 have ok:Ka Y.w U D (ys++[k]) DG:=by
  refine ⟨λn hn=>?_,?_⟩
  ·rcases Jk.mp hn with h | h
   ·exact z5 n h
   ·rw [Qr.mp h]; exact W5
  by_cases Fi:∃ p∈b_,p.1=k
  ·exact ⟨b_,v.old Fi,x1 Fi⟩
  ·exact ⟨(k,tk)::b_,v.new λp hp e=>Fi ⟨p,hp,e⟩,x2 λp hp e=>Fi ⟨p,hp,e⟩⟩
 obtain ⟨o',I'⟩:=dn.put JI I1 vq ok
 exact ⟨σ,H1,_,o',I',ok,q⟩
theorem aFb (hU:U.length<=3) (S:fv X scope z own fr fm) (hc:X.calm=true) (hi:PI X tg iter wi) (hg:∀ C s0 H0 fp,PG (bH X scope z (own++fm) C s0 H0 fp) tg g) (ht:∀ C s0 H0 fp,PF (bH X scope z (own++fm) C s0 H0 fp) ifs tt)
  (he:∀ C s0 H0 fp,PE (bH X scope z (own++fm) C s0 H0 fp) elt te) (hs:autoParam (∀ x,foldedSetIterable iter X.env x=pure x) L2.u4) :
  PE X (.SetComp elt [⟨tg,iter,ifs,0⟩] scope pos) (L? X.w own.length fr wi g tt te U) :=
 nZ S rfl F? JI hc (arm_eval_SetComp ..) hi hg ht (λC s0 H0 fp=>F! hU (he C s0 H0 fp)) hs λ{D a H h Q} ⟨z5,b_,v,d⟩ hn _ q=>⟨Br X.w D (b_.map (·.1)),by
  obtain ⟨o,ep,es,t,e1,r1⟩:=id d
  exact ⟨⟨b_,d,⟨v.1,λk=>Iff.rfl,by rw [Qa]; exact Qh _⟩⟩,⟨o,e1⟩,λh1 h2 ⟨ks,z,y⟩ k=>⟨ks,z.keep k,y⟩⟩,q D _ hn v.1 v.2 (by rw [Qa]; exact v.Cq hU z5)⟩
end
def RB (w:bf) (own:Nat) (fr:List Nat) (td:TE) (g:TG) (tt:TT) (te:TE):TE:=λσ H Q=>∃ U:List Int,U.length<=3/\td σ H λx H1=>∃ a kvs,x=.ref a/\H1 a=some (.dT kvs)/\∀ o:bz,j4 (yp a o kvs) [] (h_ own fr σ) (upd H1 a (.gh o (.dT kvs))) (λys _ H=>∀ p us,H p=none->us.Nodup->(∀ k,k∈us↔k∈ys)->us.length<=3->Q (.ref p) (upd (upd H p (Br w p us)) a (.dT kvs))) g tt (F1 U te)
theorem aDz (S:fv X scope z own fr fm) (hc:X.calm=true) (hi:PE X d td) (hg:∀ C s0 H0 fp,PG (bH X scope z (own++fm) C s0 H0 fp) tg g) (ht:∀ C s0 H0 fp,PF (bH X scope z (own++fm) C s0 H0 fp) ifs tt)
  (he:∀ C s0 H0 fp,PE (bH X scope z (own++fm) C s0 H0 fp) elt te) (hs:autoParam (∀ x,foldedSetIterable d X.env x=pure x) L2.u4) :
  PE X (.SetComp elt [⟨tg,d,ifs,0⟩] scope pos) (RB X.w own.length fr td g tt te):=by
 intro a_ s σ H Q I ⟨U,hU,h⟩
 refine Sh (aFb hU S hc (sY (PH hi)) hg ht he hs) a_ s σ H Q I ⟨_,h,λx H1 q=>?_⟩
 obtain ⟨a,kvs,ex,hx,k⟩:=q
 refine ⟨a,kvs,ex,hx,λo nf=>?_⟩
 obtain ⟨W,w0,wk⟩:=k o
 refine ⟨W,w0,λi m ys e_ H' w=>?_⟩
 rcases wk i m ys e_ H' w with ⟨st,q⟩ | z
 ·refine .inl ⟨st,λp us hp h1 h2 h3=>⟨a,o,kvs,?_,nf,q p us hp h1 h2 h3⟩⟩
  rw [aG (λz=>by rw [<- z,st.1] at hp; cases hp)]
  exact st.1
 ·exact .inr z
theorem aAt {own:Nat} {σ:St} {Q:Hp->List Int->Prop} (SH:St->Prop) (Pv:Nat->List Int->Hp->Prop) (jc:SH (h_ own fr σ)) (h0:Pv 0 [] H) (hl:∀ i ys H,Pv i ys H->H a=some (.gh o (.dT kvs))) (hs:∀ i ys σ p b H,kvs[i]?=some p->H b=some (.tup (p.1.map kV))->SH σ->Pv i ys H->g (.ref b) σ H λfg H2=>tt fg H2 λc H3=>if c=true then te fg H3 λy H4=>∃ k,y=.int k/\k∈U/\SH fg/\Pv (i+1) (ys++[k]) H4 else SH fg/\Pv (i+1) ys H3) (hd:∀ ys H,Pv kvs.length ys H->Q H ys) :
  j4 (yp a o kvs) [] (h_ own fr σ) H (λys _ H=>Q H ys) g tt (F1 U te) :=
 xG kvs.length SH Pv jc h0 (λys H p=>⟨hl _ _ _ p,rfl⟩) (λi ys H hi p=>⟨hl _ _ _ p,hi⟩) (λi ys σ x H H' hi sh p y=>by
  obtain ⟨rfl,v,b,hv,rfl,hb⟩:=y
  exact hs i ys σ v b _ hv hb sh p) hd
def E?:V->List V->Hp->VK->Prop:=λx vs H Q=>∃ (a b:ae) (kvs:List (List Key×V)) (k:List Key) (df:V),x=.ref a/\vs = [.ref b,df]/\Rd H a (.dT kvs)/\H b=some (.tup (k.map kV))/\Q ((dP kvs k).getD df) H
theorem aGx (hu:X.A.units+1 < cn):Ar X "dict.get" E?:=by
 intro a_ s σ H x vs v us Q I rx rv h
 obtain ⟨a,b,kvs,k,df,rfl,rfl,e,eb,q⟩:=h
 cases rx
 obtain ⟨u,ud,rfl,ru,rd⟩:=nX rv
 cases (show u=aa.ref b from ru)
 obtain ⟨z,hd,xs,rel,dd⟩:=vX I.fj e
 refine call_meetsIn Mr dd.typeIs PySem.F.entry_dict_get (PySem.F.args_dict_get_3 _ _ _) (meetsH_dict_get_default (tupleKind (cA X.prog X.w)) a b hd ud) ⟨Uv hu,k,xs,kJ I.fj eb,dd,?_⟩
 have D':=rel.val k
 cases hv:dP kvs k with
 | some y =>
  rw [hv] at q
  obtain ⟨w',hw,jb⟩:=nR.some_of (v:=y) (o:=(atKey xs k).map (·.2)) (by rw [<- hv]; exact D')
  exact ⟨y,H,I.tok _,by rw [hw]; exact jb,q⟩
 | none =>
  rw [hv] at q
  have hn:(atKey xs k).map (·.2)=none:=nR.none_of (by rw [<- hv]; exact D')
  exact ⟨df,H,I.tok _,by rw [hn]; exact rd,q⟩
def JL (K:Rc):R2:=λx y H Q=>∃ a b xs ys,x=.ref a/\y=.ref b/\d_ K H a xs/\d_ K H b ys/\xs.length+ys.length<=ak/\(xs = []->Q (.ref b) H)/\(xs≠[]->ys = []->Q (.ref a) H)/\(xs≠[]->ys≠[]->∀ p,H p=none->Q (.ref p) (upd H p (.tup (xs++ys))))
theorem RA (hK:X.K=K):i7 X (binaryOp .Add) (JL K):=by
 subst hK
 intro a_ s σ H x y v u Q I rx ry h
 obtain ⟨a,b,xs,ys,rfl,rfl,ha,hb,hz,q1,q2,q3⟩:=h
 by_cases hx:xs = []
 ·have q:=q1 hx
  subst hx
  cases rx
  cases ry
  obtain ⟨b_,r1,⟨⟨cls,dd,data,sl⟩,ho,hc,n,hd⟩,_⟩:=I.tuple ha
  obtain ⟨mn,r2,⟨⟨BQ,xi,data2,wu⟩,t9,qi,n2,hd2⟩,_⟩:=I.tuple hb
  simp only at hc hd qi hd2
  subst hc hd qi hd2
  cases r1
  exact Vo ⟨_,ho,rfl⟩ ⟨_,t9,rfl⟩ Vm Ie Up Uk (Ug _ _) (mQ a b _ _ n n2 dd xi sl wu rfl) ⟨ho,t9,⟨.ref b,H,I,rfl,q⟩⟩
 ·exact R9 a_ s σ H _ _ v u Q I rx ry ⟨a,b,xs,ys,rfl,rfl,ha,hb,hx,hz,λe=>q2 hx e,λe p hp=>q3 hx e p hp⟩
theorem aGy {Q:VK} (ha:d_ K H a xs) (hb:H b=some (.tup [y])) (hz:xs.length<=1000) (k:∀ p H',aD H H'->H' p=some (.tup (xs++[y]))->Q (.ref p) H'):JL K (.ref a) (.ref b) H Q :=
 ⟨a,b,xs,[y],rfl,rfl,ha,d_.of hb,by rw [Rf]; show _+1<=_; omega,λe=>k b H (aD.refl H) (by rw [e]; exact hb),λ_ e=>absurd e (by simp),λ_ _ p hp=>k p _ (aD.new hp) aB⟩
theorem aFd {Q:VK} (ha:H a=some (.tup xs)) (hx:xs≠[]) (hb:d_ K H b ys) (hz:xs.length+ys.length<=1000) (k:∀ p H',aD H H'->H' p=some (.tup (xs++ys))->Q (.ref p) H'):JL K (.ref a) (.ref b) H Q :=
 ⟨a,b,xs,ys,rfl,rfl,d_.of ha,hb,by rw [Rf]; omega,λe=>absurd e hx,λ_ e=>k a H (aD.refl H) (by rw [e,Xq]; exact ha),λ_ _ p hp=>k p _ (aD.new hp) aB⟩
def E!:R2:=λx y H Q=>∃ a,∃ k:Nat,∃ xs,x=.ref a/\y=.int k/\H a=some (.tup xs)/\xs≠[]/\1<=k/\k<=1000/\xs.length<=1000/\∀ p H',aD H H'->H' p=some (.tup (List.replicate k xs).flatten)->Q (.ref p) H'
theorem aGz:i7 X (binaryOp .Mult) E!:=by
 intro a_ s σ H x y v u Q I rx ry h
 obtain ⟨a,k,xs,rfl,rfl,ha,hx,h1,h2,hz,q⟩:=h
 cases rx
 obtain ⟨t,rfl⟩:=ry
 obtain ⟨b_,r,⟨⟨cls,dd,data,sl⟩,ho,hc,n,hd⟩,wy⟩:=I.tuple (d_.of ha)
 simp only at hc hd
 subst hc hd
 have hl:=r.length
 refine Rab (T := "tuple") (U := "int") (by decide) ⟨_,ho,rfl⟩ (λs'=>Iq s' k t) pS PySem.F.fills_int_mul Mt xH PySem.F.slot_int_index.lookup
  (Ui Mt (Iq s k t) PySem.F.entry_int_rmul (PySem.F.args_int_rmul_2 _ _) (sR k t a b_.toArray n dd sl) ⟨ho,rfl,⟨_,ho,rfl⟩,?_⟩)
 by_cases W6:k=1
 ·subst W6
  refine Ui PySem.F.slot_tuple_mul ⟨_,ho,rfl⟩ Mi (Mc _ _) (vF a b_.toArray n dd sl t) ⟨ho,?_⟩
  exact ⟨.ref a,H,I,rfl,q a H (aD.refl H) (by simpa using ha)⟩
 ·have f':b_.toArray.isEmpty=false:=by
   cases b_ with
   | nil=>cases r; exact absurd rfl hx
   | cons _ _=>rfl
  refine Ui PySem.F.slot_tuple_mul ⟨_,ho,rfl⟩ Mi (Mc _ _) (sQ a b_.toArray n dd sl k t (by omega) (by omega) f' (by rw [Qk]; omega)) ⟨ho,?_⟩
  have BK:List.foldl (λx1 x2=>x1++x2) #[] (List.replicate ((k:Int)).toNat b_.toArray)=(List.replicate k b_).flatten.toArray:=by
   have z:=lY b_ k []
   rw [Zr] at z
   rw [Jc]
   exact z
  rw [BK]
  have hlen:(List.replicate k xs).flatten.length<=ak:=by
   rw [xC,Rf]
   have:k*xs.length<=1000*1000:=Nat.mul_le_mul h2 hz
   omega
  refine ⟨.ref _,_,I.laid (t':=s.toks) (o:=.tup (List.replicate k xs).flatten) (λb ob q=>af.get?_push_of_some _ q) (Qh _) ?_,rfl,q _ _ (aD.new (I.fj.fresh (Qh _))) aB⟩
  exact ⟨hlen,(List.replicate k b_).flatten,0,r.rep k,af.get?_push_size _ rfl⟩
def g! (C:ae):TE:=λ_ H Q=>∀ a,H a=none->Q (.ref a) (upd H a (i_ C a))
theorem aGA {σ:St} {Q:VK} (HG:∀ h:af,X.K.In h->my h C bm) (I:Inv X a_ σ H s) (hu:us.length<=ak) (hex:X.ex = []) (h:∀ a,H a=none->Q (.ref a) (upd H a (i_ C a))):ag (ao X.prog X.w) X.A (call (.ref C) us) (EP X a_ σ Q) X.xe s:=by
 obtain ⟨N,nm,q,bs,j5,sn,sub,ab,col,dd,k0,k1,k2,k3,k5,mN,hC,hN,hq,T⟩:=HG _ I.rh
 obtain ⟨hp,g,d,tk,os⟩:=s
 refine wpAny_call_exc_subU PySem.F.excBase_ValueError (by decide +kernel) PySem.F.excBase_ValueError T.tail hC hN (hq _ (.head _)) (λh' e m=>?_) hu
 have I1:=I.kept (t':=tk) m.keeps
 have old:∀ b o,hp.get? b=some o->b≠e:=λb o z1 z=>by rw [z,m.new] at z1; cases z1
 have hH:H e=none:=by
  cases z:H e with
  | none=>rfl
  | some v =>
   obtain ⟨o,ho⟩:=(I.fj e v z).zl
   exact absurd rfl (old _ _ ho)
 obtain ⟨T,ho,_⟩:=m.there
 refine ⟨.ref e,_,I1.BS (D:=e) (u:=i_ C e) ⟨⟨_,ho,rfl⟩,⟨_,ho⟩,λh1 h2 ⟨o1,e1,c1⟩ k=>⟨o1,k o1 e1,c1⟩⟩ hH ?_ ?_ (λy c e=>?_) λp hp=>?_,rfl,h e hH⟩
 ·obtain ⟨m,⟨oL,_,_,ni,_⟩,_⟩:=I.loc
  exact Ne.symm (old _ _ ni)
 ·cases z:X.jm.heap.get? e with
  | none=>rfl
  | some o' =>
   obtain ⟨o2,e⟩:=I.base.there _ o' z (by rw [hex]; simp)
   exact absurd rfl (old _ _ e)
 ·obtain ⟨v,oc,rj,_⟩:=I.cell y c e
  exact old _ _ rj
 ·exact old _ _ (I.pin p hp).1
theorem iH {txt:ax} {k:Nat} (HG:∀ h:af,X.K.In h->my h C bm) (hk:Ro X.K (.ref C)=true) (hg:Gl X x) (hm:X.mg x=some (.ref C)) (hex:X.ex = []) (uh:autoParam ((x==("__debug__" : ax))=false) L2.ka) :
  PE X (.Call (.Name x p) [.Constant (.str txt) k p2] [] pos) (g! C):=by
 intro a_ s σ H Q I h
 refine Tf (nS I hg hm ?_ uh)
 have ha:PA X [.Constant (.str txt) k p2] (sI (tC (.str txt)) zF):=aA sD aC
 refine My (h₀:=X.base) I.ok.mod.B9 hk (fk (ha pos a_ s σ H (λxs H1=>xs.length=1/\∀ a,H1 a=none->Q (.ref a) (upd H1 a (i_ C a))) I ⟨rfl,h⟩) λus s1 ⟨vs,H1,I1,r,e,q⟩=>⟨I1.rh,aGA HG I1 ?_ hex q⟩)
 have hl:=r.length
 show us.length<=_
 rw [Rf]; omega
structure Fn (K:Rc) (mg:ax->Option aa) (x:ax) (st:bt) (ps:List ax) (f:ae) (fd:bo):Prop where
 fn:qy K x x st f fd
 E2:mg x=some (.ref f)
 kp:Ro K (.ref f)=true
 bd:sJ K fd ps []
theorem aX {k:Nat} {t:TA} (G:Fn X.K X.mg x st ps f fd) (ok:c_ X.prog X.w X.K X.mg X.base fc k f fd ps sp) (hr:ee k X.A) (hg:Gl X x) (ha:PA X (e::es) t) (uh:autoParam ((x==("__debug__" : ax))=false) L2.ka) (he:autoParam (au (e::es) X.env=(false,eval e X.env)::au es X.env) L2.gj) (qf:autoParam ((cy pos (au es X.env)).any (·.1)=false) L2.gj) :
  PE X (.Call (.Name x p) (e::es) [] pos) (JP sp [] E0 t):=aF9 ok hr hg G.E2 G.kp G.bd .nil PR ha uh he qf
structure Bl (mg:ax->Option aa):Prop where
 isinstance:mg "isinstance" = none
 int:mg "int" = none
 bool:mg "bool" = none
 tuple:mg "tuple" = none
 list:mg "list" = none
 len:mg "len" = none
 all:mg "all" = none
 zip:mg "zip" = none
 range:mg "range" = none
 sorted:mg "sorted" = none
 set:mg "set" = none
 sum:mg "sum" = none
 repr:mg "repr" = none
 enumerate:mg "enumerate" = none
 min:mg "min" = none
 any:mg "any" = none
 abs:mg "abs" = none
 ve:mg "ValueError" = none
 m_:∃ t,mg "MOST_HANDS" = some (.int 6 t)
 Es:∃ t,mg "MOST_WORKS" = some (.int 12 t)
 mr:∃ t,mg "MOST_ROOM" = some (.int 12 t)
theorem jH:ay "isinstance" = some (.builtin "isinstance"):=by decide +kernel
theorem D?:ay "int" = some (.type "int"):=by decide +kernel
theorem aH1:ay "bool" = some (.type "bool"):=by decide +kernel
theorem cM:ay "tuple" = some (.type "tuple"):=by decide +kernel
theorem P_:ay "list" = some (.type "list"):=by decide +kernel
theorem gE:ay "len" = some (.builtin "len"):=by decide +kernel
theorem mV:ay "all" = some (.builtin "all"):=by decide +kernel
theorem aFf:ay "sorted" = some (.builtin "sorted"):=by decide +kernel
theorem D!:ay "set" = some (.type "set"):=by decide +kernel
theorem JK:ay "sum" = some (.builtin "sum"):=by decide +kernel
end L2
namespace Ab
open PySem L2
noncomputable def top (i:Nat):bt:=PySem.Challenge.pw_ablehands_k19_handed_by_names.main.body.getD i (.Pass ⟨0,0,0,0⟩)
noncomputable abbrev nJ:bt:=top 16
noncomputable abbrev sZ:bt:=top 17
noncomputable abbrev tD:bt:=top 18
noncomputable abbrev tE:bt:=top 19
noncomputable abbrev xV:bt:=top 20
noncomputable abbrev JX:bt:=top 21
noncomputable abbrev JW:bt:=top 22
noncomputable abbrev oI:bt:=top 24
noncomputable abbrev iA:bt:=top 26
noncomputable abbrev lG:bt:=top 27
noncomputable abbrev tF:bt:=top 28
noncomputable abbrev pX:bt:=top 31
noncomputable abbrev pY:bt:=top 32
noncomputable abbrev Bs:bt:=top 33
noncomputable abbrev lH:bt:=top 34
noncomputable abbrev pZ:bt:=top 35
noncomputable abbrev FT:bt:=top 37
noncomputable abbrev lI:bt:=top 39
noncomputable abbrev J7:bt:=top 40
noncomputable abbrev iT:bt:=top 41
noncomputable abbrev FN:bt:=top 42
noncomputable abbrev tG:bt:=top 43
noncomputable abbrev wD:bt:=top 45
noncomputable abbrev Al:bt:=top 46
noncomputable abbrev tH:bt:=top 47
noncomputable abbrev DV:bt:=top 48
noncomputable abbrev oJ:bt:=top 49
noncomputable abbrev oM:bt:=top 51
noncomputable abbrev Cy:bt:=top 52
noncomputable abbrev gL:bt:=top 53
noncomputable abbrev iU:bt:=top 54
noncomputable abbrev rS:bt:=top 56
noncomputable abbrev tI:bt:=top 57
noncomputable abbrev xW:bt:=top 58
noncomputable abbrev iV:bt:=top 59
noncomputable abbrev iB:bt:=top 60
noncomputable abbrev oN:bt:=top 61
noncomputable abbrev xX:bt:=top 63
noncomputable abbrev oO:bt:=top 64
noncomputable abbrev rT:bt:=top 65
noncomputable abbrev xY:bt:=top 66
noncomputable abbrev oP:bt:=top 67
noncomputable abbrev FL:bt:=top 68
noncomputable def fO:ar->Bool
 | .int _=>true
 | _=>false
noncomputable def iW:ar->Bool
 | .int i=>decide (1<=i) && decide (i<=6)
 | _=>false
noncomputable def eC (m_:Int):Int->List ar->Bool
 | _,[]=>true
 | last,.int i::r=>decide (last < i) && decide (i < m_) && eC m_ i r
 | _,_::_=>false
noncomputable def cH (m_:Int):ar->Bool
 | .tuple ds=>!ds.isEmpty && eC m_ (-1) ds
 | _=>false
noncomputable def aH2:ar->ar->Bool
 | .int h,.tuple ws=>decide (1<=h) && decide (h<=6) && decide (ws.length<=12) && ws.all (cH h)
 | _,_=>false
noncomputable def bD:ar->Bool
 | .tuple [dh,dw]=>aH2 dh dw
 | _=>false
def iL (K:Rc):Sp:=λvs H Q _=>∃ x d,vs = [x]/\Den K H d x/\Q (.bl (fO d)) H
theorem aGD:dz ["thing"] ["thing"] (aF nJ):=.of
theorem iC (G:Fn K mg "is_whole" nJ ["thing"] f fd) (B:Bl mg):c_ P w K mg base fc 1 f fd ["thing"] (iL K):=by
 refine G.fn.oK aGD λft A outer s H vs Q E hr h=>?_
 ·obtain ⟨x,d,rfl,hd,k⟩:=h
  refine ⟨_,aH (aN (kY (aO xE rfl B.isinstance jH (aA (pv 0) (aA (eZ (v:=.ty "int") rfl B.int D? rfl) aC)))
   (nC (QU (aO uR rfl B.isinstance jH (aA (pv 0) (aA (eZ (v:=.ty "bool") rfl B.bool aH1 rfl) aC))))))),?_⟩
  refine ⟨_,rfl,x,jM d,rfl,hd.kd,_,rfl,?_⟩
  refine eK (λc=>?_) (λc=>?_)
  ·refine ⟨_,rfl,x,jM d,rfl,hd.kd,_,rfl,?_⟩
   have e:(!decide (jM d=Kd.bl))=fO d:=by
    cases d <;> first | rfl | (exfalso; simp [jM] at c)
   rw [e]
   exact k
  ·have e:false=fO d:=by
    cases d <;> first | rfl | (exfalso; simp [jM] at c)
   rw [e]
   exact k
def Q_ (K:Rc):Sp:=λvs H Q _=>∃ x d,vs = [x]/\Den K H d x/\Q (.bl (iW d)) H
theorem aGE:dz ["thing"] ["thing"] (aF sZ):=.of
theorem aFh (G:Fn K mg "are_hands" sZ ["thing"] f fd) (B:Bl mg) (W:Fn K mg "is_whole" nJ ["thing"] fW DK):c_ P w K mg base fc 2 f fd ["thing"] (Q_ K):=by
 have GW:c_ P w K mg base fc 1 fW DK ["thing"] (iL K):=iC W B
 obtain ⟨t6,h6⟩:=B.m_
 refine G.fn.oK aGE λft A outer s H vs Q E hr h=>?_
 ·obtain ⟨x,d,rfl,hd,k⟩:=h
  refine ⟨_,aH (aN (kY (aX W GW hr rfl (aA (pv 0) aC))
   (nC (zD nW nW aK (pv 0) (nT (v:=.int 6) rfl h6 ⟨t6,rfl⟩))))),?_⟩
  refine ⟨_,rfl,x,d,rfl,hd,_,rfl,?_⟩
  refine eK (λc=>?_) (λc=>?_)
  ·obtain ⟨i,rfl⟩:∃ i,d=.int i:=by cases d <;> first | exact ⟨_,rfl⟩ | (exfalso; simp [fO] at c)
   obtain rfl:=dM.mp hd
   refine ⟨_,rfl,_,_,rfl,rfl,_,rfl,?_⟩
   refine eK (λc1=>?_) (λc1=>?_)
   ·refine ⟨_,_,rfl,rfl,?_⟩
    have e:decide (i<=6)=iW (.int i):=by
     show _=(decide (1<=i) && decide (i<=6))
     rw [c1,Jx]
    show Q (.bl (decide (i<=6))) H
    rw [e]; exact k
   ·have e:false=iW (.int i):=by
     show _=(decide (1<=i) && decide (i<=6))
     have c2:decide (1<=i)=false:=by simpa using c1
     rw [c2,Zm]
    rw [e]; exact k
  ·have e:false=iW d:=by cases d <;> first | rfl | (exfalso; simp [fO] at c)
   rw [e]; exact k
theorem iI (h l i:Int) (r:List ar):eC h l (.int i::r)=(decide (l < i) && decide (i < h) && eC h i r):=by rw [eC]
theorem tJ (h l:Int) (d:ar) (r:List ar) (n:fO d=false):eC h l (d::r)=false:=by
 cases d <;> first | rfl | (simp [fO] at n)
def xZ (K:Rc):Sp:=λvs H Q _=>∃ n x d,vs = [.int n,x]/\Den K H d x/\Q (.bl (cH n d)) H
theorem rV:dz ["hands", "thing", "last", "hand"] ["hands", "thing"] (aF tD):=.of
theorem Sg (G:Fn K mg "is_work" tD ["hands", "thing"] f fd) (B:Bl mg) (W:Fn K mg "is_whole" nJ ["thing"] fW DK):c_ P w K mg base fc 2 f fd ["hands", "thing"] (xZ K):=by
 have GW:c_ P w K mg base fc 1 fW DK ["thing"] (iL K):=iC W B
 refine G.fn.oK rV λft A outer s H vs Q E hr h=>?_
 ·obtain ⟨n,x,d,rfl,hd,k⟩:=h
  refine ⟨_,aE (bU (PW.pt (fT (cF (cB (aO cG rfl B.isinstance jH (aA (pv 1) (aA (eZ (v:=.ty "tuple") rfl B.tuple cM rfl) aC)))))
    (eN (aU mO (aO bE rfl B.len gE (aA (pv 1) aC)) aK gm)))) (aH (aN bP)) aW)
   (aE (bA (i:=2) rV.nd rfl fi (JQ J3 aK))
   (aE (eJ az.never rfl (eI (pv 1)) (aI (i:=3) rV.nd rfl fi)
    (aE (bU (PW.pt (fT (cF (cB (aX W GW hr rfl (aA (pv 3) aC)))) (fT (aU nW (pv 3) (pv 2) gm) (eN (aU yZ (pv 3) (pv 0) gm))))) (aH (aN bP)) aW)
    (aH (bA (i:=2) rV.nd rfl fi (pv 3)))))
   (aH (aN bP)))),?_⟩
  refine ⟨_,rfl,x,jM d,rfl,hd.kd,_,rfl,?_⟩
  refine eK (λc=>?_) (λc=>?_)
  ·-- not a tuple
   refine gA ?_
   have e:false=cH n d:=by
    cases d <;> first | rfl | (exfalso; simp [jM] at c)
   rw [e]; exact k
  ·obtain ⟨ds,rfl⟩:∃ ds,d=.tuple ds:=by cases d <;> first | exact ⟨_,rfl⟩ | (exfalso; simp [jM] at c)
   obtain ⟨a,xs,rfl,ha,ug⟩:=cC.mp hd
   have hl:=aP ug
   refine ⟨_,rfl,a,xs,rfl,.inr ha,rfl,_,rfl,?_⟩
   refine eK (λc2=>?_) (λc2=>?_)
   ·have e:false=cH n (.tuple ds):=by
     have e1:ds = []:=by
      have:(xs.length:Int)=0:=by simpa using c2
      exact Jq.mp (by omega)
     rw [e1]; rfl
    rw [e]; exact k
   ·have f':ds≠[]:=by
     intro z
     apply c2
     rw [z] at hl
     simp [hl]
    have e0:cH n (.tuple ds)=eC n (-1) ds:=by
     show (!ds.isEmpty && eC n (-1) ds)=_
     cases ds with
     | nil=>exact absurd rfl f'
     | cons _ _=>rfl
    rw [e0] at k
    refine ⟨_,rfl,?_⟩
    refine ⟨_,rfl,a,rfl,⟨xs,ha⟩,nV (K:=K) (a:=a) (xs:=xs) (λi σ H2=>∃ (last:Int) (v:Option V),σ = [some (.int n),some (.ref a),some (.int last),v]/\H2=H/\eC n (-1) ds=eC n last (ds.drop i))
     ⟨-1,none,rfl,rfl,rfl⟩ (λi σ H2 _ ⟨_,_,_,e,_⟩=>by rw [e]; exact ha) ?_ ?_⟩
    ·rintro i y σ H2 hi ⟨last,v,rfl,rfl,iq⟩
     obtain ⟨dy,XH,zb⟩:=cD ug hi
     have ph:ds.drop i=dy::ds.drop (i+1):=by
      obtain ⟨ff,e⟩:=Qb.mp XH
      rw [Yw ff,e]
     rw [ph] at iq
     refine ⟨_,rfl,y,dy,rfl,zb,_,rfl,?_⟩
     refine eK (λc3=>?_) (λc3=>?_)
     ·refine gA ?_
      have e:false=eC n (-1) ds:=by rw [iq,tJ]; simpa using c3
      rw [e]; exact k
     ·obtain ⟨j,rfl⟩:∃ j,dy=.int j:=by cases dy <;> first | exact ⟨_,rfl⟩ | (exfalso; simp [fO] at c3)
      obtain rfl:=dM.mp zb
      rw [iI] at iq
      refine ⟨_,rfl,_,rfl,_,_,rfl,rfl,_,rfl,?_⟩
      refine eK (λc4=>?_) (λc4=>?_)
      ·refine gA ?_
       have Z5:j<=last:=of_decide_eq_true c4
       have e:false=eC n (-1) ds:=by rw [iq,decide_eq_false (by omega:¬ last < j)]; rfl
       rw [e]; exact k
      ·have Z5:¬ j<=last:=λz=>c4 (decide_eq_true z)
       refine ⟨_,rfl,_,rfl,_,_,rfl,rfl,_,rfl,?_⟩
       refine eK (λc5=>?_) (λc5=>?_)
       ·have Z4:n<=j:=of_decide_eq_true c5
        have e:false=eC n (-1) ds:=by rw [iq,decide_eq_false (by omega:¬ j < n),Xp]; rfl
        rw [e]; exact k
       ·have Z4:¬ n<=j:=λz=>c5 (decide_eq_true z)
        refine ⟨_,rfl,j,some (.int j),rfl,rfl,?_⟩
        rw [iq,decide_eq_true (by omega:last < j),decide_eq_true (by omega:j < n)]
        rfl
    ·rintro σ H2 ⟨last,v,rfl,rfl,iq⟩
     have e:true=eC n (-1) ds:=by
      rw [iq,hl,List.drop_length]
      rfl
     show Q (.bl true) _
     rw [e]; exact k
theorem aGF {σ:St} {A B:Hp->Prop} (h:A H):pO σ H λb H3=>if b=true then A H3 else B H3:=by
 show if true=true then A H else B H
 exact gA h
theorem cQ {x:V} {σ:St} {A B:St->Hp->Prop} (h:A (σ.set i (some x)) H):jR i x σ H λfg H2=>pO fg H2 λb H3=>if b=true then A fg H3 else B fg H3:=by
 show if true=true then A (σ.set i (some x)) H else B (σ.set i (some x)) H
 exact gA h
def yA (K:Rc):Sp:=λvs H Q _=>∃ x d,vs = [x]/\Den K H d x/\∀ H',aD H H'->Q (.bl (bD d)) H'
theorem yB:dz ["thing", "hands", "works"] ["thing"] (aF tE):=.of
theorem Sf {Oq Oo:bo} (G:Fn K mg "is_book" tE ["thing"] f fd) (B:Bl mg) (W:Fn K mg "is_whole" nJ ["thing"] fW DK) (GH:Fn K mg "are_hands" sZ ["thing"] fH Oq) (GK:Fn K mg "is_work" tD ["hands", "thing"] fK Oo):c_ P w K mg base fc 3 f fd ["thing"] (yA K):=by
 have OH:c_ P w K mg base fc 2 fH Oq ["thing"] (Q_ K):=aFh GH B W
 have OK:c_ P w K mg base fc 2 fK Oo ["hands", "thing"] (xZ K):=Sg GK B W
 obtain ⟨CQ,FE⟩:=B.Es
 refine G.fn.oK yB λft A outer s H vs Q E hr h=>?_
 ·obtain ⟨x,d,rfl,hd,k⟩:=h
  refine ⟨_,aE (bU (PW.pt (fT (cF (cB (aO cG rfl B.isinstance jH (aA (pv 0) (aA (eZ (v:=.ty "tuple") rfl B.tuple cM rfl) aC)))))
    (eN (aU kS (aO bE rfl B.len gE (aA (pv 0) aC)) aK gm)))) (aH (aN bP)) aW)
   (aE (iG (pv 0) (dO rfl (aM (aI (i:=1) yB.nd rfl (Or.inr rfl)) (aM (aI (i:=2) yB.nd rfl fi) bV))))
   (aE (bU (cF (cB (aX GH OH hr rfl (aA (pv 1) aC)))) (aH (aN bP)) aW)
   (aE (bU (PW.pt (fT (cF (cB (aO cG rfl B.isinstance jH (aA (pv 2) (aA (eZ (v:=.ty "tuple") rfl B.tuple cM rfl) aC)))))
    (eN (aU B? (aO bE rfl B.len gE (aA (pv 2) aC)) (nT (v:=.int 12) rfl FE ⟨CQ,rfl⟩) gm)))) (aH (aN bP)) aW)
   (aH (aN (aO (eW rfl) rfl B.all mV (aA
    (bX (own:=["work"]) (fr:=[1]) (fm:=["hands"]) (aY (aF tE) ["thing", "hands", "works"] rfl rfl (by decide +kernel)) rfl (eI (pv 2))
     (λ_ _ _ _=>aI (i:=0) (show (["work", "hands"]:List ax).Nodup by decide +kernel) rfl fi) (λ_ _ _ _=>cP) (λ_ _ _ _=>aX GK OK hr rfl (aA (pv 1) (aA (pv 0) aC)))) aC))))))),?_⟩
  refine ⟨_,rfl,x,jM d,rfl,hd.kd,_,rfl,?_⟩
  refine eK (λc=>?_) (λc=>?_)
  ·refine gA ?_
   have e:false=bD d:=by
    cases d <;> first | rfl | (exfalso; simp [jM] at c)
   rw [e]; exact k H (aD.refl H)
  ·obtain ⟨ds,rfl⟩:∃ ds,d=.tuple ds:=by cases d <;> first | exact ⟨_,rfl⟩ | (exfalso; simp [jM] at c)
   obtain ⟨a,xs,rfl,ha,ug⟩:=cC.mp hd
   have hl:=aP ug
   refine ⟨_,rfl,a,xs,rfl,.inr ha,rfl,_,rfl,?_⟩
   refine eK (λc2=>?_) (λc2=>?_)
   ·have e:false=bD (.tuple ds):=by
     match ds,hl,c2 with
     | [],_,_=>rfl
     | [_],_,_=>rfl
     | [_,_],hl,c2=>exfalso; rw [hl] at c2; simp at c2
     | _::_::_::_,_,_=>rfl
    rw [e]; exact k H (aD.refl H)
   ·obtain ⟨dh,dw,rfl⟩:∃ dh dw,ds = [dh,dw]:=by
     match ds,hl,c2 with
     | [],hl,c2=>exfalso; rw [hl] at c2; simp at c2
     | [_],hl,c2=>exfalso; rw [hl] at c2; simp at c2
     | [p,q],_,_=>exact ⟨p,q,rfl⟩
     | p::q::r::t,hl,c2=>exfalso; apply c2; rw [hl]; simp; omega
    obtain ⟨xh,r1,rfl,hh,h2⟩:=aQ.mp ug
    obtain ⟨xw,r2,rfl,hw,h3⟩:=aQ.mp h2
    obtain rfl:=bG.mp h3
    -- hands,works=thing
    refine ⟨_,rfl,a,_,rfl,ha,rfl,_,_,rfl,_,_,rfl,rfl,?_⟩
    -- are_hands(hands)
    refine ⟨_,rfl,xh,dh,rfl,hh,_,rfl,?_⟩
    refine eK (λc3=>?_) (λc3=>?_)
    ·have e:false=bD (.tuple [dh,dw]):=by
      have Z6:iW dh=false:=by simpa using c3
      cases dh with
      | int n =>
       cases dw with
       | tuple ws =>
        have c4:(decide (1<=n) && decide (n<=6))=false:=Z6
        show _=(decide (1<=n) && decide (n<=6) && decide (ws.length<=12) && ws.all (cH n))
        rw [c4]; rfl
       | _=>rfl
      | _=>rfl
     rw [e]; exact k H (aD.refl H)
    ·obtain ⟨n,rfl,hn⟩:∃ n,dh=.int n/\(decide (1<=n) && decide (n<=6))=true:=by
      cases dh <;> first | exact ⟨_,rfl,by simpa [iW] using c3⟩ | (exfalso; simp [iW] at c3)
     obtain rfl:=dM.mp hh
     refine ⟨_,rfl,xw,jM dw,rfl,hw.kd,_,rfl,?_⟩
     refine eK (λc5=>?_) (λc5=>?_)
     ·refine gA ?_
      have e:false=bD (.tuple [.int n,dw]):=by
       cases dw <;> first | rfl | (exfalso; simp [jM] at c5)
      rw [e]; exact k H (aD.refl H)
     ·obtain ⟨ws,rfl⟩:∃ ws,dw=.tuple ws:=by cases dw <;> first | exact ⟨_,rfl⟩ | (exfalso; simp [jM] at c5)
      obtain ⟨b,ys,rfl,hb,ip⟩:=cC.mp hw
      have jt:=aP ip
      have eB:bD (.tuple [.int n,.tuple ws])=(decide (ws.length<=12) && ws.all (cH n)):=by
       show (decide (1<=n) && decide (n<=6) && decide (ws.length<=12) && ws.all (cH n))=_
       rw [hn,Jx]
      rw [eB] at k
      refine ⟨_,rfl,b,ys,rfl,.inr hb,_,_,rfl,rfl,_,rfl,?_⟩
      refine eK (λc6=>?_) (λc6=>?_)
      ·have Z3:(12:Int) < ys.length:=of_decide_eq_true c6
       have e:false=(decide (ws.length<=12) && ws.all (cH n)):=by rw [decide_eq_false (by omega:¬ ws.length<=12)]; rfl
       rw [e]; exact k H (aD.refl H)
      ·have Z3:¬ (12:Int) < ys.length:=λz=>c6 (decide_eq_true z)
       have e1:decide (ws.length<=12)=true:=decide_eq_true (by omega)
       rw [e1,Jx] at k
       refine ⟨_,rfl,b,rfl,⟨ys,hb⟩,hV (K:=K) (a:=b) (xs:=ys) (λσ=>∃ v,σ = [v,some (.int n)]) (λi zs H2=>H2=H/\zs=((ws.take i).map (cH n)).map V.bl) ?_ ⟨none,rfl⟩ ⟨rfl,rfl⟩ ?_ ?_ ?_ ?_⟩
       ·rw [Rf]; omega
       ·rintro i zs H2 ⟨_,rfl⟩
        rw [Qa,Qa,Qq]; omega
       ·rintro i zs H2 ⟨rfl,_⟩
        exact hb
       ·rintro i zs σ x H2 hx ⟨v,rfl⟩ ⟨rfl,rfl⟩ hz
        obtain ⟨dx,XI,zb⟩:=cD ip hx
        refine cQ ?_
        refine ⟨_,rfl,_,rfl,n,x,dx,rfl,zb,hz,⟨some x,rfl⟩,rfl,?_⟩
        rw [Je,XI]
        simp
       ·rintro zs H2 ⟨rfl,rfl⟩ p hp
        refine ⟨p,_,rfl,fh.of aB,?_⟩
        have e2:((ws.take ys.length).map (cH n)).all id=ws.all (cH n):=by
         rw [jt,Jj,Zb]
         rfl
        rw [e2]
        exact k _ (aD.new hp)
noncomputable def bY (l:List Int):ar:=.tuple (l.map .int)
noncomputable def bB (n:Int) (ws:List (List Int)):ar:=.tuple [.int n,.tuple (ws.map bY)]
noncomputable def bK (hs:List Int):ar:=.tuple (hs.map .int)
noncomputable def gF:ar->List Int->Bool
 | .int i,l=>l.any (·==i)
 | _,_=>false
noncomputable def bO (ws:List (List Int)):ar->Bool
 | .tuple hs=>decide (hs.length=ws.length) && (hs.zip ws).all λp=>gF p.1 p.2
 | _=>false
theorem mC (l:List Int):(l.map V.int).all nY=true:=by
 rw [Zb]
 exact Qy.mpr λ_ _=>rfl
theorem mF (i:Int) (l:List Int):xt (.int i) (l.map V.int)=l.any (·==i):=by
 unfold xt
 rw [Wp]
 rfl
theorem cI {x:V} (h:Den K H (bB n ws) x):∃ a b ys,x=.ref a/\d_ K H a [.int n,.ref b]/\d_ K H b ys/\bF K H (ws.map bY) ys:=by
 obtain ⟨a,xs,rfl,ha,ug⟩:=cC.mp h
 obtain ⟨xh,r1,rfl,hh,h2⟩:=aQ.mp ug
 obtain ⟨xw,r2,rfl,hw,h3⟩:=aQ.mp h2
 obtain rfl:=bG.mp h3
 obtain rfl:=dM.mp hh
 obtain ⟨b,ys,rfl,hb,ij⟩:=cC.mp hw
 exact ⟨a,b,ys,rfl,ha,hb,ij⟩
theorem aT (h:bD (bB n ws)=true):1<=n/\n<=6/\ws.length<=12/\∀ l∈ws,cH n (bY l)=true:=by
 have h':(decide (1<=n) && decide (n<=6) && decide ((ws.map bY).length<=12) && (ws.map bY).all (cH n))=true:=h
 simp only [Jf,decide_eq_true_eq,Qa,Qy] at h'
 exact ⟨h'.1.1.1,h'.1.1.2,h'.1.2,λl hl=>h'.2 _ (Qv.mpr ⟨l,hl,rfl⟩)⟩
theorem oQ {k:Nat} {t:Ap} {n:Nat} (hK:X.K=K) (hc:X.calm=true) (h:D3 X es t) (hn:autoParam ((assignEach es X.env).length=n) L2.gj) (ku:autoParam ((assignEach es X.env).findIdx? (·.1)=none) L2.gj):PG X (.Tuple es k pos) (Pc K n t):=by
 subst hK
 exact dO hc h hn ku
theorem tK (hK:X.K=K):i7 X (bc .In) (Gm K false):=by subst hK; exact pM
theorem cN (hK:X.K=K):F3 X (Pj K):=by subst hK; exact bQ
theorem aBC (hK:X.K=K):Ar X "tuple.count" (λx vs H Q=>∃ (a:ae) (ns:List Int) (n:Int),x=.ref a/\vs = [.int n]/\d_ K H a (ns.map V.int)/\Q (.int (ns.count n:Nat)) H):=by subst hK; exact aC3
structure Pr (K:Rc) (mg:ax->Option aa) (fW fH fK fB jn fD jy fL:ae) (dW dH dK dB jo dD jz dL:bo):Prop where
 W:Fn K mg "is_whole" nJ ["thing"] fW dW
 H:Fn K mg "are_hands" sZ ["thing"] fH dH
 Kw:Fn K mg "is_work" tD ["hands", "thing"] fK dK
 B:Fn K mg "is_book" tE ["thing"] fB dB
 NB:Fn K mg "need_book" JX ["book"] jn jo
 D:Fn K mg "is_deal" xV ["book", "thing"] fD dD
 ND:Fn K mg "need_deal" JW ["book", "deal"] jy jz
 C:∃ f d,Fn K mg "counted" lI ["hands", "deal"] f d
 L:Fn K mg "loads" J7 ["book", "deal"] fL dL
def oR (K:Rc):Sp:=λvs H Q _=>∃ x d,vs = [x]/\Den K H d x/\bD d=true/\∀ H',aD H H'->Q .f_ H'
theorem aGG:dz ["book"] ["book"] (aF JX):=.of
theorem oS (B:Bl mg) (R:Pr K mg fW fH fK fB jn fD jy fL dW dH dK dB jo dD jz dL):c_ P w K mg base fc 4 jn jo ["book"] (oR K):=by
 have OB:c_ P w K mg base fc 3 fB dB ["thing"] (yA K):=Sf R.B B R.W R.H R.Kw
 refine R.NB.fn.oK aGG λft A outer s H vs Q E hr h=>?_
 ·obtain ⟨x,d,rfl,hd,hb,k⟩:=h
  refine ⟨_,aH (bU (cF (cB (aX R.B OB hr rfl (aA (pv 0) aC)))) lV aW),?_⟩
  refine ⟨_,rfl,x,d,rfl,hd,λH' hs=>⟨_,rfl,?_⟩⟩
  rw [hb]
  refine fZ ?_
  exact k H' hs
def yC (K:Rc):Sp:=λvs H Q _=>∃ x y n ws d,vs = [x,y]/\Den K H (bB n ws) x/\bD (bB n ws)=true/\Den K H d y/\∀ H',aD H H'->Q (.bl (bO ws d)) H'
theorem Q9:dz ["book", "thing", "works"] ["book", "thing"] (aF xV):=.of
theorem Se (B:Bl mg) (R:Pr K mg fW fH fK fB jn fD jy fL dW dH dK dB jo dD jz dL):c_ P w K mg base fc 5 fD dD ["book", "thing"] (yC K):=by
 have ON:c_ P w K mg base fc 4 jn jo ["book"] (oR K):=oS B R
 have OW:c_ P w K mg base fc 1 fW dW ["thing"] (iL K):=iC R.W B
 refine R.D.fn.oK Q9 λft A outer s H vs Q E hr h=>?_
 ·obtain ⟨x,y,n,ws,d,rfl,hx,hb,hd,k⟩:=h
  have De:ee 1 _:=hr.mono (by decide)
  refine ⟨_,aE (dJ (aX R.NB ON hr rfl (aA (pv 0) aC)))
   (aE (bA (i:=2) Q9.nd rfl fi (bC bQ (pv 0) aK il))
   (aE (bU (PW.pt (fT (cF (cB (aO cG rfl B.isinstance jH (aA (pv 1) (aA (eZ (v:=.ty "tuple") rfl B.tuple cM rfl) aC)))))
    (eN (aU kS (aO bE rfl B.len gE (aA (pv 1) aC)) (aO bE rfl B.len gE (aA (pv 2) aC)) gm)))) (aH (aN bP)) aW)
   (aH (aN (aO (eW rfl) rfl B.all mV (aA
    (bX (own:=["hand", "able"]) (fr:=[]) (fm:=[]) (aY (aF xV) ["book", "thing", "works"] rfl rfl (by decide +kernel)) rfl (nH .t .t rfl B.zip (aA (pv 1) (aA (pv 2) aC)))
     (λ_ _ _ _=>oQ (K:=K) (n:=2) rfl rfl (aM (aI (i:=0) (show (["hand", "able"]:List ax).Nodup by decide +kernel) rfl fi) (aM (aI (i:=1) (show (["hand", "able"]:List ax).Nodup by decide +kernel) rfl fi) bV)))
     (λ_ _ _ _=>cP) (λ_ _ _ _=>kY (aX R.W OW De rfl (aA (pv 0) aC)) (nC (dX (tK (K:=K) rfl) (pv 0) (pv 1) (by with_unfolding_all rfl))))) aC)))))),?_⟩
  refine ⟨_,rfl,x,bB n ws,rfl,hx,hb,λH1 s1=>?_⟩
  have A0:=s1.den _ _ hx
  have Af:=s1.den _ _ hd
  obtain ⟨a,b,ys,rfl,ha,ia,ij⟩:=cI A0
  have jt:=aP ij
  rw [Qa] at jt
  refine ⟨_,rfl,a,_,1,.ref b,rfl,rfl,ha,rfl,?_⟩
  refine ⟨_,rfl,y,jM d,rfl,Af.kd,_,rfl,?_⟩
  refine eK (λc=>?_) (λc=>?_)
  ·refine gA ?_
   have e:false=bO ws d:=by
    cases d <;> first | rfl | (exfalso; simp [jM] at c)
   rw [e]; exact k H1 s1
  ·obtain ⟨hs,rfl⟩:∃ hs,d=.tuple hs:=by cases d <;> first | exact ⟨_,rfl⟩ | (exfalso; simp [jM] at c)
   obtain ⟨a2,xs,rfl,Ah,B_⟩:=cC.mp Af
   have Hg:=aP B_
   refine ⟨_,rfl,a2,xs,rfl,.inr Ah,_,rfl,b,ys,rfl,.inr ia,rfl,_,rfl,?_⟩
   refine eK (λc2=>?_) (λc2=>?_)
   ·have e:false=bO ws (.tuple hs):=by
     show _=(decide (hs.length=ws.length) && (hs.zip ws).all λp=>gF p.1 p.2)
     rw [decide_eq_false]
     ·rfl
     ·intro z
      have:(V.int (xs.length:Int)=V.int (ys.length:Int)):=by rw [Hg,jt,z]
      simp [this] at c2
    rw [e]; exact k H1 s1
   ·have heq:xs.length=ys.length:=by
     have:V.int (xs.length:Int)=V.int (ys.length:Int):=by simpa using c2
     injection this with this
     omega
    have e0:bO ws (.tuple hs)=(hs.zip ws).all λp=>gF p.1 p.2:=by
     show (decide (hs.length=ws.length) && _)=_
     rw [decide_eq_true (by omega:hs.length=ws.length),Jx]
    rw [e0] at k
    obtain ⟨_,_,FE,_⟩:=aT hb
    refine ⟨_,rfl,_,rfl,a2,b,xs,ys,rfl,Ah,ia,aEB (K:=K) (k1:=.t) (k2:=.t) (a:=a2) (b:=b) (xs:=xs) (ys:=ys) (λσ=>∃ u v,σ = [u,v]) (λi zs H2=>aD H1 H2/\zs=(((hs.zip ws).take i).map λp=>gF p.1 p.2).map V.bl) ?_ heq ⟨none,none,rfl⟩ ⟨aD.refl H1,rfl⟩ ?_ ?_ ?_ ?_⟩
    ·rw [Rf]; omega
    ·rintro i zs H2 ⟨_,rfl⟩
     rw [Qa,Qa,Qq]; omega
    ·rintro i zs H2 ⟨s2,_⟩
     exact ⟨s2.d0 Ah,s2.d0 ia⟩
    ·rintro i zs σ u v p H2 hu hv ⟨u0,v0,rfl⟩ ⟨s2,rfl⟩ hp hz
     obtain ⟨du,Du,o_⟩:=cD B_ hu
     obtain ⟨dv,gk,i4⟩:=cD ij hv
     rw [Qd] at gk
     obtain ⟨l,hl,rfl⟩:∃ l,ws[i]?=some l/\bY l=dv:=by
      cases q:ws[i]? with
      | none=>rw [q] at gk; cases gk
      | some l=>rw [q] at gk; exact ⟨l,rfl,Option.some.inj gk⟩
     have s3:aD H1 (upd H2 p (.tup [u,v])):=s2.trans (aD.new hp)
     have K3:(hs.zip ws)[i]?=some (du,l):=by rw [Qz]; exact ⟨Du,hl⟩
     have AG:(((hs.zip ws).take (i+1)).map λp=>gF p.1 p.2).map V.bl=(((hs.zip ws).take i).map λp=>gF p.1 p.2).map V.bl++[V.bl (gF du l)]:=by
      rw [Je,K3]; simp
     refine ⟨p,_,rfl,d_.of aB,rfl,_,_,rfl,_,_,rfl,rfl,?_⟩
     refine aGF ?_
     refine ⟨_,rfl,u,du,rfl,s3.den _ _ o_,_,rfl,?_⟩
     refine eK (λc3=>?_) (λc3=>?_)
     ·obtain ⟨j,rfl⟩:∃ j,du=.int j:=by cases du <;> first | exact ⟨_,rfl⟩ | (exfalso; simp [fO] at c3)
      obtain rfl:=dM.mp o_
      obtain ⟨av,rfl,X0⟩:=aR.mp i4
      refine ⟨_,rfl,_,rfl,av,_,rfl,.inr (s3.d0 X0),rfl,mC l,hz,⟨_,_,rfl⟩,s3,?_⟩
      rw [AG]
      show _++[V.bl (xt (.int j) (l.map V.int))]=_
      rw [mF]
      rfl
     ·have e:gF du l=false:=by cases du <;> first | rfl | (exfalso; simp [fO] at c3)
      refine ⟨hz,⟨_,_,rfl⟩,s3,?_⟩
      rw [AG,e]
    ·rintro zs H2 ⟨s2,rfl⟩ p hp
     refine ⟨p,_,rfl,fh.of aB,?_⟩
     have e2:(((hs.zip ws).take xs.length).map λp=>gF p.1 p.2).all id=(hs.zip ws).all λp=>gF p.1 p.2:=by
      rw [Jb (by rw [Wq]; omega),Zb]
      rfl
     rw [e2]
     exact k _ (s1.trans (s2.trans (aD.new hp)))
noncomputable def aJ (n:Int) (hs:List Int):List Int:=(cW n.toNat).map λh=>((hs.count h:Nat):Int)
noncomputable def aH3 (n:Int) (hs:List Int):Int:=aL ((aJ n hs).map λl=>l*(l+1) / 2)
theorem oT {n:Nat} (h:i < n):(cW n)[i]?=some (i:Int):=by
 unfold cW
 rw [Qd,Xh h]
 rfl
theorem qY (n:Nat):(cW n).length=n:=by unfold cW; rw [Qa,Xe]
theorem J6 {o:bq} {t:TA} {id:String} {r:V->List V->Hp->VK->Prop} (hK:X.K=K) (pa:PlainAttrs T) (slot:Slot T name id) (Fb:typeOf (.builtin id)=pure (.type "method_descriptor")) (hm:Ar X id r) (ho:PE X o to) (ha:PA X (e::es) t) (pq:autoParam (attributeBase o name X.env (eval o X.env)=eval o X.env) L2.gj) (BN:autoParam (((cy ir (au (e::es) X.env)).all (λx=>!x.1) && (dg ir (cq [] X.env)).all (λx=>x.1.isSome)
   && decide ((e::es).length+([]:List dr).length+(if ([]:List dr).isEmpty then 0 else 1) < 30))=true) L2.gj) (pf:autoParam ((apos.endLine==ir.line)=true) L2.gj) (hs:autoParam (au (e::es) X.env=(false,eval e X.env)::au es X.env) L2.gj) (rg:autoParam ((cy ir (au es X.env)).any (·.1)=false) L2.gj) :
  PE X (.Call (.Attribute o name apos) (e::es) [] ir) (MA K T r to t):=by
 subst hK
 exact mP pa slot Fb hm ho ha pq BN pf hs rg
def dQ (K:Rc) (H:Hp) (x y:V) (n:Int) (ws:List (List Int)) (hs:List Int):Prop:=Den K H (bB n ws) x/\bD (bB n ws)=true/\Den K H (bK hs) y/\bO ws (bK hs)=true
theorem dQ.same {x:V} (g:dQ K H x y n ws hs) (e:aD H H'):dQ K H' x y n ws hs:=⟨e.den _ _ g.1,g.2.1,e.den _ _ g.2.2.1,g.2.2.2⟩
theorem dQ.len {x:V} (g:dQ K H x y n ws hs):hs.length<=12/\1<=n/\n<=6:=by
 obtain ⟨h1,h2,h3,_⟩:=aT g.2.1
 have h:(decide ((hs.map ar.int).length=ws.length) && ((hs.map ar.int).zip ws).all λp=>gF p.1 p.2)=true:=g.2.2.2
 simp only [Jf,decide_eq_true_eq,Qa] at h
 omega
def yD (K:Rc):Sp:=λvs H Q _=>∃ x y n ws hs,vs = [x,y]/\dQ K H x y n ws hs/\∀ H',aD H H'->Q .f_ H'
theorem aGH:dz ["book", "deal"] ["book", "deal"] (aF JW):=.of
theorem Sd (B:Bl mg) (R:Pr K mg fW fH fK fB jn fD jy fL dW dH dK dB jo dD jz dL):c_ P w K mg base fc 6 jy jz ["book", "deal"] (yD K):=by
 have OD:c_ P w K mg base fc 5 fD dD ["book", "thing"] (yC K):=Se B R
 refine R.ND.fn.oK aGH λft A outer s H vs Q E hr h=>?_
 ·obtain ⟨x,y,n,ws,hs,rfl,⟨g1,g2,g3,g4⟩,k⟩:=h
  refine ⟨_,aH (bU (cF (cB (aX R.D OD hr rfl (aA (pv 0) (aA (pv 1) aC))))) lV aW),?_⟩
  refine ⟨_,rfl,_,rfl,x,y,n,ws,bK hs,rfl,g1,g2,g3,λH' hs=>⟨_,rfl,?_⟩⟩
  rw [g4]
  refine fZ ?_
  exact k H' hs
def wE (K:Rc):Sp:=λvs H Q _=>∃ (n:Int) (b:ae) (hs:List Int),vs = [.int n,.ref b]/\d_ K H b (hs.map V.int)/\0<=n/\n<=6/\∀ p H',aD H H'->H' p=some (.tup ((aJ n hs).map V.int))->Q (.ref p) H'
theorem aDB:dz ["hands", "deal"] ["hands", "deal"] (aF lI):=.of
theorem aBE (G:Fn K mg "counted" lI ["hands", "deal"] f fd) (B:Bl mg):c_ P w K mg base fc 1 f fd ["hands", "deal"] (wE K):=by
 refine G.fn.oK aDB λft A outer s H vs Q E hr h=>?_
 ·obtain ⟨n,c,hs,rfl,hc,mi,km,k⟩:=h
  refine ⟨_,aH (aN (cK bR rfl B.tuple cM (aA
    (bX (own:=["hand"]) (fr:=[1]) (fm:=["deal"]) (aY (aF lI) ["hands", "deal"] rfl rfl (by decide +kernel)) rfl (fU rfl B.range (aA (pv 0) aC))
     (λ_ _ _ _=>aI (i:=0) (show (["hand", "deal"]:List ax).Nodup by decide +kernel) rfl fi) (λ_ _ _ _=>cP)
     (λ_ _ _ _=>J6 (K:=K) rfl Md Uh Me (aBC (K:=K) rfl) (pv 1) (aA (pv 0) aC))) aC))),?_⟩
  refine ⟨_,rfl,n,rfl,by omega,by omega,gK (lo:=0) (n:=n.toNat) (λσ=>∃ v,σ = [v,some (.ref c)]) (λi zs H2=>H2=H/\zs=(((cW n.toNat).take i).map λh=>((hs.count h:Nat):Int)).map V.int) ?_ ⟨none,rfl⟩ ⟨rfl,rfl⟩ ?_ ?_ ?_⟩
  ·rw [Rf]; omega
  ·rintro i zs H2 ⟨_,rfl⟩
   rw [Qa,Qa,Qq]; omega
  ·rintro i zs σ H2 hi ⟨v,rfl⟩ ⟨rfl,rfl⟩ hz
   refine cQ ?_
   refine ⟨_,rfl,.inr (.inl ⟨rfl,_,hc⟩),_,rfl,c,hs,_,rfl,rfl,hc,hz,⟨_,rfl⟩,rfl,?_⟩
   rw [Je,oT hi]
   simp
  ·rintro zs H2 ⟨rfl,rfl⟩ p hp
   refine ⟨p,_,rfl,.inl ⟨fh.of aB,λl hl=>?_⟩⟩
   refine k l _ ((aD.new hp).trans (aD.new hl)) ?_
   rw [aB,Jb (by rw [qY]; exact Qh _)]
   rfl
def kK (K:Rc):Sp:=λvs H Q _=>∃ x y n ws hs,vs = [x,y]/\dQ K H x y n ws hs/\∀ p H',aD H H'->H' p=some (.tup ((aJ n hs).map V.int))->Q (.ref p) H'
theorem aGI:dz ["book", "deal"] ["book", "deal"] (aF J7):=.of
theorem jW (B:Bl mg) (R:Pr K mg fW fH fK fB jn fD jy fL dW dH dK dB jo dD jz dL):c_ P w K mg base fc 7 fL dL ["book", "deal"] (kK K):=by
 have ON:c_ P w K mg base fc 6 jy jz ["book", "deal"] (yD K):=Sd B R
 obtain ⟨fC,dC,GC⟩:=R.C
 have OC:c_ P w K mg base fc 1 fC dC ["hands", "deal"] (wE K):=aBE GC B
 refine R.L.fn.oK aGI λft A outer s H vs Q E hr h=>?_
 ·obtain ⟨x,y,n,ws,hs,rfl,g,k⟩:=h
  have r1:ee 1 _:=hr.mono (by decide)
  refine ⟨_,aE (dJ (aX R.ND ON hr rfl (aA (pv 0) (aA (pv 1) aC))))
   (aH (aN (aX GC OC r1 rfl (aA (bC bQ (pv 0) aK il) (aA (pv 1) aC))))),?_⟩
  refine ⟨_,rfl,_,rfl,x,y,n,ws,hs,rfl,g,λH1 s1=>?_⟩
  have g1:=g.same s1
  obtain ⟨hl,mi,km⟩:=g.len
  obtain ⟨a,b,ys,rfl,ha,ia,ij⟩:=cI g1.1
  obtain ⟨c,rfl,hc⟩:=aR.mp g1.2.2.1
  refine ⟨_,rfl,a,_,0,.int n,rfl,rfl,ha,rfl,_,rfl,n,c,hs,rfl,hc,by omega,km,λp H2 s2 hp=>?_⟩
  exact k p H2 (s1.trans s2) hp
theorem bI (n:Int) (hs:List Int):(aJ n hs).length=n.toNat:=by unfold aJ; rw [Qa,qY]
theorem oU {l:Int} (h:l∈aJ n hs):0<=l/\l<=hs.length:=by
 unfold aJ at h
 obtain ⟨i,_,rfl⟩:=Qv.mp h
 have:=Yn (a:=i) (l:=hs)
 omega
def kb (t:ae) (H H':Hp):Prop:=∀ b o,b≠t->H b=some o->H' b=some o
theorem kb.trans {t:ae} (a:kb t H H1) (b:kb t H1 H2):kb t H H2:=λc o n h=>b c o n (a c o n h)
theorem kb.of {t:ae} (a:aD H H'):kb t H H':=λc o _ h=>a c o h
theorem kb.at {t:ae} {u:HO}:kb t H (upd H t u):=λc o n h=>by rw [aG n]; exact h
section
variable {t:ae}
theorem kb.d0 (e:kb t H H') (ht:H t=some (.lst ys)) (h:d_ K H a xs):d_ K H' a xs:=by
 rcases h with (h | ⟨o,h⟩) | h
 ·exact .inl (.inl (e a _ (λz=>by rw [z,ht] at h; cases h) h))
 ·exact .inl (.inr ⟨o,e a _ (λz=>by rw [z,ht] at h; cases h) h⟩)
 ·exact .inr h
mutual
noncomputable def gG:ar->Bool
 | .dict _=>false
 | .list _=>false
 | .tuple ds=>gW ds
 | _=>true
noncomputable def gW:List ar->Bool
 | []=>true
 | d::ds=>gG d && gW ds
end
mutual
theorem kb.den (e:kb t H H') (ht:H t=some (.lst ys)):∀ (d:ar) (v:V),gG d=true->Den K H d v->Den K H' d v
 | .none,v,_,h=>by unfold Den at h ⊢; exact h
 | .bool b,v,_,h=>by unfold Den at h ⊢; exact h
 | .int i,v,_,h=>by unfold Den at h ⊢; exact h
 | .str x,v,_,h=>by unfold Den at h ⊢; exact h
 | .list ds,v,n,h=>by unfold gG at n; cases n
 | .tuple ds,v,n,h=>by unfold gG at n; unfold Den at h ⊢; obtain ⟨a,xs,h1,h2,h3⟩:=h; exact ⟨a,xs,h1,e.d0 ht h2,kb.gn e ht ds xs n h3⟩
 | .dict kvs,v,n,h=>by unfold gG at n; cases n
theorem kb.gn (e:kb t H H') (ht:H t=some (.lst ys)):∀ (ds:List ar) (xs:List V),gW ds=true->bF K H ds xs->bF K H' ds xs
 | [],xs,_,h=>by unfold bF at h ⊢; exact h
 | d::ds,xs,n,h=>by
  unfold gW at n; rw [Jf] at n
  unfold bF at h ⊢; obtain ⟨x,r,h1,h2,h3⟩:=h; exact ⟨x,r,h1,kb.den e ht d x n.1 h2,kb.gn e ht ds r n.2 h3⟩
end
end
theorem lJ (f:α->ar) (h:∀ x,gG (f x)=true):∀ l:List α,gW (l.map f)=true
 | []=>by unfold List.map gW; rfl
 | x::r=>by rw [Qw]; unfold gW; rw [h x,lJ f h r]; rfl
theorem tL (i:Int):gG (.int i)=true:=by unfold gG; rfl
theorem qZ (l:List Int):gG (bY l)=true:=by unfold bY gG; exact lJ _ tL l
theorem aAA (l:List Int):gG (bK l)=true:=qZ l
theorem aAB (n:Int) (ws:List (List Int)):gG (bB n ws)=true:=by
 unfold bB gG gW
 rw [tL]
 unfold gW gG
 rw [lJ _ qZ ws]
 unfold gW
 rfl
theorem eT (ns:List Int):eA (.list (ns.map .int))=true:=by
 unfold eA
 induction ns with
 | nil=>unfold List.map fM; rfl
 | cons n r ih=>rw [Qw]; unfold fM; rw [ih]; unfold eA; rfl
theorem iX (f:α->ar) (h:∀ x,(f x).canLay0=true):∀ l:List α,ar.canLayAll0 (l.map f)=true
 | []=>by unfold List.map ar.canLayAll0; rfl
 | x::r=>by rw [Qw]; unfold ar.canLayAll0; rw [h x,iX f h r]; rfl
theorem jX {k:Nat} (f:α->ar) (h:∀ x,(f x).depth<=k):∀ l:List α,ar.depthAll (l.map f)<=k
 | []=>by unfold List.map ar.depthAll; exact Jl _
 | x::r=>by rw [Qw]; unfold ar.depthAll; exact Nat.max_le.mpr ⟨h x,jX f h r⟩
theorem tM (i:Int):(ar.int i).canLay0=true:=by unfold ar.canLay0; rfl
theorem wF (i:Int):(ar.int i).depth<=0:=by unfold ar.depth; exact Qh _
theorem yE (ns:List Int):(ar.list (ns.map .int)).canLay0=true:=by unfold ar.canLay0; exact iX _ tM ns
theorem oW (ns:List Int):(ar.tuple (ns.map .int)).canLay0=true:=by unfold ar.canLay0; exact iX _ tM ns
theorem aAC (ns:List Int):(ar.list (ns.map .int)).depth<=1:=by unfold ar.depth; exact Zk (jX _ wF ns)
theorem rA (ns:List Int):(ar.tuple (ns.map .int)).depth<=1:=by unfold ar.depth; exact Zk (jX _ wF ns)
theorem mG {d:ar} (h1:d.canLay0=true) (h2:d.depth<=64):SeqAt.shaped d=true:=by
 unfold SeqAt.shaped
 rw [h1,decide_eq_true h2]
 rfl
theorem fX (ns:List Int):SeqAt.shaped (.list (ns.map .int))=true:=mG (yE ns) (Jd (aAC ns) (by decide))
theorem dZ (ns:List Int):SeqAt.shaped (.tuple (ns.map .int))=true:=mG (oW ns) (Jd (rA ns) (by decide))
theorem cS (ns:List Int):eA (.tuple (ns.map .int))=true:=by
 have h:=eT ns
 unfold eA at h ⊢
 exact h
theorem _root_.L2.ee.wq {k:Nat} (r:ee k A):A.units+64 < cn:=by have:=r.un; omega
theorem SQ (n:Int):∀ (l:List Int) (last:Int),(∀ x∈l,last < x)->l.Pairwise (· < ·)->(∀ x∈l,x < n)->eC n last (l.map .int)=true
 | [],_,_,_,_=>rfl
 | x::r,last,h1,h2,h3=>by
  rw [Qw,iI]
  have vj:=Zp.mp h2
  rw [decide_eq_true (h1 x (Qi ..)),decide_eq_true (h3 x (Qi ..)),SQ n r x vj.1 vj.2 (λy hy=>h3 y (Qg _ hy))]
  rfl
theorem aGJ (h0:l≠[]) (h1:∀ x∈l,0<=x/\x < n) (h2:l.Pairwise (· < ·)):cH n (bY l)=true:=by
 have e:cH n (bY l)=(!(l.map ar.int).isEmpty && eC n (-1) (l.map .int)):=rfl
 rw [e,SQ n l (-1) (λx hx=>by have:=(h1 x hx).1; omega) h2 (λx hx=>(h1 x hx).2)]
 cases l with
 | nil=>exact absurd rfl h0
 | cons _ _=>rfl
theorem rB (n:Int):∀ (l:List Int) (last:Int),eC n last (l.map .int)=true->l.Pairwise (· < ·)/\∀ x∈l,last < x/\x < n
 | [],_,_=>⟨.nil,λ_ h=>by cases h⟩
 | x::r,last,h=>by
  rw [Qw,iI,Jf,Jf] at h
  obtain ⟨⟨h1,h2⟩,h3⟩:=h
  have h1:=of_decide_eq_true h1
  have h2:=of_decide_eq_true h2
  obtain ⟨i1,i2⟩:=rB n r x h3
  refine ⟨Zp.mpr ⟨λy hy=>(i2 y hy).1,i1⟩,λy hy=>?_⟩
  rcases Ql.mp hy with rfl | hy
  ·exact ⟨h1,h2⟩
  ·exact ⟨by have:=(i2 y hy).1; omega,(i2 y hy).2⟩
theorem aZ (h:cH n (bY l)=true):l≠[]/\(∀ x∈l,0<=x/\x < n)/\l.Pairwise (· < ·):=by
 have e:(!(l.map ar.int).isEmpty && eC n (-1) (l.map .int))=true:=h
 rw [Jf] at e
 obtain ⟨h1,h2⟩:=rB n l (-1) e.2
 refine ⟨λz=>by rw [z] at e; simp at e,λx hx=>⟨by have:=(h2 x hx).1; omega,(h2 x hx).2⟩,h1⟩
theorem tN:∀ (l:List Int) (lo:Int),lo<=n->(∀ x∈l,lo<=x/\x < n)->l.Pairwise (· < ·)->(l.length:Int)<=n - lo
 | [],lo,h,_,_=>by simp; omega
 | x::r,lo,h,h1,h2=>by
  have vj:=Zp.mp h2
  have hx:=h1 x (Qi ..)
  have:=tN r (x+1) (by omega) (λy hy=>⟨by have:=vj.1 y hy; omega,(h1 y (Qg _ hy)).2⟩) vj.2
  rw [Ja]
  omega
theorem iY (hn:0<=n) (h1:∀ x∈l,0<=x/\x < n) (h2:l.Pairwise (· < ·)):(l.length:Int)<=n:=by
 have:=tN l 0 hn h1 h2
 omega
theorem lK:∀ (a b:List Int),ar.eqvAll (a.map .int) (b.map .int)=decide (a=b)
 | [],[]=>by simp [ar.eqvAll]
 | [],_::_=>by simp [ar.eqvAll]
 | _::_,[]=>by simp [ar.eqvAll]
 | x::r,y::s=>by
  rw [Qw,Qw,ar.eqvAll,lK r s,ar.eqv]
  by_cases h:x=y
  ·by_cases h2:r=s
   ·simp [h,h2]
   ·simp [h,h2]
  ·simp [h]
theorem qA (a b:List Int):ar.eqv (.list (a.map .int)) (.list (b.map .int))=decide (a=b):=by rw [ar.eqv,lK]
theorem mH (a b:List Int):ar.eqv (.tuple (a.map .int)) (.tuple (b.map .int))=decide (a=b):=by rw [ar.eqv,lK]
theorem um (x:V) : [x].length<=ak:=by rw [Rf]; simp
theorem qm (x y:V) : [x,y].length<=ak:=by rw [Rf]; simp
theorem eG {n:Nat} (h:n<=1000):n<=ak:=by rw [Rf]; omega
theorem tO {h:Int}:gF (.int h) l=true↔h∈l:=by
 show (l.any (·==h))=true↔_
 rw [Xg]
 constructor
 ·rintro ⟨x,hx,e⟩
  have:x=h:=by simpa using e
  exact this ▸ hx
 ·exact λhx=>⟨h,hx,by simp⟩
theorem gX (h1:hs.length=ws.length) (h2:∀ (j:Nat) (h:Int) (l:List Int),hs[j]?=some h->ws[j]?=some l->h∈l):bO ws (bK hs)=true:=by
 show (decide ((hs.map ar.int).length=ws.length) && ((hs.map ar.int).zip ws).all λp=>gF p.1 p.2)=true
 rw [Qa,decide_eq_true h1,Jx,Qy]
 rintro ⟨d,l⟩ hm
 obtain ⟨j,hj⟩:=Qu.mp hm
 rw [Qz] at hj
 obtain ⟨yb,Aa⟩:=hj
 have yb:(hs.map ar.int)[j]?=some d:=yb
 have Aa:ws[j]?=some l:=Aa
 rw [Qd] at yb
 cases q:hs[j]? with
 | none=>rw [q] at yb; cases yb
 | some h =>
  rw [q] at yb
  obtain rfl:ar.int h=d:=Option.some.inj yb
  exact tO.mpr (h2 j h l q Aa)
theorem aV (h:bO ws (bK hs)=true):hs.length=ws.length/\∀ (j:Nat) (h:Int) (l:List Int),hs[j]?=some h->ws[j]?=some l->h∈l:=by
 have h':(decide ((hs.map ar.int).length=ws.length) && ((hs.map ar.int).zip ws).all λp=>gF p.1 p.2)=true:=h
 rw [Qa,Jf,Qy] at h'
 refine ⟨of_decide_eq_true h'.1,λj h l hj hl=>?_⟩
 refine tO.mp (h'.2 (.int h,l) (Qe (i:=j) ?_))
 rw [Qz]
 exact ⟨by rw [Qd,hj]; rfl,hl⟩
theorem Q8 (h1:1<=n) (h2:n<=6) (h3:ws.length<=12) (h4:∀ l∈ws,cH n (bY l)=true):bD (bB n ws)=true:=by
 show (decide (1<=n) && decide (n<=6) && decide ((ws.map bY).length<=12) && (ws.map bY).all (cH n))=true
 rw [decide_eq_true h1,decide_eq_true h2,Qa,decide_eq_true h3,Jx,Jx,Jx,Qy]
 intro d hd
 obtain ⟨l,hl,rfl⟩:=Qv.mp hd
 exact h4 l hl
theorem wG (h1:d_ K H a [.int n,.ref b]) (h2:d_ K H b ys) (h3:bF K H (ws.map bY) ys):Den K H (bB n ws) (.ref a) :=
 cC.mpr ⟨a,_,rfl,h1,aQ.mpr ⟨_,_,rfl,dM.mpr rfl,aQ.mpr ⟨_,_,rfl,cC.mpr ⟨b,ys,rfl,h2,h3⟩,bG.mpr rfl⟩⟩⟩
theorem dQ.hand {x:V} (g:dQ K H x y n ws hs) {h:Int} (e:hs[i]?=some h):0<=h/\h < n:=by
 obtain ⟨_,_,_,hw⟩:=aT g.2.1
 obtain ⟨hl,hd⟩:=aV g.2.2.2
 have hi:i < ws.length:=by rw [<- hl]; exact (Qb.mp e).1
 have hm:=hd i h ws[i] e (Qc hi)
 exact (aZ (hw _ (Jr hi))).2.1 h hm
theorem gM (h:j < n.toNat):(aJ n hs)[j]?=some ((hs.count (j:Int):Nat):Int):=by
 unfold aJ
 rw [Qd,oT h]
 rfl
theorem tP (h:n.toNat<=j):(aJ n hs)[j]?=none:=by
 rw [Yx,bI]; exact h
theorem aBF (n:Int):(List.replicate n.toNat [V.int 0]).flatten=(aJ n []).map V.int:=by
 rw [Zd]
 refine Yf λj=>?_
 rw [Qd]
 by_cases h:j < n.toNat
 ·rw [gM h,Jz,if_pos h]
  rfl
 ·rw [tP (by omega),Jz,if_neg h]
  rfl
theorem aAE {h:Int} (h0:0<=h) (h1:h < n):((aJ n hs).map V.int).set h.toNat (.int (((hs.count h:Nat):Int)+1))=(aJ n (hs++[h])).map V.int:=by
 refine Yf λj=>?_
 by_cases hj:j < n.toNat
 ·rw [Qd,gM hj,Zw,Xv]
  have hl:((aJ n hs).map V.int).length=n.toNat:=by rw [Qa,bI]
  by_cases e:h.toNat=j
  ·have e':(j:Int)=h:=by omega
   rw [if_pos e,if_pos (by rw [hl]; omega),e',Wv]
   simp
  ·have e':¬ h=(j:Int):=by omega
   rw [if_neg e,Qd,gM hj,Wv]
   simp [e']
 ·rw [Qd,tP (by omega),Yx.mpr]
  ·rfl
  ·rw [Ze,Qa,bI]; omega
noncomputable def eY (ws:List (List Int)) (hs:List Int):List Int->Bool
 | [k,g,t]=>decide (0<=k) && (decide (k < hs.length) && (hs[k.toNat]?==some g && (!decide (t=g) && decide (t∈ws.getD k.toNat []))))
 | _=>false
noncomputable def jP (st:List Int):Int:=st.getD 1 0
noncomputable def qB (st:List Int):Int:=st.getD 2 0
noncomputable def bW:List (List Int)->List Int
 | []=>[]
 | s::r=>jP s::(s::r).map qB
noncomputable def rW (L:List (List Int)):Bool:=(L.zip (bW L)).all λp=>jP p.1==p.2
noncomputable def mM (ws:List (List Int)) (hs:List Int) (L:List (List Int)):Bool:=!L.isEmpty && (L.all (eY ws hs) && (rW L && decide ((bW L).Nodup)))
theorem wH {st:List Int} (h:eY ws hs st=true):∃ k g t,st = [k,g,t]:=by
 match st,h with
 | [k,g,t],_=>exact ⟨k,g,t,rfl⟩
theorem aDC {st:List Int} (h:st.length≠3):eY ws hs st=false:=by
 match st,h with
 | [],_=>rfl
 | [_],_=>rfl
 | [_,_],_=>rfl
 | [_,_,_],h=>exact absurd rfl h
 | _::_::_::_::_,_=>rfl
theorem f? {st:List Int} (h:st.length=3):∃ k g t,st = [k,g,t]:=by
 match st,h with
 | [k,g,t],_=>exact ⟨k,g,t,rfl⟩
theorem kL (h:bF K H (ws.map bY) ys) (e:ws[i]?=some l):∃ c,ys[i]?=some (.ref c)/\d_ K H c (l.map V.int):=by
 have hl:=aP h
 rw [Qa] at hl
 have hi:i < ys.length:=by rw [hl]; exact (Qb.mp e).1
 obtain ⟨d,e1,e2⟩:=cD h (Qc hi)
 rw [Qd,e] at e1
 obtain rfl:=(Option.some.inj e1).symm
 obtain ⟨c,e3,e4⟩:=aR.mp e2
 exact ⟨c,by rw [Qc hi,e3],e4⟩
theorem tQ {k:Int} {x:Int} (h0:0<=k) (h:l[k.toNat]?=some x):k4 (l.map V.int) k=some (.int x):=by
 have h1:(l.map V.int)[k.toNat]?=some (.int x):=by rw [Qd,h]; rfl
 have h2:=bZ h1
 rwa [Yr h0] at h2
theorem Z? {l:List V} {k:Int} {x:V} (h0:0<=k) (h:l[k.toNat]?=some x):k4 l k=some x:=by
 have h2:=bZ h
 rwa [Yr h0] at h2
def P8 (K:Rc):Sp:=λvs H Q _=>∃ x y b n ws hs l,vs = [x,y,.ref b]/\dQ K H x y n ws hs/\d_ K H b (l.map V.int)/\l.length<=1000/\∀ H',aD H H'->Q (.bl (eY ws hs l)) H'
theorem yF:dz ["book", "deal", "step", "work", "giver", "taker"] ["book", "deal", "step"] (aF wD):=.of
theorem aFj {k g t:Int} {h:Int} (k0:0<=k) (k1:k < hs.length) (eh:hs[k.toNat]?=some h) (el:ws[k.toNat]?=some l):eY ws hs [k,g,t]=(decide (V.int h=V.int g) && (!decide (V.int t=V.int g) && l.any (·==t))):=by
 show (decide (0<=k) && (decide (k < hs.length) && (hs[k.toNat]?==some g && (!decide (t=g) && decide (t∈ws.getD k.toNat [])))))=_
 rw [decide_eq_true k0,decide_eq_true k1,eh]
 have e1:ws.getD k.toNat []=l:=by rw [Qn,el]; rfl
 rw [e1]
 have e2:(some h==some g)=decide (V.int h=V.int g):=by
  by_cases z:h=g
  ·subst z; simp
  ·rw [decide_eq_false (λq=>z (V.int.inj q))]; simpa using z
 have e3:decide (t=g)=decide (V.int t=V.int g):=by
  by_cases z:t=g
  ·subst z; simp
  ·rw [decide_eq_false z,decide_eq_false (λq=>z (V.int.inj q))]
 have e4:decide (t∈l)=l.any (·==t):=by
  rw [Xf,decide_eq_true_iff,Xg]
  constructor
  ·intro h; exact ⟨t,h,by simp⟩
  ·rintro ⟨y,hy,e⟩; have:y=t:=by simpa using e
   rw [<- this]; exact hy
 rw [e2,e3,e4]
 rfl
theorem aGK (G:Fn K mg "is_step" wD ["book", "deal", "step"] f fd) (B:Bl mg) (R:Pr K mg fW fH fK fB jn fD jy fL dW dH dK dB jo dD jz dL):c_ P w K mg base fc 2 f fd ["book", "deal", "step"] (P8 K):=by
 have OW:c_ P w K mg base fc 1 fW dW ["thing"] (iL K):=iC R.W B
 refine G.fn.oK yF λft A outer s H vs Q E hr h=>?_
 ·obtain ⟨x,y,b,n,ws,hs,l,rfl,g,hb,hl,k⟩:=h
  have r1:ee 1 _:=hr
  refine ⟨_,(aE (bU (PW.pt (fT (cF (cB (aO cG rfl B.isinstance jH (aA (pv 2) (aA (eZ (v:=.ty "tuple") rfl B.tuple cM rfl) aC))))) (eN (aU kS (aO bE rfl B.len gE (aA (pv 2) aC)) aK gm))))
   (aH (aN bP))
   aW)
  (aE (bU (cF (cB (aO (eW rfl) rfl B.all mV (aA (bX (own:=["part"]) (fr:=[]) (fm:=[]) (aY (aF wD) ["book", "deal", "step", "work", "giver", "taker"] rfl rfl (by decide +kernel)) rfl (eI (pv 2))
    (λ_ _ _ _=>(aI (i:=0) (show (["part"]:List ax).Nodup by decide +kernel) rfl fi)) (λ_ _ _ _=>cP)
    (λ_ _ _ _=>(aX R.W OW r1 rfl (aA (pv 0) aC)))) aC))))
   (aH (aN bP))
   aW)
  (aE (iG (pv 2) (dO rfl (aM (aI (i:=3) yF.nd rfl fi) (aM (aI (i:=4) yF.nd rfl fi) (aM (aI (i:=5) yF.nd rfl fi) bV)))))
  (aE (bU (cF (aEf nW yY aK (pv 3) (aO bE rfl B.len gE (aA (pv 1) aC))))
   (aH (aN bP))
   aW)
  (aH (aN (kY (dX mO (bC bQ (pv 1) (pv 3) lj) (pv 4) gm) (kY (dX kS (pv 5) (pv 4) gm) (nC (dX pM (pv 5) (bC bQ (bC bQ (pv 0) aK il) (pv 3) lj) (by with_unfolding_all rfl))))))))))),?_⟩
  refine ⟨_,rfl,.ref b,.tup,rfl,.inr (.inl ⟨rfl,_,hb⟩),true,rfl,?_⟩
  refine fZ ?_
  refine ⟨_,rfl,b,_,rfl,.inr hb,rfl,_,rfl,?_⟩
  refine eK (λc=>?_) (λc=>?_)
  ·have f':l.length≠3:=λz=>by rw [Qa,z] at c; simp at c
   rw [aDC f'] at k
   exact k H (aD.refl H)
  have h3:l.length=3:=by
   have:V.int ((l.map V.int).length:Nat)=V.int 3:=by simpa using c
   have:=V.int.inj this
   rw [Qa] at this
   omega
  obtain ⟨wk,gv,tk,rfl⟩:=f? h3
  refine ⟨_,rfl,b,rfl,⟨_,hb⟩,hV (K:=K) (a:=b) (xs:=[V.int wk,V.int gv,V.int tk]) (λσ=>σ.length=1) (λi ys H'=>ys=(List.replicate i true).map V.bl/\aD H H') (eG (show 3<=1000 by decide)) rfl ⟨rfl,aD.refl H⟩ (λi ys H' p=>by rw [p.1]; simp) (λi ys H' p=>p.2.d0 hb) (λi ys σ x H' hx jc p hz=>?_) (λys H' p=>?_)⟩
  ·obtain ⟨v,rfl⟩:∃ v,σ = [v]:=by match σ,jc with | [v],_=>exact ⟨v,rfl⟩
   obtain ⟨q1,q2⟩:=p
   obtain ⟨m,rfl⟩:∃ m,x=.int m:=by
    have hm:=Qe hx
    simp only [Ql,Qp,or_false] at hm
    rcases hm with rfl | rfl | rfl
    ·exact ⟨_,rfl⟩
    ·exact ⟨_,rfl⟩
    ·exact ⟨_,rfl⟩
   refine cQ ?_
   refine ⟨_,rfl,.int m,.int m,rfl,dM.mpr rfl,hz,rfl,?_,q2⟩
   rw [q1,List.replicate_succ',Qo]
   rfl
  ·obtain ⟨rfl,s1⟩:=p
   intro p hp
   have s2:=aD.new (o:=.lst ((List.replicate [V.int wk,V.int gv,V.int tk].length true).map V.bl)) hp
   refine ⟨p,List.replicate 3 true,rfl,fh.of aB,_,rfl,?_⟩
   refine fZ ?_
   have s3:=s1.trans s2
   generalize upd H' p (.lst ((List.replicate [V.int wk,V.int gv,V.int tk].length true).map V.bl))=H2 at s2 s3 ⊢
   refine ⟨_,rfl,b,_,rfl,s3.d0 hb,rfl,_,_,rfl,_,_,rfl,_,_,rfl,rfl,?_⟩
   have g3:=g.same s3
   obtain ⟨jk,Ae⟩:=aV g.2.2.2
   obtain ⟨ba,bb,ys2,rfl,ha,ia,ij⟩:=cI g3.1
   obtain ⟨c,rfl,hc⟩:=aR.mp g3.2.2.1
   refine ⟨_,rfl,_,_,rfl,rfl,_,rfl,?_⟩
   by_cases k0:0<=wk
   ·rw [decide_eq_true k0]
    refine gA ?_
    refine ⟨_,rfl,c,_,rfl,.inr hc,_,_,rfl,rfl,_,rfl,?_⟩
    rw [Qa]
    by_cases k1:wk < hs.length
    ·rw [decide_eq_true k1]
     refine fZ ?_
     have ff:wk.toNat < hs.length:=by omega
     have eh:=Qc ff
     have el:=Qc (l:=ws) (i:=wk.toNat) (by omega)
     obtain ⟨cw,e1,e2⟩:=kL ij el
     have sv:=aFj (g:=gv) (t:=tk) k0 k1 eh el
     have kk:=k H2 s3
     rw [sv] at kk
     refine ⟨_,rfl,_,rfl,c,_,_,_,rfl,rfl,hc,tQ k0 eh,_,rfl,rfl,_,rfl,?_⟩
     refine eK (λc1=>?_) (λc1=>?_)
     ·rw [c1] at kk
      refine ⟨_,rfl,_,rfl,rfl,_,rfl,?_⟩
      refine eK (λc2=>?_) (λc2=>?_)
      ·rw [c2] at kk
       refine ⟨_,rfl,_,rfl,ba,_,1,.ref bb,rfl,rfl,ha,rfl,_,rfl,bb,_,_,_,rfl,rfl,ia,Z? k0 e1,cw,_,rfl,.inr e2,rfl,mC _,?_⟩
       rw [show xt (V.int tk) (ws[wk.toNat].map V.int)=_ from mF tk _]
       exact kk
      ·rw [Zl] at c2
       rw [c2] at kk
       exact kk
     ·rw [Zl] at c1
      rw [c1] at kk
      exact kk
    ·rw [decide_eq_false k1]
     refine gA ?_
     have e:eY ws hs [wk,gv,tk]=false:=by
      show (decide (0<=wk) && (decide (wk < hs.length) && _))=false
      rw [decide_eq_false k1]; simp
     rw [e] at k
     exact k H2 s3
   ·rw [decide_eq_false k0]
    refine fZ ?_
    refine ⟨_,rfl,?_⟩
    refine gA ?_
    have e:eY ws hs [wk,gv,tk]=false:=by
     show (decide (0<=wk) && _)=false
     rw [decide_eq_false k0]; rfl
    rw [e] at k
    exact k H2 s3
theorem aBG {L:List (List Int)} (h:L≠[]):(bW L).length=L.length+1:=by
 cases L with
 | nil=>exact absurd rfl h
 | cons s r=>simp [bW]
def FR (K:Rc):Sp:=λvs H Q _=>∃ x y p xs n ws hs L,vs = [x,y,.ref p]/\dQ K H x y n ws hs/\fh K H p xs/\bF K H (L.map bY) xs/\L.length<=30/\(∀ l∈L,l.length<=1000)/\∀ H',aD H H'->Q (.bl (mM ws hs L)) H'
theorem JJ:dz ["book", "deal", "some", "passed", "follow"] ["book", "deal", "some"] (aF Al):=.of
theorem P6 {fS:ae} {dS:bo} (G:Fn K mg "is_way" Al ["book", "deal", "some"] f fd) (B:Bl mg) (R:Pr K mg fW fH fK fB jn fD jy fL dW dH dK dB jo dD jz dL) (GS:Fn K mg "is_step" wD ["book", "deal", "step"] fS dS):c_ P w K mg base fc 7 f fd ["book", "deal", "some"] (FR K):=by
 have OS:c_ P w K mg base fc 2 fS dS ["book", "deal", "step"] (P8 K):=aGK GS B R
 have OND:c_ P w K mg base fc 6 jy jz ["book", "deal"] (yD K):=Sd B R
 refine G.fn.oK JJ λft A outer s H vs Q E hr h=>?_
 ·obtain ⟨x,y,p,xs,n,ws,hs,L,rfl,g,hp,hd,hL,B0,k⟩:=h
  have r2:ee 2 _:=hr.mono (by decide)
  have r6:ee 6 _:=hr
  refine ⟨_,(aE (dJ (aX R.ND OND r6 rfl (aA (pv 0) (aA (pv 1) aC))))
  (aE (bU (PW.pt (fT (cF (cB (aO uS rfl B.isinstance jH (aA (pv 2) (aA (eZ (v:=.ty "list") rfl B.list P_ rfl) aC))))) (eN (aU mO (aO bE rfl B.len gE (aA (pv 2) aC)) aK gm))))
   (aH (aN bP))
   aW)
  (aE (bU (cF (cB (aO (eW rfl) rfl B.all mV (aA (bX (own:=["step"]) (fr:=[0,1]) (fm:=["book", "deal"]) (aY (aF Al) ["book", "deal", "some", "passed", "follow"] rfl rfl (by decide +kernel)) rfl (kH (pv 2))
    (λ_ _ _ _=>(aI (i:=0) (show (["step", "book", "deal"]:List ax).Nodup by decide +kernel) rfl fi)) (λ_ _ _ _=>cP)
    (λ_ _ _ _=>(aX GS OS r2 rfl (aA (pv 1) (aA (pv 2) (aA (pv 0) aC)))))) aC))))
   (aH (aN bP))
   aW)
  (aE (bA (i:=3) JJ.nd rfl fi (cR xB (eO (aA (bC bQ (bC gU (pv 2) aK il) aK il) aC)) (bX (own:=["step"]) (fr:=[]) (fm:=[]) (aY (aF Al) ["book", "deal", "some", "passed", "follow"] rfl rfl (by decide +kernel)) rfl (kH (pv 2))
    (λ_ _ _ _=>(aI (i:=0) (show (["step"]:List ax).Nodup by decide +kernel) rfl fi)) (λ_ _ _ _=>cP)
    (λ_ _ _ _=>(bC (cN (K:=K) rfl) (pv 0) aK il)))))
  (aE (bA (i:=4) JJ.nd rfl fi (aO (eW rfl) rfl B.all mV (aA (bX (own:=["step", "hand"]) (fr:=[]) (fm:=[]) (aY (aF Al) ["book", "deal", "some", "passed", "follow"] rfl rfl (by decide +kernel)) rfl (nH .l .l rfl B.zip (aA (pv 2) (aA (pv 3) aC)))
    (λ_ _ _ _=>(oQ (K:=K) (n:=2) rfl rfl (aM (aI (i:=0) (show (["step", "hand"]:List ax).Nodup by decide +kernel) rfl fi) (aM (aI (i:=1) (show (["step", "hand"]:List ax).Nodup by decide +kernel) rfl fi) bV)))) (λ_ _ _ _=>cP)
    (λ_ _ _ _=>(dX mO (bC (cN (K:=K) rfl) (pv 0) aK il) (pv 1) gm))) aC)))
  (aH (aN (kY (pv 4) (nC (dX mO (aO uY rfl B.len gE (aA (cK (aC9 (K:=K) rfl rfl) rfl B.set D! (aA (pv 3) aC)) aC)) (aO bE rfl B.len gE (aA (pv 3) aC)) gm)))))))))),?_⟩
  refine ⟨_,rfl,_,rfl,x,y,n,ws,hs,rfl,g,λH1 s1=>?_⟩
  have uq:=aP hd
  rw [Qa] at uq
  have js:=s1.iy hp
  have Af:=s1.gn _ _ hd
  refine ⟨_,rfl,.ref p,.lst,rfl,.inl ⟨rfl,_,js⟩,true,rfl,?_⟩
  refine fZ ?_
  refine ⟨_,rfl,p,_,rfl,.inl js,rfl,_,rfl,?_⟩
  refine eK (λc=>?_) (λc=>?_)
  ·have e0:L = []:=by
    have:V.int (xs.length:Nat)=V.int 0:=by simpa using c
    have:=V.int.inj this
    exact Jq.mp (by omega)
   subst e0
   exact k H1 s1
  have f':L≠[]:=λz=>by
   subst z
   have:xs.length=0:=by simpa using uq
   rw [this] at c
   simp at c
  have g1:=g.same s1
  refine ⟨_,rfl,p,rfl,⟨_,js⟩,Sw (K:=K) (a:=p) (xs:=xs) (vs:=(L.map (eY ws hs)).map V.bl) (λσ=>∃ v,σ = [v,some x,some y]) (by omega) (by simp [uq]) js ⟨none,rfl⟩ ?_ ?_⟩
  ·rintro i u v σ H2 hu hv ⟨v0,rfl⟩ s2 Q' k'
   have ff:i < L.length:=by have:=(Qb.mp hu).1; omega
   have el:L[i]?=some L[i]:=Qc ff
   obtain ⟨c1,e1,e2⟩:=kL (s2.gn _ _ Af) el
   rw [hu] at e1
   obtain rfl:=Option.some.inj e1
   have ev:v=.bl (eY ws hs L[i]):=by
    rw [Qd,Qd,el] at hv
    exact (Option.some.inj hv).symm
   subst ev
   refine ⟨_,rfl,_,rfl,_,rfl,x,y,c1,n,ws,hs,L[i],rfl,g1.same s2,e2,B0 _ (Jr ff),λH3 s3=>?_⟩
   exact k' _ H3 ⟨_,rfl⟩ s3
  ·intro H2 s2 q hq
   refine ⟨q,L.map (eY ws hs),rfl,fh.of aB,_,rfl,?_⟩
   have s3:=s2.trans (aD.new (o:=.lst ((L.map (eY ws hs)).map V.bl)) hq)
   generalize upd H2 q (.lst ((L.map (eY ws hs)).map V.bl))=H3 at s3 ⊢
   have LM:(L.map (eY ws hs)).all id=L.all (eY ws hs):=by rw [Zb]; rfl
   rw [LM]
   by_cases ha:L.all (eY ws hs)=true
   ·rw [ha]
    refine fZ ?_
    have fj:∀ st∈L,eY ws hs st=true:=λst h=>Qy.mp ha st h
    have og:∀ {H':Hp},aD H3 H'->fh K H' p xs:=λz=>z.iy (s3.iy js)
    have AV:∀ {H':Hp} {i:Nat} {u:V},aD H3 H'->xs[i]?=some u->∃ (c:ae) (st:List Int) (kk gg tt:Int),u=.ref c/\L[i]?=some st/\st = [kk,gg,tt]/\d_ K H' c [.int kk,.int gg,.int tt]:=λ{H' i u} z hu=>by
     have ff:i < L.length:=by have:=(Qb.mp hu).1; omega
     have el:L[i]?=some L[i]:=Qc ff
     obtain ⟨c1,e1,e2⟩:=kL (z.gn _ _ (s3.gn _ _ Af)) el
     rw [hu] at e1
     obtain ⟨kk,gg,tt,e3⟩:=wH (fj _ (Jr ff))
     rw [e3] at e2
     exact ⟨c1,L[i],kk,gg,tt,Option.some.inj e1,el,e3,e2⟩
    have h0:0 < xs.length:=by
     have:=Zj.mpr f'
     omega
    obtain ⟨c0,EN,k0,g0,t0,e0,Y',Y8,q0⟩:=AV (aD.refl H3) (Qc h0)
    refine ⟨_,rfl,p,_,0,.ref c0,rfl,rfl,og (aD.refl H3),bZ (by rw [Qc h0,e0]),c0,_,1,.int g0,rfl,rfl,q0,rfl,um _,λl1 xc=>?_⟩
    have s4:=aD.new (o:=.lst [.int g0]) xc
    have a4:upd H3 l1 (.lst [.int g0]) l1=some (.lst [.int g0]):=aB
    generalize upd H3 l1 (.lst [.int g0])=H4 at s4 a4 ⊢
    refine ⟨_,rfl,p,rfl,⟨_,og s4⟩,Sw (K:=K) (a:=p) (xs:=xs) (vs:=(L.map qB).map V.int) (λσ=>∃ v,σ = [v]) (by omega) (by simp [uq]) (og s4) ⟨none,rfl⟩ ?_ ?_⟩
    ·rintro i u v σ H5 hu hv ⟨v0,rfl⟩ s5 Q' k'
     obtain ⟨c1,st,kk,gg,tt,rfl,el,rfl,q1⟩:=AV (s4.trans s5) hu
     have ev:v=.int tt:=by
      rw [Qd,Qd,el] at hv
      exact (Option.some.inj hv).symm
     subst ev
     exact ⟨_,rfl,c1,_,2,.int tt,rfl,rfl,q1,rfl,k' _ H5 ⟨_,rfl⟩ (aD.refl H5)⟩
    ·intro H5 s5 l2 xb
     have s6:=aD.new (o:=.lst ((L.map qB).map V.int)) xb
     have a6:=s6 _ _ (s5 _ _ a4)
     have b6:upd H5 l2 (.lst ((L.map qB).map V.int)) l2=some (.lst ((L.map qB).map V.int)):=aB
     generalize upd H5 l2 (.lst ((L.map qB).map V.int))=H6 at s6 a6 b6 ⊢
     refine ⟨l1,l2,_,_,rfl,rfl,a6,b6,JY (by simp; omega),λl3 Dl=>?_⟩
     have EC : [V.int g0]++(L.map qB).map V.int=(bW L).map V.int:=by
      cases L with
      | nil=>exact absurd rfl f'
      | cons s r =>
       have:s=EN:=Option.some.inj Y'
       subst this
       rw [Y8]
       rfl
     rw [EC]
     have s7:=aD.new (o:=.lst ((bW L).map V.int)) Dl
     have b7:upd H6 l3 (.lst ((bW L).map V.int)) l3=some (.lst ((bW L).map V.int)):=aB
     generalize upd H6 l3 (.lst ((bW L).map V.int))=H7 at s7 b7 ⊢
     have ES:=((s4.trans s5).trans s6).trans s7
     have pl:=aBG f'
     refine ⟨_,rfl,_,rfl,p,l3,xs,_,rfl,og ES,fh.of b7,aEI (K:=K) (k1:=.l) (k2:=.l) (a:=p) (b:=l3) (xs:=xs) (zs:=(bW L).map V.int) (vs:=((L.zip (bW L)).map λq=>jP q.1==q.2).map V.bl) (λσ=>∃ u v,σ = [u,v]) (by omega) (by simp; omega) (by simp [pl]; omega)
      (λH' z=>⟨og (ES.trans z),fh.of (z _ _ b7)⟩) ⟨none,none,rfl⟩ ?_ ?_⟩
     ·rintro i u z v q σ H8 hu hz hv hq ⟨u0,v0,rfl⟩ s8 Q' k'
      have s9:=aD.new (o:=.tup [u,z]) hq
      obtain ⟨c1,st,kk,gg,tt,rfl,el,rfl,q1⟩:=AV ((ES.trans s8).trans s9) hu
      obtain ⟨zz,wy,rfl⟩:∃ zz,(bW L)[i]?=some zz/\V.int zz=z:=by
       rw [Qd] at hz
       cases e:(bW L)[i]? with
       | none=>rw [e] at hz; cases hz
       | some zz=>rw [e] at hz; exact ⟨zz,rfl,Option.some.inj hz⟩
      have ev:v=.bl (gg==zz):=by
       have e1:(L.zip (bW L))[i]?=some ([kk,gg,tt],zz):=by rw [Qz]; exact ⟨el,wy⟩
       rw [Qd,Qd,e1] at hv
       exact (Option.some.inj hv).symm
      subst ev
      refine ⟨q,_,rfl,d_.of aB,rfl,_,_,rfl,_,_,rfl,rfl,?_⟩
      refine ⟨_,rfl,c1,_,1,.int gg,rfl,rfl,q1,rfl,_,rfl,rfl,?_⟩
      have eb:decide (V.int gg=V.int zz)=(gg==zz):=by
       by_cases e:gg=zz
       ·subst e; simp
       ·rw [decide_eq_false (λq=>e (V.int.inj q))]; exact (beq_eq_false_iff_ne.mpr e).symm
      rw [eb]
      exact k' _ _ ⟨_,_,rfl⟩ s9
     ·intro H8 s8 l4 vf
      refine ⟨l4,(L.zip (bW L)).map (λq=>jP q.1==q.2),rfl,fh.of aB,?_⟩
      have s9:=s8.trans (aD.new (o:=.lst (((L.zip (bW L)).map λq=>jP q.1==q.2).map V.bl)) vf)
      generalize upd H8 l4 (.lst (((L.zip (bW L)).map λq=>jP q.1==q.2).map V.bl))=H9 at s9 ⊢
      have ef:((L.zip (bW L)).map λq=>jP q.1==q.2).all id=rW L:=by rw [Zb]; rfl
      rw [ef]
      have kk:=λH' (z:aD H9 H')=>k H' ((s1.trans (s3.trans ES)).trans (s9.trans z))
      have ew:mM ws hs L=(rW L && decide ((bW L).Nodup)):=by
       unfold mM
       rw [ha]
       cases L with
       | nil=>exact absurd rfl f'
       | cons _ _=>rfl
      rw [ew] at kk
      refine ⟨_,rfl,_,rfl,?_⟩
      refine eK (λc1=>?_) (λc1=>?_)
      ·rw [c1] at kk
       refine ⟨_,rfl,l3,bW L,rfl,fh.of (s9 _ _ b7),by omega,λl5 WV=>?_⟩
       have n_:=aD.new (o:=.set (λk=>decide (k∈bW L)) (nI (bW L))) WV
       refine ⟨l5,_,_,rfl,aB,_,rfl,l3,_,rfl,.inl (fh.of (n_ _ _ (s9 _ _ b7))),rfl,?_⟩
       have e2:decide (V.int (nI (bW L):Nat)=V.int ((bW L).map V.int).length)=decide ((bW L).Nodup):=by
        rw [Xf,decide_eq_true_iff,decide_eq_true_iff,<- aBn,Qa]
        constructor
        ·intro z; have:=V.int.inj z; omega
        ·intro z; rw [z]
       rw [e2]
       exact kk _ n_
      ·rw [Zl] at c1
       rw [c1] at kk
       exact kk H9 (aD.refl _)
   ·rw [Zl] at ha
    rw [ha]
    refine gA ?_
    have e:mM ws hs L=false:=by unfold mM; rw [ha]; simp
    rw [e] at k
    exact k H3 (s1.trans s3)
end Ab
namespace Ab
def iD (ws:List (List Int)) (hs:List Int) (g:Int) (w:Nat) (t:Int):Prop:=hs[w]?=some g/\∃ l,ws[w]?=some l/\t∈l/\t≠g
def RL (ws:List (List Int)) (hs:List Int):Nat->Int->Int->Prop
 | 0,h,x=>h=x
 | k+1,h,x=>h=x∨∃ w o,iD ws hs h w o/\RL ws hs k o x
def fP (ws:List (List Int)) (hs:List Int):Int->List (Nat×Int×Int)->Int->Prop
 | h,[],x=>h=x
 | h,s::r,x=>s.2.1=h/\iD ws hs h s.1 s.2.2/\fP ws hs s.2.2 r x
theorem RL.refl:∀ (k:Nat) (h:Int),RL ws hs k h h
 | 0,_=>rfl
 | _+1,_=>.inl rfl
theorem RL.succ:∀ {k:Nat} {h x:Int},RL ws hs k h x->RL ws hs (k+1) h x
 | 0,_,_,e=>.inl e
 | k+1,_,_,.inl e=>.inl e
 | k+1,_,_,.inr ⟨w,o,e,r⟩=>.inr ⟨w,o,e,RL.succ r⟩
theorem RL.mono {k m:Nat} {h x:Int} (r:RL ws hs k h x) (le:k<=m):RL ws hs m h x:=by
 induction le with
 | refl=>exact r
 | step _ ih=>exact ih.succ
theorem RL.snoc:∀ {k:Nat} {h g t:Int} {w:Nat},RL ws hs k h g->iD ws hs g w t->RL ws hs (k+1) h t
 | 0,_,_,_,w,e,d=>by subst e; exact .inr ⟨w,_,d,rfl⟩
 | k+1,_,_,_,w,.inl e,d=>by subst e; exact .inr ⟨w,_,d,RL.refl _ _⟩
 | k+1,_,_,_,_,.inr ⟨w',o,e,r⟩,d=>.inr ⟨w',o,e,RL.snoc r d⟩
theorem RL.closed {S:Int->Prop} (hc:∀ g w t,S g->iD ws hs g w t->S t):∀ {k:Nat} {h x:Int},S h->RL ws hs k h x->S x
 | 0,_,_,s,e=>e ▸ s
 | _+1,_,_,s,.inl e=>e ▸ s
 | _+1,_,_,s,.inr ⟨w,o,e,r⟩=>RL.closed hc (hc _ w o s e) r
def lL (ws:List (List Int)) (hs:List Int) (n:Nat) (h v:Int):Prop:=(∃ x,RL ws hs n h x/\v=((hs.count x:Nat):Int))/\∀ k x,RL ws hs k h x->v<=((hs.count x:Nat):Int)
theorem lL.le {n:Nat} {h v:Int} (m:lL ws hs n h v):v<=((hs.count h:Nat):Int):=m.2 0 h rfl
theorem lL.uk {n:Nat} {h o v u:Int} {w:Nat} (m:lL ws hs n h v) (m2:lL ws hs n o u) (e:iD ws hs h w o):v<=u:=by
 obtain ⟨x,r,rfl⟩:=m2.1
 exact m.2 (n+1) x (show RL ws hs (n+1) h x from .inr ⟨w,o,e,r⟩)
def cJ (n:Int) (ws:List (List Int)) (hs lv:List Int):Prop:=lv.length=n.toNat/\∀ (h:Nat) (v:Int),lv[h]?=some v->lL ws hs n.toNat h v/\((hs.count (h:Int):Nat):Int) - v < 2
def kT (n:Int) (ws:List (List Int)) (hs:List Int) (ss:List (Nat×Int×Int)):Prop :=
 ∃ h x,ss≠[]/\fP ws hs h ss x/\(h::ss.map (·.2.2)).Nodup/\0<=h/\h < n/\RL ws hs n.toNat h x/\2<=((hs.count h:Nat):Int) - ((hs.count x:Nat):Int)
theorem jY:∀ (n:Nat) (l:List Int),l.Nodup->(∀ x∈l,0<=x/\x < (n:Int))->l.length<=n
 | 0,[],_,_=>Qh _
 | 0,x::_,_,h=>by have:=h x (.head _); omega
 | n+1,l,hn,h=>by
  by_cases hm:(n:Int)∈l
  ·have h1:=jY n (l.erase (n:Int)) (hn.erase _) λx hx=>by
    have h2:=(hn.mem_erase_iff).mp hx
    have h3:=h x h2.2
    have:=h2.1
    omega
   rw [Wd hm] at h1
   omega
  ·have h1:=jY n l hn λx hx=>by
    have h3:=h x hx
    have:x≠(n:Int):=λz=>hm (z ▸ hx)
    omega
   omega
end Ab
namespace L2
open PySem
theorem aD.wr {u:HO} (e:aD H H') (h:H a=none):aD H (upd H' a u):=λb o q=>by
 rw [aG (λz=>by rw [z,h] at q; cases q)]
 exact e b o q
end L2
namespace Ab
open PySem L2
theorem jI {xs:List Int} (h:(xs.map V.int)[i]?=some v):∃ a,xs[i]?=some a/\v=.int a:=by
 rw [Qd] at h
 cases q:xs[i]? with
 | none=>rw [q] at h; cases h
 | some a=>rw [q] at h; exact ⟨a,rfl,(Option.some.inj h).symm⟩
theorem SO {xs:List Int} {h:Int} (h0:0<=h) (h1:h < xs.length):k4 (xs.map V.int) h=some (.int (xs.getD h.toNat 0)):=by
 have ff:h.toNat < xs.length:=by omega
 have h2:=bZ (xs:=xs.map V.int) (j:=h.toNat) (v:=.int (xs.getD h.toNat 0)) (by rw [Qd,Qc ff,Qn,Qc ff]; rfl)
 rwa [show ((h.toNat:Nat):Int)=h by omega] at h2
theorem P5 {n:Nat} {k:Int} (h0:0<=k) (h1:k < n):tu n k=some k.toNat:=by
 unfold tu
 rw [if_pos h0,if_pos (by omega)]
def tR (E:Nat->Int->Prop) (r:List (Key×V)):Prop:=(∀ k v,dP r k=some v->∃ (w:Nat) (t:Int),k=.inl t/\v=.int (w:Nat)/\E w t)/\∀ w t,E w t->(dP r (.inl t)).isSome=true
theorem tR.nil {E:Nat->Int->Prop} (h:∀ w t,¬ E w t):tR E []:=⟨λk v e=>(by rw [aEO] at e; cases e),λw t e=>(h w t e).elim⟩
theorem tR.put {E:Nat->Int->Prop} {r:List (Key×V)} (h:tR E r) (w:Nat) (t:Int):tR (λw' t'=>E w' t'∨(w'=w/\t'=t)) (jC r (.inl t) (.int (w:Nat))):=by
 refine ⟨λk v e=>?_,λw' t' e=>?_⟩
 ·rw [Su] at e
  by_cases hk:k=Sum.inl t
  ·rw [if_pos hk] at e
   exact ⟨w,t,hk,(Option.some.inj e).symm,.inr ⟨rfl,rfl⟩⟩
  ·rw [if_neg hk] at e
   obtain ⟨w',t',h1,h2,h3⟩:=h.1 k v e
   exact ⟨w',t',h1,h2,.inl h3⟩
 ·rw [Su]
  by_cases hk:(Sum.inl t':Key)=Sum.inl t
  ·rw [if_pos hk]; rfl
  ·rw [if_neg hk]
   rcases e with e | ⟨_,e⟩
   ·exact h.2 w' t' e
   ·exact absurd (by rw [e]) hk
theorem tR.congr {E E':Nat->Int->Prop} {r:List (Key×V)} (h:tR E r) (e:∀ w t,E w t↔E' w t):tR E' r:=⟨λk v q=>let ⟨w,t,a,b,c⟩:=h.1 k v q; ⟨w,t,a,b,(e w t).mp c⟩,λw t q=>h.2 w t ((e w t).mpr q)⟩
structure Rows (H:Hp) (rp:ae) (qs:List ae) (rs:List (List (Key×V))):Prop where
 lst:H rp=some (.lst (qs.map V.ref))
 len:qs.length=rs.length
 nd:qs.Nodup
 row:∀ (g:Nat) q r,qs[g]?=some q->rs[g]?=some r->H q=some (.dK r)
theorem Rows.same {rp:ae} {rs:List (List (Key×V))} (h:Rows H rp qs rs) (s:aD H H'):Rows H' rp qs rs:=⟨s _ _ h.lst,h.len,h.nd,λg q r a b=>s _ _ (h.row g q r a b)⟩
theorem Rows.put {rp:ae} {rs:List (List (Key×V))} (h:Rows H rp qs rs) {g:Nat} {q:ae} {r r':List (Key×V)} (hq:qs[g]?=some q) (hr:rs[g]?=some r):Rows (upd H q (.dK r')) rp qs (rs.set g r'):=by
 have hg:=h.row g q r hq hr
 have nq:rp≠q:=λz=>by have:=h.lst; rw [z,hg] at this; cases this
 refine ⟨by rw [aG nq]; exact h.lst,by rw [Ze]; exact h.len,h.nd,λg2 q2 r2 h1 h2=>?_⟩
 rw [Xv] at h2
 by_cases e:g=g2
 ·subst e
  rw [if_pos rfl] at h2
  rw [hq] at h1
  cases h1
  by_cases hl:g < rs.length
  ·rw [if_pos hl] at h2; cases h2; exact aB
  ·rw [if_neg hl] at h2; cases h2
 ·rw [if_neg e] at h2
  have n2:q2≠q:=λz=>by
   subst z
   have ff:g < qs.length:=(Qb.mp hq).1
   exact e ((We ff h.nd).mp (hq.trans h1.symm))
  rw [aG n2]
  exact h.row g2 q2 r2 h1 h2
def tS (E:Int->Nat->Int->Prop) (rs:List (List (Key×V))) (m:Nat):Prop:=∀ (g:Nat) r,rs[g]?=some r->tR (E g) r/\r.length<=m
def wI (K:Rc):Sp:=λvs H Q _=>∃ x y n ws hs,vs = [x,y]/\dQ K H x y n ws hs/\∀ rp H' qs rs,aD H H'->H rp=none->(∀ q∈qs,H q=none)->Rows H' rp qs rs->rs.length=n.toNat->tS (iD ws hs) rs 100->Q (.ref rp) H'
theorem dU:dz ["book", "deal", "rows", "work", "giver", "able", "taker"] ["book", "deal"] (aF iA):=.of
theorem aBH (G:Fn K mg "handing" iA ["book", "deal"] f fd) (B:Bl mg):c_ P w K mg base fc 1 f fd ["book", "deal"] (wI K):=by
 refine G.fn.oK dU λft A outer s H vs Q E hr h=>?_
 ·obtain ⟨x,y,n,ws,hs,rfl,g,k⟩:=h
  refine ⟨_,(aE (nF (i:=2) (own:=["hand"]) (fr:=[]) (fm:=[]) (aY (aF iA) ["book", "deal", "rows", "work", "giver", "able", "taker"] rfl rfl (by decide +kernel)) rfl dU.nd rfl rfl rfl (fU rfl B.range (aA (bC bQ (pv 0) aK il) aC))
    (λ_ _ _ _=>(aI (i:=0) (show (["hand"]:List ax).Nodup by decide +kernel) rfl fi)) (λ_ _ _ _=>cP)
    (λ_ _ _ _=>Sq))
   (aE (eJ az.never rfl (sV .t .t rfl B.enumerate rfl B.zip (aA (pv 1) (aA (bC bQ (pv 0) aK il) aC))) (dO rfl (aM (aI (i:=3) dU.nd rfl fi) (aM (dO rfl (aM (aI (i:=4) dU.nd rfl fi) (aM (aI (i:=5) dU.nd rfl fi) bV))) bV)))
    (aH (eJ az.never rfl (eI (pv 5)) (aI (i:=6) dU.nd rfl fi)
     (aH (bU (aU kS (pv 6) (pv 4) gm)
      (aH (rR (jD hr) (bC gU (pv 2) (pv 4) lj) (pv 6) (pv 3) rfl))
      aW)))))
   (aH (aN (pv 2))))),?_⟩
  obtain ⟨ny,mi,km⟩:=g.len
  obtain ⟨a,b,ys,rfl,ha,ia,ij⟩:=cI g.1
  obtain ⟨c0,rfl,qv⟩:=aR.mp g.2.2.1
  obtain ⟨jk,Ae⟩:=aV g.2.2.2
  obtain ⟨_,_,iz,ip⟩:=aT g.2.1
  have jt:=aP ij
  rw [Qa] at jt
  refine ⟨_,rfl,a,_,0,.int n,rfl,rfl,ha,rfl,n,rfl,by omega,by omega,gK (lo:=0) (n:=n.toNat) (λσ=>∃ v,σ = [v]) (λi zs H2=>∃ qs:List ae,zs=qs.map V.ref/\qs.length=i/\aD H H2/\qs.Nodup/\∀ q∈qs,H q=none/\H2 q=some (.dK [])) ?_ ⟨none,rfl⟩ ⟨[],rfl,rfl,aD.refl H,Zx,λ_ h=>(Qp h).elim⟩ ?_ ?_ ?_⟩
  ·rw [Rf]; omega
  ·rintro i zs H2 ⟨qs,rfl,hq,_⟩
   rw [Qa]; omega
  ·rintro i zs σ H2 hi ⟨v,rfl⟩ ⟨qs,rfl,hq,s2,nd,ky⟩ hz
   refine cQ ?_
   intro p hp
   refine ⟨hz,⟨_,rfl⟩,qs++[p],by rw [Qo]; rfl,by rw [Qj,hq]; rfl,s2.trans (aD.new hp),?_,λq w_=>?_⟩
   ·rw [Yg]
    refine ⟨nd,by simp,λx hx y hy e=>?_⟩
    rw [Qr.mp hy] at e
    have:=(ky x hx).2
    rw [e,hp] at this; cases this
   ·rcases Jk.mp w_ with h | h
    ·exact ⟨(ky q h).1,(aD.new hp) _ _ (ky q h).2⟩
    ·rw [Qr.mp h]
     exact ⟨s2.free hp,aB⟩
  ·rintro zs H2 ⟨qs,rfl,hq,s2,nd,ky⟩ rp w9
   have s3:=s2.trans (aD.new (o:=.lst (qs.map V.ref)) w9)
   have y3:H rp=none:=s2.free w9
   have R3:Rows (upd H2 rp (.lst (qs.map V.ref))) rp qs (List.replicate n.toNat []):=⟨aB,by rw [Jw]; exact hq,nd,λg q r h1 h2=>by
    have er:r = []:=by
     rw [Jz] at h2
     split at h2
     ·exact (Option.some.inj h2).symm
     ·cases h2
    rw [er]
    exact (aD.new w9) _ _ (ky q (Qe h1)).2⟩
   generalize upd H2 rp (.lst (qs.map V.ref))=H3 at s3 R3 ⊢
   have h6:∀ l∈ws,l.length<=6:=λl hl=>by
    obtain ⟨_,w2,w3⟩:=aZ (ip l hl)
    have:=iY (by omega) w2 w3
    omega
   refine ⟨_,rfl,_,rfl,a,_,1,.ref b,rfl,rfl,s3.d0 ha,rfl,c0,b,_,_,rfl,s3.d0 qv,s3.d0 ia,qW (K:=K) (k1:=.t) (k2:=.t) (a:=c0) (b:=b) (xs:=hs.map V.int) (ys:=ys)
    (λi σ H4=>(∃ v3 v4 v5 v6,σ = [some (.ref a),some (.ref c0),some (.ref rp),v3,v4,v5,v6])/\aD H H4/\∃ rs,Rows H4 rp qs rs/\rs.length=n.toNat/\tS (λg w t=>w < i/\iD ws hs g w t) rs (6*i))
    (by rw [Qa]; omega) ⟨⟨_,_,_,_,rfl⟩,s3,_,R3,Jw,λg r hr=>?_⟩ (λ_ σ H4 _ ⟨_,s4,_⟩=>⟨s4.d0 qv,s4.d0 ia⟩) ?_ ?_⟩
   ·have er:r = []:=by
     rw [Jz] at hr
     split at hr
     ·exact (Option.some.inj hr).symm
     ·cases hr
    rw [er]
    exact ⟨tR.nil λw t h=>by omega,Jl _⟩
   ·rintro i u v p q σ H4 hu hv ⟨⟨v3,v4,v5,v6,rfl⟩,s4,rs,R4,vf,E4⟩ hp hq f'
    obtain ⟨h,hh,rfl⟩:=jI hu
    obtain ⟨dv,gk,i4⟩:=cD ij hv
    rw [Qd] at gk
    obtain ⟨l,hl,rfl⟩:∃ l,ws[i]?=some l/\bY l=dv:=by
     cases q:ws[i]? with
     | none=>rw [q] at gk; cases gk
     | some l=>rw [q] at gk; exact ⟨l,rfl,Option.some.inj gk⟩
    obtain ⟨aw,rfl,qw⟩:=aR.mp i4
    obtain ⟨Dp,Fm⟩:=g.hand hh
    have ya:=h6 l (Qe hl)
    have Ej:i < 12:=by
     have:=(Qb.mp hh).1
     omega
    have sp:=aD.new (o:=.tup [.int h,.ref aw]) hp
    have mh:upd H4 p (.tup [.int h,.ref aw]) q=none:=by rw [aG f']; exact hq
    have sq:=aD.new (o:=.tup [.int (i:Nat),.ref p]) mh
    have ep:upd (upd H4 p (.tup [.int h,.ref aw])) q (.tup [.int (i:Nat),.ref p]) p=some (.tup [.int h,.ref aw]):=sq _ _ aB
    have eq:upd (upd H4 p (.tup [.int h,.ref aw])) q (.tup [.int (i:Nat),.ref p]) q=some (.tup [.int (i:Nat),.ref p]):=aB
    have s5:=s4.trans (sp.trans sq)
    have R5:=R4.same (sp.trans sq)
    generalize upd (upd H4 p (.tup [.int h,.ref aw])) q (.tup [.int (i:Nat),.ref p])=H5 at ep eq s5 R5 ⊢
    refine ⟨q,_,rfl,d_.of eq,rfl,_,_,rfl,_,_,rfl,p,_,rfl,d_.of ep,rfl,_,_,rfl,_,_,rfl,rfl,rfl,?_⟩
    have A9:h.toNat < qs.length:=by rw [R5.len,vf]; omega
    obtain ⟨qh,x8⟩:∃ qh,qs[h.toNat]?=some qh:=⟨_,Qc A9⟩
    have jd:((h.toNat:Nat):Int)=h:=by omega
    refine ⟨_,rfl,aw,rfl,⟨_,s5.d0 qw⟩,nV (K:=K) (a:=aw) (xs:=l.map V.int) (λj σ H6=>(∃ v6,σ = [some (.ref a),some (.ref c0),some (.ref rp),some (.int (i:Nat)),some (.int h),some (.ref aw),v6])/\aD H H6/\∃ rs,Rows H6 rp qs rs/\rs.length=n.toNat/\tS (λg w t=>(w < i/\iD ws hs g w t)∨(w=i/\g=h/\t∈l.take j/\t≠h)) rs (6*i+j))
     ⟨⟨_,rfl⟩,s5,rs,R5,vf,λg r hr=>⟨(E4 g r hr).1.congr λw t=>⟨.inl,λz=>z.elim id λz=>by rw [Zo] at z; exact (Qp z.2.2.1).elim⟩,(E4 g r hr).2⟩⟩ (λ_ σ H6 _ ⟨_,s6,_⟩=>s6.d0 qw) ?_ ?_⟩
    ·rintro j tv σ H6 GZ ⟨⟨v6,rfl⟩,s6,rs,R6,kc,E6⟩
     obtain ⟨t,ht,rfl⟩:=jI GZ
     have hj:j < l.length:=(Qb.mp ht).1
     have gr:l.take (j+1)=l.take j++[t]:=by rw [Je,ht]; rfl
     refine ⟨_,rfl,_,rfl,rfl,_,rfl,?_⟩
     refine eK (λc=>?_) (λc=>?_)
     ·have A2:t≠h:=λz=>by rw [z] at c; simp at c
      obtain ⟨r,hr⟩:∃ r,rs[h.toNat]?=some r:=⟨_,Qc (by rw [kc]; omega)⟩
      have lg:k4 (qs.map V.ref) h=some (.ref qh):=by
       have:=bZ (xs:=qs.map V.ref) (j:=h.toNat) (v:=.ref qh) (by rw [Qd,x8]; rfl)
       rwa [jd] at this
      have l7:=R6.row _ _ _ x8 hr
      have WB:=(E6 _ _ hr).2
      have G':H qh=none:=(ky qh (Qe x8)).1
      refine ⟨_,rfl,_,rfl,_,rfl,rp,_,h,_,rfl,rfl,fh.of R6.lst,lg,_,rfl,qh,_,rfl,vB.k (k:=.inl t) l7 (by rw [Rf]; omega),?_⟩
      refine ⟨⟨_,rfl⟩,s6.wr G',rs.set h.toNat (jC r (.inl t) (.int (i:Nat))),R6.put x8 hr,by rw [Ze]; exact kc,λg2 r2 iq=>?_⟩
      rw [Xv] at iq
      by_cases eg:h.toNat=g2
      ·rw [if_pos eg,if_pos (by rw [kc]; omega)] at iq
       cases iq
       have HY:((g2:Nat):Int)=h:=by omega
       refine ⟨((E6 _ _ hr).1.put i t).congr λw t'=>?_,Jd (jF _ _ _) (by omega)⟩
       rw [jd,HY,gr]
       constructor
       ·rintro ((z | ⟨z1,z2,z3,z4⟩) | ⟨z1,z2⟩)
        ·exact .inl z
        ·exact .inr ⟨z1,z2,Jp _ z3,z4⟩
        ·exact .inr ⟨z1,rfl,by rw [z2]; simp,by rw [z2]; exact A2⟩
       ·rintro (z | ⟨z1,z2,z3,z4⟩)
        ·exact .inl (.inl z)
        ·rcases Jk.mp z3 with z3 | z3
         ·exact .inl (.inr ⟨z1,z2,z3,z4⟩)
         ·exact .inr ⟨z1,Qr.mp z3⟩
      ·rw [if_neg eg] at iq
       refine ⟨(E6 _ _ iq).1.congr λw t'=>?_,Jd (E6 _ _ iq).2 (by omega)⟩
       have ng:¬ ((g2:Nat):Int)=h:=by omega
       constructor
       ·rintro (z | ⟨_,z2,_⟩)
        ·exact .inl z
        ·exact absurd z2 ng
       ·rintro (z | ⟨_,z2,_⟩)
        ·exact .inl z
        ·exact absurd z2 ng
     ·have A2:t=h:=by simpa using c
      refine ⟨⟨_,rfl⟩,s6,rs,R6,kc,λg2 r2 iq=>⟨(E6 _ _ iq).1.congr λw t'=>?_,Jd (E6 _ _ iq).2 (by omega)⟩⟩
      rw [gr]
      constructor
      ·rintro (z | ⟨z1,z2,z3,z4⟩)
       ·exact .inl z
       ·exact .inr ⟨z1,z2,Jp _ z3,z4⟩
      ·rintro (z | ⟨z1,z2,z3,z4⟩)
       ·exact .inl z
       ·rcases Jk.mp z3 with z3 | z3
        ·exact .inr ⟨z1,z2,z3,z4⟩
        ·exact absurd ((Qr.mp z3).trans A2) z4
    ·rintro σ H6 ⟨⟨v6,rfl⟩,s6,rs,R6,kc,E6⟩
     refine ⟨⟨_,_,_,_,rfl⟩,s6,rs,R6,kc,λg2 r2 iq=>⟨(E6 _ _ iq).1.congr λw t'=>?_,Jd (E6 _ _ iq).2 (by rw [Qa]; omega)⟩⟩
     rw [Qa,Jj]
     constructor
     ·rintro (⟨z1,z2⟩ | ⟨z1,z2,z3,z4⟩)
      ·exact ⟨by omega,z2⟩
      ·subst z1
       exact ⟨by omega,by rw [hh,z2],l,hl,z3,by rw [z2]; exact z4⟩
     ·rintro ⟨z1,z2⟩
      by_cases hw:w < i
      ·exact .inl ⟨hw,z2⟩
      ·have ew:w=i:=by omega
       subst ew
       obtain ⟨z3,l',z4,z5,z6⟩:=z2
       rw [hh] at z3
       rw [hl] at z4
       cases z4
       have ez:h=g2:=Option.some.inj z3
       exact .inr ⟨rfl,ez.symm,z5,by rw [ez]; exact z6⟩
   ·rintro σ H4 ⟨⟨v3,v4,v5,v6,rfl⟩,s4,rs,R4,vf,E4⟩
    refine ⟨_,rfl,k rp H4 qs rs s4 y3 (λq hq=>(ky q hq).1) R4 vf λg r hr=>⟨(E4 g r hr).1.congr λw t=>⟨λz=>z.2,λz=>⟨?_,z⟩⟩,Jd (E4 g r hr).2 (by rw [Qa]; omega)⟩⟩
    rw [Qa]
    exact (Qb.mp z.1).1
def Tp (H H':Hp):Prop:=∀ p xs,H p=some (.tup xs)->H' p=some (.tup xs)
theorem Tp.of (s:aD H H'):Tp H H':=λ_ _ h=>s _ _ h
theorem Tp.upd {u:HO} (h:∀ xs,H a≠some (.tup xs)):Tp H (upd H a u):=λp xs e=>by
 have ne:p≠a:=λz=>h xs (by rw [<- z]; exact e)
 rw [aG ne]; exact e
theorem rX {fs:List (Key×V)} (h:fs.map (·.1)=os.map Sum.inl) (t:Int):(dP fs (.inl t)).isSome=decide (t∈os):=by
 rw [<- hX]
 have:(fs.any λkv=>decide (kv.1=Sum.inl t))=((fs.map (·.1)).any λk=>decide (k=Sum.inl t)):=by rw [Wp]; rfl
 rw [this,h,Wp,Xf]
 simp
structure Tree (ws:List (List Int)) (hs:List Int) (n first:Int) (H:Hp) (fs:List (Key×V)) (os:List Int):Prop where
 keys:fs.map (·.1)=os.map Sum.inl
 nd:os.Nodup
 ow:∀ o∈os,0<=o/\o < n
 head:os[0]?=some first
 v0:dP fs (.inl first)=some .f_
 par:∀ (j:Nat) (t:Int),0 < j->os[j]?=some t->∃ (p:ae) (w:Nat) (g:Int) (i:Nat),dP fs (.inl t)=some (.ref p)/\H p=some (.tup [.int (w:Nat),.int g,.int t])/\iD ws hs g w t/\i < j/\os[i]?=some g
section
variable {first:Int} {fs:List (Key×V)}
theorem Tree.tp (T:Tree ws hs n first H fs os) (e:Tp H H'):Tree ws hs n first H' fs os :=
 ⟨T.keys,T.nd,T.ow,T.head,T.v0,λj t h0 h1=>let ⟨p,w,g,i,a,b,c⟩:=T.par j t h0 h1; ⟨p,w,g,i,a,e _ _ b,c⟩⟩
theorem Tree.len (T:Tree ws hs n first H fs os):os.length<=n.toNat:=jY _ _ T.nd λx hx=>by have:=T.ow x hx; omega
theorem Tree.Em (T:Tree ws hs n first H fs os):fs.length=os.length:=by
 have:=congrArg Ye T.keys
 rwa [Qa,Qa] at this
theorem Tree.one (h0:0<=first) (h1:first < n):Tree ws hs n first H [(.inl first,.f_)] [first] :=
 ⟨rfl,by simp,λo ho=>by rw [Qr.mp ho]; exact ⟨h0,h1⟩,rfl,eM rfl,λj t h2 h3=>by
  cases j with
  | zero=>omega
  | succ j=>simp at h3⟩
theorem Tree.grow (T:Tree ws hs n first H fs os) {p:ae} {w:Nat} {g t:Int} (hp:H p=some (.tup [.int (w:Nat),.int g,.int t])) (e:iD ws hs g w t) (hi:os[i]?=some g) (ht:t∉os) (r0:0<=t) (r1:t < n) :
  Tree ws hs n first H (fs++[(.inl t,.ref p)]) (os++[t]):=by
 have hv:dP fs (.inl t)=none:=by
  have:=rX T.keys t
  rw [decide_eq_false ht] at this
  cases q:dP fs (.inl t) with
  | none=>rfl
  | some v=>rw [q] at this; cases this
 have ff:i < os.length:=(Qb.mp hi).1
 have val:∀ j:Key,dP (fs++[(.inl t,.ref p)]) j=if j=.inl t then some (.ref p) else dP fs j:=λj=>pT _ _ _ _ hv
 have hf:first∈os:=Qe T.head
 refine ⟨by rw [Qo,Qo,T.keys]; rfl,?_,λo ho=>?_,?_,?_,λj t' h0 h1=>?_⟩
 ·rw [Yg]
  exact ⟨T.nd,by simp,λx hx y hy z=>ht (by rw [<- Qr.mp hy,<- z]; exact hx)⟩
 ·rcases Jk.mp ho with h | h
  ·exact T.ow o h
  ·rw [Qr.mp h]; exact ⟨r0,r1⟩
 ·rw [Qs (by omega)]; exact T.head
 ·rw [val,if_neg (λz=>ht (by have:first=t:=(by simpa using z); rw [<- this]; exact hf))]
  exact T.v0
 ·by_cases hj:j < os.length
  ·rw [Qs hj] at h1
   obtain ⟨p',w',g',i',a,b,c,d,e'⟩:=T.par j t' h0 h1
   have ne:(Sum.inl t':Key)≠Sum.inl t:=λz=>ht (by have:t'=t:=(by simpa using z); rw [<- this]; exact Qe h1)
   exact ⟨p',w',g',i',by rw [val,if_neg ne]; exact a,b,c,d,by rw [Qs (by omega)]; exact e'⟩
  ·have ej:j=os.length:=by
    have:=(Qb.mp h1).1
    rw [Qj] at this
    simp at this
    omega
   subst ej
   rw [Ji (Qh _),Qau] at h1
   have et:t'=t:=by simpa using h1.symm
   subst et
   exact ⟨p,w,g,i,by rw [val,if_pos rfl],hp,e,ff,by rw [Qs ff]; exact hi⟩
theorem Tree.rl (T:Tree ws hs n first H fs os):∀ (j:Nat) (t:Int),os[j]?=some t->RL ws hs j first t:=by
 intro j
 induction j using Nat.strongRecOn with
 | ind j ih =>
  intro t ht
  by_cases h0:j=0
  ·subst h0
   rw [T.head] at ht
   exact Option.some.inj ht
  ·obtain ⟨p,w,g,i,_,_,e,hi,hg⟩:=T.par j t (by omega) ht
   exact ((ih i hi g hg).snoc e).mono (by omega)
end
def P4 (ws:List (List Int)) (hs os:List Int):Prop:=∀ g∈os,∀ w t,iD ws hs g w t->t∈os
def qC (K:Rc):Sp:=λvs H Q _=>∃ rp first qs rs n ws hs,vs = [.ref rp,.int first]/\Rows H rp qs rs/\rs.length=n.toNat/\tS (iD ws hs) rs 100/\(∀ g w t,iD ws hs g w t->0<=t/\t < n)/\n<=7/\0<=first/\first < n /\
 ∀ fd H' fs os,aD H H'->H fd=none->H' fd=some (.dK fs)->Tree ws hs n first H' fs os->P4 ws hs os->Q (.ref fd) H'
theorem jZ:dz ["rows", "first", "found", "waiting", "giver", "taker"] ["rows", "first"] (aF lG):=.of
theorem tT (G:Fn K mg "reached" lG ["rows", "first"] f fd) (B:Bl mg):c_ P w K mg base fc 1 f fd ["rows", "first"] (qC K):=by
 refine G.fn.oK jZ λft A outer s H vs Q E hr h=>?_
 ·obtain ⟨rp,first,qs,rs,n,ws,hs,rfl,R,vd,ER,pg,km,qr,Ds,k⟩:=h
  refine ⟨_,(aE (bA (i:=2) jZ.nd rfl fi (aET (pv 1) wS))
   (aE (bA (i:=3) jZ.nd rfl fi (eO (aA (pv 1) aC)))
   (aE (nU az.never (aEg (pv 3) (λ_=>rfl))
    (aE (bA (i:=4) jZ.nd rfl fi (mP Rt PySem.F.slot_list_pop PySem.F.type_list_pop aEq (pv 3) (aA aK aC)))
    (aH (RH (eJ az.never rfl (RI (bC gU (pv 0) (pv 4) lj)) (aI (i:=5) jZ.nd rfl fi)
     (aH (bU (J8 (aDf (jD hr) (pv 5) (pv 2)) (by with_unfolding_all rfl))
      (aE (rR (jD hr) (pv 2) (pv 5) (cO (aA (oF (jD hr) (bC gU (pv 0) (pv 4) lj) (pv 5) lj) (aA (pv 4) (aA (pv 5) aC)))) rfl)
      (aH (dJ (mP Rt Rz Ta gJ (pv 3) (aA (pv 5) aC)))))
      aW)))))))
   (aH (aN (pv 2)))))),?_⟩
  intro lu y_
  refine ⟨_,rfl,.inl first,rfl,aB,?_⟩
  rw [aF0]
  have s1:=aD.new (o:=.dK [(.inl first,.f_)]) y_
  have e1:upd H lu (.dK [(.inl first,.f_)]) lu=some (.dK [(.inl first,.f_)]):=aB
  generalize upd H lu (.dK [(.inl first,.f_)])=H1 at s1 e1 ⊢
  refine ⟨_,rfl,um _,λwt E_=>?_⟩
  have BD:H wt=none:=s1.free E_
  have Gw:lu≠wt:=λz=>by rw [z,E_] at e1; cases e1
  have s2:=s1.trans (aD.new (o:=.lst [.int first]) E_)
  have e2:=(aD.new (o:=.lst [.int first]) E_) _ _ e1
  have w2:upd H1 wt (.lst [.int first]) wt=some (.lst [.int first]):=aB
  generalize upd H1 wt (.lst [.int first])=H2 at s2 e2 w2 ⊢
  -- the while
  refine ⟨λm σ H3=>∃ (v4 v5:Option V) (mm:Nat) (fs:List (Key×V)) (os:List Int),σ = [some (.ref rp),some (.int first),some (.ref lu),some (.ref wt),v4,v5]/\m=n.toNat - mm/\aD H H3/\H3 lu=some (.dK fs)/\H3 wt=some (.lst ((os.drop mm).map V.int))/\Tree ws hs n first H3 fs os/\mm<=os.length /\
    ∀ (i:Nat) (g:Int),i < mm->os[i]?=some g->∀ w t,iD ws hs g w t->t∈os,
   ⟨n.toNat - 0,none,none,0,_,[first],rfl,rfl,s2,e2,w2,Tree.one qr Ds,Jl _,λi g hi=>absurd hi (Zt _)⟩,?_⟩
  rintro m σ H3 ⟨v4,v5,mm,fs,os,rfl,rfl,s3,e3,w3,T3,hmm,ML⟩
  refine ⟨_,rfl,!((os.drop mm).map V.int).isEmpty,.inl ⟨_,fh.of w3,rfl⟩,?_⟩
  by_cases o9:mm < os.length
  ·-- a turn
   have f':(os.drop mm)≠[]:=by
    intro z
    have:=congrArg Ye z
    rw [Jy] at this
    simp at this
    omega
   have hb:(!((os.drop mm).map V.int).isEmpty)=true:=by
    cases q:os.drop mm with
    | nil=>exact absurd q f'
    | cons _ _=>rfl
   rw [hb]
   refine gA ?_
   have ph:os.drop mm=os[mm]::os.drop (mm+1):=Yw o9
   have Hm:os[mm]?=some (os[mm]):=Qc o9
   generalize os[mm]=g at ph Hm
   obtain ⟨hg0,hg1⟩:=T3.ow g (Qe Hm)
   have TX:=T3.len
   refine ⟨λe_ H'=>∃ m',m' < n.toNat - mm/\∃ (v4 v5:Option V) (mm:Nat) (fs:List (Key×V)) (os:List Int),e_ = [some (.ref rp),some (.int first),some (.ref lu),some (.ref wt),v4,v5]/\m'=n.toNat - mm/\aD H H'/\H' lu=some (.dK fs)/\H' wt=some (.lst ((os.drop mm).map V.int))/\Tree ws hs n first H' fs os/\mm<=os.length /\
    ∀ (i:Nat) (g:Int),i < mm->os[i]?=some g->∀ w t,iD ws hs g w t->t∈os,λe_ H' z=>z,?_⟩
   refine ⟨_,rfl,.inl ⟨rfl,_,fh.of w3⟩,?_⟩
   have M4:((os.drop mm).map V.int)[0]?=some (.int g):=by rw [ph]; rfl
   have uq:0 < ((os.drop mm).map V.int).length:=(Qb.mp M4).1
   refine ⟨wt,_,0,0,.int g,rfl,rfl,w3,by decide,by decide,oG (i:=0) (by decide) uq,M4,?_⟩
   have XG:((os.drop mm).map V.int).eraseIdx 0=(os.drop (mm+1)).map V.int:=by rw [ph]; rfl
   rw [XG]
   have s4:=s3.wr (u:=.lst ((os.drop (mm+1)).map V.int)) BD
   have e4:upd H3 wt (.lst ((os.drop (mm+1)).map V.int)) lu=some (.dK fs):=by rw [aG Gw]; exact e3
   have w4:upd H3 wt (.lst ((os.drop (mm+1)).map V.int)) wt=some (.lst ((os.drop (mm+1)).map V.int)):=aB
   have T4:=T3.tp (Tp.upd (a:=wt) (u:=.lst ((os.drop (mm+1)).map V.int)) λxs z=>by rw [w3] at z; cases z)
   generalize upd H3 wt (.lst ((os.drop (mm+1)).map V.int))=H4 at s4 e4 w4 T4 ⊢
   -- the row
   have R4:=R.same s4
   have A9:g.toNat < qs.length:=by rw [R.len,vd]; omega
   have jd:((g.toNat:Nat):Int)=g:=by omega
   obtain ⟨qg,Nc⟩:∃ q,qs[g.toNat]?=some q:=⟨_,Qc A9⟩
   obtain ⟨r,hr⟩:∃ r,rs[g.toNat]?=some r:=⟨_,Qc (by rw [vd]; omega)⟩
   have lg:k4 (qs.map V.ref) g=some (.ref qg):=by
    have:=bZ (xs:=qs.map V.ref) (j:=g.toNat) (v:=.ref qg) (by rw [Qd,Nc]; rfl)
    rwa [jd] at this
   have l7:=R.row _ _ _ Nc hr
   have AA:=s4 _ _ l7
   obtain ⟨HA,Fw⟩:=ER _ _ hr
   rw [jd] at HA
   have Gu:qg≠lu:=λz=>by rw [z,y_] at l7; cases l7
   have Gs:qg≠wt:=λz=>by rw [z,BD] at l7; cases l7
   have VA:rp≠qg:=λz=>by have:=R.lst; rw [z,l7] at this; cases this
   refine ⟨_,rfl,_,rfl,rp,_,g,_,rfl,rfl,fh.of R4.lst,lg,qg,r,rfl,AA,λo nf=>?_⟩
   have z5:upd H4 qg (.gh o (.dK r)) qg=some (.gh o (.dK r)):=aB
   have b5:kb qg H (upd H4 qg (.gh o (.dK r))):=λb u nb hb=>by rw [aG nb]; exact s4 _ _ hb
   have e5:upd H4 qg (.gh o (.dK r)) lu=some (.dK fs):=by rw [aG (Ne.symm Gu)]; exact e4
   have w5:upd H4 qg (.gh o (.dK r)) wt=some (.lst ((os.drop (mm+1)).map V.int)):=by rw [aG (Ne.symm Gs)]; exact w4
   have T5:=T4.tp (Tp.upd (a:=qg) (u:=.gh o (.dK r)) λxs z=>by rw [AA] at z; cases z)
   generalize upd H4 qg (.gh o (.dK r))=H5 at z5 b5 e5 w5 T5 ⊢
   refine aES (a:=qg) (o:=o) (kvs:=r) (λj σ H6=>∃ (v5:Option V) (fs:List (Key×V)) (os:List Int),σ = [some (.ref rp),some (.int first),some (.ref lu),some (.ref wt),some (.int g),v5]/\H6 qg=some (.gh o (.dK r))/\kb qg H H6/\H6 lu=some (.dK fs)/\H6 wt=some (.lst ((os.drop (mm+1)).map V.int))/\Tree ws hs n first H6 fs os/\mm+1<=os.length/\os[mm]?=some g /\
     (∀ (i:Nat) (g:Int),i < mm->os[i]?=some g->∀ w t,iD ws hs g w t->t∈os)/\∀ (i:Nat) k v t,i < j->r[i]?=some (k,v)->k=.inl t->t∈os)
    ⟨v5,fs,os,rfl,z5,b5,e5,w5,T5,o9,Hm,ML,λi k v t hi=>absurd hi (Zt _)⟩ (λj σ H6 _ ⟨_,_,_,_,h,_⟩=>h) ?_ ?_
   ·rintro j ⟨key,val⟩ σ H6 hj ⟨v5,fs,os,rfl,z6,b6,e6,w6,T6,ya,Dq,EX,IC⟩
    -- the key is a hand,its value a work
    obtain ⟨aaa,o8⟩:∃ v,dP r key=some v:=by
     have:(dP r key).isSome=true:=by
      rw [<- hX,Xg]
      exact ⟨_,Qe hj,by simp⟩
     cases q:dP r key with
     | none=>rw [q] at this; cases this
     | some v=>exact ⟨v,rfl⟩
    obtain ⟨wk,t,rfl,rfl,hE⟩:=HA.1 _ _ o8
    obtain ⟨Fc,V9⟩:=pg _ _ _ hE
    dsimp only [kV]
    have dn:∀ (B7:List Int),t∈B7->(∀ x∈os,x∈B7)->∀ (i:Nat) k v t',i < j+1->r[i]?=some (k,v)->k=.inl t'->t'∈B7:=λB7 h1 h2 i k v t' hi hk he=>by
     by_cases A7:i < j
     ·exact h2 _ (IC i k v t' A7 hk he)
     ·have:i=j:=by omega
      subst this
      rw [hj] at hk
      cases hk
      have:t=t':=by simpa using he
      rw [<- this]; exact h1
    refine ⟨_,rfl,_,rfl,lu,_,rfl,sT.k (k:=.inl t) e6,_,rfl,?_⟩
    rw [rX T6.keys]
    by_cases Dd:t∈os
    ·rw [decide_eq_true Dd]
     refine fZ ?_
     exact ⟨_,fs,os,rfl,z6,b6,e6,w6,T6,ya,Dq,EX,dn os Dd λ_ h=>h⟩
    ·rw [decide_eq_false Dd]
     refine gA ?_
     have X2:H6 rp=some (.lst (qs.map V.ref)):=b6 _ _ VA R.lst
     refine ⟨_,rfl,_,rfl,rp,_,g,_,rfl,rfl,fh.of X2,lg,_,rfl,qg,.int (wk:Nat),rfl,.inl ⟨r,.inl t,.inr ⟨o,z6⟩,rfl,o8.symm⟩,_,rfl,_,rfl,eG (show 3<=1000 by decide),λp hp=>?_⟩
     have sp:=aD.new (o:=.tup [.int (wk:Nat),.int g,.int t]) hp
     have ep:upd H6 p (.tup [.int (wk:Nat),.int g,.int t]) p=_:=aB
     have b7:kb qg H (upd H6 p (.tup [.int (wk:Nat),.int g,.int t])):=b6.trans (kb.of sp)
     have z7:=sp _ _ z6
     have e7:=sp _ _ e6
     have w7:=sp _ _ w6
     have T7:=T6.tp (Tp.of sp)
     generalize upd H6 p (.tup [.int (wk:Nat),.int g,.int t])=H7 at sp ep b7 z7 e7 w7 T7 ⊢
     have hv:dP fs (.inl t)=none:=by
      have:=rX T7.keys t
      rw [decide_eq_false Dd] at this
      cases q:dP fs (.inl t) with
      | none=>rfl
      | some v=>rw [q] at this; cases this
     have T7l:=T7.len
     have T7f:=T7.Em
     have T8:=T7.grow ep hE Dq Dd Fc V9
     have K8:jC fs (.inl t) (.ref p)=fs++[(.inl t,.ref p)]:=aEP _ hv
     refine ⟨_,rfl,_,rfl,lu,_,rfl,vB.k (k:=.inl t) e7 (by rw [Rf]; omega),?_⟩
     rw [K8]
     have b8:kb qg H (upd H7 lu (.dK (fs++[(.inl t,.ref p)]))):=λb u nb hb=>by
      rw [aG (λz=>by rw [z,y_] at hb; cases hb)]
      exact b7 b u nb hb
     have z8:upd H7 lu (.dK (fs++[(.inl t,.ref p)])) qg=some (.gh o (.dK r)):=by rw [aG Gu]; exact z7
     have e8:upd H7 lu (.dK (fs++[(.inl t,.ref p)])) lu=_:=aB
     have w8:upd H7 lu (.dK (fs++[(.inl t,.ref p)])) wt=some (.lst ((os.drop (mm+1)).map V.int)):=by rw [aG (Ne.symm Gw)]; exact w7
     have SW:=T8.tp (Tp.upd (a:=lu) (u:=.dK (fs++[(.inl t,.ref p)])) λxs z=>by rw [e7] at z; cases z)
     generalize upd H7 lu (.dK (fs++[(.inl t,.ref p)]))=H8 at b8 z8 e8 w8 SW ⊢
     refine ⟨_,rfl,.inl ⟨rfl,_,fh.of w8⟩,_,rfl,wt,_,.int t,rfl,rfl,w8,by rw [Qa,Jy,Rf]; omega,?_⟩
     have XJ:(os.drop (mm+1)).map V.int++[V.int t]=((os++[t]).drop (mm+1)).map V.int:=by
      rw [List.drop_append_of_le_length ya,Qo]; rfl
     rw [XJ]
     refine ⟨_,_,os++[t],rfl,by rw [aG Gs]; exact z8,λb u nb hb=>?_,by rw [aG Gw]; exact e8,aB,SW.tp (Tp.upd λxs z=>by rw [w8] at z; cases z),by rw [Qj]; omega,by rw [Qs (by omega)]; exact Dq,λi g' hi Ci w t' e'=>?_,dn _ (by simp) λx hx=>Jp _ hx⟩
     ·rw [aG (λz=>by rw [z,BD] at hb; cases hb)]
      exact b8 b u nb hb
     ·rw [Qs (by omega)] at Ci
      exact Jp _ (EX i g' hi Ci w t' e')
   ·rintro σ H6 ⟨v5,fs,os,rfl,z6,b6,e6,w6,T6,ya,Dq,EX,IC⟩
    refine ⟨qg,o,r,z6,nf,?_⟩
    have hole:=T6.len
    have s7:aD H (upd H6 qg (.dK r)):=λb u hb=>by
     by_cases Hu:b=qg
     ·rw [Hu] at hb ⊢
      rw [aB,<- l7]; exact hb
     ·rw [aG Hu]; exact b6 b u Hu hb
    refine ⟨n.toNat - (mm+1),by omega,_,_,mm+1,fs,os,rfl,rfl,s7,by rw [aG (Ne.symm Gu)]; exact e6,by rw [aG (Ne.symm Gs)]; exact w6,T6.tp (Tp.upd λxs z=>by rw [z6] at z; cases z),ya,λi g' hi Ci w t e=>?_⟩
    by_cases XA:i < mm
    ·exact EX i g' XA Ci w t e
    ·have:i=mm:=by omega
     subst this
     rw [Dq] at Ci
     cases Ci
     have hs:=HA.2 w t e
     rw [<- hX,Xg] at hs
     obtain ⟨⟨k,v⟩,hk,he⟩:=hs
     obtain ⟨j,hj⟩:=Qu.mp hk
     exact IC j k v t (Qb.mp hj).1 hj (by simpa using he)
  ·have hlen:mm=os.length:=by omega
   have hb:(!((os.drop mm).map V.int).isEmpty)=false:=by rw [hlen,List.drop_length]; rfl
   rw [hb]
   refine fZ ?_
   refine ⟨_,rfl,k lu H3 fs os s3 y_ e3 T3 λg hg w t e=>?_⟩
   obtain ⟨i,hi⟩:=Qu.mp hg
   exact ML i g (by have:=(Qb.mp hi).1; omega) hi w t e
structure fq (H:Hp) (ps:List ae) (ss:List (Nat×Int×Int)):Prop where
 len:ps.length=ss.length
 at_:∀ (i:Nat) p s,ps[i]?=some p->ss[i]?=some s->H p=some (.tup [.int (s.1:Nat),.int s.2.1,.int s.2.2])
theorem fq.nil:fq H [] []:=⟨rfl,λi p s h=>by simp at h⟩
theorem fq.cons {ps:List ae} (h:fq H ps ss) {p:ae} {w:Nat} {g t:Int} (hp:H p=some (.tup [.int (w:Nat),.int g,.int t])):fq H (p::ps) ((w,g,t)::ss):=by
 refine ⟨by rw [Ja,Ja,h.len],λi p' s h1 h2=>?_⟩
 cases i with
 | zero =>
  have e1:p=p':=by simpa using h1
  have e2:(w,g,t)=s:=by simpa using h2
  subst e1 e2
  exact hp
 | succ i=>exact h.at_ i p' s (by simpa using h1) (by simpa using h2)
theorem fq.tp {ps:List ae} (h:fq H ps ss) (e:Tp H H'):fq H' ps ss:=⟨h.len,λi p s a b=>e _ _ (h.at_ i p s a b)⟩
def yG (K:Rc):Sp:=λvs H Q _=>∃ jx last fs os first n ws hs jl,vs = [.ref jx,.int last]/\H jx=some (.dK fs)/\Tree ws hs n first H fs os/\n<=7/\os[jl]?=some last /\
 ∀ p H' ps ss,aD H H'->H p=none->H' p=some (.lst (ps.map V.ref))->fq H' ps ss->fP ws hs first ss last->(first::ss.map (·.2.2)).Nodup->(∀ s∈ss,s.2.2∈os)->(0 < jl->ss≠[])->Q (.ref p) H'
theorem rY:dz ["found", "last", "some", "step"] ["found", "last"] (aF tF):=.of
theorem SN (G:Fn K mg "way_to" tF ["found", "last"] f fd) (B:Bl mg):c_ P w K mg base fc 1 f fd ["found", "last"] (yG K):=by
 refine G.fn.oK rY λft A outer s H vs Q E hr h=>?_
 ·obtain ⟨jx,last,fs,os,first,n,ws,hs,jl,rfl,Dr,T,km,ue,k⟩:=h
  refine ⟨_,(aE (bA (i:=2) rY.nd rfl fi (eO aC))
   (aE (bA (i:=3) rY.nd rfl fi (oF (jD hr) (pv 0) (pv 1) lj))
   (aE (nU az.never (J8 (aF3 (pv 3)))
    (aE (dJ (mP Rt Rz Ta gJ (pv 2) (aA (pv 3) aC)))
    (aH (bA (i:=3) rY.nd rfl fi (oF (jD hr) (pv 0) (bC bQ (pv 3) aK il) (λ_ _=>rfl))))))
   (aH (aN (aGi (pv 2) (JQ J3 aK))))))),?_⟩
  have Tl:=T.len
  have Lb:n.toNat < ak:=by rw [Rf]; omega
  refine ⟨eG (show 0<=1000 by decide),λsm Na=>?_⟩
  have s1:=aD.new (o:=.lst []) Na
  have e1:upd H sm (.lst []) sm=some (.lst []):=aB
  generalize upd H sm (.lst [])=H1 at s1 e1 ⊢
  -- what stands at a found hand
  have vals:∀ (j:Nat) (t:Int),os[j]?=some t->∃ v,dP fs (.inl t)=some v/\((j=0/\v=.f_)∨∃ p w g i,0 < j/\v=.ref p/\H p=some (.tup [.int (w:Nat),.int g,.int t])/\iD ws hs g w t/\i < j/\os[i]?=some g):=λj t ht=>by
   by_cases hj:j=0
   ·subst hj
    rw [T.head] at ht
    cases ht
    exact ⟨_,T.v0,.inl ⟨rfl,rfl⟩⟩
   ·obtain ⟨p,w,g,i,a,b,c,d,e⟩:=T.par j t (by omega) ht
    exact ⟨_,a,.inr ⟨p,w,g,i,by omega,rfl,b,c,d,e⟩⟩
  obtain ⟨v0,M8,_⟩:=vals jl last ue
  refine ⟨_,rfl,_,rfl,jx,v0,rfl,.inl ⟨fs,.inl last,.inl (s1 _ _ Dr),rfl,M8.symm⟩,?_⟩
  refine ⟨λm σ H2=>∃ (j:Nat) (t:Int) (v:V) (ot:List ae) (ss:List (Nat×Int×Int)),m=j/\σ = [some (.ref jx),some (.int last),some (.ref sm),some v]/\os[j]?=some t/\dP fs (.inl t)=some v/\aD H H2/\H2 sm=some (.lst (ot.map V.ref))/\fq H2 ot.reverse ss/\fP ws hs t ss last/\(t::ss.map (·.2.2)).Nodup /\
    (∀ x∈ss.map (·.2.2),∃ i:Nat,j < i/\os[i]?=some x)/\ot.length+j<=jl/\(j < jl->ss≠[]),
   ⟨jl,jl,last,v0,[],[],rfl,rfl,ue,M8,s1,e1,fq.nil,rfl,by simp,λx h=>by simp at h,by simp,λh=>by omega⟩,?_⟩
  rintro j σ H2 ⟨_,t,v,ot,ss,rfl,rfl,hj,hv,s2,e2,S2,P2,N2,I2,L2',L3⟩
  have W8:jl < os.length:=(Qb.mp ue).1
  obtain ⟨v',Dc,cs⟩:=vals j t hj
  rw [hv] at Dc
  cases Dc
  rcases cs with ⟨rfl,rfl⟩ | ⟨p,w,g,i,W_,rfl,hp,hE,A7,hg⟩
  ·refine ⟨_,rfl,_,rfl,?_⟩
   refine fZ ?_
   rw [T.head] at hj
   cases hj
   refine ⟨_,rfl,_,rfl,rfl,sm,_,rfl,fh.of e2,λp hp=>?_⟩
   have s3:=aD.new (o:=.lst (ot.map V.ref).reverse) hp
   refine k p _ ot.reverse ss (s2.trans s3) (s2.free hp) (by rw [aB,List.map_reverse]) (S2.tp (Tp.of s3)) P2 N2 (λx hx=>?_) L3
   obtain ⟨i,_,hi⟩:=I2 _ (Qv.mpr ⟨x,hx,rfl⟩)
   exact Qe hi
  ·refine ⟨_,rfl,_,rfl,?_⟩
   refine gA ?_
   obtain ⟨vg,M7,_⟩:=vals i g hg
   refine ⟨λe_ H'=>∃ m',m' < j/\∃ (j:Nat) (t:Int) (v:V) (ot:List ae) (ss:List (Nat×Int×Int)),m'=j/\e_ = [some (.ref jx),some (.int last),some (.ref sm),some v]/\os[j]?=some t/\dP fs (.inl t)=some v/\aD H H'/\H' sm=some (.lst (ot.map V.ref))/\fq H' ot.reverse ss/\fP ws hs t ss last/\(t::ss.map (·.2.2)).Nodup /\
    (∀ x∈ss.map (·.2.2),∃ i:Nat,j < i/\os[i]?=some x)/\ot.length+j<=jl/\(j < jl->ss≠[]),λe_ H' z=>z,?_⟩
   have hsz:(ot.map V.ref).length < ak:=by
    rw [Qa]
    exact Ya (Jd (Jd (Xs _ _) L2') (Jd (Yh W8) Tl)) Lb
   refine ⟨_,rfl,.inl ⟨rfl,_,fh.of e2⟩,_,rfl,sm,_,.ref p,rfl,rfl,e2,hsz,?_⟩
   have s3:aD H (upd H2 sm (.lst (ot.map V.ref++[.ref p]))):=s2.wr Na
   have e3:upd H2 sm (.lst (ot.map V.ref++[.ref p])) sm=_:=aB
   have S3:=S2.tp (Tp.upd (a:=sm) (u:=.lst (ot.map V.ref++[.ref p])) λxs z=>by rw [e2] at z; cases z)
   generalize upd H2 sm (.lst (ot.map V.ref++[.ref p]))=H3 at s3 e3 S3 ⊢
   have og:=s3 _ _ hp
   refine ⟨_,rfl,_,rfl,p,_,1,.int g,rfl,rfl,d_.of og,rfl,jx,vg,rfl,.inl ⟨fs,.inl g,.inl (s3 _ _ Dr),rfl,M7.symm⟩,?_⟩
   refine ⟨i,A7,i,g,vg,ot++[p],(w,g,t)::ss,rfl,rfl,hg,M7,s3,by rw [Qo]; exact e3,?_,⟨rfl,hE,P2⟩,?_,?_,?_,λ_=>by simp⟩
   ·rw [Qab]
    exact S3.cons og
   ·show (g::t::ss.map (·.2.2)).Nodup
    rw [Jv]
    refine ⟨λhm=>?_,N2⟩
    have inj:∀ i',i < i'->os[i']?=some g->False:=λi' h1 h2=>by
     have:=(We (Qb.mp hg).1 T.nd).mp (hg.trans h2.symm)
     omega
    rcases Ql.mp hm with e | hm
    ·exact inj j A7 (by rw [e]; exact hj)
    ·obtain ⟨i',h1,h2⟩:=I2 g hm
     exact inj i' (by omega) h2
   ·intro x hx
    rcases Ql.mp (show x∈t::ss.map (·.2.2) from hx) with rfl | hx
    ·exact ⟨j,A7,hj⟩
    ·obtain ⟨i',h1,h2⟩:=I2 x hx
     exact ⟨i',by omega,h2⟩
   ·rw [Qj]
    show ot.length+1+i<=jl
    omega
noncomputable def qF:ax:=("levels_or_way" : ax) ++ ".<locals>." ++ "<lambda>"
theorem tU {h:Int} (h0:0<=h) (h1:h < n):k4 ((aJ n hs).map V.int) h=some (.int ((hs.count h:Nat):Int)):=by
 have ff:h.toNat < n.toNat:=by omega
 have jd:((h.toNat:Nat):Int)=h:=by omega
 have h1:((aJ n hs).map V.int)[h.toNat]?=some (.int ((hs.count h:Nat):Int)):=by rw [Qd,gM ff,jd]; rfl
 have h2:=bZ h1
 rwa [jd] at h2
def JH (n:Int) (ws:List (List Int)) (hs:List Int) (H H':Hp) (p:ae):Prop :=
 (∃ q lv,H' p=some (.tup [.str "levels",.ref q])/\H' q=some (.tup (lv.map V.int))/\cJ n ws hs lv) ∨
 ∃ q ps ss,H' p=some (.tup [.str "way",.ref q])/\H q=none/\H' q=some (.lst (ps.map V.ref))/\fq H' ps ss/\kT n ws hs ss
def DY (K:Rc) (Pt:ae):Sp:=λvs H Q _=>∃ x y n ws hs,vs = [x,y]/\dQ K H x y n ws hs/\H Pt=some (.tab qF)/\∀ p H',aD H H'->JH n ws hs H H' p->Q (.ref p) H'
theorem tV:dz ["book", "deal", "many", "rows", "levels", "hand", "found", "last"] ["book", "deal"] (aF Cy):=.of
theorem Z! {DN fR DM:ae} {DQ dR DO:bo} (G:Fn K mg "levels_or_way" Cy ["book", "deal"] f fd) (hc:fd.code=.ref c) (Z:Lm K mg base c Pt) (B:Bl mg) (R:Pr K mg fW fH fK fB jn fD jy fL dW dH dK dB jo dD jz dL) (GH:Fn K mg "handing" iA ["book", "deal"] DN DQ) (GR:Fn K mg "reached" lG ["rows", "first"] fR dR) (GW:Fn K mg "way_to" tF ["found", "last"] DM DO):c_ P w K mg base fc 8 f fd ["book", "deal"] (DY K Pt):=by
 have OL:c_ P w K mg base fc 7 fL dL ["book", "deal"] (kK K):=jW B R
 have OH:c_ P w K mg base fc 1 DN DQ ["book", "deal"] (wI K):=aBH GH B
 have OR:c_ P w K mg base fc 1 fR dR ["rows", "first"] (qC K):=tT GR B
 have OW:c_ P w K mg base fc 1 DM DO ["found", "last"] (yG K):=SN GW B
 refine G.fn.MR hc tV (λvs H Q E h=>?_) (λA outer s H vs Q E hr h=>?_)
 ·obtain ⟨x,y,n,ws,hs,rfl,_⟩:=h
  rfl
 ·obtain ⟨x,y,n,ws,hs,rfl,g,hT,k⟩:=h
  have r1:ee 1 _:=hr.mono (by decide)
  refine ⟨_,(aE (bA (i:=2) tV.nd rfl (Or.inr rfl) (aX R.L OL hr rfl (aA (pv 0) (aA (pv 1) aC))))
   (aE (bA (i:=3) tV.nd rfl fi (aX GH OH r1 rfl (aA (pv 0) (aA (pv 1) aC))))
   (aE (bA (i:=4) tV.nd rfl fi (eO aC))
   (aE (eJ az.never rfl (fU rfl B.range (aA (bC bQ (pv 0) aK il) aC)) (aI (i:=5) tV.nd rfl fi)
    (aE (bA (i:=6) tV.nd rfl fi (aX GR OR r1 rfl (aA (pv 3) (aA (pv 5) aC))))
    (aE (bA (i:=7) tV.nd rfl fi (vY 2 rfl r1 rfl B.min Z rfl (q:=qF) rfl (pv 6) rfl rfl))
    (aE (bU (aU yZ (cR sF (bC bQ (pv 2) (pv 5) lj) (bC bQ (pv 2) (pv 7) lj)) aK gm)
     (aH (aN (cO (aA sD (aA (aX GW OW r1 rfl (aA (pv 6) (aA (pv 7) aC))) aC)))))
     aW)
    (aH (dJ (mP Rt Rz Ta gJ (pv 4) (aA (bC bQ (pv 2) (pv 7) lj) aC))))))))
   (aH (aN (cO (aA sD (aA (cK bR rfl B.tuple cM (aA (pv 4) aC)) aC))))))))),?_⟩
  obtain ⟨ny,mi,km⟩:=g.len
  obtain ⟨a,b,ys,ex,ha,ia,ij⟩:=cI g.1
  obtain ⟨_,_,iz,ip⟩:=aT g.2.1
  have pg:∀ g w t,iD ws hs g w t->0<=t/\t < n:=λg w t e=>by
   obtain ⟨_,l,h1,h2,_⟩:=e
   exact (aZ (ip l (Qe h1))).2.1 t h2
  refine ⟨_,rfl,_,rfl,x,y,n,ws,hs,rfl,g,λmp H1 s1 Cd=>?_⟩
  have g1:=g.same s1
  refine ⟨_,rfl,_,rfl,x,y,n,ws,hs,rfl,g1,λrp H2 qs rs s2 w9 ky R2 vd ER=>?_⟩
  refine ⟨eG (show 0<=1000 by decide),λlp kz=>?_⟩
  have s_:=s1.trans s2
  have s3:=s_.trans (aD.new (o:=.lst []) kz)
  have Lk:H lp=none:=s_.free kz
  have R3:=R2.same (aD.new (o:=.lst []) kz)
  have m3:=(s2.trans (aD.new (o:=.lst []) kz)) _ _ Cd
  have e3:upd H2 lp (.lst []) lp=some (.lst []):=aB
  have y3:H rp=none:=s1.free w9
  have U_:rp≠lp:=λz=>by have:=R2.lst; rw [z,kz] at this; cases this
  have VB:∀ q∈qs,q≠lp:=λq hq z=>by
   obtain ⟨i,hi⟩:=Qu.mp hq
   have Cg:i < rs.length:=by rw [<- R2.len]; exact (Qb.mp hi).1
   have:=R2.row i q _ hi (Qc Cg)
   rw [z,kz] at this; cases this
  have VD:mp≠lp:=λz=>by have:=s2 _ _ Cd; rw [z,kz] at this; cases this
  generalize upd H2 lp (.lst [])=H3 at s3 R3 m3 e3 ⊢
  subst ex
  refine ⟨_,rfl,a,_,0,.int n,rfl,rfl,s3.d0 ha,rfl,n,rfl,by omega,by omega,vL (lo:=0) (n:=n.toNat) (λi σ H4=>∃ (v5 v6 v7:Option V) (lv:List Int),σ = [some (.ref a),some y,some (.ref mp),some (.ref rp),some (.ref lp),v5,v6,v7]/\aD H H4/\Rows H4 rp qs rs/\H4 mp=some (.tup ((aJ n hs).map V.int))/\H4 lp=some (.lst (lv.map V.int))/\lv.length=i /\
    ∀ (h:Nat) (v:Int),lv[h]?=some v->lL ws hs n.toNat h v/\((hs.count (h:Int):Nat):Int) - v < 2)
   ⟨none,none,none,[],rfl,s3,R3,m3,e3,rfl,λh v e=>by simp at e⟩ ?_ ?_⟩
  ·rintro i σ H4 hi ⟨v5,v6,v7,lv,rfl,s4,R4,m4,e4,rk,L4⟩
   have Hl:(0:Int)<=0+(i:Int):=by omega
   have oy:0+(i:Int) < n:=by omega
   refine ⟨_,rfl,_,rfl,rp,0+(i:Int),qs,rs,n,ws,hs,rfl,R4,vd,ER,pg,by omega,Hl,oy,λjx H5 fs os s5 Dr e5 T5 C5=>?_⟩
   have ME:=s4.trans s5
   have R5:=R4.same s5
   have m5:=s5 _ _ m4
   have l5:=s5 _ _ e4
   have T5l:=T5.len
   have vw:0 < os.length:=(Qb.mp T5.head).1
   refine ⟨_,rfl,os,λo=>((hs.count o:Nat):Int),.ref mp,⟨jx,rfl,.inr (.inr ⟨fs,e5,T5.keys⟩)⟩,vw,ME _ _ hT,rfl,λo ho=>?_,λj m H6 s6 hj q_ _=>?_⟩
   ·obtain ⟨o0,o1⟩:=T5.ow o ho
    refine ⟨o0,by omega,mp,_,rfl,.inl (d_.of m5),?_⟩
    rw [Qd,gM (by omega),show ((o.toNat:Nat):Int)=o by omega]
    rfl
   have ue:j < os.length:=(Qb.mp hj).1
   obtain ⟨m0,m1⟩:=T5.ow m (Qe hj)
   have Gi:=ME.trans s6
   have R6:=R5.same s6
   have m6:=s6 _ _ m5
   have l6:=s6 _ _ l5
   have e6:=s6 _ _ e5
   have T6:=T5.tp (Tp.of s6)
   have Co:RL ws hs n.toNat (0+(i:Int)) m:=(T6.rl j m hj).mono (by omega)
   have AD:lL ws hs n.toNat (0+(i:Int)) ((hs.count m:Nat):Int):=by
    refine ⟨⟨m,Co,rfl⟩,λk x hx=>?_⟩
    exact q_ x (hx.closed (S:=λo=>o∈os) (λg w t hg e=>C5 g hg w t e) (Qe T5.head))
   refine ⟨_,rfl,_,rfl,mp,_,_,_,rfl,rfl,d_.of m6,tU Hl oy,_,rfl,_,rfl,mp,_,_,_,rfl,rfl,d_.of m6,tU m0 m1,_,_,rfl,rfl,_,_,rfl,rfl,_,rfl,?_⟩
   refine eK (λc=>?_) (λc=>?_)
   ·have vi:((hs.count (0+(i:Int)):Nat):Int) - ((hs.count m:Nat):Int)≥2:=of_decide_eq_true c
    refine ⟨_,rfl,_,rfl,jx,m,fs,os,0+(i:Int),n,ws,hs,j,rfl,e6,T6,by omega,hj,λp H7 ps ss s7 hp Cc S7 P7 N7 _ Gx=>⟨qm _ _,λq hq=>?_⟩⟩
    have s8:=aD.new (o:=.tup [.str "way",.ref p]) hq
    refine k q _ ((Gi.trans s7).trans s8) (.inr ⟨p,ps,ss,aB,Gi.free hp,s8 _ _ Cc,S7.tp (Tp.of s8),0+(i:Int),m,Gx ?_,P7,N7,Hl,oy,Co,vi⟩)
    rcases Yu j with z | z
    ·rw [z,T5.head] at hj
     cases hj
     omega
    ·exact z
   ·have ff:¬ ((hs.count (0+(i:Int)):Nat):Int) - ((hs.count m:Nat):Int)≥2:=λz=>c (decide_eq_true z)
    refine ⟨_,rfl,.inl ⟨rfl,_,fh.of l6⟩,_,rfl,_,rfl,mp,_,_,_,rfl,rfl,d_.of m6,tU m0 m1,lp,_,_,rfl,rfl,l6,by rw [Qa,Rf]; omega,?_⟩
    refine ⟨_,_,_,lv++[((hs.count m:Nat):Int)],rfl,Gi.wr Lk,?_,by rw [aG VD]; exact m6,by rw [aB,Qo]; rfl,by rw [Qj,rk]; rfl,λh v e=>?_⟩
    ·refine ⟨by rw [aG U_]; exact R6.lst,R6.len,R6.nd,λg q r h1 h2=>?_⟩
     rw [aG (VB q (Qe h1))]
     exact R6.row g q r h1 h2
    ·by_cases hh:h < lv.length
     ·rw [Qs hh] at e
      exact L4 h v e
     ·have eh:h=i:=by
       have:=(Qb.mp e).1
       rw [Qj] at this
       simp at this
       omega
      subst eh
      rw [Ji (by omega),rk,Qau] at e
      have ev:((hs.count m:Nat):Int)=v:=by simpa using e
      rw [<- ev]
      rw [Zz] at AD ff
      exact ⟨AD,by omega⟩
  ·rintro σ H4 ⟨v5,v6,v7,lv,rfl,s4,R4,m4,e4,rk,L4⟩
   refine ⟨_,rfl,lp,_,rfl,.inl ⟨fh.of e4,λq hq=>⟨qm _ _,λp hp=>?_⟩⟩⟩
   have s5:=(aD.new (o:=.tup (lv.map V.int)) hq).trans (aD.new (o:=.tup [.str "levels",.ref q]) hp)
   exact k p _ (s4.trans s5) (.inl ⟨q,lv,aB,(aD.new hp) _ _ aB,rk,L4⟩)
noncomputable def d2 (n:Int) (ws:List (List Int)) (hs:List Int):ar:=.list [bB n ws,bK hs]
theorem nK:∀ {h x:Int} {ss:List (Nat×Int×Int)},fP ws hs h ss x->ss.map (·.2.1)++[x]=h::ss.map (·.2.2)
 | _,_,[],e=>by cases e; rfl
 | _,_,s::r,⟨e1,_,e3⟩=>by rw [Qw,Yk,nK e3,e1]; rfl
theorem mI:∀ {h x:Int} {ss:List (Nat×Int×Int)},fP ws hs h ss x->∀ (i:Nat) s,ss[i]?=some s->iD ws hs s.2.1 s.1 s.2.2/\∀ s',0 < i->ss[i - 1]?=some s'->s'.2.2=s.2.1
 | _,_,[],_,i,s,hs=>by simp at hs
 | h,_,a::r,⟨e1,e2,e3⟩,0,s,hs'=>by
  have:a=s:=by simpa using hs'
  subst this
  exact ⟨by rw [e1]; exact e2,λs' h0=>by omega⟩
 | h,_,a::r,⟨e1,e2,e3⟩,i+1,s,hs'=>by
  have hr:r[i]?=some s:=by simpa using hs'
  obtain ⟨p1,p2⟩:=mI e3 i s hr
  refine ⟨p1,λs' _ ur=>?_⟩
  cases i with
  | zero =>
   have e:a=s':=by simpa using ur
   subst e
   cases r with
   | nil=>simp at hr
   | cons b r' =>
    have:b=s:=by simpa using hr
    subst this
    exact e3.1.symm
  | succ i=>exact p2 s' (by omega) (by simpa using ur)
theorem wJ:∀ {h x:Int} {ss:List (Nat×Int×Int)},fP ws hs h ss x->∀ s,ss[ss.length - 1]?=some s->s.2.2=x
 | _,_,[],_,s,e=>by simp at e
 | _,_,[a],⟨_,_,e3⟩,s,e=>by
  have:a=s:=by simpa using e
  subst this
  exact e3
 | _,_,a::b::r,⟨_,_,e3⟩,s,e=>wJ e3 s (by simpa using e)
theorem aFo (h:xs[xs.length - 1]?=some v):k4 xs (-1)=some v:=by
 have ff:xs.length - 1 < xs.length:=(Qb.mp h).1
 have e:xs=xs.take (xs.length - 1)++[v]:=by
  have h1:xs.take (xs.length - 1+1)=xs.take (xs.length - 1)++[v]:=by rw [Je,h]; rfl
  rw [<- h1,Jb (by omega)]
 rw [e]
 exact aEm _ _
theorem mW:∀ L:List (List Int),fM (L.map bY)=true
 | []=>by unfold List.map fM; rfl
 | l::r=>by
  rw [Qw]
  unfold fM
  rw [mW r,Qak]
  exact cS l
theorem yH (L:List (List Int)):eA (.list (L.map bY))=true:=by unfold eA; exact mW L
theorem oX (L:List (List Int)):SeqAt.shaped (.list (L.map bY))=true:=by
 refine mG ?_ ?_
 ·unfold ar.canLay0; exact iX _ oW L
 ·unfold ar.depth; exact Jd (Zk (jX _ rA L)) (by decide)
noncomputable def iE (s:Nat×Int×Int):List Int:=[(s.1:Int),s.2.1,s.2.2]
theorem fq.den:∀ {ps:List ae} {ss:List (Nat×Int×Int)},fq H ps ss->bF K H ((ss.map iE).map bY) (ps.map V.ref)
 | [],[],_=>bG.mpr rfl
 | [],_::_,h=>by have:=h.len; simp at this
 | _::_,[],h=>by have:=h.len; simp at this
 | p::ps,s::ss,h=>by
  have h0:=h.at_ 0 p s rfl rfl
  have hr:fq H ps ss:=⟨by have:=h.len; simpa using this,λi p' s' a b=>h.at_ (i+1) p' s' (by simpa using a) (by simpa using b)⟩
  exact aQ.mpr ⟨_,_,rfl,aR.mpr ⟨p,rfl,d_.of h0⟩,fq.den hr⟩
end Ab
namespace L2
open PySem
end L2
namespace Ab
open PySem L2
theorem rC {k g t:Int} (h:eY ws hs [k,g,t]=true):0<=k/\k < hs.length/\hs[k.toNat]?=some g/\t≠g/\t∈ws.getD k.toNat []:=by
 have h':(decide (0<=k) && (decide (k < hs.length) && (hs[k.toNat]?==some g && (!decide (t=g) && decide (t∈ws.getD k.toNat [])))))=true:=h
 simp only [Jf,decide_eq_true_eq,beq_iff_eq,Wb,decide_eq_false_iff_not] at h'
 exact ⟨h'.1,h'.2.1,h'.2.2.1,h'.2.2.2.1,h'.2.2.2.2⟩
noncomputable def mX (hs:List Int) (L:List (List Int)):List Int:=L.foldl (λh st=>h.set (st.getD 0 0).toNat (qB st)) hs
theorem aDD (L:List (List Int)):∀ hs:List Int,(mX hs L).length=hs.length:=by
 induction L with
 | nil=>intro hs; rfl
 | cons s r ih=>intro hs; show (mX (hs.set _ _) r).length=_; rw [ih,Ze]
theorem aBI (hs:List Int) (L:List (List Int)) (st:List Int):mX hs (L++[st])=(mX hs L).set (st.getD 0 0).toNat (qB st):=by unfold mX; rw [Xn]; rfl
def yk (K:Rc) (H:Hp) (x y:V) (p:ae) (xs:List V) (n:Int) (ws:List (List Int)) (hs:List Int) (L:List (List Int)):Prop:=dQ K H x y n ws hs/\fh K H p xs/\bF K H (L.map bY) xs/\L.length<=30/\∀ l∈L,l.length<=1000
theorem yk.same {x:V} {p:ae} {L:List (List Int)} (h:yk K H x y p xs n ws hs L) (s:aD H H'):yk K H' x y p xs n ws hs L:=⟨h.1.same s,s.iy h.2.1,s.gn _ _ h.2.2.1,h.2.2.2⟩
theorem yk.AV {x:V} {p:ae} {L:List (List Int)} (h:yk K H x y p xs n ws hs L) (hw:mM ws hs L=true) {u:V} (hu:xs[i]?=some u) :
  ∃ (c:ae) (kk gg tt:Int),u=.ref c/\L[i]?=some [kk,gg,tt]/\d_ K H c [.int kk,.int gg,.int tt]/\eY ws hs [kk,gg,tt]=true:=by
 have hx:=aP h.2.2.1
 rw [Qa] at hx
 have ff:i < L.length:=by have:=(Qb.mp hu).1; omega
 have el:L[i]?=some L[i]:=Qc ff
 obtain ⟨c1,e1,e2⟩:=kL h.2.2.1 el
 rw [hu] at e1
 have ke:L.all (eY ws hs)=true:=by unfold mM at hw; simp only [Jf] at hw; exact hw.2.1
 have ku:=Qy.mp ke _ (Jr ff)
 obtain ⟨kk,gg,tt,e3⟩:=wH ku
 rw [e3] at e2 el ku
 exact ⟨c1,kk,gg,tt,Option.some.inj e1,el,e2,ku⟩
def rZ (K:Rc):Sp:=λvs H Q _=>∃ x y p xs n ws hs L,vs = [x,y,.ref p]/\yk K H x y p xs n ws hs L/\mM ws hs L=true/\∀ H',aD H H'->Q .f_ H'
theorem aGL:dz ["book", "deal", "some"] ["book", "deal", "some"] (aF tH):=.of
theorem aFp {DL fS:ae} {Cv dS:bo} (G:Fn K mg "need_way" tH ["book", "deal", "some"] f fd) (B:Bl mg) (R:Pr K mg fW fH fK fB jn fD jy fL dW dH dK dB jo dD jz dL) (GW:Fn K mg "is_way" Al ["book", "deal", "some"] DL Cv) (GS:Fn K mg "is_step" wD ["book", "deal", "step"] fS dS):c_ P w K mg base fc 8 f fd ["book", "deal", "some"] (rZ K):=by
 have F2:c_ P w K mg base fc 7 DL Cv ["book", "deal", "some"] (FR K):=P6 GW B R GS
 refine G.fn.oK aGL λft A outer s H vs Q E hr h=>?_
 ·obtain ⟨x,y,p,xs,n,ws,hs,L,rfl,hi,hw,k⟩:=h
  refine ⟨_,aH (bU (cF (cB (aX GW F2 hr rfl (aA (pv 0) (aA (pv 1) (aA (pv 2) aC)))))) lV aW),?_⟩
  refine ⟨_,rfl,_,rfl,_,rfl,x,y,p,xs,n,ws,hs,L,rfl,hi.1,hi.2.1,hi.2.2.1,hi.2.2.2.1,hi.2.2.2.2,λH' s1=>⟨_,rfl,?_⟩⟩
  rw [hw]
  refine fZ ?_
  exact k H' s1
def yI (K:Rc):Sp:=λvs H Q _=>∃ x y p xs n ws hs L,vs = [x,y,.ref p]/\yk K H x y p xs n ws hs L/\mM ws hs L=true/\∀ q H',aD H H'->H q=none->H' q=some (.tup ((mX hs L).map V.int))->Q (.ref q) H'
theorem tW:dz ["book", "deal", "some", "behind", "work", "giver", "taker"] ["book", "deal", "some"] (aF DV):=.of
theorem aGM (G:Fn K mg "gone" DV ["book", "deal", "some"] f fd) (B:Bl mg) (Kh:Fn K mg "need_way" tH ["book", "deal", "some"] fN dN) (CD:c_ P w K mg base fc 8 fN dN ["book", "deal", "some"] (rZ K)):c_ P w K mg base fc 9 f fd ["book", "deal", "some"] (yI K):=by
 refine G.fn.oK tW λft A outer s H vs Q E hr h=>?_
 ·obtain ⟨x,y,p,xs,n,ws,hs,L,rfl,hi,hw,k⟩:=h
  have r8:ee 8 _:=hr
  refine ⟨_,(aE (dJ (aX Kh CD r8 rfl (aA (pv 0) (aA (pv 1) (aA (pv 2) aC)))))
  (aE (bA (i:=3) tW.nd rfl fi (cK xA rfl B.list P_ (aA (pv 1) aC)))
  (aE (eJ az.never rfl (kH (pv 2)) (dO rfl (aM (aI (i:=4) tW.nd rfl fi) (aM (aI (i:=5) tW.nd rfl fi) (aM (aI (i:=6) tW.nd rfl fi) bV))))
   (aH (iG (pv 6) (QT (pv 3) (pv 4) sL))))
  (aH (aN (cK bR rfl B.tuple cM (aA (pv 3) aC))))))),?_⟩
  refine ⟨_,rfl,_,rfl,_,rfl,x,y,p,xs,n,ws,hs,L,rfl,hi,hw,λH1 s1=>?_⟩
  have oy:=hi.same s1
  obtain ⟨c0,rfl,qv⟩:=aR.mp oy.1.2.2.1
  have uq:=aP hi.2.2.1
  rw [Qa] at uq
  refine ⟨_,rfl,c0,_,rfl,.inr qv,λbh Nw=>?_⟩
  have s2:=aD.new (o:=.lst (hs.map V.int)) Nw
  have e2:upd H1 bh (.lst (hs.map V.int)) bh=some (.lst (hs.map V.int)):=aB
  generalize upd H1 bh (.lst (hs.map V.int))=H2 at s2 e2 ⊢
  refine ⟨_,rfl,p,rfl,⟨_,(oy.same s2).2.1⟩,sE (K:=K) (a:=p) (xs:=xs) (λi σ H3=>∃ v4 v5 v6,σ = [some x,some (.ref c0),some (.ref p),some (.ref bh),v4,v5,v6]/\aD H1 H3/\H3 bh=some (.lst ((mX hs (L.take i)).map V.int))) ⟨_,_,_,rfl,s2,e2⟩ (λi σ H3 _ ⟨_,_,_,_,s3,_⟩=>(oy.same s3).2.1) ?_ ?_⟩
  ·rintro i u σ H3 hu ⟨v4,v5,v6,rfl,s3,e3⟩
   obtain ⟨c,kk,gg,tt,rfl,el,hc,ku⟩:=(oy.same s3).AV hw hu
   obtain ⟨k0,k1,_⟩:=rC ku
   refine ⟨c,_,rfl,hc,rfl,_,_,rfl,_,_,rfl,_,_,rfl,rfl,?_⟩
   refine ⟨_,rfl,_,rfl,_,rfl,bh,_,kk,kk.toNat,rfl,rfl,e3,P5 k0 (by rw [Qa,aDD]; exact k1),?_⟩
   refine ⟨_,_,_,rfl,s3.wr Nw,?_⟩
   rw [aB,Je,el]
   show some (HO.lst _)=some (HO.lst ((mX hs (L.take i++[[kk,gg,tt]])).map V.int))
   rw [aBI,List.map_set]
   rfl
  ·rintro σ H3 ⟨v4,v5,v6,rfl,s3,e3⟩
   rw [uq,Jb (Qh _)] at e3
   refine ⟨_,rfl,bh,_,rfl,.inl ⟨fh.of e3,λq hq=>k q _ ((s1.trans s3).trans (aD.new hq)) ((s1.trans s3).free hq) aB⟩⟩
end Ab
namespace Ab
noncomputable def eD (hs:List Int) (ss:List (Nat×Int×Int)):List Int:=ss.foldl (λh s=>h.set s.1 s.2.2) hs
theorem kA:∀ (ss:List (Nat×Int×Int)) (hs:List Int),(eD hs ss).length=hs.length
 | [],_=>rfl
 | s::r,hs=>by show (eD (hs.set s.1 s.2.2) r).length=_; rw [kA r,Ze]
theorem tX:∀ (hs:List Int) (w:Nat) (g t c:Int),hs[w]?=some g->(((hs.set w t).count c:Nat):Int)=((hs.count c:Nat):Int) - (if c=g then 1 else 0)+(if c=t then 1 else 0)
 | [],w,g,t,c,h=>by simp at h
 | a::r,0,g,t,c,h=>by
  have e:a=g:=by simpa using h
  subst e
  rw [List.set_cons_zero,Xc,Xc]
  by_cases h1:c=a <;> by_cases h2:c=t
  ·subst h1; subst h2; simp
  ·subst h1; have:(t==c)=false:=by simpa using λz=>h2 z.symm
   simp [h2,this]
  ·subst h2; have:(a==c)=false:=by simpa using λz=>h1 z.symm
   simp [h1,this]
  ·have e1:(a==c)=false:=by simpa using λz=>h1 z.symm
   have e2:(t==c)=false:=by simpa using λz=>h2 z.symm
   simp [h1,h2,e1,e2]
 | a::r,w+1,g,t,c,h=>by
  have ih:=tX r w g t c (by simpa using h)
  rw [List.set_cons_succ,Xc,Xc]
  omega
theorem SK {w:Nat} {g u:Int} (hg:hs[w]?=some g):∀ {h x:Int} {r:List (Nat×Int×Int)},fP ws hs h r x->(∀ s∈r,s.2.1≠g)->fP ws (hs.set w u) h r x
 | _,_,[],e,_=>e
 | h,_,s::r,⟨e1,⟨e2,e3⟩,e4⟩,hn=>by
  refine ⟨e1,⟨?_,e3⟩,SK hg e4 λs' hs'=>hn s' (Qg _ hs')⟩
  have f':w≠s.1:=λz=>by
   subst z
   rw [hg] at e2
   exact hn s (Qi ..) (e1.trans (Option.some.inj e2).symm)
  rw [Ym f']
  exact e2
theorem aAJ {h x:Int} (hp:fP ws hs h ss x):∀ s∈ss,s.2.1∈h::ss.map (·.2.2):=λs hs'=>by
 rw [<- nK hp]
 exact Jp _ (Qv.mpr ⟨s,hs',rfl⟩)
theorem nM:∀ (ss:List (Nat×Int×Int)) {hs:List Int} {h x:Int},fP ws hs h ss x->(h::ss.map (·.2.2)).Nodup->∀ c:Int,(((eD hs ss).count c:Nat):Int)=((hs.count c:Nat):Int) - (if c=h then 1 else 0)+(if c=x then 1 else 0)
 | [],hs,h,x,hp,_,c=>by
  have e:h=x:=hp
  subst e
  show ((hs.count c:Nat):Int)=_
  omega
 | s::r,hs,h,x,⟨e1,e2,e3⟩,hn,c=>by
  rw [Qw,Jv] at hn
  have h1:=SK (u:=s.2.2) e2.1 e3 λs' hs' z=>hn.1 (by rw [<- z]; exact aAJ e3 s' hs')
  have ih:=nM r h1 hn.2 c
  have e:=tX hs s.1 h s.2.2 c e2.1
  show (((eD (hs.set s.1 s.2.2) r).count c:Nat):Int)=_
  omega
theorem qG:∀ (ss:List (Nat×Int×Int)) {hs:List Int},(∀ s∈ss,∃ l,ws[s.1]?=some l/\s.2.2∈l)->(∀ (j:Nat) (h:Int) (l:List Int),hs[j]?=some h->ws[j]?=some l->h∈l)->∀ (j:Nat) (h:Int) (l:List Int),(eD hs ss)[j]?=some h->ws[j]?=some l->h∈l
 | [],_,_,hd=>hd
 | s::r,hs,hl,hd=>qG r (λs' h'=>hl s' (Qg _ h')) λj h l e1 e2=>by
  obtain ⟨l',z1,z2⟩:=hl s (Qi ..)
  rw [Xv] at e1
  by_cases z:s.1=j
  ·subst z
   rw [if_pos rfl] at e1
   split at e1
   ·rw [z1] at e2
    rw [<- Option.some.inj e2,<- Option.some.inj e1]; exact z2
   ·cases e1
  ·rw [if_neg z] at e1
   exact hd j h l e1 e2
noncomputable def om:Nat->Nat
 | 0=>0
 | k+1=>om k+k
noncomputable def Sm (g:Nat->Nat):Nat->Nat
 | 0=>0
 | n+1=>Sm g n+g n
theorem Q7 {g g':Nat->Nat}:∀ n:Nat,(∀ i,i < n->g' i=g i)->Sm g' n=Sm g n
 | 0,_=>rfl
 | n+1,h=>by show Sm g' n+g' n=Sm g n+g n; rw [Q7 n λi hi=>h i (by omega),h n (by omega)]
theorem J5 {g g':Nat->Nat} {a:Nat}:∀ n:Nat,a < n->(∀ i,i < n->i≠a->g' i=g i)->Sm g' n+g a=Sm g n+g' a
 | 0,h,_=>by omega
 | n+1,h,hh=>by
  show Sm g' n+g' n+g a=Sm g n+g n+g' a
  by_cases e:a=n
  ·subst e
   rw [Q7 a λi hi=>hh i (by omega) (by omega)]
   omega
  ·have ih:=J5 (g:=g) (g':=g') n (by omega) λi hi hn=>hh i (by omega) hn
   rw [hh n (by omega) (λz=>e z.symm)]
   omega
theorem P0:∀ k:Nat,k<=12->om k<=12*k
 | 0,_=>Qh _
 | k+1,h=>by have:=P0 k (by omega); show om k+k<=_; omega
theorem PD {g:Nat->Nat} {b:Nat} (h:∀ i,g i<=b):∀ n,Sm g n<=b*n
 | 0=>Jl _
 | n+1=>by have:=PD h n; have:=h n; show Sm g n+g n<=_; rw [Nat.mul_succ]; omega
noncomputable def yl (n:Nat) (hs:List Int):Nat:=Sm (λi=>om (hs.count (i:Int))) n
theorem Y? {n:Nat} (h6:n<=6) (h:hs.length<=12):yl n hs<=864:=by
 have:=PD (g:=λi=>om (hs.count (i:Int))) (b:=144) (λi=>by
  have h1:hs.count (i:Int)<=hs.length:=Yn
  have h2:=P0 _ (Jd h1 h)
  show om (hs.count (i:Int))<=144
  omega) n
 unfold yl
 omega
theorem aFr (W:kT n ws hs ss) (ht:∀ g w t,iD ws hs g w t->0<=t/\t < n):yl n.toNat (eD hs ss) < yl n.toNat hs:=by
 obtain ⟨h,x,f',hP,hN,Dp,Fm,Co,vi⟩:=W
 obtain ⟨s,hs'⟩:∃ s,ss[ss.length - 1]?=some s:=⟨_,Qc (by have:=Zj.mpr f'; omega)⟩
 have ex:=wJ hP s hs'
 have hx:=ht _ _ _ (mI hP _ s hs').1
 rw [ex] at hx
 have hc:=nM ss hP hN
 have Nn:h≠x:=λz=>by rw [z] at vi; omega
 have e1:=J5 (g:=λi=>om (hs.count (i:Int))) (g':=λi=>if i=h.toNat then om (hs.count h - 1) else om (hs.count (i:Int))) (a:=h.toNat) n.toNat (by omega) (λi _ z=>if_neg z)
 have e2:=J5 (g:=λi=>if i=h.toNat then om (hs.count h - 1) else om (hs.count (i:Int))) (g':=λi=>om ((eD hs ss).count (i:Int))) (a:=x.toNat) n.toNat (by omega) (λi hi z=>by
  have Nu:=hc (i:Int)
  by_cases zh:i=h.toNat
  ·have zi:(i:Int)=h:=by omega
   rw [if_pos zh]
   rw [zi,if_pos rfl,if_neg Nn] at Nu
   rw [zi]
   show om ((eD hs ss).count h)=_
   congr 1
   omega
  ·rw [if_neg zh]
   rw [if_neg (show ¬ (i:Int)=h by omega),if_neg (show ¬ (i:Int)=x by omega)] at Nu
   show om ((eD hs ss).count (i:Int))=_
   congr 1
   omega)
 have ch:((h.toNat:Nat):Int)=h:=by omega
 have cx:((x.toNat:Nat):Int)=x:=by omega
 simp only [if_pos,ch,cx,if_neg (show ¬ x.toNat=h.toNat by omega)] at e1 e2
 have XR:=hc x
 rw [if_neg (λz=>Nn z.symm),if_pos rfl] at XR
 have Ls:(eD hs ss).count x=hs.count x+1:=by omega
 rw [Ls] at e2
 have t1:om (hs.count x+1)=om (hs.count x)+hs.count x:=rfl
 have t2:om (hs.count h)=om (hs.count h - 1)+(hs.count h - 1):=by
  have:hs.count h=(hs.count h - 1)+1:=by omega
  conv=>lhs; rw [this]
  rfl
 unfold yl
 omega
def oY (n:Int) (ws:List (List Int)):List Int->List (List (Nat×Int×Int))->List Int->Prop
 | hs,[],he=>hs=he
 | hs,ss::r,he=>kT n ws hs ss/\oY n ws (eD hs ss) r he
theorem oY.snoc:∀ {hs:List Int} {W:List (List (Nat×Int×Int))} {hc:List Int} {ss:List (Nat×Int×Int)},oY n ws hs W hc->kT n ws hc ss->oY n ws hs (W++[ss]) (eD hc ss)
 | _,[],_,_,e,w=>by cases e; exact ⟨w,rfl⟩
 | _,_::_,_,_,⟨a,b⟩,w=>⟨a,oY.snoc b w⟩
end Ab
namespace Ab
open PySem L2
theorem Q6:∀ (ss:List (Nat×Int×Int)) (hs:List Int),mX hs (ss.map iE)=eD hs ss
 | [],_=>rfl
 | s::r,hs=>by
  have e:((iE s).getD 0 0).toNat=s.1:=Jc _
  show mX (hs.set ((iE s).getD 0 0).toNat (qB (iE s))) (r.map iE)=eD (hs.set s.1 s.2.2) r
  rw [e,Q6 r]
  rfl
theorem Q5 {h x:Int} (f':ss≠[]) (hP:fP ws hs h ss x) (hN:(h::ss.map (·.2.2)).Nodup):mM ws hs (ss.map iE)=true:=by
 have hp:bW (ss.map iE)=h::ss.map (·.2.2):=by
  cases ss with
  | nil=>exact absurd rfl f'
  | cons s r =>
   show jP (iE s)::((s::r).map iE).map qB=_
   rw [Jn,show jP (iE s)=h from hP.1]
   rfl
 unfold mM rW
 rw [hp,decide_eq_true hN,Qak,Jf,Jf]
 refine ⟨?_,?_,?_⟩
 ·cases ss with
  | nil=>exact absurd rfl f'
  | cons _ _=>rfl
 ·rw [Qy]
  intro st ku
  obtain ⟨s,hs',rfl⟩:=Qv.mp ku
  obtain ⟨i,hi⟩:=Qu.mp hs'
  obtain ⟨⟨e1,l,e2,e3,e4⟩,_⟩:=mI hP i s hi
  have ff:=(Qb.mp e1).1
  show (decide (0<=(s.1:Int)) && (decide ((s.1:Int) < hs.length) && (hs[(s.1:Int).toNat]?==some s.2.1 && (!decide (s.2.2=s.2.1) && decide (s.2.2∈ws.getD (s.1:Int).toNat [])))))=true
  rw [Jc,e1,Qn,e2,decide_eq_true (show (0:Int)<=s.1 by omega),decide_eq_true (show (s.1:Int) < hs.length by omega),decide_eq_false e4,decide_eq_true (show s.2.2∈(some l).getD [] from e3)]
  simp
 ·rw [<- nK hP,Qy]
  intro p vc
  obtain ⟨i,hi⟩:=Qu.mp vc
  rw [Qz] at hi
  obtain ⟨h1,h2⟩:=hi
  rw [Qd] at h1
  cases q:ss[i]? with
  | none=>rw [q] at h1; cases h1
  | some s =>
   rw [q] at h1
   have ff:=(Qb.mp q).1
   rw [Qs (by rw [Qa]; exact ff),Qd,q] at h2
   rw [<- Option.some.inj h1,<- Option.some.inj h2]
   exact beq_self_eq_true _
structure gw (H:Hp) (qs:List ae) (Ws:List (List (Nat×Int×Int))):Prop where
 len:qs.length=Ws.length
 at_:∀ (i:Nat) q ss,qs[i]?=some q->Ws[i]?=some ss->∃ ps:List ae,H q=some (.lst (ps.map V.ref))/\fq H ps ss
theorem gw.same (h:gw H qs Ws) (s:aD H H'):gw H' qs Ws:=⟨h.len,λi q ss a b=>let ⟨ps,h1,h2⟩:=h.at_ i q ss a b; ⟨ps,s _ _ h1,h2.tp (Tp.of s)⟩⟩
theorem Tp.but {t:ae} (b:kb t H H') (ht:H t=some (.lst zs)):Tp H H':=λp xs h=>b p _ (λz=>by rw [z,ht] at h; cases h) h
theorem gw.but {t:ae} (h:gw H qs Ws) (b:kb t H H') (ht:H t=some (.lst zs)) (hn:∀ q∈qs,q≠t):gw H' qs Ws:=⟨h.len,λi q ss a e=>let ⟨ps,h1,h2⟩:=h.at_ i q ss a e; ⟨ps,b _ _ (hn q (Qe a)) h1,h2.tp (Tp.but b ht)⟩⟩
theorem gw.snoc {q:ae} {ps:List ae} (h:gw H qs Ws) (h1:H q=some (.lst (ps.map V.ref))) (h2:fq H ps ss):gw H (qs++[q]) (Ws++[ss]):=by
 refine ⟨by rw [Qj,Qj,h.len]; rfl,λi q' Gf a b=>?_⟩
 by_cases hi:i < qs.length
 ·rw [Qs hi] at a
  rw [Qs (by rw [<- h.len]; exact hi)] at b
  exact h.at_ i q' Gf a b
 ·rw [Ji (by omega)] at a
  rw [Ji (by rw [<- h.len]; omega)] at b
  have ff:=(Qb.mp a).1
  have e0:i - qs.length=0:=by simp at ff; omega
  rw [e0] at a
  rw [<- h.len,e0] at b
  have ea:q=q':=by simpa using a
  have eb:ss=Gf:=by simpa using b
  subst ea; subst eb
  exact ⟨ps,h1,h2⟩
def Y! (n:Int) (ws:List (List Int)) (hs:List Int) (H':Hp) (p:ae):Prop :=
 ∃ wl dl qs Ws he lv,H' p=some (.tup [.ref wl,.ref dl])/\H' wl=some (.lst (qs.map V.ref))/\gw H' qs Ws/\Ws.length<=864/\H' dl=some (.tup (he.map V.int))/\oY n ws hs Ws he/\cJ n ws he lv
def iZ (K:Rc) (Pt:ae):Sp:=λvs H Q _=>∃ x y n ws hs,vs = [x,y]/\dQ K H x y n ws hs/\H Pt=some (.tab qF)/\∀ p H',aD H H'->Y! n ws hs H' p->Q (.ref p) H'
theorem dQ.but {x:V} {t:ae} (g:dQ K H x y n ws hs) (b:kb t H H') (ht:H t=some (.lst zs)):dQ K H' x y n ws hs:=⟨b.den ht _ _ (aAB n ws) g.1,g.2.1,b.den ht _ _ (aAA hs) g.2.2.1,g.2.2.2⟩
theorem dQ.uk {x:V} (g:dQ K H x y n ws hs):∀ a w t,iD ws hs a w t->0<=t/\t < n:=λa w t e=>by
 obtain ⟨_,_,iz,ip⟩:=aT g.2.1
 obtain ⟨_,l,h1,h2,_⟩:=e
 exact (aZ (ip l (Qe h1))).2.1 t h2
theorem dQ.short {x:V} (g:dQ K H x y n ws hs) (W:kT n ws hs ss):ss.length<=12:=by
 obtain ⟨ny,mi,km⟩:=g.len
 obtain ⟨h,xx,f',hP,hN,Dp,Fm,Co,vi⟩:=W
 have:=jY n.toNat (h::ss.map (·.2.2)) hN λz hz=>by
  rcases Ql.mp hz with rfl | hz
  ·omega
  ·obtain ⟨s',hs',rfl⟩:=Qv.mp hz
   obtain ⟨i,hi⟩:=Qu.mp hs'
   have:=g.uk _ _ _ (mI hP i s' hi).1
   omega
 rw [Ja,Qa] at this
 omega
theorem dQ.gone {x:V} (g:dQ K H x y n ws hs) (W:kT n ws hs ss) {d:ae} (hd:d_ K H d ((eD hs ss).map V.int)):dQ K H x (.ref d) n ws (eD hs ss):=by
 obtain ⟨jk,Ae⟩:=aV g.2.2.2
 obtain ⟨h,xx,f',hP,_⟩:=W
 refine ⟨g.1,g.2.1,aR.mpr ⟨d,rfl,hd⟩,gX (by rw [kA]; exact jk) (qG ss (λs hs'=>?_) Ae)⟩
 obtain ⟨i,hi⟩:=Qu.mp hs'
 obtain ⟨⟨_,l,e2,e3,_⟩,_⟩:=mI hP i s hi
 exact ⟨l,e2,e3⟩
theorem fQ:dz ["book", "deal", "ways", "word", "shown"] ["book", "deal"] (aF gL):=.of
theorem aAK {fG:ae} {dG:bo} (G:Fn K mg "bettered" gL ["book", "deal"] f fd) (B:Bl mg) (Au:Fn K mg "levels_or_way" Cy ["book", "deal"] Cr Bk) (Bv:c_ P w K mg base fc 8 Cr Bk ["book", "deal"] (DY K Pt)) (GG:Fn K mg "gone" DV ["book", "deal", "some"] fG dG) (OG:c_ P w K mg base fc 9 fG dG ["book", "deal", "some"] (yI K)):c_ P w K mg base fc 10 f fd ["book", "deal"] (iZ K Pt):=by
 refine G.fn.oK fQ λft A outer s H vs Q E hr h=>?_
 ·obtain ⟨x,y,n,ws,hs,rfl,g,hT,k⟩:=h
  have r9:ee 9 _:=hr
  have r8:ee 8 _:=hr.mono (by decide)
  refine ⟨_,(aE (bA (i:=2) fQ.nd rfl fi (eO aC))
  (aE (iG (aX Au Bv r8 rfl (aA (pv 0) (aA (pv 1) aC))) (dO rfl (aM (aI (i:=3) fQ.nd rfl fi) (aM (aI (i:=4) fQ.nd rfl fi) bV))))
  (aE (nU az.never (aU mO (pv 3) sD gm)
   (aE (dJ (mP Rt Rz Ta gJ (pv 2) (aA (pv 4) aC)))
  (aE (bA (i:=1) fQ.nd rfl fi (aX GG OG r9 rfl (aA (pv 0) (aA (pv 1) (aA (pv 4) aC)))))
  (aH (iG (aX Au Bv r8 rfl (aA (pv 0) (aA (pv 1) aC))) (dO rfl (aM (aI (i:=3) fQ.nd rfl fi) (aM (aI (i:=4) fQ.nd rfl fi) bV))))))))
  (aH (aN (cO (aA (pv 2) (aA (cK bR rfl B.tuple cM (aA (bX (own:=["hand"]) (fr:=[]) (fm:=[]) (aY (aF gL) ["book", "deal", "ways", "word", "shown"] rfl rfl (by decide +kernel)) rfl (eI (pv 1))
    (λ_ _ _ _=>(aI (i:=0) (show (["hand"]:List ax).Nodup by decide +kernel) rfl fi)) (λ_ _ _ _=>cP)
    (λ_ _ _ _=>(pv 0))) aC)) aC)))))))),?_⟩
  obtain ⟨ny,mi,km⟩:=g.len
  obtain ⟨c0,rfl,_⟩:=aR.mp g.2.2.1
  refine ⟨eG (Jl _),λwl xu=>?_⟩
  have s0:=aD.new (o:=.lst []) xu
  have e0:upd H wl (.lst []) wl=some (.lst []):=aB
  generalize upd H wl (.lst [])=H0 at s0 e0 ⊢
  refine ⟨_,rfl,_,rfl,x,.ref c0,n,ws,hs,rfl,g.same s0,s0 _ _ hT,λp1 H1 s1 TD=>?_⟩
  obtain ⟨W,hW⟩:∃ W:Nat->St->Hp->Prop,W=λm σ H1=>∃ (d q:ae) (hc:List Int) (Ws:List (List (Nat×Int×Int))) (qs:List ae) (word:ax),σ = [some x,some (.ref d),some (.ref wl),some (.str word),some (.ref q)]/\aD H H1/\dQ K H1 x (.ref d) n ws hc/\H1 wl=some (.lst (qs.map V.ref))/\gw H1 qs Ws/\(∀ z∈qs,z≠wl)/\oY n ws hs Ws hc/\Ws.length+yl n.toNat hc<=864/\m=yl n.toNat hc /\
    ((word = "levels" /\ ∃ lv,cJ n ws hc lv)∨(word = "way" /\ q≠wl/\∃ ps ss,H1 q=some (.lst (ps.map V.ref))/\fq H1 ps ss/\kT n ws hc ss)):=⟨_,rfl⟩
  -- what is told is taken up
  have take:∀ (d p1:ae) (hc:List Int) (Ws:List (List (Nat×Int×Int))) (qs:List ae) (Ha Hb:Hp),aD H Ha->aD Ha Hb->dQ K Ha x (.ref d) n ws hc->Ha wl=some (.lst (qs.map V.ref))->gw Ha qs Ws->(∀ z∈qs,z≠wl)->oY n ws hs Ws hc->Ws.length+yl n.toNat hc<=864->JH n ws hc Ha Hb p1 ->
    ∃ word q,Hb p1=some (.tup [.str word,.ref q])/\W (yl n.toNat hc) [some x,some (.ref d),some (.ref wl),some (.str word),some (.ref q)] Hb:=by
   intro d p1 hc Ws qs Ha Hb sa sb ga ea wa na ca la TD
   subst hW
   rcases TD with ⟨q,lv,h1,_,h2⟩ | ⟨q,ps,ss,h1,h2,h3,h4,h5⟩
   ·exact ⟨_,q,h1,d,q,hc,Ws,qs,_,rfl,sa.trans sb,ga.same sb,sb _ _ ea,wa.same sb,na,ca,la,rfl,.inl ⟨rfl,lv,h2⟩⟩
   ·exact ⟨_,q,h1,d,q,hc,Ws,qs,_,rfl,sa.trans sb,ga.same sb,sb _ _ ea,wa.same sb,na,ca,la,rfl,.inr ⟨rfl,(λz=>by rw [z,ea] at h2; cases h2),ps,ss,h3,h4,h5⟩⟩
  obtain ⟨word,q,h1,w1⟩:=take c0 p1 hs [] [] H0 H1 s0 s1 (g.same s0) e0 ⟨rfl,λi q ss a=>by simp at a⟩ (λ_ h=>(Qp h).elim) rfl (by have:=Y? (n:=n.toNat) (hs:=hs) (by omega) ny; simpa using this) TD
  refine ⟨p1,_,rfl,d_.of h1,rfl,_,_,rfl,_,_,rfl,rfl,?_⟩
  refine ⟨W,⟨_,w1⟩,?_⟩
  intro m σ H2 w2
  have L0:=w2
  rw [hW] at L0
  obtain ⟨d,q,hc,Ws,qs,word,rfl,s2,g2,e2,F8,MY,O7,le2,hm,alt⟩:=L0
  refine ⟨_,rfl,rfl,_,rfl,?_⟩
  rcases alt with ⟨rfl,lv,rk⟩ | ⟨rfl,nq,ps,ss,hq,hS,DA⟩
  ·rw [decide_eq_false (show ¬ V.str "levels" = V.str "way" by intro z; injection z with z; revert z; decide)]
   refine fZ ?_
   obtain ⟨c1,ec,Nv⟩:=aR.mp g2.2.2.1
   obtain rfl:d=c1:=by injection ec
   obtain ⟨hlc,_,_⟩:=g2.len
   refine ⟨_,rfl,_,rfl,d,rfl,⟨_,Nv⟩,lF (K:=K) (a:=d) (xs:=hc.map V.int) (vs:=hc.map V.int) (λσ=>∃ v,σ = [v]) (by rw [Qa]; omega) rfl Nv ⟨none,rfl⟩ ?_ ?_⟩
   ·rintro j xv v σ H3 hx hv ⟨v',rfl⟩ s3 Q' j_
    rw [hx] at hv
    obtain rfl:=Option.some.inj hv
    exact ⟨_,rfl,j_ _ _ ⟨_,rfl⟩ (aD.refl _)⟩
   ·rintro H3 s3 z hz
    have s4:=aD.new (o:=.lst (hc.map V.int)) hz
    refine ⟨z,_,rfl,.inl ⟨fh.of aB,λdl jk=>?_⟩⟩
    have s5:=aD.new (o:=.tup (hc.map V.int)) jk
    refine ⟨qm _ _,λp hp=>?_⟩
    have s6:=aD.new (o:=.tup [.ref wl,.ref dl]) hp
    have B5:=((s3.trans s4).trans s5).trans s6
    exact k p _ (s2.trans B5) ⟨wl,dl,qs,Ws,hc,lv,aB,B5 _ _ e2,F8.same B5,by omega,s6 _ _ aB,O7,rk⟩
  ·rw [decide_eq_true rfl]
   refine gA ?_
   refine ⟨λe_ H'=>∃ m',m' < m/\W m' e_ H',λ_ _ z=>z,?_⟩
   have G6:(qs.map V.ref).length < ak:=by rw [Qa,F8.len]; exact Ya (show Ws.length<=864 by omega) (by rw [Rf]; decide)
   refine ⟨_,rfl,.inl ⟨rfl,_,fh.of e2⟩,_,rfl,wl,_,_,rfl,rfl,e2,G6,?_⟩
   have b3:kb wl H2 (upd H2 wl (.lst (qs.map V.ref++[.ref q]))):=kb.at
   have e3:upd H2 wl (.lst (qs.map V.ref++[.ref q])) wl=some (.lst ((qs++[q]).map V.ref)):=by rw [aB,Qo]; rfl
   have s3:aD H (upd H2 wl (.lst (qs.map V.ref++[.ref q]))):=s2.wr xu
   have g3:=g2.but b3 e2
   have Df:=b3 _ _ nq hq
   have Bd:=hS.tp (Tp.but b3 e2)
   have LZ:=(F8.but b3 e2 MY).snoc Df Bd
   generalize upd H2 wl (.lst (qs.map V.ref++[.ref q]))=H3 at b3 e3 s3 g3 Df Bd LZ ⊢
   obtain ⟨h,xx,f',hP,hN,sg⟩:=id DA
   have G2:=g2.short DA
   refine ⟨_,rfl,_,rfl,_,rfl,x,.ref d,q,ps.map V.ref,n,ws,hc,ss.map iE,rfl,⟨g3,fh.of Df,Bd.den,by rw [Qa]; omega,λl hl=>?_⟩,Q5 f' hP hN,λd' H4 s4 i5 e4=>?_⟩
   ·obtain ⟨s',_,rfl⟩:=Qv.mp hl
    exact (show 3<=1000 by decide)
   rw [Q6] at e4
   have g4:=(g3.same s4).gone DA (d_.of e4)
   have TZ:=aFr DA g2.uk
   refine ⟨_,rfl,_,rfl,x,.ref d',n,ws,eD hc ss,rfl,g4,s4 _ _ (s3 _ _ hT),λp5 H5 s5 TD5=>?_⟩
   obtain ⟨word,q',h5,w5⟩:=take d' p5 (eD hc ss) (Ws++[ss]) (qs++[q]) H4 H5 (s3.trans s4) s5 g4 (s4 _ _ e3) (LZ.same s4) (λz hz=>by
    rcases Jk.mp hz with hz | hz
    ·exact MY z hz
    ·rw [Qr.mp hz]; exact nq) (O7.snoc DA) (by rw [Qj]; show Ws.length+1+_<=864; omega) TD5
   refine ⟨p5,_,rfl,d_.of h5,rfl,_,_,rfl,_,_,rfl,rfl,?_⟩
   exact ⟨_,by omega,w5⟩
theorem aBK (l:List Int) (x:Int):aL (l++[x])=aL l+x:=by
 unfold L2.aL
 induction l with
 | nil=>simp
 | cons a r ih=>rw [Yk,Yp,Yp,ih,Int.add_assoc]
theorem aDE {a b:List Int} (hp:a.Perm b) (ha:a.Pairwise (·≥·)) (hb:b.Pairwise (·≥·)):a=b:=by
 have h:a.reverse=b.reverse:=PySem.W.ksm_same ((List.reverse_perm a).trans (hp.trans (List.reverse_perm b).symm)) (Yj.mpr ha) (Yj.mpr hb)
 rw [<- Ww a,h,Ww]
noncomputable def eP (a b:List Int):Bool:=(List.range (a.length+1)).all λk=>decide (aL (a.take k)<=aL (b.take k))
theorem rD {a b:List Int} (h:∀ k,k<=a.length->aL (a.take k)<=aL (b.take k)):eP a b=true:=by
 unfold eP
 rw [Qy]
 intro k hk
 have:=Jm.mp hk
 exact decide_eq_true (h k (by omega))
theorem yJ {a b:List Int} {k:Nat} (hk:k<=a.length) (h:aL (b.take k) < aL (a.take k)):eP a b=false:=by
 cases e:eP a b with
 | false=>rfl
 | true =>
  unfold eP at e
  rw [Qy] at e
  have:=of_decide_eq_true (e k (Jm.mpr (by omega)))
  omega
theorem tY {x:Int} (h:l[i]?=some x):aL (l.take (i+1))=aL (l.take i)+x:=by
 rw [Je,h]
 exact aBK _ _
theorem qH (h:(l.map V.int)[i]?=some v):∃ x,l[i]?=some x/\V.int x=v:=by
 rw [Qd] at h
 cases q:l[i]? with
 | none=>rw [q] at h; cases h
 | some x=>rw [q] at h; exact ⟨x,rfl,Option.some.inj h⟩
theorem aGN {l:bq} (hK:X.K=K) (hl:PE X l tl):PI X tg l (Po K tl):=by subst hK; exact eI hl
def iM (K:Rc):Sp:=λvs H Q _=>∃ x y n ws hs,vs = [x,y]/\dQ K H x y n ws hs/\∀ p H' (ms:List Int),aD H H'->H p=none->H' p=some (.lst (ms.map V.int))->ms.Perm (aJ n hs)->ms.Pairwise (·≥·)->Q (.ref p) H'
theorem aDF:dz ["book", "deal"] ["book", "deal"] (aF iT):=.of
theorem kM (G:Fn K mg "falling" iT ["book", "deal"] f fd) (B:Bl mg) (R:Pr K mg fW fH fK fB jn fD jy fL dW dH dK dB jo dD jz dL):c_ P w K mg base fc 8 f fd ["book", "deal"] (iM K):=by
 have OL:c_ P w K mg base fc 7 fL dL ["book", "deal"] (kK K):=jW B R
 refine G.fn.oK aDF λft A outer s H vs Q E hr h=>?_
 ·obtain ⟨x,y,n,ws,hs,rfl,g,k⟩:=h
  refine ⟨_,aH (aN (uU rfl B.sorted (aX R.L OL hr rfl (aA (pv 0) (aA (pv 1) aC))))),?_⟩
  obtain ⟨hl,mi,km⟩:=g.len
  refine ⟨_,rfl,_,rfl,x,y,n,ws,hs,rfl,g,λp H1 s1 hp=>?_⟩
  refine ⟨p,aJ n hs,rfl,.inr (d_.of hp),by rw [bI]; omega,λq ms hq Fe x9=>?_⟩
  exact k q _ ms (s1.trans (aD.new hq)) (s1.free hq) aB Fe x9
theorem gH:∀ (a b:List Int),aL (a++b)=aL a+aL b
 | [],b=>by rw [Zr,show aL ([]:List Int)=0 from rfl,Zz]
 | x::a,b=>by
  show x+aL (a++b)=x+aL a+aL b
  rw [gH a b]; omega
theorem aBL {a b:List Int} (h:a.Perm b):aL a=aL b:=by
 induction h with
 | nil=>rfl
 | cons x _ ih=>exact congrArg (x + ·) ih
 | swap x y l=>show y+(x+aL l)=x+(y+aL l); omega
 | trans _ _ h1 h2=>exact h1.trans h2
theorem lM {f g:α->Int}:∀ {l:List α},(∀ x∈l,f x<=g x)->aL (l.map f)<=aL (l.map g)
 | [],_=>Js _
 | x::l,h=>by
  show f x+aL (l.map f)<=g x+aL (l.map g)
  have h1:=h x (Qi ..)
  have h2:=lM (l:=l) (f:=f) (g:=g) λy hy=>h y (Qg _ hy)
  omega
theorem cV {f g:α->Int} {l:List α} (h:∀ x∈l,f x=g x):aL (l.map f)=aL (l.map g):=by
 rw [Xw h]
theorem iN (f g:α->Int):∀ (l:List α),aL (l.map λx=>f x+g x)=aL (l.map f)+aL (l.map g)
 | []=>rfl
 | x::l=>by
  show f x+g x+aL (l.map λx=>f x+g x)=f x+aL (l.map f)+(g x+aL (l.map g))
  rw [iN f g l]; omega
theorem gO {f:α->Int}:∀ {l:List α},(∀ x∈l,f x=0)->aL (l.map f)=0
 | [],_=>rfl
 | x::l,h=>by
  show f x+aL (l.map f)=0
  rw [h x (Qi ..),gO λy hy=>h y (Qg _ hy)]; rfl
noncomputable def ex (t:Int) (l:List Int):Int:=aL (l.map λx=>max (x - t) 0)
theorem wK (t:Int):∀ l:List Int,0<=ex t l
 | []=>Js _
 | x::l=>by
  show 0<=max (x - t) 0+ex t l
  have:=wK t l
  omega
theorem sA {t:Int} {a b:List Int} (h:a.Perm b):ex t a=ex t b:=aBL (h.map _)
theorem SJ (t:Int) (l:List Int) (k:Nat):ex t l=ex t (l.take k)+ex t (l.drop k):=by
 unfold ex
 rw [<- gH,<- Qo,Za]
theorem PZ (t:Int):∀ l:List Int,aL l<=l.length*t+ex t l
 | []=>by show (0:Int)<=_; rw [Xx]; show (0:Int)<=0*t+0; omega
 | x::l=>by
  have h:=PZ t l
  show x+aL l<=((l.length+1:Nat):Int)*t+(max (x - t) 0+ex t l)
  have e:((l.length+1:Nat):Int)*t=(l.length:Int)*t+t:=by rw [Yb,Qad]; simp
  rw [e]
  generalize (l.length:Int)*t=z at h
  omega
theorem PY {t:Int}:∀ {l:List Int},(∀ x∈l,t<=x)->l.length*t+ex t l=aL l
 | [],_=>by show (0:Int)*t+0=0; omega
 | x::l,h=>by
  have h1:=PY (t:=t) (l:=l) λy hy=>h y (Qg _ hy)
  have h2:=h x (Qi ..)
  show ((l.length+1:Nat):Int)*t+(max (x - t) 0+ex t l)=x+aL l
  have e:((l.length+1:Nat):Int)*t=(l.length:Int)*t+t:=by rw [Yb,Qad]; simp
  rw [e]
  generalize (l.length:Int)*t=z at h1
  omega
theorem aGO {t:Int} (h:∀ x∈l,x<=t):ex t l=0:=gO λx hx=>by have:=h x hx; omega
theorem aBM {a b ys:List Int} (hl:a.length=b.length) (h:∀ t,ex t a<=ex t b) (hm:ms.Perm a) (hy:ys.Perm b) (sy:ys.Pairwise (·≥·)) (k:Nat) (hk:k<=ms.length):aL (ms.take k)<=aL (ys.take k):=by
 cases k with
 | zero=>rw [Zo,Zo]; exact Js _
 | succ k =>
  have hyl:ys.length=ms.length:=by rw [hy.length_eq,hm.length_eq,hl]
  have ff:k < ys.length:=by omega
  have hd:=Za (k+1) ys
  have ke:∀ i j,i<=j->∀ x y,ys[i]?=some x->ys[j]?=some y->y<=x:=λi j A7 x y ea eb=>by
   rcases Ys i j with h | h
   ·obtain ⟨hi,rfl⟩:=Qb.mp ea
    obtain ⟨hj,rfl⟩:=Qb.mp eb
    exact Xo.mp sy i j hi hj h
   ·have:=Nat.le_antisymm A7 h
    subst this
    rw [ea] at eb
    rw [Option.some.inj eb]; exact Js _
  have et:ys[k]?=some ys[k]:=Qc ff
  generalize ys[k]=t at et
  have h1:∀ x∈ys.take (k+1),t<=x:=λx hx=>by
   obtain ⟨i,hi⟩:=Qu.mp hx
   have Ac:i < k+1:=by have:=(Qb.mp hi).1; rw [Qq] at this; omega
   rw [List.getElem?_take,if_pos Ac] at hi
   exact ke i k (by omega) x t hi et
  have h2:∀ x∈ys.drop (k+1),x<=t:=λx hx=>by
   obtain ⟨i,hi⟩:=Qu.mp hx
   rw [Qaj] at hi
   exact ke k (k+1+i) (by omega) t x et hi
  have e1:=PZ t (ms.take (k+1))
  have e2:=PY h1
  have e3:=SJ t ms (k+1)
  have e4:=SJ t ys (k+1)
  have e5:=aGO h2
  have e6:=wK t (ms.drop (k+1))
  have e7:=h t
  rw [<- sA hm,<- sA hy] at e7
  have l1:(ms.take (k+1)).length=(ys.take (k+1)).length:=by rw [Qq,Qq]; omega
  rw [l1] at e1
  omega
theorem kN {a b ys:List Int} (hl:a.length=b.length) (h:∀ t,ex t a<=ex t b) (hm:ms.Perm a) (hy:ys.Perm b) (sy:ys.Pairwise (·≥·)):eP ms ys=true:=rD λk hk=>aBM hl h hm hy sy k hk
noncomputable def k9 (p:Int->Bool) (hs:List Int):Int:=aL (hs.map λh=>if p h then 1 else 0)
theorem kh {p:Int->Bool}:∀ {hs hs':List Int},hs.length=hs'.length->(∀ (i:Nat) g t,hs[i]?=some g->hs'[i]?=some t->p g=true->p t=true)->k9 p hs<=k9 p hs'
 | [],[],_,_=>Js _
 | g::hs,t::hs',hl,h=>by
  have h1:=kh (p:=p) (hs:=hs) (hs':=hs') (by simpa using hl) λi a b ha hb=>h (i+1) a b (by simpa using ha) (by simpa using hb)
  have h2:=h 0 g t rfl rfl
  show (if p g then (1:Int) else 0)+k9 p hs<=(if p t then (1:Int) else 0)+k9 p hs'
  cases hg:p g with
  | false =>
   simp only [Jh,if_false]
   split <;> omega
  | true =>
   rw [h2 hg]
   simp only [if_true]
   omega
 | [],_::_,hl,_=>by simp at hl
 | _::_,[],hl,_=>by simp at hl
theorem aGP {m:Nat} {h:Int} (p:Int->Bool) (h0:0<=h) (h1:h < m):aL ((cW m).map λi=>if p i then (if h=i then 1 else 0) else 0)=if p h then 1 else 0:=by
 induction m with
 | zero=>omega
 | succ m ih =>
  have e:cW (m+1)=cW m++[(m:Int)]:=by unfold cW; rw [Wr,Qo]; rfl
  rw [e,Qo,gH]
  show _+((if p (m:Int) then (if h=(m:Int) then (1:Int) else 0) else 0)+0)=_
  by_cases hm:h=(m:Int)
  ·rw [gO (l:=cW m) (f:=λi=>if p i then (if h=i then 1 else 0) else 0) λx hx=>by
    unfold cW at hx
    obtain ⟨i,hi,rfl⟩:=Qv.mp hx
    have uf:=Jm.mp hi
    rw [if_neg (show ¬ h=((i:Nat):Int) by omega)]
    split <;> rfl]
   rw [if_pos hm,hm]
   omega
  ·rw [ih (by omega),if_neg hm]
   have:(if p (m:Int)=true then (0:Int) else 0)=0:=by split <;> rfl
   rw [this]
   omega
theorem iO (p:Int->Bool):∀ {hs:List Int},(∀ h∈hs,0<=h/\h < n)->aL ((cW n.toNat).map λh=>if p h then ((hs.count h:Nat):Int) else 0)=k9 p hs
 | [],_=>by
  show _=(0:Int)
  exact gO λx _=>by
   rw [List.count_nil]
   split <;> rfl
 | h::hs,hh=>by
  have ih:=iO p (hs:=hs) λx hx=>hh x (Qg _ hx)
  have hb:=hh h (Qi ..)
  have e1:=aGP (m:=n.toNat) p hb.1 (by omega)
  show _=(if p h then (1:Int) else 0)+k9 p hs
  rw [<- ih,<- e1,<- iN]
  refine cV λi _=>?_
  rw [Xc]
  by_cases hp:p i=true
  ·rw [if_pos hp,if_pos hp,if_pos hp]
   by_cases hi:h=i
   ·rw [if_pos hi,if_pos (by rw [hi]; simp)]; omega
   ·rw [if_neg hi,if_neg (by simpa using hi)]; omega
  ·rw [if_neg hp,if_neg hp,if_neg hp]; rfl
theorem aDG (L:cJ n ws hs lv) (hr:∀ h∈hs,0<=h/\h < n) (xy:∀ h∈hs',0<=h/\h < n) (hl:hs.length=hs'.length) (ha:∀ (i:Nat) t,hs'[i]?=some t->∃ l,ws[i]?=some l/\t∈l) (t:Int):ex t (aJ n hs)<=ex t (aJ n hs'):=by
 obtain ⟨rk,hL⟩:=L
 have at_:∀ h:Int,0<=h->h < n->∃ v,lv[h.toNat]?=some v/\lL ws hs n.toNat h v/\((hs.count h:Nat):Int) - v < 2:=λh h0 h1=>by
  have ff:h.toNat < lv.length:=by omega
  have e:=Qc ff
  obtain ⟨m1,m2⟩:=hL _ _ e
  rw [show ((h.toNat:Nat):Int)=h by omega] at m1 m2
  exact ⟨_,e,m1,m2⟩
 let p:Int->Bool:=λh=>decide (t<=lv.getD h.toNat 0)
 have pv:∀ h v,lv[h.toNat]?=some v->p h=decide (t<=v):=λh v e=>by
  show decide (t<=lv.getD h.toNat 0)=_
  rw [Qn,e]; rfl
 have up:∀ x∈cW n.toNat,0<=x/\x < n:=λx hx=>by
  unfold cW at hx
  obtain ⟨i,hi,rfl⟩:=Qv.mp hx
  have:=Jm.mp hi
  omega
 have e1:ex t (aJ n hs)=aL ((cW n.toNat).map λh=>if p h then ((hs.count h:Nat):Int) else 0)+aL ((cW n.toNat).map λh=>if p h then -t else 0):=by
  unfold ex aJ
  rw [Jn,<- iN]
  refine cV λh hh=>?_
  obtain ⟨h0,h1⟩:=up h hh
  obtain ⟨v,ev,mv,dv⟩:=at_ h h0 h1
  have lev:=mv.le
  show max (((hs.count h:Nat):Int) - t) 0=_
  rw [pv h v ev]
  by_cases hp:t<=v
  ·rw [decide_eq_true hp,if_pos rfl,if_pos rfl]; omega
  ·rw [decide_eq_false hp,if_neg Qm,if_neg Qm]; omega
 have e2:aL ((cW n.toNat).map λh=>if p h then ((hs'.count h:Nat):Int) else 0)+aL ((cW n.toNat).map λh=>if p h then -t else 0)<=ex t (aJ n hs'):=by
  unfold ex aJ
  rw [Jn,<- iN]
  refine lM λh hh=>?_
  show _<=max (((hs'.count h:Nat):Int) - t) 0
  split <;> omega
 have e3:k9 p hs<=k9 p hs':=by
  refine kh hl λi g u hg hu Ng=>?_
  obtain ⟨l,el,GY⟩:=ha i u hu
  have gb:=hr g (Qe hg)
  have ub:=xy u (Qe hu)
  obtain ⟨vg,OY,mg,_⟩:=at_ g gb.1 gb.2
  obtain ⟨vu,HU,mu,_⟩:=at_ u ub.1 ub.2
  rw [pv g vg OY] at Ng
  rw [pv u vu HU]
  have hle:vg<=vu:=by
   by_cases Np:u=g
   ·subst Np
    rw [OY] at HU
    rw [Option.some.inj HU]; exact Js _
   ·exact mg.uk mu (w:=i) ⟨hg,l,el,GY,Np⟩
  exact decide_eq_true (Qav (of_decide_eq_true Ng) hle)
 rw [iO p hr] at e1
 rw [iO p xy] at e2
 omega
end Ab
namespace Ab
open L2
theorem cY (hb:bD (bB n ws)=true) (hd:bO ws (bK hs)=true):∀ h∈hs,0<=h/\h < n:=λh hh=>by
 obtain ⟨_,_,_,ip⟩:=aT hb
 obtain ⟨hl,hm⟩:=aV hd
 obtain ⟨i,hi⟩:=Qu.mp hh
 have ff:i < ws.length:=by rw [<- hl]; exact (Qb.mp hi).1
 have e:=Qc ff
 exact (aZ (ip _ (Qe e))).2.1 h (hm i h _ hi e)
theorem tZ (hb:bD (bB n ws)=true) (hd:bO ws (bK hs)=true) (i5:bO ws (bK hs')=true) (L:cJ n ws hs lv) (t:Int):ex t (aJ n hs)<=ex t (aJ n hs'):=by
 obtain ⟨hl,hm⟩:=aV hd
 obtain ⟨ua,Di⟩:=aV i5
 refine aDG L (cY hb hd) (cY hb i5) (by omega) (λi u hu=>?_) t
 have ff:i < ws.length:=by rw [<- ua]; exact (Qb.mp hu).1
 have e:=Qc ff
 exact ⟨_,e,Di i u _ hu e⟩
theorem uA:∀ {a b:List Int},a.length=b.length->(∀ k,k<=a.length->aL (a.take k)=aL (b.take k))->a=b
 | [],[],_,_=>rfl
 | [],_::_,hl,_=>by simp at hl
 | _::_,[],hl,_=>by simp at hl
 | x::a,y::b,hl,h=>by
  have h1:x+0=y+0:=h 1 (by simp)
  have e:x=y:=by omega
  subst e
  refine congrArg _ (uA (by simpa using hl) λk hk=>?_)
  have h2:x+aL (a.take k)=x+aL (b.take k):=h (k+1) (by simpa using hk)
  omega
theorem uB {a b:List Int} (h:eP a b=true) (k:Nat) (hk:k<=a.length):aL (a.take k)<=aL (b.take k):=by
 unfold eP at h
 exact of_decide_eq_true (Qy.mp h k (Jm.mpr (by omega)))
theorem aDH {a b:List Int} (hl:a.length=b.length) (h1:eP a b=true) (h2:eP b a=true):a=b :=
 uA hl λk hk=>Int.le_antisymm (uB h1 k hk) (uB h2 k (by omega))
theorem nN {a b ys:List Int} (hl:a.length=b.length) (h1:∀ t,ex t a<=ex t b) (h2:∀ t,ex t b<=ex t a) (hm:ms.Perm a) (hy:ys.Perm b) (sm:ms.Pairwise (·≥·)) (sy:ys.Pairwise (·≥·)):ms=ys :=
 aDH (by rw [hm.length_eq,hy.length_eq,hl]) (kN hl h1 hm hy sy) (kN hl.symm h2 hy hm sm)
theorem Q3:∀ {a:List α} {b:List β},a.length=b.length->(a.zip b).map Prod.fst=a
 | [],[],_=>rfl
 | x::a,y::b,h=>congrArg (x::·) (Q3 (by simpa using h))
 | [],_::_,h=>by simp at h
 | _::_,[],h=>by simp at h
theorem Q2:∀ {a:List α} {b:List β},a.length=b.length->(a.zip b).map Prod.snd=b
 | [],[],_=>rfl
 | x::a,y::b,h=>congrArg (y::·) (Q2 (by simpa using h))
 | [],_::_,h=>by simp at h
 | _::_,[],h=>by simp at h
end Ab
namespace Ab
open PySem L2
theorem gQ:∀ {Ws:List (List (Nat×Int×Int))} {hs he:List Int},oY n ws hs Ws he->bO ws (bK hs)=true->bO ws (bK he)=true
 | [],hs,he,c,h=>by
  have e:hs=he:=c
  rw [<- e]; exact h
 | ss::Ws,hs,he,⟨W,c⟩,h=>by
  refine gQ c ?_
  obtain ⟨jk,Ae⟩:=aV h
  obtain ⟨h0,xx,f',hP,_⟩:=W
  refine gX (by rw [kA]; exact jk) (qG ss (λs hs'=>?_) Ae)
  obtain ⟨i,hi⟩:=Qu.mp hs'
  obtain ⟨⟨_,l,e2,e3,_⟩,_⟩:=mI hP i s hi
  exact ⟨l,e2,e3⟩
theorem jQ (L:cJ n ws hs lv) (W:kT n ws hs ss):False:=by
 obtain ⟨h,x,f',hP,hN,h0,h1,Co,vi⟩:=W
 have ff:h.toNat < lv.length:=by rw [L.1]; omega
 obtain ⟨m1,m2⟩:=L.2 h.toNat _ (Qc ff)
 rw [show ((h.toNat:Nat):Int)=h by omega] at m1 m2
 have:=m1.2 _ x Co
 omega
def kB (K:Rc) (Pt:ae):Sp:=λvs H Q _=>∃ (x:V) (n:Int) (ws:List (List Int)),vs = [x]/\Den K H (bB n ws) x/\bD (bB n ws)=true/\H Pt=some (.tab qF) /\
 ∀ (p dp lp:ae) (hs lv:List Int) H',aD H H'->H' p=some (.tup [.ref dp,.ref lp])->H' dp=some (.tup (hs.map V.int))->bO ws (bK hs)=true->H' lp=some (.tup (lv.map V.int))->cJ n ws hs lv->Q (.ref p) H'
theorem qI:dz ["book", "ways", "deal"] ["book"] (aF iU):=.of
theorem aBN (G:Fn K mg "evenest" iU ["book"] f fd) (B:Bl mg) (R:Pr K mg fW fH fK fB jn fD jy fL dW dH dK dB jo dD jz dL) (CK:Fn K mg "bettered" gL ["book", "deal"] Ct Bn) (D8:c_ P w K mg base fc 10 Ct Bn ["book", "deal"] (iZ K Pt)) (Au:Fn K mg "levels_or_way" Cy ["book", "deal"] Cr Bk) (Bv:c_ P w K mg base fc 8 Cr Bk ["book", "deal"] (DY K Pt)):c_ P w K mg base fc 11 f fd ["book"] (kB K Pt):=by
 have D6:c_ P w K mg base fc 4 jn jo ["book"] (oR K):=oS B R
 refine G.fn.oK qI λft A outer s H vs Q E hr h=>?_
 ·obtain ⟨x,n,ws,rfl,hx,i6,hT,k⟩:=h
  have r4:ee 4 _:=hr.mono (by decide)
  have r8:ee 8 _:=hr.mono (by decide)
  have AS:ee 10 _:=hr
  refine ⟨_,(aE (dJ (aX R.NB D6 r4 rfl (aA (pv 0) aC)))
  (aE (iG (aX CK D8 AS rfl (aA (pv 0) (aA (cK bR rfl B.tuple cM (aA (bX (own:=["able"]) (fr:=[]) (fm:=[]) (aY (aF iU) ["book", "ways", "deal"] rfl rfl (by decide +kernel)) rfl (eI (bC bQ (pv 0) aK il))
    (λ_ _ _ _=>(aI (i:=0) (show (["able"]:List ax).Nodup by decide +kernel) rfl fi)) (λ_ _ _ _=>cP)
    (λ_ _ _ _=>(bC (cN (K:=K) rfl) (pv 0) aK il))) aC)) aC))) (dO rfl (aM (aI (i:=1) qI.nd rfl fi) (aM (aI (i:=2) qI.nd rfl fi) bV))))
  (aH (aN (cO (aA (pv 2) (aA (bC bQ (aX Au Bv r8 rfl (aA (pv 0) (aA (pv 2) aC))) aK il) aC))))))),?_⟩
  obtain ⟨mi,km,iz,ip⟩:=aT i6
  refine ⟨_,rfl,x,bB n ws,rfl,hx,i6,λH1 s1=>?_⟩
  have A0:=s1.den _ _ hx
  obtain ⟨a,b,ys,rfl,ha,ia,ij⟩:=cI A0
  have jt:=aP ij
  rw [Qa] at jt
  refine ⟨_,rfl,_,rfl,a,_,1,.ref b,rfl,rfl,ha,rfl,b,rfl,⟨_,ia⟩,hV (K:=K) (a:=b) (xs:=ys) (λσ=>∃ v,σ = [v]) (λi zs H2=>H2=H1/\zs=((ws.take i).map λl=>l.headD 0).map V.int) (eG (by omega)) ⟨none,rfl⟩ ⟨rfl,rfl⟩ (λi zs H2 z=>by rw [z.2,Qa,Qa,Qq]; omega) (λi zs H2 z=>by rw [z.1]; exact ia) ?_ ?_⟩
  ·rintro i zs σ u H2 hu ⟨v,rfl⟩ ⟨rfl,rfl⟩ hz
   obtain ⟨dv,gk,i4⟩:=cD ij hu
   rw [Qd] at gk
   obtain ⟨l,hl,rfl⟩:∃ l,ws[i]?=some l/\bY l=dv:=by
    cases q:ws[i]? with
    | none=>rw [q] at gk; cases gk
    | some l=>rw [q] at gk; exact ⟨l,rfl,Option.some.inj gk⟩
   obtain ⟨aw,rfl,qw⟩:=aR.mp i4
   obtain ⟨l0,_,_⟩:=aZ (ip l (Qe hl))
   have lg:k4 (l.map V.int) 0=some (.int (l.headD 0)):=by
    cases l with
    | nil=>exact absurd rfl l0
    | cons y l=>exact bZ (j:=0) rfl
   refine cQ ?_
   refine ⟨_,rfl,aw,_,0,_,rfl,rfl,qw,lg,hz,⟨_,rfl⟩,rfl,?_⟩
   rw [Je,hl,Qo,Qo]
   rfl
  ·rintro zs H2 ⟨rfl,rfl⟩ lq Dj
   rw [Jb (show ws.length<=ys.length by omega)]
   refine ⟨lq,_,rfl,.inl ⟨fh.of aB,λdq Hr=>?_⟩⟩
   have s3:=(aD.new (o:=.lst ((ws.map λl=>l.headD 0).map V.int)) Dj).trans (aD.new (o:=.tup ((ws.map λl=>l.headD 0).map V.int)) Hr)
   have d3:upd (upd H2 lq (.lst ((ws.map λl=>l.headD 0).map V.int))) dq (.tup ((ws.map λl=>l.headD 0).map V.int)) dq=some (.tup ((ws.map λl=>l.headD 0).map V.int)):=aB
   generalize upd (upd H2 lq (.lst ((ws.map λl=>l.headD 0).map V.int))) dq (.tup ((ws.map λl=>l.headD 0).map V.int))=H3 at s3 d3 ⊢
   have Dx:bO ws (bK (ws.map λl=>l.headD 0))=true:=gX (by rw [Qa]) λj h l e1 e2=>by
    rw [Qd,e2] at e1
    have e:l.headD 0=h:=Option.some.inj e1
    obtain ⟨l0,_,_⟩:=aZ (ip l (Qe e2))
    cases l with
    | nil=>exact absurd rfl l0
    | cons y l=>rw [<- e]; exact Qi ..
   have mq:=s1.trans s3
   have g3:dQ K H3 (.ref a) (.ref dq) n ws (ws.map λl=>l.headD 0):=⟨s3.den _ _ A0,i6,aR.mpr ⟨dq,rfl,d_.of d3⟩,Dx⟩
   refine ⟨.ref a,.ref dq,n,ws,_,rfl,g3,mq _ _ hT,λp H4 s4 hp=>?_⟩
   obtain ⟨wl,dl,qs,Ws,he,lv,Fg,_,_,_,jk,oj,rk⟩:=hp
   refine ⟨p,_,rfl,d_.of Fg,rfl,_,_,rfl,_,_,rfl,rfl,?_⟩
   have Dw:=gQ oj Dx
   have sx:=mq.trans s4
   have g4:dQ K H4 (.ref a) (.ref dl) n ws he:=⟨(s3.trans s4).den _ _ A0,i6,aR.mpr ⟨dl,rfl,d_.of jk⟩,Dw⟩
   refine ⟨_,rfl,_,rfl,_,rfl,.ref a,.ref dl,n,ws,he,rfl,g4,sx _ _ hT,λp2 H5 s5 oh=>?_⟩
   rcases oh with ⟨Gz,M0,e1,e2,e3⟩ | ⟨_,_,ss,_,_,_,_,hW⟩
   ·refine ⟨p2,_,1,.ref Gz,rfl,rfl,d_.of e1,rfl,qm _ _,λr xy=>?_⟩
    have s6:=aD.new (o:=.tup [.ref dl,.ref Gz]) xy
    exact k r dl Gz he M0 _ (sx.trans (s5.trans s6)) aB ((s5.trans s6) _ _ jk) Dw (s6 _ _ e2) e3
   ·exact (jQ rk hW).elim
noncomputable def jg (lv:List Int) (h:Int):Int:=lv.getD h.toNat 0
structure gz (n:Int) (ws:List (List Int)) (hs lv:List Int):Prop where
 box:∀ h:Int,0<=h->h < n->jg lv h<=((hs.count h:Nat):Int)/\((hs.count h:Nat):Int)<=jg lv h+1
 low:∀ (i:Nat) g l,hs[i]?=some g->ws[i]?=some l->∀ u∈l,jg lv g<=jg lv u
noncomputable def pL (lv:List Int) (t:Int):Int->Bool:=λh=>decide (t<=jg lv h)
noncomputable def cL (n:Int) (lv:List Int) (t:Int):Int:=aL ((cW n.toNat).map λh=>if pL lv t h then -t else 0)
theorem aFu:∀ x∈cW n.toNat,0<=x/\x < n:=λx hx=>by
 unfold cW at hx
 obtain ⟨i,hi,rfl⟩:=Qv.mp hx
 have:=Jm.mp hi
 omega
theorem qJ (L:cJ n ws hs lv) (hr:∀ h∈hs,0<=h/\h < n) (hw:∀ l∈ws,∀ h∈l,0<=h/\h < n):gz n ws hs lv:=by
 obtain ⟨rk,hL⟩:=L
 have at_:∀ h:Int,0<=h->h < n->lL ws hs n.toNat h (jg lv h)/\((hs.count h:Nat):Int) - jg lv h < 2:=λh h0 h1=>by
  have e:=Qc (show h.toNat < lv.length by omega)
  have m:=hL _ _ e
  rw [show ((h.toNat:Nat):Int)=h by omega] at m
  have e2:jg lv h=lv[h.toNat]'(by omega):=by unfold jg; rw [Qn,e]; rfl
  rw [e2]; exact m
 refine ⟨λh h0 h1=>?_,λi g l hg hl u hu=>?_⟩
 ·obtain ⟨m,d⟩:=at_ h h0 h1
  have:=m.le
  omega
 ·have gb:=hr g (Qe hg)
  have ub:=hw l (Qe hl) u hu
  by_cases e:u=g
  ·rw [e]; exact Js _
  ·exact (at_ g gb.1 gb.2).1.uk (at_ u ub.1 ub.2).1 (w:=i) ⟨hg,l,hl,hu,e⟩
theorem gz.AF (L:gz n ws hs lv) (hr:∀ h∈hs,0<=h/\h < n) (t:Int):ex t (aJ n hs)=k9 (pL lv t) hs+cL n lv t:=by
 rw [<- iO _ hr]
 unfold ex aJ cL
 rw [Jn,<- iN]
 refine cV λh hh=>?_
 obtain ⟨h0,h1⟩:=aFu h hh
 have b:=L.box h h0 h1
 show max (((hs.count h:Nat):Int) - t) 0=_
 unfold pL
 by_cases hp:t<=jg lv h
 ·rw [decide_eq_true hp,if_pos rfl,if_pos rfl]; omega
 ·rw [decide_eq_false hp,if_neg Qm,if_neg Qm]; omega
theorem Q0 (hr:∀ h∈hs',0<=h/\h < n) (t:Int):k9 (pL lv t) hs'+cL n lv t=aL ((cW n.toNat).map λh=>if pL lv t h then ((hs'.count h:Nat):Int) - t else 0):=by
 rw [<- iO _ hr]
 unfold cL
 rw [<- iN]
 refine cV λh hh=>?_
 split <;> omega
theorem QZ (t:Int):ex t (aJ n hs')=aL ((cW n.toNat).map λh=>max (((hs'.count h:Nat):Int) - t) 0):=by
 unfold ex aJ; rw [Jn]; rfl
theorem PB (hr:∀ h∈hs',0<=h/\h < n) (t:Int):k9 (pL lv t) hs'+cL n lv t<=ex t (aJ n hs'):=by
 rw [Q0 hr,QZ]
 exact lM λh hh=>by split <;> omega
theorem gz.up (L:gz n ws hs lv) (ha:∀ (i:Nat) t,hs'[i]?=some t->∃ l,ws[i]?=some l/\t∈l) (t:Int):∀ (i:Nat) g u,hs[i]?=some g->hs'[i]?=some u->pL lv t g=true->pL lv t u=true:=λi g u hg hu hp=>by
 obtain ⟨l,el,GY⟩:=ha i u hu
 exact decide_eq_true (Qav (of_decide_eq_true hp) (L.low i g l hg el u GY))
theorem uC {f g:α->Int}:∀ {l:List α},(∀ x∈l,f x<=g x)->aL (l.map f)=aL (l.map g)->∀ x∈l,f x=g x
 | a::l,h,e,x,hx=>by
  have h1:=h a (Qi ..)
  have h2:=lM (l:=l) λx hx=>h x (Qg _ hx)
  have e':f a+aL (l.map f)=g a+aL (l.map g):=e
  rcases Ql.mp hx with rfl | hx
  ·omega
  ·exact uC (λx hx=>h x (Qg _ hx)) (by omega) x hx
theorem aFv {p:Int->Bool} (hl:hs.length=hs'.length) (h:∀ (i:Nat) g t,hs[i]?=some g->hs'[i]?=some t->p g=true->p t=true) (e:k9 p hs=k9 p hs'):∀ (i:Nat) g t,hs[i]?=some g->hs'[i]?=some t->p t=true->p g=true:=by
 have e1:k9 p hs=aL ((hs.zip hs').map λq=>if p q.1 then 1 else 0):=by
  unfold k9; conv=>lhs; rw [<- Q3 hl,Jn]
  rfl
 have e2:k9 p hs'=aL ((hs.zip hs').map λq=>if p q.2 then 1 else 0):=by
  unfold k9; conv=>lhs; rw [<- Q2 hl,Jn]
  rfl
 rw [e1,e2] at e
 intro i g t hg ht hp
 have hm:(hs.zip hs')[i]?=some (g,t):=Qz.mpr ⟨hg,ht⟩
 have:=uC (f:=λq:Int×Int=>if p q.1 then (1:Int) else 0) (g:=λq=>if p q.2 then 1 else 0) (λq hq=>by
  obtain ⟨j,hj⟩:=Qu.mp hq
  obtain ⟨a,b⟩:=Qz.mp hj
  have:=h j _ _ a b
  show (if p q.1 then (1:Int) else 0)<=if p q.2 then 1 else 0
  cases c:p q.1 with
  | false=>simp only [Jh,if_false]; split <;> omega
  | true=>rw [this c]; exact Js _) e _ (Qe hm)
 simp only [hp,if_true] at this
 by_cases c:p g=true
 ·exact c
 ·rw [if_neg c] at this; omega
theorem Pz (i5:bO ws (bK hs')=true):∀ (i:Nat) t,hs'[i]?=some t->∃ l,ws[i]?=some l/\t∈l:=λi u hu=>by
 obtain ⟨ua,Di⟩:=aV i5
 have ff:i < ws.length:=by rw [<- ua]; exact (Qb.mp hu).1
 have e:=Qc ff
 exact ⟨_,e,Di i u _ hu e⟩
theorem gz.kh (L:gz n ws hs lv) (hd:bO ws (bK hs)=true) (i5:bO ws (bK hs')=true) (t:Int):k9 (pL lv t) hs<=k9 (pL lv t) hs' :=
 Ab.kh ((aV hd).1.trans (aV i5).1.symm) (L.up (Pz i5) t)
theorem gz.least (L:gz n ws hs lv) (hb:bD (bB n ws)=true) (hd:bO ws (bK hs)=true) (i5:bO ws (bK hs')=true) (t:Int):ex t (aJ n hs)<=ex t (aJ n hs'):=by
 rw [L.AF (cY hb hd)]
 have:=PB (lv:=lv) (cY hb i5) t
 have:=L.kh hd i5 t
 omega
theorem gz.same (L:gz n ws hs lv) (hb:bD (bB n ws)=true) (hd:bO ws (bK hs)=true) (i5:bO ws (bK hs')=true) (h:∀ t,ex t (aJ n hs')=ex t (aJ n hs)):gz n ws hs' lv:=by
 have key:∀ t,k9 (pL lv t) hs=k9 (pL lv t) hs'/\k9 (pL lv t) hs'+cL n lv t=ex t (aJ n hs'):=λt=>by
  have h1:=L.AF (cY hb hd) t
  have h2:=PB (lv:=lv) (cY hb i5) t
  have h3:=L.kh hd i5 t
  have h4:=h t
  constructor <;> omega
 have tw:∀ t x:Int,0<=x->x < n->(if pL lv t x then ((hs'.count x:Nat):Int) - t else 0)=max (((hs'.count x:Nat):Int) - t) 0:=λt x h0 h1=>by
  have e:=(key t).2
  rw [Q0 (cY hb i5),QZ] at e
  exact uC (f:=λh=>if pL lv t h then ((hs'.count h:Nat):Int) - t else 0) (g:=λh=>max (((hs'.count h:Nat):Int) - t) 0) (λy _=>by by_cases c:pL lv t y=true <;> simp only [c,if_true,if_false,Jh] <;> exact (by omega)) e x (by
   unfold cW
   exact Qv.mpr ⟨x.toNat,Jm.mpr (by omega),by omega⟩)
 refine ⟨λx h0 h1=>?_,λi g l hg hl u hu=>?_⟩
 ·have a:=tw (jg lv x) x h0 h1
  have b:=tw (jg lv x+1) x h0 h1
  rw [show pL lv (jg lv x) x=true from decide_eq_true (Js _),if_pos rfl] at a
  rw [show pL lv (jg lv x+1) x=false from decide_eq_false (by omega),if_neg Qm] at b
  omega
 ·have ff:i < hs.length:=by rw [(aV hd).1,<- (aV i5).1]; exact (Qb.mp hg).1
  have eo:=Qc ff
  have:=aFv ((aV hd).1.trans (aV i5).1.symm) (L.up (Pz i5) (jg lv g)) (key _).1 i _ g eo hg (decide_eq_true (Js _))
  exact Qav (of_decide_eq_true this) (L.low i _ l eo hl u hu)
theorem gz.iff (L:gz n ws hs lv) (hb:bD (bB n ws)=true) (hd:bO ws (bK hs)=true) (i5:bO ws (bK hs')=true):(aJ n hs').Perm (aJ n hs)↔gz n ws hs' lv:=by
 refine ⟨λp=>L.same hb hd i5 λt=>sA p,λL'=>?_⟩
 have a:=Qae (aJ n hs) λa b=>decide (a≥b)
 have a':=Qae (aJ n hs') λa b=>decide (a≥b)
 have so:∀ l:List Int,(l.mergeSort λa b=>decide (a≥b)).Pairwise (·≥·):=λl=>by
  have:=List.pairwise_mergeSort (le:=λa b:Int=>decide (a≥b)) (by intro a b c h1 h2; simp at *; omega) (by intro a b; simp; omega) l
  exact this.imp λh=>by simpa using h
 have:=nN (a:=aJ n hs) (b:=aJ n hs') (by unfold aJ; rw [Qa,Qa]) (λt=>L.least hb hd i5 t) (λt=>L'.least hb i5 hd t) a a' (so _) (so _)
 exact a'.symm.trans ((List.Perm.of_eq this.symm).trans a)
noncomputable def enc (m:List (List Int×Int)):List (List Key×V):=m.map λp=>(p.1.map Sum.inl,.int p.2)
noncomputable def kD (m:List (List Int×Int)) (k:List Int):Option Int:=(m.find? λp=>decide (p.1=k)).map (·.2)
noncomputable def kF (m:List (List Int×Int)) (k:List Int) (v:Int):List (List Int×Int):=if (m.any λp=>decide (p.1=k))=true then m.map (λp=>if p.1=k then (p.1,v) else p) else m++[(k,v)]
noncomputable def kX (l:List Int) (h:Nat):List Int:=l.take h++[l.getD h 0+1]++l.drop (h+1)
noncomputable def iK (lv:List Int) (g:List (List Int×Int)) (p:List Int×Int) (h:Int):List (List Int×Int):=if p.1.getD h.toNat 0<=lv.getD h.toNat 0 then kF g (kX p.1 h.toNat) ((kD g (kX p.1 h.toNat)).getD 0+p.2) else g
noncomputable def f9 (lv tk:List Int) (g:List (List Int×Int)) (p:List Int×Int):List (List Int×Int):=tk.foldl (λg h=>iK lv g p h) g
noncomputable def ie (R:List (List Int×Int)) (tk lv:List Int):List (List Int×Int):=R.foldl (λg p=>f9 lv tk g p) []
theorem oZ {k j:List Int}:(k.map (Sum.inl:Int->Key)=j.map Sum.inl)↔k=j:=⟨λh=>(List.map_inj_right (λ_ _ e=>Sum.inl.inj e)).mp h,λh=>by rw [h]⟩
theorem qK (k:List Int):(k.map (Sum.inl:Int->Key)).map kV=k.map V.int:=by rw [Jn]; rfl
theorem uD (m:List (List Int×Int)) (k:List Int):dP (enc m) (k.map Sum.inl)=(kD m k).map V.int:=by
 unfold dP kD enc
 rw [List.find?_map,Option.map_map,Option.map_map]
 have e:((λkv:List Key×V=>decide (kv.1=k.map Sum.inl)) ∘ λp:List Int×Int=>(p.1.map Sum.inl,V.int p.2))=λp=>decide (p.1=k):=by
  funext p
  show decide (p.1.map Sum.inl=k.map Sum.inl)=_
  exact decide_eq_decide.mpr oZ
 rw [e]
 rfl
theorem aFw (m:List (List Int×Int)) (k:List Int) (v:Int):jC (enc m) (k.map Sum.inl) (.int v)=enc (kF m k v):=by
 unfold jC kF enc
 have e:∀ p:List Int×Int,decide ((p.1.map (Sum.inl:Int->Key))=k.map Sum.inl)=decide (p.1=k):=λp=>decide_eq_decide.mpr oZ
 have ea:((m.map λp=>(p.1.map (Sum.inl:Int->Key),V.int p.2)).any λkv=>decide (kv.1=k.map Sum.inl))=m.any λp=>decide (p.1=k):=by
  rw [Wp]
  congr 1
  funext p
  exact e p
 rw [ea]
 by_cases h:(m.any λp=>decide (p.1=k))=true
 ·rw [if_pos h,if_pos h,Jn,Jn]
  refine Xw λp _=>?_
  show (if p.1.map Sum.inl=k.map Sum.inl then _ else _)=_
  by_cases hp:p.1=k
  ·rw [if_pos (oZ.mpr hp)]
   show _=(λp:List Int×Int=>(p.1.map (Sum.inl:Int->Key),V.int p.2)) (if p.1=k then (p.1,v) else p)
   rw [if_pos hp]
  ·rw [if_neg (λz=>hp (oZ.mp z))]
   show _=(λp:List Int×Int=>(p.1.map (Sum.inl:Int->Key),V.int p.2)) (if p.1=k then (p.1,v) else p)
   rw [if_neg hp]
 ·rw [if_neg h,if_neg h,Qo]
  rfl
theorem aBO (lv tk:List Int) (g:List (List Int×Int)) (p:List Int×Int) {h:Int} (e:tk[i]?=some h):f9 lv (tk.take (i+1)) g p=iK lv (f9 lv (tk.take i) g p) p h:=by
 unfold f9
 rw [Je,e,Xn]
 rfl
theorem aBP (R:List (List Int×Int)) (tk lv:List Int) {p:List Int×Int} (e:R[i]?=some p):ie (R.take (i+1)) tk lv=f9 lv tk (ie (R.take i) tk lv) p:=by
 unfold ie
 rw [Je,e,Xn]
 rfl
structure ic (n:Nat) (c:Int) (m:List (List Int×Int)):Prop where
 nd:(m.map (·.1)).Nodup
 box:∀ p∈m,p.1.length=n/\∀ x∈p.1,0<=x/\x<=c
 pos:∀ p∈m,0 < p.2
theorem aDI (m:List (List Int×Int)) (k:List Int) (v:Int):(kF m k v).map (·.1)=if k∈m.map (·.1) then m.map (·.1) else m.map (·.1)++[k]:=by
 unfold kF
 have e:(m.any λp=>decide (p.1=k))=true↔k∈m.map (·.1):=by simp [Xg]
 by_cases h:k∈m.map (·.1)
 ·rw [if_pos (e.mpr h),if_pos h,Jn]
  refine Xw λp _=>?_
  show (if p.1=k then (p.1,v) else p).1=p.1
  split <;> rfl
 ·rw [if_neg (λz=>h (e.mp z)),if_neg h,Qo]
  rfl
theorem SF {k:List Int} {v:Int} {p:List Int×Int} (h:p∈kF m k v):p=(k,v)∨p∈m:=by
 unfold kF at h
 split at h
 ·obtain ⟨q,hq,rfl⟩:=Qv.mp h
  by_cases e:q.1=k
  ·rw [if_pos e]; exact .inl (by rw [e])
  ·rw [if_neg e]; exact .inr hq
 ·rcases Jk.mp h with h | h
  ·exact .inr h
  ·exact .inl (Qr.mp h)
theorem ic.put {n:Nat} {c:Int} {k:List Int} {v:Int} (h:ic n c m) (h1:k.length=n) (h2:∀ x∈k,0<=x/\x<=c) (h3:0 < v):ic n c (kF m k v):=by
 refine ⟨?_,λp hp=>?_,λp hp=>?_⟩
 ·rw [aDI]
  split
  ·exact h.nd
  ·rename_i hk
   exact Yg.mpr ⟨h.nd,by simp,λx hx y hy e=>hk (by rw [<- Qr.mp hy,<- e]; exact hx)⟩
 ·rcases SF hp with rfl | hp
  ·exact ⟨h1,h2⟩
  ·exact h.box p hp
 ·rcases SF hp with rfl | hp
  ·exact h3
  ·exact h.pos p hp
theorem aAN {n:Nat} {c:Int} (h:ic n c m) (k:List Int):0<=(kD m k).getD 0:=by
 unfold kD
 cases q:m.find? λp=>decide (p.1=k) with
 | none=>exact Js _
 | some p=>exact Int.le_of_lt <| h.pos p (List.mem_of_find?_eq_some q)
theorem aFx {h:Nat} (hl:h < l.length):(kX l h).length=l.length:=by
 unfold kX
 rw [Qj,Qj,Qq,Jy]
 show _+1+_=_
 omega
theorem aFy {h:Nat} {c:Int} (hb:∀ x∈l,0<=x/\x<=c) (hl:h < l.length):∀ x∈kX l h,0<=x/\x<=c+1:=by
 intro x hx
 unfold kX at hx
 rcases Jk.mp hx with hx | hx
 ·rcases Jk.mp hx with hx | hx
  ·have:=hb x (Xl hx); omega
  ·rw [Qr.mp hx,Qn,Qc hl]
   have:=hb _ (Jr hl)
   show 0<=l[h]+1/\l[h]+1<=c+1
   omega
 ·have:=hb x (Wx hx); omega
theorem ic.step {n:Nat} {c:Int} {g:List (List Int×Int)} {p:List Int×Int} {h:Int} (k:ic n (c+1) g) (h1:p.1.length=n) (h2:∀ x∈p.1,0<=x/\x<=c) (h3:0 < p.2) (hh:0<=h/\h < n):ic n (c+1) (iK lv g p h):=by
 unfold iK
 split
 ·exact k.put ((aFx (by omega)).trans h1) (aFy h2 (by omega)) (by have:=aAN k (kX p.1 h.toNat); omega)
 ·exact k
theorem ic.f9 {n:Nat} {c:Int} {p:List Int×Int} (h1:p.1.length=n) (h2:∀ x∈p.1,0<=x/\x<=c) (h3:0 < p.2):∀ (tk:List Int) (g:List (List Int×Int)),(∀ h∈tk,0<=h/\h < n)->ic n (c+1) g->ic n (c+1) (f9 lv tk g p)
 | [],g,_,k=>k
 | h::tk,g,ht,k=>ic.f9 h1 h2 h3 tk _ (λx hx=>ht x (Qg _ hx)) (k.step h1 h2 h3 (ht h (Qi ..)))
theorem ic.fold {n:Nat} {c:Int} {tk:List Int} (ht:∀ h∈tk,0<=h/\h < n):∀ (R g:List (List Int×Int)),(∀ p∈R,p.1.length=n/\(∀ x∈p.1,0<=x/\x<=c)/\0 < p.2)->ic n (c+1) g->ic n (c+1) (R.foldl (λg p=>Ab.f9 lv tk g p) g)
 | [],g,_,k=>k
 | p::R,g,hR,k=>ic.fold ht R _ (λq hq=>hR q (Qg _ hq)) (ic.f9 (hR p (Qi ..)).1 (hR p (Qi ..)).2.1 (hR p (Qi ..)).2.2 tk g ht k)
theorem ic.nil (n:Nat) (c:Int):ic n c []:=⟨Zx,λ_ h=>(Qp h).elim,λ_ h=>(Qp h).elim⟩
theorem ic.all {n:Nat} {c:Int} {R:List (List Int×Int)} (k:ic n c R):∀ p∈R,p.1.length=n/\(∀ x∈p.1,0<=x/\x<=c)/\0 < p.2:=λp hp=>⟨(k.box p hp).1,(k.box p hp).2,k.pos p hp⟩
theorem ic.ie {n:Nat} {c:Int} {tk:List Int} {R:List (List Int×Int)} (k:ic n c R) (ht:∀ h∈tk,0<=h/\h < n):ic n (c+1) (ie R tk lv):=ic.fold ht R [] k.all (ic.nil n _)
noncomputable def gR:List Int->Int
 | []=>0
 | x::l=>x+13*gR l
theorem pA:∀ {l:List Int},(∀ x∈l,0<=x/\x<=12)->0<=gR l/\gR l < 13^l.length
 | [],_=>⟨Js _,by decide⟩
 | x::l,h=>by
  have h1:=h x (Qi ..)
  have h2:=pA (l:=l) λy hy=>h y (Qg _ hy)
  have e:(13:Int)^(x::l).length=13^l.length*13:=by rw [Ja,Int.pow_succ]
  rw [e]
  unfold gR
  omega
theorem uE:∀ {l m:List Int},l.length=m.length->(∀ x∈l,0<=x/\x<=12)->(∀ x∈m,0<=x/\x<=12)->gR l=gR m->l=m
 | [],[],_,_,_,_=>rfl
 | x::l,y::m,hl,h1,h2,e=>by
  have a1:=h1 x (Qi ..)
  have a2:=h2 y (Qi ..)
  unfold gR at e
  have ex:x=y:=by omega
  have el:gR l=gR m:=by omega
  rw [ex,uE (by simpa using hl) (λz hz=>h1 z (Qg _ hz)) (λz hz=>h2 z (Qg _ hz)) el]
theorem ic.len {n:Nat} (k:ic n 12 m) (hn:n<=6):m.length<=4826809:=by
 have nd:((m.map (·.1)).map gR).Nodup:=by
  refine List.pairwise_map.mpr (List.Pairwise.imp_of_mem (λ{x y} hx hy ne e=>ne ?_) k.nd)
  obtain ⟨p,hp,rfl⟩:=Qv.mp hx
  obtain ⟨q,hq,rfl⟩:=Qv.mp hy
  exact uE ((k.box p hp).1.trans (k.box q hq).1.symm) (k.box p hp).2 (k.box q hq).2 e
 have sub:∀ z∈(m.map (·.1)).map gR,z∈(List.range 4826809).map Int.ofNat:=λz hz=>by
  obtain ⟨x,hx,rfl⟩:=Qv.mp hz
  obtain ⟨p,hp,rfl⟩:=Qv.mp hx
  have hb:=pA (k.box p hp).2
  have hle:(13:Int)^p.1.length<=13^6:=by
   rw [(k.box p hp).1]
   rcases (show n=0∨n=1∨n=2∨n=3∨n=4∨n=5∨n=6 by omega) with e | e | e | e | e | e | e <;> rw [e] <;> decide
  have h6:(13:Int)^6=4826809:=by decide
  exact Qv.mpr ⟨(gR p.1).toNat,Jm.mpr (by omega),by show ((gR p.1).toNat:Int)=_; omega⟩
 have:=mB nd sub
 rw [Qa,Qa,Qa,Xe] at this
 exact this
def BA (a g:ae) (H H':Hp):Prop:=∀ b u,b≠a->b≠g->H b=some u->H' b=some u
theorem BA.d0 {g:ae} {R:List (List Key×V)} (e:BA a g H H') (ha:H a=some (.dT R)) (hg:H g=none) (h:d_ K H c xs):d_ K H' c xs:=by
 rcases h with (h | ⟨o,h⟩) | h
 ·exact .inl (.inl (e c _ (λz=>by rw [z,ha] at h; cases h) (λz=>by rw [z,hg] at h; cases h) h))
 ·exact .inl (.inr ⟨o,e c _ (λz=>by rw [z,ha] at h; cases h) (λz=>by rw [z,hg] at h; cases h) h⟩)
 ·exact .inr h
theorem BA.iy {g:ae} {R:List (List Key×V)} (e:BA a g H H') (ha:H a=some (.dT R)) (hg:H g=none) (h:fh K H c xs):fh K H' c xs:=by
 rcases h with (h | ⟨o,h⟩) | h
 ·exact .inl (.inl (e c _ (λz=>by rw [z,ha] at h; cases h) (λz=>by rw [z,hg] at h; cases h) h))
 ·exact .inl (.inr ⟨o,e c _ (λz=>by rw [z,ha] at h; cases h) (λz=>by rw [z,hg] at h; cases h) h⟩)
 ·exact .inr h
theorem yK:∀ {R:List (List Int×Int)} {i:Nat} {q:List Int×Int},(R.map (·.1)).Nodup->R[i]?=some q->kD R q.1=some q.2
 | [],i,q,_,h=>by simp at h
 | p::R,0,q,_,h=>by
  have e:p=q:=by simpa using h
  subst e
  simp [kD]
 | p::R,i+1,q,nd,h=>by
  have MX:p.1∉R.map (·.1)/\(R.map (·.1)).Nodup:=by rw [Qw] at nd; exact Jv.mp nd
  have h':R[i]?=some q:=by simpa using h
  have ne:p.1≠q.1:=λz=>MX.1 (z ▸ Qv.mpr ⟨q,Qe h',rfl⟩)
  have ih:=yK MX.2 h'
  unfold kD at ih ⊢
  rw [Xi,decide_eq_false ne]
  exact ih
def QY (K:Rc):Sp:=λvs H Q _=>∃ (a l lp:ae) (R:List (List Int×Int)) (tk lv:List Int) (c:Int),vs = [.ref a,.ref l,.ref lp]/\H a=some (.dT (enc R))/\fh K H l (tk.map V.int)/\d_ K H lp (lv.map V.int)/\lv.length<=6/\ic lv.length c R/\c<=11/\(∀ h∈tk,0<=h/\h < lv.length) /\
 ∀ g H',aD H H'->H g=none->H' g=some (.dT (enc (ie R tk lv)))->Q (.ref g) H'
theorem pB:dz ["rows", "takers", "levels", "grown", "many", "hand", "key"] ["rows", "takers", "levels"] (aF xW):=.of
set_option maxHeartbeats 2000000 in
theorem aFz (G:Fn K mg "with_work" xW ["rows", "takers", "levels"] f fd) (B:Bl mg):c_ P w K mg base fc 1 f fd ["rows", "takers", "levels"] (QY K):=by
 refine G.fn.oK pB λft A outer s H vs Q E hr h=>?_
 ·obtain ⟨a,l,lp,R,tk,lv,c,rfl,ha,hl,kz,h6,hK,aal,G0,k⟩:=h
  have hR:∀ p∈R,p.1.length=lv.length:=λp hp=>(hK.box p hp).1
  have zy:=hK.nd
  refine ⟨_,(aE (bA (i:=3) pB.nd rfl fi aER)
   (aE (aE8 (eJ az.never rfl (sY (pv 0)) (aI (i:=4) pB.nd rfl fi)
    (aH (eJ az.never rfl (kH (pv 1)) (aI (i:=5) pB.nd rfl fi)
     (aH (bU (aU nW (bC (cN (K:=K) rfl) (pv 4) (pv 5) lj) (bC (cN (K:=K) rfl) (pv 2) (pv 5) lj) gm)
      (aE (bA (i:=6) pB.nd rfl fi (cR (RA (K:=K) rfl) (cR (RA (K:=K) rfl) (jS (jV (K:=K) rfl) (pv 4) lW (lX (pv 5))) (cO (aA (cR kZ (bC (cN (K:=K) rfl) (pv 4) (pv 5) lj) aK) aC))) (jS (jV (K:=K) rfl) (pv 4) (lX (cR kZ (pv 5) aK)) lW)))
      (aH (rR (jD hr) (pv 3) (pv 6) (cR kZ (mP Mh Mr PySem.F.type_dict_get (aGx (jD hr)) (pv 3) (aA (pv 6) (aA aK aC))) (oF (jD hr) (pv 0) (pv 4) lj)) rfl)))
      aW))))))
   (aH (aN (pv 3))))),?_⟩
  intro g hg
  have EZ:g≠a:=λz=>by rw [z,ha] at hg; cases hg
  refine ⟨_,rfl,a,enc R,rfl,by rw [aG (Ne.symm EZ)]; exact ha,λo nf=>?_⟩
  have Fw:(enc R).length=R.length:=Qa ..
  have b0:BA a g H (upd (upd H g (.dT [])) a (.gh o (.dT (enc R)))):=λb u n1 n2 h=>by rw [aG n1,aG n2]; exact h
  have f0:upd (upd H g (.dT [])) a (.gh o (.dT (enc R))) a=some (.gh o (.dT (enc R))):=aB
  have g0:upd (upd H g (.dT [])) a (.gh o (.dT (enc R))) g=some (.dT (enc [])):=by rw [aG EZ,aB]; rfl
  generalize upd (upd H g (.dT [])) a (.gh o (.dT (enc R)))=H1 at b0 f0 g0 ⊢
  refine aDs (λi σ H2=>(∃ v4 v5 v6,σ = [some (.ref a),some (.ref l),some (.ref lp),some (.ref g),v4,v5,v6])/\BA a g H H2/\H2 a=some (.gh o (.dT (enc R)))/\H2 g=some (.dT (enc (ie (R.take i) tk lv)))) ⟨⟨_,_,_,rfl⟩,b0,f0,g0⟩ (λi σ H2 _ h=>h.2.2.1) ?_ ?_
  ·rintro i p b σ H2 hp hb ⟨⟨v4,v5,v6,rfl⟩,b2,f2,g2⟩
   obtain ⟨q,hq,rfl⟩:∃ q,R[i]?=some q/\(q.1.map Sum.inl,V.int q.2)=p:=by
    unfold enc at hp
    rw [Qd] at hp
    cases hz:R[i]? with
    | none=>rw [hz] at hp; cases hp
    | some q=>rw [hz] at hp; exact ⟨q,rfl,Option.some.inj hp⟩
   have hi:i < R.length:=(Qb.mp hq).1
   have G6:=hR q (Qe hq)
   have ju:H2 b=some (.tup (q.1.map V.int)):=by rw [<- qK]; exact hb
   have N6:ic lv.length (c+1) (ie (R.take i) tk lv):=ic.fold G0 (R.take i) [] (λp hp=>hK.all p (Xl hp)) (ic.nil _ _)
   have G7:=hK.all q (Qe hq)
   have AB:=aBP R tk lv hq
   generalize ie (R.take i) tk lv=G at g2 N6 AB
   dsimp only [jR]
   refine ⟨_,rfl,l,rfl,⟨_,b2.iy ha hg hl⟩,sE (K:=K) (xs:=tk.map V.int) (λj σ H3=>(∃ v5 v6,σ = [some (.ref a),some (.ref l),some (.ref lp),some (.ref g),some (.ref b),v5,v6])/\BA a g H H3/\H3 a=some (.gh o (.dT (enc R)))/\H3 b=some (.tup (q.1.map V.int))/\H3 g=some (.dT (enc (f9 lv (tk.take j) G q)))) ⟨⟨_,_,rfl⟩,b2,f2,ju,g2⟩ (λj σ H3 _ h=>h.2.1.iy ha hg hl) ?_ ?_⟩
   ·rintro j x σ H3 hx ⟨⟨w5,w6,rfl⟩,b3,f3,xf,g3⟩
    obtain ⟨h,hh,rfl⟩:∃ h,tk[j]?=some h/\V.int h=x:=by
     rw [Qd] at hx
     cases hz:tk[j]? with
     | none=>rw [hz] at hx; cases hx
     | some h=>rw [hz] at hx; exact ⟨h,rfl,Option.some.inj hx⟩
    have hj:j < tk.length:=(Qb.mp hh).1
    have hhr:=G0 h (Qe hh)
    obtain ⟨hn,rfl⟩:∃ hn:Nat,h=hn:=⟨h.toNat,by omega⟩
    have Hd:hn < lv.length:=by omega
    have DE:=ic.f9 (lv:=lv) G7.1 G7.2.1 G7.2.2 (tk.take j) G (λh hh=>G0 h (Xl hh)) N6
    have X4:=ic.len ⟨DE.nd,λp hp=>⟨(DE.box p hp).1,λx hx=>by have:=(DE.box p hp).2 x hx; omega⟩,DE.pos⟩ h6
    have sf:=aBO lv tk G q hh
    clear DE
    generalize f9 lv (tk.take j) G q=G3 at g3 X4 sf
    have O_:k4 (q.1.map V.int) (hn:Int)=some (.int (q.1.getD hn 0)):=bZ (by rw [Qd,Qn,Qc (by omega)]; rfl)
    have at2:k4 (lv.map V.int) (hn:Int)=some (.int (lv.getD hn 0)):=bZ (by rw [Qd,Qn,Qc Hd]; rfl)
    have Fh:(q.1.map V.int).length=q.1.length:=Qa ..
    refine ⟨_,rfl,_,rfl,b,_,(hn:Int),_,rfl,rfl,d_.of xf,O_,_,rfl,_,rfl,lp,_,(hn:Int),_,rfl,rfl,b3.d0 ha hg kz,at2,_,_,rfl,rfl,_,rfl,?_⟩
    refine eK (λc1=>?_) (λc1=>?_)
    ·have c2:q.1.getD hn 0<=lv.getD hn 0:=of_decide_eq_true c1
     have HX:iK lv G3 q (hn:Int)=kF G3 (kX q.1 hn) ((kD G3 (kX q.1 hn)).getD 0+q.2):=by unfold iK; rw [Jc,if_pos c2]
     refine ⟨_,rfl,_,rfl,_,rfl,b,_,rfl,d_.of xf,λr1 H4 s4 g4=>?_⟩
     rw [xF] at g4
     refine ⟨_,rfl,_,rfl,b,_,(hn:Int),_,rfl,rfl,d_.of (s4 _ _ xf),O_,_,_,rfl,rfl,um _,λr2 iq=>?_⟩
     have s5:=aD.new (o:=.tup [.int (q.1.getD hn 0+1)]) iq
     refine aGy (s5.d0 g4) aB (by rw [Qq]; omega) λr3 H6 s6 e6=>?_
     have B5:=s4.trans (s5.trans s6)
     refine ⟨_,rfl,_,rfl,_,_,rfl,rfl,_,rfl,b,_,rfl,d_.of (B5 _ _ xf),λr4 H7 s7 g7=>?_⟩
     rw [show (hn:Int)+1=((hn+1:Nat):Int) by omega,pR] at g7
     refine aFd (s7 _ _ e6) (by simp) g7 (by rw [Qj,Qq,Jy]; show _+1+_<=_; omega) λkp H8 s8 e8=>?_
     have B4:=B5.trans (s7.trans s8)
     have e9:H8 kp=some (.tup (((kX q.1 hn).map Sum.inl).map kV)):=by
      rw [qK,e8]
      unfold kX
      rw [Qo,Qo,Qal,Qam]
      rfl
     have g8:=B4 _ _ g3
     have V5:(dP (enc G3) ((kX q.1 hn).map Sum.inl)).getD (.int 0)=.int ((kD G3 (kX q.1 hn)).getD 0):=by rw [uD]; cases kD G3 (kX q.1 hn) <;> rfl
     have V4:some (V.int q.2)=dP (enc R) (q.1.map Sum.inl):=by rw [uD,yK zy hq]; rfl
     dsimp only [jR]
     refine ⟨_,rfl,.inr (.inr (.inl ⟨rfl,.inr ⟨_,g8⟩⟩)),_,rfl,g,kp,enc G3,(kX q.1 hn).map Sum.inl,.int 0,rfl,rfl,.inl g8,e9,?_⟩
     rw [V5]
     refine ⟨_,rfl,_,rfl,a,.int q.2,rfl,.inr ⟨enc R,q.1.map Sum.inl,b,.inr ⟨o,B4 _ _ f3⟩,rfl,by rw [qK]; exact B4 _ _ xf,V4⟩,_,_,rfl,rfl,?_⟩
     refine ⟨_,rfl,_,rfl,g,_,rfl,vB.t g8 e9 (by unfold enc; rw [Qa,Rf]; omega),?_⟩
     rw [aFw,<- HX,<- sf]
     have VL:b≠g:=λz=>by rw [z,g3] at xf; cases xf
     refine ⟨⟨_,_,rfl⟩,λc u n1 n2 hc=>?_,?_,?_,aB⟩
     ·rw [aG n2]
      exact B4 _ _ (b3 c u n1 n2 hc)
     ·rw [aG (Ne.symm EZ)]
      exact B4 _ _ f3
     ·rw [aG VL]
      exact B4 _ _ xf
    ·have c2:¬ q.1.getD hn 0<=lv.getD hn 0:=λz=>c1 (decide_eq_true z)
     have HX:iK lv G3 q (hn:Int)=G3:=by unfold iK; rw [Jc,if_neg c2]
     rw [HX] at sf
     exact ⟨⟨_,_,rfl⟩,b3,f3,xf,by rw [sf]; exact g3⟩
   ·rintro σ H3 ⟨⟨w5,w6,rfl⟩,b3,f3,xf,g3⟩
    rw [Qa,Jj] at g3
    exact ⟨⟨_,_,_,rfl⟩,b3,f3,by rw [AB]; exact g3⟩
  ·rintro σ H2 ⟨⟨v4,v5,v6,rfl⟩,b2,f2,g2⟩
   rw [Fw,Jj] at g2
   refine ⟨a,o,enc R,f2,nf,?_⟩
   refine ⟨_,rfl,k g _ (λb u h=>?_) hg (by rw [aG EZ]; exact g2)⟩
   by_cases Hx:b=a
   ·rw [Hx] at h ⊢
    rw [aB,<- ha,h]
   ·rw [aG Hx]
    exact b2 b u Hx (λz=>by rw [z,hg] at h; cases h) h
end Ab
namespace L2
open PySem
theorem aGQ (k1 k2:Sk) {a b:bq} {ta:TA} (hK:X.K=K) (hg:Gl X "zip") (hm:X.mg "zip" = none) (ha:PA X [a,b] ta) (hs:autoParam (au [a,b] X.env = [(false,eval a X.env),(false,eval b X.env)]) L2.gj) (ur:autoParam (au [b] X.env = [(false,eval b X.env)]) L2.gj) :
  PI X (.Tuple es x1 vo) (.Call (.Name "zip" p) [a,b] [] pos) (Ph K k1 k2 ta):=by subst hK; exact nH k1 k2 hg hm ha hs ur
theorem aDJ (hK:X.K=K) (hc:X.calm=true):eV X (.builtin "all") (λxs H Q=>∃ (p:ae) (bs:List Bool),xs = [.ref p]/\fh K H p (bs.map V.bl)/\Q (.bl (bs.all id)) H):=by subst hK; exact eW hc
end L2
namespace Ab
open PySem L2
noncomputable def cZ (lv l:List Int):List Int:=l.filter λh=>decide (∀ j∈l,lv.getD h.toNat 0<=lv.getD j.toNat 0)
noncomputable def cT (n:Nat) (lv:List Int) (ws:List (List Int)):List (List Int×Int):=ws.foldl (λR l=>ie R (cZ lv l) lv) [(List.replicate n 0,1)]
noncomputable def eQ (n:Nat) (lv:List Int) (ws:List (List Int)):List (List Int×Int):=(cT n lv ws).filter λp=>(p.1.zip lv).all λq=>decide (q.2<=q.1)
theorem lN (n:Nat) (lv:List Int) (ws:List (List Int)) (e:ws[i]?=some l):cT n lv (ws.take (i+1))=ie (cT n lv (ws.take i)) (cZ lv l) lv:=by
 unfold cT
 rw [Je,e,Xn]
 rfl
theorem iP (n:Nat) (lv:List Int) (ws:List (List Int)) (hw:∀ l∈ws,∀ h∈l,0<=h/\h < (n:Int)):∀ i:Nat,i<=ws.length->ic n i (cT n lv (ws.take i))
 | 0,_=>by
  refine ⟨by simp [cT],λp hp=>?_,λp hp=>?_⟩
  ·have e:p=(List.replicate n 0,1):=by simpa [cT] using hp
   subst e
   exact ⟨Jw,λx hx=>by rw [Zg hx]; exact ⟨Js _,Js _⟩⟩
  ·have e:p=(List.replicate n 0,1):=by simpa [cT] using hp
   subst e
   show (0:Int) < 1
   decide
 | i+1,h=>by
  have hi:i < ws.length:=by omega
  rw [lN n lv ws (Qc hi)]
  have k:=iP n lv ws hw i (by omega)
  exact k.ie λh hh=>hw _ (Jr hi) h (Xa.mp hh).1
noncomputable def X?:c7:=match (dY iV).getD 3 (.Pass ⟨0,0,0,0⟩) with
 | .Return (some (.DictComp _ _ _ sc _)) _=>sc
 | _=>aF iV
theorem aBQ {M:Int} (h1:M∈l.map λh=>lv.getD h.toNat 0) (h2:∀ a∈l.map λh=>lv.getD h.toNat 0,M<=a):(l.filter λh=>decide (lv.getD h.toNat 0=M))=cZ lv l:=by
 unfold cZ
 refine List.filter_congr λh hh=>decide_eq_decide.mpr ⟨λe j hj=>?_,λe=>?_⟩
 ·rw [e]
  exact h2 _ (Qv.mpr ⟨j,hj,rfl⟩)
 ·obtain ⟨j,hj,ej⟩:=Qv.mp h1
  have:=e j hj
  have:=h2 _ (Qv.mpr ⟨h,hh,rfl⟩)
  omega
def sB (K:Rc) (Pt:ae):Sp:=λvs H Q _=>∃ (x:V) (n:Int) (ws:List (List Int)),vs = [x]/\Den K H (bB n ws) x/\bD (bB n ws)=true/\H Pt=some (.tab qF) /\
 ∀ (p:ae) (hs lv:List Int) H',aD H H'->bO ws (bK hs)=true->cJ n ws hs lv->H' p=some (.dT (enc (eQ n.toNat lv ws)))->Q (.ref p) H'
theorem mJ:dz ["book", "levels", "rows", "able", "least"] ["book"] (aF iV):=.of
set_option maxHeartbeats 4000000 in
theorem aFA {HR:ae} {IF:bo} (G:Fn K mg "even_loads" iV ["book"] f fd) (B:Bl mg) (CJ:Fn K mg "evenest" iU ["book"] fE dE) (D7:c_ P w K mg base fc 11 fE dE ["book"] (kB K Pt)) (TL:Fn K mg "with_work" xW ["rows", "takers", "levels"] HR IF):c_ P w K mg base fc 12 f fd ["book"] (sB K Pt):=by
 have OWW:c_ P w K mg base fc 1 HR IF ["rows", "takers", "levels"] (QY K):=aFz TL B
 refine G.fn.oK mJ λft A outer s H vs Q E hr h=>?_
 ·obtain ⟨x,n,ws,rfl,hx,hb,hP,k⟩:=h
  have u6:ee 11 _:=hr
  have r1:ee 1 _:=hr.mono (by decide)
  refine ⟨_,(aE (bA (i:=1) mJ.nd rfl (Or.inr rfl) (bC (cN (K:=K) rfl) (aX CJ D7 u6 rfl (aA (pv 0) aC)) aK il))
   (aE (bA (i:=2) mJ.nd rfl (Or.inr rfl) (aDt (jD hr) (cR aGz (cO (aA aK aC)) (bC (cN (K:=K) rfl) (pv 0) aK il)) aK))
   (aE (eJ az.never rfl (eI (bC (cN (K:=K) rfl) (pv 0) aK il)) (aI (i:=3) mJ.nd rfl fi)
    (aE (bA (i:=4) mJ.nd rfl (Or.inr rfl) (aO (aC6 rfl) rfl B.min z? (aA (bX (own:=["hand"]) (fr:=[1]) (fm:=["levels"]) (aY (aF iV) ["book", "levels", "rows", "able", "least"] rfl rfl (by decide +kernel)) rfl (eI (pv 3))
      (λ_ _ _ _=>aI (i:=0) (show (["hand", "levels"]:List ax).Nodup by decide +kernel) rfl fi) (λ_ _ _ _=>cP) (λ_ _ _ _=>bC (cN (K:=K) rfl) (pv 1) (pv 0) lj)) aC)))
    (aH (bA (i:=2) mJ.nd rfl (Or.inr rfl) (aX TL OWW r1 rfl (aA (pv 2) (aA (bX (own:=["hand"]) (fr:=[1,4]) (fm:=["levels", "least"]) (aY (aF iV) ["book", "levels", "rows", "able", "least"] rfl rfl (by decide +kernel)) rfl (eI (pv 3))
      (λ_ _ _ _=>aI (i:=0) (show (["hand", "levels", "least"]:List ax).Nodup by decide +kernel) rfl fi) (λ_ _ _ _=>nE (aU mO (bC (cN (K:=K) rfl) (pv 1) (pv 0) lj) (pv 2) gm)) (λ_ _ _ _=>pv 0)) (aA (pv 1) aC))))))))
   (aH (aN (aDv (jD hr) (own:=["many"]) (fr:=[1,2]) (fm:=["levels", "rows"]) (aY (aF iV) ["book", "levels", "rows", "able", "least"] rfl rfl (by decide +kernel)) rfl (pv 2)
     (λ_ _ _ _=>aI (i:=0) (show (["many", "levels", "rows"]:List ax).Nodup by decide +kernel) rfl fi)
     (λ_ _ _ _=>nE (cB (aO (aDJ (K:=K) rfl rfl) rfl B.all mV (aA (bX (own:=["load", "level"]) (fr:=[]) (fm:=[]) (aY (Pg X? (aF iV)) ["many", "levels", "rows"] rfl rfl (by decide +kernel)) rfl (aGQ (K:=K) .t .t rfl rfl B.zip (aA (pv 0) (aA (pv 1) aC)))
       (λ_ _ _ _=>oQ (K:=K) (n:=2) rfl rfl (aM (aI (i:=0) (show (["load", "level"]:List ax).Nodup by decide +kernel) rfl fi) (aM (aI (i:=1) (show (["load", "level"]:List ax).Nodup by decide +kernel) rfl fi) bV))) (λ_ _ _ _=>cP) (λ_ _ _ _=>dX yZ (pv 0) (pv 1) gm)) aC))))
     (λ_ _ _ _=>pv 0) (λ_ _ _ _=>oF (jD hr) (pv 2) (pv 0) lj))))))),?_⟩
  obtain ⟨mi,km,iz,ip⟩:=aT hb
  refine ⟨_,rfl,x,n,ws,rfl,hx,hb,hP,λp dp lp hs lv H1 s1 hp A' hd kz L=>?_⟩
  refine ⟨p,_,1,.ref lp,rfl,rfl,d_.of hp,rfl,?_⟩
  obtain ⟨ba,bb,ys,rfl,ha,ia,ij⟩:=cI (s1.den _ _ hx)
  have jt:=aP ij
  rw [Qa] at jt
  intro r0 G5
  refine ⟨um _,λz0 E9=>?_⟩
  have s2:=aD.new (o:=.dT []) G5
  have s3:=aD.new (o:=.tup [.int 0]) E9
  refine ⟨_,rfl,ba,_,0,.int n,rfl,rfl,(s2.trans s3).d0 ha,rfl,?_⟩
  refine ⟨z0,n.toNat,[.int 0],rfl,by rw [Yr (by omega)],aB,by simp,by omega,by omega,by decide,λkp H3 s4 e3=>?_⟩
  have r3:H3 r0=some (.dT []):=(s3.trans s4) _ _ aB
  rw [Zd] at e3
  refine ⟨(List.replicate n.toNat 0).map Sum.inl,kp,rfl,by rw [qK,Qan]; exact e3,r3,?_⟩
  have mq:aD H1 (upd H3 r0 (.dT [((List.replicate n.toNat 0).map Sum.inl,.int 1)])):=λb u h=>by
   rw [aG (λz=>by rw [z,G5] at h; cases h)]
   exact (s2.trans (s3.trans s4)) _ _ h
  have e4:upd H3 r0 (.dT [((List.replicate n.toNat 0).map Sum.inl,.int 1)]) r0=some (.dT (enc (cT n.toNat lv (ws.take 0)))):=aB
  generalize upd H3 r0 (.dT [((List.replicate n.toNat 0).map Sum.inl,.int 1)])=H4 at mq e4 ⊢
  have u_:∀ l∈ws,∀ h∈l,0<=h/\h < ((n.toNat:Nat):Int):=λl hl h hh=>by have:=(aZ (ip l hl)).2.1 h hh; omega
  have Eg:lv.length=n.toNat:=L.1
  dsimp only [jR]
  refine ⟨_,rfl,ba,_,1,.ref bb,rfl,rfl,mq.d0 ha,rfl,bb,rfl,⟨_,mq.d0 ia⟩,nV (K:=K) (a:=bb) (xs:=ys) (λi σ H5=>∃ (rp:ae) (v3 v4:Option V),σ = [some (.ref ba),some (.ref lp),some (.ref rp),v3,v4]/\H5 rp=some (.dT (enc (cT n.toNat lv (ws.take i))))/\aD H1 H5) ⟨r0,_,_,rfl,e4,mq⟩ (λi σ H5 _ ⟨_,_,_,_,_,s5⟩=>s5.d0 ia) ?_ ?_⟩
  ·rintro i y σ H5 hy ⟨rp,v3,v4,rfl,e5,s5⟩
   obtain ⟨dv,gk,i4⟩:=cD ij hy
   rw [Qd] at gk
   obtain ⟨l,hl,rfl⟩:∃ l,ws[i]?=some l/\bY l=dv:=by
    cases q:ws[i]? with
    | none=>rw [q] at gk; cases gk
    | some l=>rw [q] at gk; exact ⟨l,rfl,Option.some.inj gk⟩
   obtain ⟨pw,rfl,x9⟩:=aR.mp i4
   have hiw:i < ws.length:=(Qb.mp hl).1
   obtain ⟨l0,lr,l6⟩:=aZ (ip l (Qe hl))
   have vd:=u_ l (Qe hl)
   have Fh:(l.map V.int).length=l.length:=Qa ..
   have ny:l.length<=12:=by
    have z:=mB (l:=l) (m:=(List.range n.toNat).map Int.ofNat) (l6.imp λ{a b} h=>by omega) λh hh=>Qv.mpr ⟨h.toNat,Jm.mpr (by have:=vd h hh; omega),by have:=vd h hh; show ((h.toNat:Nat):Int)=h; omega⟩
    rw [Qa,Xe] at z
    omega
   have O':∀ h∈l,k4 (lv.map V.int) h=some (.int (lv.getD h.toNat 0)):=λh hh=>by
    have G5:=vd h hh
    obtain ⟨m,rfl⟩:∃ m:Nat,h=m:=⟨h.toNat,by omega⟩
    exact bZ (by rw [Qd,Jc,Qn,Qc (by omega)]; rfl)
   refine ⟨_,rfl,pw,rfl,⟨_,s5.d0 x9⟩,lF (K:=K) (a:=pw) (xs:=l.map V.int) (vs:=(l.map λh=>lv.getD h.toNat 0).map V.int) (λσ=>∃ v,σ = [v,some (.ref lp)]) (by omega) (by rw [Qa,Qa,Qa]) (s5.d0 x9) ⟨none,rfl⟩ ?_ ?_⟩
   ·rintro j xv v σ H6 jw hv ⟨v0,rfl⟩ s6 Q' j_
    rw [Qd] at jw
    rw [Qd,Qd] at hv
    cases t_:l[j]? with
    | none=>rw [t_] at jw; cases jw
    | some h =>
     rw [t_] at jw hv
     obtain rfl:V.int h=xv:=Option.some.inj jw
     obtain rfl:V.int (lv.getD h.toNat 0)=v:=Option.some.inj hv
     exact ⟨_,rfl,_,rfl,lp,_,h,_,rfl,rfl,d_.of ((s5.trans s6) _ _ kz),O' h (Qe t_),j_ _ _ ⟨_,rfl⟩ (aD.refl _)⟩
   ·rintro H6 s6 z hz
    refine ⟨z,_,rfl,fh.of aB,by rw [Qa]; exact Zj.mpr l0,λM hM q_=>?_⟩
    have s7:=s6.trans (aD.new (o:=.lst ((l.map λh=>lv.getD h.toNat 0).map V.int)) hz)
    generalize upd H6 z (.lst ((l.map λh=>lv.getD h.toNat 0).map V.int))=H7 at s7 ⊢
    have ET:=s5.trans s7
    have hK:=iP n.toNat lv ws u_ i (by omega)
    refine ⟨_,rfl,_,rfl,pw,rfl,⟨_,ET.d0 x9⟩,hV (K:=K) (a:=pw) (xs:=l.map V.int) (λσ=>∃ v,σ = [v,some (.ref lp),some (.int M)]) (λj zs H8=>H8=H7/\zs=((l.take j).filter λh=>decide (lv.getD h.toNat 0=M)).map V.int) (eG (by omega)) ⟨none,rfl⟩ ⟨rfl,rfl⟩ ?_ ?_ ?_ ?_⟩
    ·rintro j zs H8 ⟨rfl,rfl⟩
     rw [Qa]
     exact Jd (Xd ..) (by rw [Qq]; omega)
    ·rintro j zs H8 ⟨rfl,rfl⟩
     exact ET.d0 x9
    ·rintro j zs σ xv H8 jw ⟨v0,rfl⟩ ⟨rfl,rfl⟩ GN
     rw [Qd] at jw
     cases t_:l[j]? with
     | none=>rw [t_] at jw; cases jw
     | some h =>
      rw [t_] at jw
      obtain rfl:V.int h=xv:=Option.some.inj jw
      have et:(l.take (j+1)).filter (λh=>decide (lv.getD h.toNat 0=M))=(l.take j).filter (λh=>decide (lv.getD h.toNat 0=M))++([h].filter λh=>decide (lv.getD h.toNat 0=M)):=by rw [Je,t_,Xb]; rfl
      refine ⟨_,rfl,_,rfl,lp,_,h,_,rfl,rfl,d_.of (ET _ _ kz),O' h (Qe t_),_,rfl,rfl,_,rfl,?_⟩
      refine eK (λc1=>?_) (λc1=>?_)
      ·have c2:lv.getD h.toNat 0=M:=by
        have z:=of_decide_eq_true c1
        injection z
       refine ⟨_,rfl,GN,⟨_,rfl⟩,rfl,?_⟩
       rw [et,Qo,Xt,if_pos (decide_eq_true c2)]
       rfl
      ·have c2:¬ lv.getD h.toNat 0=M:=λz=>c1 (decide_eq_true (by rw [z]))
       refine ⟨⟨_,rfl⟩,rfl,?_⟩
       rw [et,Xt,if_neg (λz=>c2 (of_decide_eq_true z))]
       simp
    ·rintro zs H8 ⟨rfl,rfl⟩ z2 t7
     rw [Fh,Jj,aBQ hM q_]
     have s8:=aD.new (o:=.lst ((cZ lv l).map V.int)) t7
     have MF:=ET.trans s8
     refine ⟨_,rfl,rp,z2,lp,_,cZ lv l,lv,(i:Int),rfl,(s7.trans s8) _ _ e5,fh.of aB,d_.of (MF _ _ kz),by omega,by rw [Eg]; exact hK,by omega,λh hh=>by rw [Eg]; exact vd h (Xa.mp hh).1,λg H9 s9 hg e9=>?_⟩
     exact ⟨g,_,_,rfl,by rw [lN n.toNat lv ws hl]; exact e9,MF.trans s9⟩
  ·rintro σ H5 ⟨rp,v3,v4,rfl,e5,s5⟩
   rw [jt,Jj] at e5
   have uu:=iP n.toNat lv ws u_ ws.length (Qh _)
   rw [Jj] at uu
   have Nt:eQ n.toNat lv ws=(cT n.toNat lv ws).filter λp=>(p.1.zip lv).all λq=>decide (q.2<=q.1):=rfl
   have Fw:=ic.len ⟨uu.nd,λp hp=>⟨(uu.box p hp).1,λx hx=>by have:=(uu.box p hp).2 x hx; omega⟩,uu.pos⟩ (show n.toNat<=6 by omega)
   generalize cT n.toNat lv ws=R at e5 uu Nt Fw
   have Ad:(enc R).length=R.length:=Qa ..
   refine ⟨_,rfl,rp,enc R,rfl,e5,λo=>?_⟩
   have f6:upd H5 rp (.gh o (.dT (enc R))) rp=some (.gh o (.dT (enc R))):=aB
   have b6:∀ b u,b≠rp->H5 b=some u->upd H5 rp (.gh o (.dT (enc R))) b=some u:=λb u nb h=>by rw [aG nb]; exact h
   generalize upd H5 rp (.gh o (.dT (enc R)))=H6 at f6 b6 ⊢
   have VE:lp≠rp:=λz=>by have y:=s5 _ _ kz; rw [z,e5] at y; cases y
   refine aAq (λσ=>∃ v,σ = [v,some (.ref lp),some (.ref rp)]) (λi ys H7=>ys.map E3=enc ((R.take i).filter λp=>(p.1.zip lv).all λq=>decide (q.2<=q.1))/\Kp ys H7/\H7 rp=some (.gh o (.dT (enc R)))/\∀ b u,b≠rp->H5 b=some u->H7 b=some u) (by rw [Ad,Rf]; omega) ⟨none,rfl⟩ ⟨rfl,λ_ h=>(Qp h).elim,f6,b6⟩ ?_ (λi ys H7 h=>⟨h.2.2.1,h.2.1⟩) ?_ ?_
   ·rintro i ys H7 ⟨he,_⟩
    have z:=congrArg Ye he
    unfold enc at z
    rw [Qa,Qa] at z
    have z2:=Xd (λp:List Int×Int=>(p.1.zip lv).all λq=>decide (q.2<=q.1)) (R.take i)
    rw [Qq] at z2
    omega
   ·rintro i ys σ p b H7 hp hb ⟨v,rfl⟩ ⟨he,Nl,f7,b7⟩ hz
    obtain ⟨q,hq,rfl⟩:∃ q,R[i]?=some q/\(q.1.map Sum.inl,V.int q.2)=p:=by
     unfold enc at hp
     rw [Qd] at hp
     cases hz:R[i]? with
     | none=>rw [hz] at hp; cases hp
     | some q=>rw [hz] at hp; exact ⟨q,rfl,Option.some.inj hp⟩
    have G6:=(uu.box q (Qe hq)).1
    have ju:H7 b=some (.tup (q.1.map V.int)):=by rw [<- qK]; exact hb
    have y9:H7 lp=some (.tup (lv.map V.int)):=b7 _ _ VE (s5 _ _ kz)
    have et:(R.take (i+1)).filter (λp=>(p.1.zip lv).all λq=>decide (q.2<=q.1))=(R.take i).filter (λp=>(p.1.zip lv).all λq=>decide (q.2<=q.1))++([q].filter λp=>(p.1.zip lv).all λq=>decide (q.2<=q.1)):=by rw [Je,hq,Xb]; rfl
    refine ⟨_,rfl,_,rfl,b,lp,_,_,rfl,d_.of ju,d_.of y9,aDp (K:=K) (k1:=.t) (k2:=.t) (a:=b) (b:=lp) (xs:=q.1.map V.int) (zs:=lv.map V.int) (vs:=((q.1.zip lv).map λr=>decide (r.2<=r.1)).map V.bl) (λσ=>∃ v0 v1,σ = [v0,v1]) (by rw [Qa]; omega) (by rw [Qa,Qa]; omega) (by rw [Qa,Qa,Qa,Wq]; omega) (λH' s'=>⟨d_.of (s' _ _ ju),d_.of (s' _ _ y9)⟩) ⟨none,none,rfl⟩ ?_ ?_⟩
    ·rintro j xv zv v pr σ H8 jw C6 hv A3 ⟨v0,v1,rfl⟩ s8 Q' j_
     rw [Qd] at jw C6
     cases h1:q.1[j]? with
     | none=>rw [h1] at jw; cases jw
     | some x1 =>
      cases h2:lv[j]? with
      | none=>rw [h2] at C6; cases C6
      | some x2 =>
       rw [h1] at jw
       rw [h2] at C6
       obtain rfl:V.int x1=xv:=Option.some.inj jw
       obtain rfl:V.int x2=zv:=Option.some.inj C6
       rw [Qd,Qd,(Qz (z:=(x1,x2))).mpr ⟨h1,h2⟩] at hv
       obtain rfl:V.bl (decide (x2<=x1))=v:=Option.some.inj hv
       refine ⟨pr,_,rfl,d_.of aB,rfl,_,_,rfl,_,_,rfl,rfl,?_⟩
       refine ⟨_,rfl,_,rfl,_,_,rfl,rfl,?_⟩
       exact j_ _ _ ⟨_,_,rfl⟩ (aD.new A3)
    ·rintro H8 s8 z GN
     refine ⟨z,_,rfl,fh.of aB,_,rfl,?_⟩
     have s9:=s8.trans (aD.new (o:=.lst (((q.1.zip lv).map λr=>decide (r.2<=r.1)).map V.bl)) GN)
     generalize upd H8 z (.lst (((q.1.zip lv).map λr=>decide (r.2<=r.1)).map V.bl))=H9 at s9 ⊢
     have ec:((q.1.zip lv).map λr=>decide (r.2<=r.1)).all id=(q.1.zip lv).all λr=>decide (r.2<=r.1):=by rw [Zb]; rfl
     rw [ec]
     have GI:Kp ys H9:=λe h=>s9 _ _ (Nl e h)
     have b9:∀ b u,b≠rp->H5 b=some u->H9 b=some u:=λb u nb h=>s9 _ _ (b7 b u nb h)
     by_cases hc:((q.1.zip lv).all λr=>decide (r.2<=r.1))=true
     ·rw [hc]
      refine gA ?_
      refine ⟨_,rfl,_,rfl,_,rfl,rp,.int q.2,rfl,.inr ⟨enc R,q.1.map Sum.inl,b,.inr ⟨o,s9 _ _ f7⟩,rfl,s9 _ _ hb,by rw [uD,yK uu.nd hq]; rfl⟩,?_⟩
      refine ⟨q.1.map Sum.inl,b,rfl,s9 _ _ hb,GI,λhm=>?_,hz,⟨_,rfl⟩,?_,λe h=>?_,s9 _ _ f7,b9⟩
      ·have e1:ys.map (·.1)=((R.take i).filter λp=>(p.1.zip lv).all λq=>decide (q.2<=q.1)).map λp=>p.1.map Sum.inl:=by
        have z:=congrArg (List.map (·.1)) he
        unfold enc at z
        rw [Jn,Jn] at z
        exact z
       rw [e1] at hm
       obtain ⟨p,oh,ep⟩:=Qv.mp hm
       have yj:p.1=q.1:=oZ.mp ep
       obtain ⟨j,hj,ej⟩:=List.getElem_of_mem (Xa.mp oh).1
       have hi:i < R.length:=(Qb.mp hq).1
       have WC:R[i]=q:=(Qb.mp hq).2
       rw [Qq] at hj
       rw [List.getElem_take] at ej
       refine Xo.mp uu.nd j i (by rw [Qa]; omega) (by rw [Qa]; exact hi) (by omega) ?_
       rw [List.getElem_map,List.getElem_map,ej,WC]
       exact yj
      ·rw [Qo,he,et,Xt,if_pos hc]
       unfold enc
       rw [Qo]
       rfl
      ·rcases Jk.mp h with h | h
       ·exact GI e h
       ·rw [Qr.mp h]
        exact s9 _ _ hb
     ·rw [Zl] at hc
      rw [hc]
      refine fZ ?_
      refine ⟨⟨_,rfl⟩,?_,GI,s9 _ _ f7,b9⟩
      rw [et,Xt,if_neg (by rw [hc]; decide)]
      simpa using he
   ·rintro ys H7 ⟨he,Nl,f7,b7⟩ p hp
    rw [Ad,Jj,<- Nt] at he
    rw [he]
    refine k p hs lv _ (λb u h=>?_) hd L (by rw [aG (λz=>by rw [z,f7] at hp; cases hp),aB])
    have y:=s5 _ _ (s1 _ _ h)
    by_cases Fp:b=rp
    ·rw [Fp] at y ⊢
     rw [aB,<- e5,y]
    ·rw [aG Fp,aG (λz=>by rw [<- z,b7 b u Fp y] at hp; cases hp)]
     exact b7 b u Fp y
noncomputable def SM (m:List (List Int×Int)):Int:=aL (m.map (·.2))
theorem kO (p:List Int×Int) (m:List (List Int×Int)):SM (p::m)=p.2+SM m:=rfl
theorem QX {p:List Int×Int} {k:List Int} {x:Int} (h:p.1≠k):kF (p::m) k x=p::kF m k x:=by
 unfold kF
 rw [Xz,decide_eq_false h,Qai]
 split
 ·rw [Qw,if_neg h]
 ·rfl
theorem QW {p:List Int×Int} {k:List Int} (h:p.1≠k):kD (p::m) k=kD m k:=by
 unfold kD
 rw [Xi,decide_eq_false h]
theorem QG {k:List Int} {v:Int}:∀ {m:List (List Int×Int)},(m.map (·.1)).Nodup->SM (kF m k ((kD m k).getD 0+v))=SM m+v
 | [],_=>by
  show (0+v)+0=0+v
  omega
 | p::m,nd=>by
  rw [Qw] at nd
  obtain ⟨h1,h2⟩:=Jv.mp nd
  by_cases h:p.1=k
  ·have eg:kD (p::m) k=some p.2:=by unfold kD; rw [Xi,decide_eq_true h]; rfl
   have ep:kF (p::m) k (p.2+v)=(p.1,p.2+v)::m:=by
    unfold kF
    rw [Xz,decide_eq_true h,Qas,if_pos rfl,Qw,if_pos h]
    congr 1
    refine (Xw λq hq=>?_).trans (List.map_id' m)
    rw [if_neg (λz=>h1 (Qv.mpr ⟨q,hq,z.trans h.symm⟩))]
   rw [eg]
   show SM (kF (p::m) k (p.2+v))=_
   rw [ep,kO,kO]
   show p.2+v+SM m=_
   omega
  ·rw [QW h,QX h,kO,kO,QG h2]
   omega
theorem aGR {g:List (List Int×Int)} {p:List Int×Int} {h:Int} (nd:(g.map (·.1)).Nodup) (h3:0 < p.2):SM (iK lv g p h)<=SM g+p.2:=by
 unfold iK
 split
 ·rw [QG nd]; exact Js _
 ·omega
theorem SE {n:Nat} {c:Int} {p:List Int×Int} (h1:p.1.length=n) (h2:∀ x∈p.1,0<=x/\x<=c) (h3:0 < p.2):∀ (tk:List Int) (g:List (List Int×Int)),(∀ h∈tk,0<=h/\h < n)->ic n (c+1) g->SM (f9 lv tk g p)<=SM g+tk.length*p.2
 | [],g,_,_=>by
  show SM g<=SM g+(0:Nat)*p.2
  omega
 | h::tk,g,ht,k=>by
  have a:=SE h1 h2 h3 tk (iK lv g p h) (λx hx=>ht x (Qg _ hx)) (k.step h1 h2 h3 (ht h (Qi ..)))
  have b:=aGR (lv:=lv) (h:=h) k.nd h3
  show SM (f9 lv tk (iK lv g p h) p)<=_
  rw [Ja,Yb,Qad]
  show _<=SM g+(tk.length*p.2+1*p.2)
  omega
theorem QV {n:Nat} {c:Int} {tk:List Int} (ht:∀ h∈tk,0<=h/\h < n):∀ (R g:List (List Int×Int)),(∀ p∈R,p.1.length=n/\(∀ x∈p.1,0<=x/\x<=c)/\0 < p.2)->ic n (c+1) g->SM (R.foldl (λg p=>f9 lv tk g p) g)<=SM g+tk.length*SM R
 | [],g,_,_=>by
  show SM g<=SM g+tk.length*0
  omega
 | p::R,g,hR,k=>by
  have hp:=hR p (Qi ..)
  have a:=QV ht R _ (λq hq=>hR q (Qg _ hq)) (ic.f9 (lv:=lv) hp.1 hp.2.1 hp.2.2 tk g ht k)
  have b:=SE (lv:=lv) hp.1 hp.2.1 hp.2.2 tk g ht k
  rw [kO,Int.mul_add]
  show SM (R.foldl (λg p=>f9 lv tk g p) (f9 lv tk g p))<=_
  omega
theorem qL:∀ {m:List (List Int×Int)},(∀ p∈m,0 < p.2)->0<=SM m
 | [],_=>Js _
 | p::m,h=>by
  have a:=h p (Qi ..)
  have b:=qL (m:=m) λq hq=>h q (Qg _ hq)
  rw [kO]
  omega
theorem Py:∀ {m:List (List Int×Int)},(∀ p∈m,0 < p.2)->∀ p∈m,p.2<=SM m
 | q::m,h,p,hp=>by
  have a:=h q (Qi ..)
  have b:=qL (m:=m) λq hq=>h q (Qg _ hq)
  rw [kO]
  rcases Ql.mp hp with rfl | hp
  ·omega
  ·have:=Py (m:=m) (λq hq=>h q (Qg _ hq)) p hp
   omega
theorem RZ (n:Nat) (hn:n<=6) (lv:List Int) (ws:List (List Int)) (hw:∀ l∈ws,∀ h∈l,0<=h/\h < (n:Int)) (hl:∀ l∈ws,l.length<=6):∀ i:Nat,i<=ws.length->SM (cT n lv (ws.take i))<=((6^i:Nat):Int)
 | 0,_=>by
  show (1:Int)+0<=1
  decide
 | i+1,h=>by
  have hi:i < ws.length:=by omega
  rw [lN n lv ws (Qc hi)]
  have k:=iP n lv ws hw i (by omega)
  have ih:=RZ n hn lv ws hw hl i (by omega)
  have ht:∀ h∈cZ lv ws[i],0<=h/\h < (n:Int):=λh hh=>hw _ (Jr hi) h (Xa.mp hh).1
  have a:=QV (lv:=lv) ht (cT n lv (ws.take i)) [] k.all (ic.nil n _)
  have tl:(cZ lv ws[i]).length<=6:=Jd (Xd ..) (hl _ (Jr hi))
  have nn:=qL k.pos
  have b:((cZ lv ws[i]).length:Int)*SM (cT n lv (ws.take i))<=6*SM (cT n lv (ws.take i)):=Int.mul_le_mul_of_nonneg_right (by omega) nn
  have e:((6^(i+1):Nat):Int)=((6^i:Nat):Int)*6:=by rw [Nat.pow_succ]; exact Int.natCast_mul _ _
  rw [e]
  have a':SM (ie (cT n lv (ws.take i)) (cZ lv ws[i]) lv)<=0+((cZ lv ws[i]).length:Int)*SM (cT n lv (ws.take i)):=a
  omega
theorem uF (lv:List Int) (hb:bD (bB n ws)=true):ic n.toNat 12 (eQ n.toNat lv ws)/\∀ p∈eQ n.toNat lv ws,p.2 < 10000000000:=by
 obtain ⟨mi,km,iz,ip⟩:=aT hb
 have u_:∀ l∈ws,∀ h∈l,0<=h/\h < ((n.toNat:Nat):Int):=λl hl h hh=>by have:=(aZ (ip l hl)).2.1 h hh; omega
 have ya:∀ l∈ws,l.length<=6:=λl hl=>by
  have z:=mB (l:=l) (m:=(List.range n.toNat).map Int.ofNat) ((aZ (ip l hl)).2.2.imp λ{a b} h=>by omega) λh hh=>Qv.mpr ⟨h.toNat,Jm.mpr (by have:=u_ l hl h hh; omega),by have:=u_ l hl h hh; show ((h.toNat:Nat):Int)=h; omega⟩
  rw [Qa,Xe] at z
  omega
 have k:=iP n.toNat lv ws u_ ws.length (Qh _)
 have b:=RZ n.toNat (by omega) lv ws u_ ya ws.length (Qh _)
 rw [Jj] at k b
 have pw:(6:Nat)^ws.length<=6^12:=Nat.pow_le_pow_right (by decide) iz
 have Cu:(6:Nat)^12=2176782336:=by decide
 refine ⟨⟨?_,λp hp=>?_,λp hp=>k.pos p (Xa.mp hp).1⟩,λp hp=>?_⟩
 ·exact List.Nodup.sublist (List.Sublist.map _ List.filter_sublist) k.nd
 ·have z:=k.box p (Xa.mp hp).1
  exact ⟨z.1,λx hx=>by have:=z.2 x hx; omega⟩
 ·have z:=Py k.pos p (Xa.mp hp).1
  omega
def qM (K:Rc) (Pt:ae):Sp:=λvs H Q _=>∃ (x:V) (n:Int) (ws:List (List Int)),vs = [x]/\Den K H (bB n ws) x/\bD (bB n ws)=true/\H Pt=some (.tab qF)/\∀ (hs lv:List Int) H',aD H H'->bO ws (bK hs)=true->cJ n ws hs lv->Q (.int (SM (eQ n.toNat lv ws))) H'
theorem aDK:dz ["book"] ["book"] (aF oN):=.of
theorem aBR (G:Fn K mg "how_many" oN ["book"] f fd) (B:Bl mg) (Kq:Fn K mg "even_loads" iV ["book"] fE dE) (CF:c_ P w K mg base fc 12 fE dE ["book"] (sB K Pt)):c_ P w K mg base fc 13 f fd ["book"] (qM K Pt):=by
 refine G.fn.oK aDK λft A outer s H vs Q E hr h=>?_
 ·obtain ⟨x,n,ws,rfl,hx,hb,hP,k⟩:=h
  have zx:ee 12 _:=hr
  refine ⟨_,aH (aN (aGw rfl rfl B.sum JK (aX Kq CF zx rfl (aA (pv 0) aC)))),?_⟩
  refine ⟨_,rfl,x,n,ws,rfl,hx,hb,hP,λp hs lv H1 s1 hd L hp=>?_⟩
  obtain ⟨k1,k2⟩:=uF lv hb
  have hl:=k1.len (by have:=(aT hb).2.1; omega)
  refine ⟨p,_,(eQ n.toNat lv ws).map (λq:List Int×Int=>q.2),rfl,hp,?_,λz hz=>?_,by rw [Qa]; omega,k hs lv H1 s1 hd L⟩
  ·unfold enc
   rw [Jn,Jn]
   rfl
  ·obtain ⟨q,hq,rfl⟩:=Qv.mp hz
   exact ⟨Int.le_of_lt (k1.pos q hq),k2 q hq⟩
end Ab
namespace L2
open PySem
section
variable {σ:St}
theorem u! {m:Nat} {tx:TE} {Q:VK} (hi:σ[i]?=some (some (.ref c))) (hj:σ[j]?=some (some (.int m))) (hc:d_ K H c xs) (hl:xs.length<=100) (hx:∀ H1,aD H H1->∀ Q1:VK,(∀ H2,aD H1 H2->Q1 y H2)->tx σ H1 Q1) (k:∀ r H',aD H H'->d_ K H' r (xs.take m++[y]++xs.drop (m+1))->Q (.ref r) H') :
  AM (JV K) (AM (JV K) (Ga (JF K) (Cz i) wX (aEl (Cz j))) (Pk (sI tx zF))) (Ga (JF K) (Cz i) (aEl (AM (xm λi j=>.int (i+j)) (Cz j) (tC (.int 1)))) wX) σ H Q:=by
 refine ⟨_,hi,_,hj,_,rfl,c,_,rfl,hc,λr1 H1 s1 g1=>?_⟩
 rw [xF] at g1
 refine hx H1 s1 _ λH2 s2=>⟨by rw [Rf]; simp,λr2 iq=>?_⟩
 have l1:(xs.take m).length<=100:=by rw [Qq]; omega
 refine ⟨r1,r2,_,_,rfl,rfl,(s2.trans (aD.new iq)).d0 g1,d_.of aB,by rw [Rf]; show _+1<=_; omega,λr3 H3 s3 g3=>?_⟩
 have xl:=s1.trans (s2.trans ((aD.new (o:=.tup [y]) iq).trans s3))
 refine ⟨_,hi,_,hj,_,_,rfl,rfl,_,rfl,c,_,rfl,xl.d0 hc,λr4 H4 s4 g4=>?_⟩
 rw [show (m:Int)+1=((m+1:Nat):Int) by omega,pR] at g4
 have l4:(xs.drop (m+1)).length<=100:=by rw [Jy]; omega
 exact ⟨r3,r4,_,_,rfl,rfl,s4.d0 g3,g4,by rw [Rf,Qj]; show _+1+_<=_; omega,λr5 H5 s5 g5=>k r5 H5 (xl.trans (s4.trans s5)) g5⟩
end
end L2
namespace Ab
open PySem L2
noncomputable def gq (l:List α) (i:Nat) (x:α):List α:=l.take i++[x]++l.drop (i+1)
theorem lO {l:List α} {x:α} (h:i < l.length):(gq l i x).length=l.length:=by
 unfold gq
 rw [Qj,Qj,Qq,Jy]
 show _+1+_=_
 omega
theorem aFC {l:List α} {x y:α} (h:y∈gq l i x):y=x∨y∈l:=by
 unfold gq at h
 rcases Jk.mp h with h | h
 ·rcases Jk.mp h with h | h
  ·exact .inr (Xl h)
  ·exact .inl (Qr.mp h)
 ·exact .inr (Wx h)
theorem mK {l:List α} {x:α} (h:i < l.length) (j:Nat):(gq l i x)[j]?=if j=i then some x else l[j]?:=by
 have e:gq l i x=l.set i x:=by unfold gq; rw [List.set_eq_take_append_cons_drop,if_pos h,Zv]; rfl
 rw [e,Xv]
 by_cases hj:i=j
 ·rw [if_pos hj,if_pos hj.symm,if_pos (by omega)]
 ·rw [if_neg hj,if_neg (Ne.symm hj)]
theorem aFD {h:Int} (h0:0<=h) (h1:h < n):cH n (bY [h])=true:=by
 show (!([ar.int h].isEmpty) && eC n (-1) [.int h])=true
 simp [eC]
 omega
theorem aDL {h:Int} (hb:bD (bB n ws)=true) (hd:bO ws (bK hs)=true) (hl:ws[i]?=some l) (hh:h∈l):bD (bB n (gq ws i [h]))=true/\bO (gq ws i [h]) (bK (gq hs i h))=true:=by
 obtain ⟨mi,km,iz,ip⟩:=aT hb
 obtain ⟨d1,d2⟩:=aV hd
 have hi:i < ws.length:=(Qb.mp hl).1
 have hr:=(aZ (ip l (Qe hl))).2.1 h hh
 refine ⟨Q8 mi km (by rw [lO hi]; exact iz) λm hm=>?_,gX (by rw [lO hi,lO (by omega)]; exact d1) λj a m ha hm=>?_⟩
 ·rcases aFC hm with rfl | hm
  ·exact aFD hr.1 hr.2
  ·exact ip m hm
 ·rw [mK (by omega)] at ha
  rw [mK hi] at hm
  by_cases hj:j=i
  ·rw [if_pos hj] at ha hm
   rw [<- Option.some.inj ha,<- Option.some.inj hm]
   exact Qr.mpr rfl
  ·rw [if_neg hj] at ha hm
   exact d2 j a m ha hm
theorem rE {d:List Int} {h:Int} (hl:ws[i]?=some l) (hh:h∈l):bO (gq ws i [h]) (bK d)=true↔bO ws (bK d)=true/\d[i]?=some h:=by
 have hi:i < ws.length:=(Qb.mp hl).1
 constructor
 ·intro q
  obtain ⟨a,b⟩:=aV q
  rw [lO hi] at a
  have e:=Qc (show i < d.length by omega)
  have ei:d[i]?=some h:=by
   have:=b i _ [h] e (by rw [mK hi,if_pos rfl])
   rw [e,Qr.mp this]
  refine ⟨gX a λj x m hx hm=>?_,ei⟩
  by_cases hj:j=i
  ·subst hj
   rw [ei] at hx; rw [hl] at hm
   cases hx; cases hm
   exact hh
  ·exact b j x m hx (by rw [mK hi,if_neg hj]; exact hm)
 ·rintro ⟨q,ei⟩
  obtain ⟨a,b⟩:=aV q
  refine gX (by rw [lO hi]; exact a) λj x m hx hm=>?_
  rw [mK hi] at hm
  by_cases hj:j=i
  ·subst hj
   rw [if_pos rfl] at hm
   rw [ei] at hx
   cases hx; cases hm
   exact Yd _
  ·rw [if_neg hj] at hm
   exact b j x m hx hm
theorem aAP {he lw C3:List Int} {h:Int} (hb:bD (bB n ws)=true) (hd:bO ws (bK hs)=true) (L:gz n ws hs lv) (hl:ws[i]?=some l) (hh:h∈l) (nb:bD (bB n (gq ws i [h]))=true) (de:bO (gq ws i [h]) (bK he)=true) (Le:gz n (gq ws i [h]) he lw) (p1:ms.Perm (aJ n he)) (s1:ms.Pairwise (·≥·)) (p2:C3.Perm (aJ n hs)) (s2:C3.Pairwise (·≥·)):ms=C3↔∃ d,bO ws (bK d)=true/\d[i]?=some h/\gz n ws d lv:=by
 obtain ⟨ID,ZF⟩:=(rE hl hh).mp de
 constructor
 ·rintro rfl
  exact ⟨he,ID,ZF,(L.iff hb hd ID).mp (p1.symm.trans p2)⟩
 ·rintro ⟨d,d1,d2,Ld⟩
  have pe:=(L.iff hb hd d1).mpr Ld
  refine nN (by unfold aJ; rw [Qa,Qa]) (λt=>?_) (λt=>L.least hb hd ID t) p1 p2 s1 s2
  rw [<- sA pe]
  exact Le.least nb de ((rE hl hh).mpr ⟨d1,d2⟩) t
theorem pC (hb:bD (bB n ws)=true):∀ l∈ws,∀ h∈l,0<=h/\h < n:=λl hl h hh=>(aZ ((aT hb).2.2.2 l hl)).2.1 h hh
def SD (K:Rc) (Pt:ae):Sp:=λvs H Q _=>∃ (x y:V) (n:Int) (ws:List (List Int)) (hs:List Int) (i:Nat) (l lv:List Int) (h:Int),vs = [x,y,.int i,.int h]/\dQ K H x y n ws hs/\H Pt=some (.tab qF)/\ws[i]?=some l/\h∈l/\gz n ws hs lv /\
 ∀ (b:Bool) H',aD H H'->(b=true↔∃ d,bO ws (bK d)=true/\d[i]?=some h/\gz n ws d lv)->Q (.bl b) H'
theorem kG:dz ["book", "deal", "work", "hand", "hands", "works", "narrow", "ways", "best"] ["book", "deal", "work", "hand"] (aF rS):=.of
set_option maxHeartbeats 2000000 in
theorem aDM (G:Fn K mg "is_as_even" rS ["book", "deal", "work", "hand"] f fd) (B:Bl mg) (CK:Fn K mg "bettered" gL ["book", "deal"] Ct Bn) (D8:c_ P w K mg base fc 10 Ct Bn ["book", "deal"] (iZ K Pt)) (ql:Fn K mg "falling" iT ["book", "deal"] Cs Bm) (Aq:c_ P w K mg base fc 8 Cs Bm ["book", "deal"] (iM K)):c_ P w K mg base fc 11 f fd ["book", "deal", "work", "hand"] (SD K Pt):=by
 refine G.fn.oK kG λft A outer s H vs Q E hr h=>?_
 ·obtain ⟨x,y,n,ws,hs,i,l,lv,h,rfl,g,hP,hl,hh,L,k⟩:=h
  have AS:ee 10 _:=hr
  have r8:ee 8 _:=hr.mono (by decide)
  refine ⟨_,(aE (iG (pv 0) (dO rfl (aM (aI (i:=4) kG.nd rfl fi) (aM (aI (i:=5) kG.nd rfl fi) bV))))
  (aE (bA (i:=6) kG.nd rfl fi (cO (aA (pv 4) (aA (cR (oB (K:=K) rfl) (cR (oB (K:=K) rfl) (jS (jV (K:=K) rfl) (pv 5) lW (lX (pv 2))) (cO (aA (cO (aA (pv 3) aC)) aC))) (jS (jV (K:=K) rfl) (pv 5) (lX (cR kZ (pv 2) aK)) lW)) aC))))
  (aE (iG (aX CK D8 AS rfl (aA (pv 6) (aA (cR (oB (K:=K) rfl) (cR (oB (K:=K) rfl) (jS (jV (K:=K) rfl) (pv 1) lW (lX (pv 2))) (cO (aA (pv 3) aC))) (jS (jV (K:=K) rfl) (pv 1) (lX (cR kZ (pv 2) aK)) lW)) aC))) (dO rfl (aM (aI (i:=7) kG.nd rfl fi) (aM (aI (i:=8) kG.nd rfl fi) bV))))
  (aH (aN (dX (J0 hr.wq) (aX ql Aq r8 rfl (aA (pv 6) (aA (pv 8) aC))) (aX ql Aq r8 rfl (aA (pv 0) (aA (pv 1) aC))) gm)))))),?_⟩
  obtain ⟨nb,nd⟩:=aDL g.2.1 g.2.2.2 hl hh
  obtain ⟨ba,bb,ys,rfl,ha,ia,ij⟩:=cI g.1
  obtain ⟨c,rfl,hc⟩:=aR.mp g.2.2.1
  have jt:=aP ij
  rw [Qa] at jt
  have iz:=(aT g.2.1).2.2.1
  have hlen:=(aV g.2.2.2).1
  have Fh:(hs.map V.int).length=hs.length:=Qa ..
  refine ⟨_,rfl,ba,_,rfl,ha,rfl,_,_,rfl,_,_,rfl,rfl,?_⟩
  refine ⟨_,rfl,_,rfl,_,rfl,_,rfl,bb,_,rfl,ia,λr1 H1 s1 g1=>?_⟩
  rw [xF] at g1
  refine ⟨_,rfl,um _,λq1 mh=>⟨um _,λq2 Fd=>?_⟩⟩
  have s2:=aD.new (o:=.tup [.int h]) mh
  have eq1:upd H1 q1 (.tup [.int h]) q1=some (.tup [.int h]):=aB
  generalize upd H1 q1 (.tup [.int h])=H2 at s2 eq1 Fd ⊢
  have s3:=aD.new (o:=.tup [.ref q1]) Fd
  refine ⟨r1,q2,_,_,rfl,rfl,(s2.trans s3).d0 g1,d_.of aB,by rw [Rf,Qq]; show _+1<=_; omega,λr3 H3 s4 g3=>?_⟩
  have mq:=s2.trans (s3.trans s4)
  have xl:=s1.trans mq
  refine ⟨_,rfl,_,rfl,_,_,rfl,rfl,_,rfl,bb,_,rfl,xl.d0 ia,λr4 H4 s5 g4=>?_⟩
  rw [show (i:Int)+1=((i+1:Nat):Int) by omega,pR] at g4
  refine ⟨r3,r4,_,_,rfl,rfl,s5.d0 g3,g4,by rw [Rf,Qj,Qq,Jy]; show _+1+_<=_; omega,λr5 H5 s6 g5=>⟨qm _ _,λnr WL=>?_⟩⟩
  have s7:=aD.new (o:=.tup [.int n,.ref r5]) WL
  have zw:=xl.trans (s5.trans (s6.trans s7))
  have dn:Den K (upd H5 nr (.tup [.int n,.ref r5])) (bB n (gq ws i [h])) (.ref nr):=by
   refine cC.mpr ⟨nr,_,rfl,d_.of aB,aQ.mpr ⟨_,_,rfl,dM.mpr rfl,aQ.mpr ⟨_,_,rfl,cC.mpr ⟨r5,_,rfl,s7.d0 g5,?_⟩,bG.mpr rfl⟩⟩⟩
   have z:=zw.gn _ _ ij
   unfold gq
   rw [Qo,Qo,Qal,Qam]
   exact jL (jL (L2.qT i z) (aQ.mpr ⟨_,_,rfl,aR.mpr ⟨q1,rfl,d_.of ((s3.trans (s4.trans (s5.trans (s6.trans s7)))) _ _ eq1)⟩,bG.mpr rfl⟩)) (qU (i+1) z)
  generalize upd H5 nr (.tup [.int n,.ref r5])=H6 at s7 zw dn ⊢
  dsimp only [jR]
  refine ⟨_,rfl,u! (i:=1) (j:=2) (c:=c) (m:=i) (y:=.int h) (xs:=hs.map V.int) rfl rfl (zw.d0 hc) (by rw [Fh]; omega) (λH7 _ Q1 q=>⟨_,rfl,q H7 (aD.refl _)⟩) λr6 H7 s8 g7=>?_⟩
  have tj:=zw.trans s8
  have dd:Den K H7 (bK (gq hs i h)) (.ref r6):=aR.mpr ⟨r6,rfl,by unfold gq; rw [Qo,Qo,Qal,Qam]; exact g7⟩
  refine ⟨.ref nr,.ref r6,n,gq ws i [h],gq hs i h,rfl,⟨s8.den _ _ dn,nb,dd,nd⟩,tj _ _ hP,λp8 H8 s9 T=>?_⟩
  obtain ⟨wl,dl,qs,Ws,he,lw,WH,_,_,_,jk,oj,Lw⟩:=T
  refine ⟨p8,_,rfl,d_.of WH,rfl,_,_,rfl,_,_,rfl,rfl,?_⟩
  have tf:=tj.trans s9
  refine ⟨_,rfl,_,rfl,.ref nr,.ref dl,n,gq ws i [h],he,rfl,⟨(s8.trans s9).den _ _ dn,nb,aR.mpr ⟨dl,rfl,d_.of jk⟩,gQ oj nd⟩,λp9 H9 ms n_ _ e9 U8 US=>?_⟩
  refine ⟨_,rfl,_,rfl,.ref ba,.ref c,n,ws,hs,rfl,g.same (tf.trans n_),λEY uy C3 CU _ Bi U7 UR=>?_⟩
  refine ⟨.list (ms.map .int),.list (C3.map .int),hJ.mpr ⟨p9,_,rfl,fh.of (CU _ _ e9),eF.mpr rfl⟩,hJ.mpr ⟨EY,_,rfl,fh.of Bi,eF.mpr rfl⟩,eT _,eT _,fX _,fX _,k _ _ (tf.trans (n_.trans CU)) ?_⟩
  have z:=aAP g.2.1 g.2.2.2 L hl hh nb (gQ oj nd) (qJ Lw (cY nb (gQ oj nd)) (pC nb)) U8 US U7 UR
  rw [<- z,qA]
  exact decide_eq_true_iff
noncomputable def Wt (φ:List Int->Int) (m:List (List Int×Int)):Int:=aL (m.map λp=>p.2*φ p.1)
theorem pD (φ:List Int->Int) (p:List Int×Int) (m:List (List Int×Int)):Wt φ (p::m)=p.2*φ p.1+Wt φ m:=rfl
theorem QF {k:List Int} {v:Int}:∀ {m:List (List Int×Int)},(m.map (·.1)).Nodup->Wt φ (kF m k ((kD m k).getD 0+v))=Wt φ m+v*φ k
 | [],_=>by
  show (0+v)*φ k+0=0+v*φ k
  rw [Zz]; omega
 | p::m,nd=>by
  rw [Qw] at nd
  obtain ⟨h1,h2⟩:=Jv.mp nd
  by_cases h:p.1=k
  ·have eg:kD (p::m) k=some p.2:=by unfold kD; rw [Xi,decide_eq_true h]; rfl
   have ep:kF (p::m) k (p.2+v)=(p.1,p.2+v)::m:=by
    unfold kF
    rw [Xz,decide_eq_true h,Qas,if_pos rfl,Qw,if_pos h]
    congr 1
    refine (Xw λq hq=>?_).trans (List.map_id' m)
    rw [if_neg (λz=>h1 (Qv.mpr ⟨q,hq,z.trans h.symm⟩))]
   rw [eg]
   show Wt φ (kF (p::m) k (p.2+v))=_
   rw [ep,pD,pD]
   show (p.2+v)*φ p.1+Wt φ m=_
   rw [Qad,h]
   omega
  ·rw [QW h,QX h,pD,pD,QF h2]
   omega
noncomputable def An (φ:List Int->Int) (lv b:List Int) (h:Int):Int:=if b.getD h.toNat 0<=jg lv h then φ (kX b h.toNat) else 0
theorem aGS {g:List (List Int×Int)} {p:List Int×Int} {h:Int} (nd:(g.map (·.1)).Nodup):Wt φ (iK lv g p h)=Wt φ g+p.2*An φ lv p.1 h:=by
 unfold iK An jg
 split
 ·rw [QF nd]
 ·rw [Int.mul_zero]; omega
theorem SA {n:Nat} {c:Int} {p:List Int×Int} (h1:p.1.length=n) (h2:∀ x∈p.1,0<=x/\x<=c) (h3:0 < p.2):∀ (tk:List Int) (g:List (List Int×Int)),(∀ h∈tk,0<=h/\h < n)->ic n (c+1) g->Wt φ (f9 lv tk g p)=Wt φ g+p.2*aL (tk.map (An φ lv p.1))
 | [],g,_,_=>by
  show Wt φ g=Wt φ g+p.2*0
  omega
 | h::tk,g,ht,k=>by
  have a:=SA h1 h2 h3 tk (iK lv g p h) (λx hx=>ht x (Qg _ hx)) (k.step h1 h2 h3 (ht h (Qi ..)))
  show Wt φ (f9 lv tk (iK lv g p h) p)=Wt φ g+p.2*(An φ lv p.1 h+aL (tk.map (An φ lv p.1)))
  rw [a,aGS k.nd,Int.mul_add]
  omega
theorem RY {n:Nat} {c:Int} {tk:List Int} (ht:∀ h∈tk,0<=h/\h < n):∀ (R g:List (List Int×Int)),(∀ p∈R,p.1.length=n/\(∀ x∈p.1,0<=x/\x<=c)/\0 < p.2)->ic n (c+1) g->Wt φ (R.foldl (λg p=>f9 lv tk g p) g)=Wt φ g+Wt (λb=>aL (tk.map (An φ lv b))) R
 | [],g,_,_=>by
  show Wt φ g=Wt φ g+0
  omega
 | p::R,g,hR,k=>by
  have hp:=hR p (Qi ..)
  have a:=RY ht R _ (λq hq=>hR q (Qg _ hq)) (ic.f9 (lv:=lv) hp.1 hp.2.1 hp.2.2 tk g ht k)
  rw [pD]
  show Wt φ (R.foldl (λg p=>f9 lv tk g p) (f9 lv tk g p))=_
  rw [a,SA hp.1 hp.2.1 hp.2.2 tk g ht k]
  omega
theorem aBS {d:List Int} {h:Int} (h0:0<=h) (h1:h < n):kX (aJ n d) h.toNat=aJ n (d++[h]):=by
 have hl:(aJ n d).length=n.toNat:=by unfold aJ cW; rw [Qa,Qa,Xe]
 have at_:∀ (d:List Int) (j:Nat),(aJ n d)[j]?=if j < n.toNat then some ((d.count (j:Int):Nat):Int) else none:=λd j=>by
  unfold aJ cW
  rw [Jn,Qd]
  by_cases hj:j < n.toNat
  ·rw [Xh hj,if_pos hj]; rfl
  ·rw [if_neg hj,List.getElem?_eq_none (by rw [Xe]; omega)]; rfl
 refine Yf λj=>?_
 rw [at_]
 have e:=mK (l:=aJ n d) (i:=h.toNat) (x:=(aJ n d).getD h.toNat 0+1) (by omega) j
 unfold gq at e
 unfold kX
 rw [e,at_,Zw]
 by_cases hj:j=h.toNat
 ·rw [if_pos hj,if_pos (by omega),Qn,at_,if_pos (by omega),hj,show ((h.toNat:Nat):Int)=h by omega]
  simp
 ·rw [if_neg hj]
  have:List.count (j:Int) [h]=0:=Qao.mpr λz=>hj (by have:=Qr.mp z; omega)
  rw [this]; rfl
noncomputable def gY (ws:List (List Int)):List (List Int):=ws.foldl (λF l=>F.flatMap λd=>l.map λh=>d++[h]) [[]]
theorem kP (ws:List (List Int)) (l:List Int):gY (ws++[l])=(gY ws).flatMap λd=>l.map λh=>d++[h]:=by
 unfold gY; rw [Xn]; rfl
structure yq (n:Int) (ws:List (List Int)) (lv d:List Int):Prop where
 FJ:∀ h:Int,0<=h->h < n->((d.count h:Nat):Int)<=jg lv h+1
 low:∀ (i:Nat) g l,d[i]?=some g->ws[i]?=some l->∀ u∈l,jg lv g<=jg lv u
theorem uG (f:β->Int) (g:α->List β):∀ l:List α,aL ((l.flatMap g).map f)=aL (l.map λa=>aL ((g a).map f))
 | []=>rfl
 | a::l=>by
  rw [List.flatMap_cons,Qo,gH,uG f g l]
  rfl
theorem kQ (f:α->Int) (p:α->Bool):∀ l:List α,aL ((l.filter p).map f)=aL (l.map λa=>if p a then f a else 0)
 | []=>rfl
 | a::l=>by
  rw [Xt]
  show _=(if p a then f a else 0)+aL (l.map λa=>if p a then f a else 0)
  rw [<- kQ f p l]
  cases p a
  ·simp only [Jh,if_false]; omega
  ·rfl
theorem lP:∀ (k:Nat) (ws:List (List Int)),ws.length=k->∀ d∈gY ws,bO ws (bK d)=true:=by
 intro k
 induction k with
 | zero =>
  intro ws hk d hd
  have:ws = []:=Jq.mp hk
  subst this
  have:d = []:=by simpa [gY] using hd
  subst this
  exact gX rfl (λj h l hh=>by simp at hh)
 | succ k ih =>
  intro ws hk d hd
  obtain ⟨us,l,rfl⟩:∃ us l,ws=us++[l]:=⟨ws.dropLast,ws.getLast (by intro z; rw [z] at hk; simp at hk),(Xu _).symm⟩
  rw [kP] at hd
  obtain ⟨e,he,hd⟩:=List.mem_flatMap.mp hd
  obtain ⟨h,hh,rfl⟩:=Qv.mp hd
  obtain ⟨a,b⟩:=aV (ih us (by simpa using hk) e he)
  refine gX (by simp [a]) λj x m hx hm=>?_
  by_cases hj:j < us.length
  ·rw [Qs (by omega)] at hx hm
   exact b j x m hx hm
  ·rw [Ji (by omega)] at hx hm
   have ej:j - us.length=0:=by
    have:=(Qb.mp hm).1
    simp at this; omega
   rw [a,ej] at hx
   rw [ej] at hm
   cases hx; cases hm
   exact hh
open Classical in
theorem aGT (n:Int) (lv:List Int):∀ (k:Nat) (ws:List (List Int)),ws.length=k->(∀ l∈ws,∀ h∈l,0<=h/\h < n)->0<=n->(∀ h,0<=h->h < n->-1<=jg lv h)->∀ φ:List Int->Int,Wt φ (cT n.toNat lv ws)=aL ((gY ws).map λd=>if yq n ws lv d then φ (aJ n d) else 0):=by
 intro k
 induction k with
 | zero =>
  intro ws hk _ hn rk φ
  have:ws = []:=Jq.mp hk
  subst this
  have c:yq n [] lv []:=⟨λh h0 h1=>by
   have:=rk h h0 h1
   simp; omega,λi g l h=>by simp at h⟩
  show 1*φ (List.replicate n.toNat 0)+0=(if yq n [] lv [] then φ (aJ n []) else 0)+0
  rw [if_pos c,Int.one_mul]
  have:aJ n []=List.replicate n.toNat 0:=by
   unfold aJ cW
   rw [Jn]
   refine List.eq_replicate_iff.mpr ⟨by rw [Qa,Xe],λb hb=>?_⟩
   obtain ⟨i,_,rfl⟩:=Qv.mp hb
   rfl
  rw [this]
 | succ k ih =>
  intro ws hk hw hn rk φ
  obtain ⟨us,l,rfl⟩:∃ us l,ws=us++[l]:=⟨ws.dropLast,ws.getLast (by intro z; rw [z] at hk; simp at hk),(Xu _).symm⟩
  have M5:∀ l∈us,∀ h∈l,0<=h/\h < n:=λm hm=>hw m (Jp _ hm)
  have hl:∀ h∈l,0<=h/\h < n:=hw l (Jg _ (Yd _))
  have e:cT n.toNat lv (us++[l])=ie (cT n.toNat lv us) (cZ lv l) lv:=by
   unfold cT; rw [Xn]; rfl
  have ok:=iP n.toNat lv us (λm hm h hh=>by have:=M5 m hm h hh; omega) us.length (Qh _)
  rw [Jj] at ok
  rw [e]
  have f:=RY (φ:=φ) (lv:=lv) (tk:=cZ lv l) (λh hh=>by have:=hl h (Xa.mp hh).1; omega) (cT n.toNat lv us) [] ok.all (ic.nil _ _)
  show Wt φ ((cT n.toNat lv us).foldl (λg p=>f9 lv (cZ lv l) g p) [])=_
  rw [f,ih us (by simpa using hk) M5 hn rk,kP,uG]
  show 0+_=_
  rw [Zz]
  refine cV λd hd=>?_
  unfold cZ
  rw [kQ,Jn]
  have dl:=(aV (lP _ us rfl d hd)).1
  have tr:∀ h∈l,yq n (us++[l]) lv (d++[h])↔(yq n us lv d/\(∀ j∈l,jg lv h<=jg lv j)/\((d.count h:Nat):Int)<=jg lv h):=λh hh=>by
   have hr:=hl h hh
   constructor
   ·intro c
    refine ⟨⟨λx h0 h1=>?_,λi g m hg hm=>c.low i g m ?_ ?_⟩,λj hj=>c.low us.length h l ?_ ?_ j hj,?_⟩
    ·have:=c.FJ x h0 h1
     rw [Zw] at this
     omega
    ·rw [Qs (Qb.mp hg).1]; exact hg
    ·rw [Qs (Qb.mp hm).1]; exact hm
    ·rw [<- dl]; simp
    ·simp
    ·have:=c.FJ h hr.1 hr.2
     rw [Zw,Yy] at this
     omega
   ·rintro ⟨c,b,a⟩
    refine ⟨λx h0 h1=>?_,λi g m hg hm u hu=>?_⟩
    ·rw [Zw]
     by_cases hx:x=h
     ·subst hx
      rw [Yy]; omega
     ·have:List.count x [h]=0:=Qao.mpr (by simpa using hx)
      rw [this]; exact c.FJ x h0 h1
    ·by_cases hi:i < us.length
     ·rw [Qs (by omega)] at hg hm
      exact c.low i g m hg hm u hu
     ·rw [Ji (by omega)] at hg hm
      have ej:i - us.length=0:=by
       have:=(Qb.mp hm).1
       simp at this; omega
      rw [dl,ej] at hg
      rw [ej] at hm
      cases hg; cases hm
      exact b u hu
  by_cases c:yq n us lv d
  ·rw [if_pos c]
   refine cV λh hh=>?_
   have hr:=hl h hh
   show (if decide (∀ j∈l,jg lv h<=jg lv j) then An φ lv (aJ n d) h else 0)=(if yq n (us++[l]) lv (d++[h]) then φ (aJ n (d++[h])) else 0)
   have gd:(aJ n d).getD h.toNat 0=((d.count h:Nat):Int):=by
    unfold aJ cW
    rw [Qn,Jn,Qd,Xh (by omega)]
    show ((d.count ((h.toNat:Nat):Int):Nat):Int)=_
    rw [show ((h.toNat:Nat):Int)=h by omega]
   unfold An
   rw [gd,aBS hr.1 hr.2]
   by_cases b:∀ j∈l,jg lv h<=jg lv j
   ·rw [decide_eq_true b,if_pos rfl]
    by_cases a:((d.count h:Nat):Int)<=jg lv h
    ·rw [if_pos a,if_pos ((tr h hh).mpr ⟨c,b,a⟩)]
    ·rw [if_neg a,if_neg λz=>a ((tr h hh).mp z).2.2]
   ·rw [decide_eq_false b,if_neg Qm,if_neg λz=>b ((tr h hh).mp z).2.1]
  ·rw [if_neg c]
   refine (gO λh hh=>?_).symm
   show (if yq n (us++[l]) lv (d++[h]) then φ (aJ n (d++[h])) else 0)=0
   rw [if_neg λz=>c ((tr h hh).mp z).1]
def Go (n:Int) (ws:List (List Int)) (lv:List Int) (i:Nat) (h:Int):Prop:=∃ d,bO ws (bK d)=true/\d[i]?=some h/\gz n ws d lv
noncomputable def HP (n:Int) (ws:List (List Int)) (lv:List Int) (i:Nat) (h:Int):Bool:=@decide (Go n ws lv i h) (Classical.propDecidable _)
theorem yL {h:Int}:HP n ws lv i h=true↔Go n ws lv i h:=@decide_eq_true_iff _ (Classical.propDecidable _)
noncomputable def DJ (n:Int) (ws:List (List Int)) (lv:List Int) (i:Nat):List Int:=(ws.getD i []).filter (HP n ws lv i)
def yM (K:Rc) (Pt:ae):Sp:=λvs H Q _=>∃ (x:V) (n:Int) (ws:List (List Int)),vs = [x]/\Den K H (bB n ws) x/\bD (bB n ws)=true/\H Pt=some (.tab qF)/\∀ (p:ae) (qs:List ae) (hs lv:List Int) H',aD H H'->bO ws (bK hs)=true->gz n ws hs lv->H' p=some (.lst (qs.map V.ref))->qs.length=ws.length->(∀ (j:Nat) q,qs[j]?=some q->H' q=some (.tup ((DJ n ws lv j).map V.int)))->Q (.ref p) H'
theorem pE:dz ["book", "deal", "told", "work", "able"] ["book"] (aF tI):=.of
set_option maxHeartbeats 2000000 in
theorem aFF (G:Fn K mg "may_go" tI ["book"] f fd) (B:Bl mg) (CJ:Fn K mg "evenest" iU ["book"] fE dE) (D7:c_ P w K mg base fc 11 fE dE ["book"] (kB K Pt)) (GAE:Fn K mg "is_as_even" rS ["book", "deal", "work", "hand"] fA dA) (OAE:c_ P w K mg base fc 11 fA dA ["book", "deal", "work", "hand"] (SD K Pt)):c_ P w K mg base fc 12 f fd ["book"] (yM K Pt):=by
 refine G.fn.oK pE λft A outer s H vs Q E hr h=>?_
 ·obtain ⟨x,n,ws,rfl,hx,hb,hP,k⟩:=h
  have u6:ee 11 _:=hr
  refine ⟨_,(aE (bA (i:=1) pE.nd rfl (Or.inr rfl) (bC (cN (K:=K) rfl) (aX CJ D7 u6 rfl (aA (pv 0) aC)) aK il))
  (aE (bA (i:=2) pE.nd rfl fi (eO aC))
  (aE (eJ az.never rfl (xK .t rfl B.enumerate (aA (bC (cN (K:=K) rfl) (pv 0) aK il) aC)) (dO rfl (aM (aI (i:=3) pE.nd rfl (Or.inr rfl)) (aM (aI (i:=4) pE.nd rfl fi) bV)))
   (aH (dJ (mP Rt Rz Ta gJ (pv 2) (aA (cK bR rfl B.tuple cM (aA (bX (own:=["hand"]) (fr:=[0,1,3]) (fm:=["book", "deal", "work"]) (aY (aF tI) ["book", "deal", "told", "work", "able"] rfl rfl (by decide +kernel)) rfl (eI (pv 4))
    (λ_ _ _ _=>(aI (i:=0) (show (["hand", "book", "deal", "work"]:List ax).Nodup by decide +kernel) rfl fi)) (λ_ _ _ _=>nE (cB (aX GAE OAE u6 rfl (aA (pv 1) (aA (pv 2) (aA (pv 3) (aA (pv 0) aC)))))))
    (λ_ _ _ _=>(pv 0))) aC)) aC)))))
  (aH (aN (pv 2)))))),?_⟩
  obtain ⟨mi,km,iz,ip⟩:=aT hb
  refine ⟨_,rfl,x,n,ws,rfl,hx,hb,hP,λp dp lp hs lv H1 s1 hp A' hd kz L=>?_⟩
  refine ⟨p,_,0,.ref dp,rfl,rfl,d_.of hp,rfl,eG (Jl _),λtl M9=>?_⟩
  obtain ⟨ba,bb,ys,rfl,ha,ia,ij⟩:=cI (s1.den _ _ hx)
  have jt:=aP ij
  rw [Qa] at jt
  have g1:dQ K H1 (.ref ba) (.ref dp) n ws hs:=⟨s1.den _ _ hx,hb,aR.mpr ⟨dp,rfl,d_.of A'⟩,hd⟩
  have LL:=qJ L (cY hb hd) (pC hb)
  have s2:=aD.new (o:=.lst []) M9
  have e2:upd H1 tl (.lst []) tl=some (.lst []):=aB
  generalize upd H1 tl (.lst [])=H2 at s2 e2 ⊢
  dsimp only [jR]
  refine ⟨_,rfl,ba,_,1,.ref bb,rfl,rfl,s2.d0 ha,rfl,bb,_,rfl,s2.d0 ia,zZ (K:=K) (k:=.t) (a:=bb) (xs:=ys) (λi σ H3=>(∃ v3 v4,σ = [some (.ref ba),some (.ref dp),some (.ref tl),v3,v4])/\aD H1 H3/\∃ qs:List ae,H3 tl=some (.lst (qs.map V.ref))/\qs.length=i/\∀ (j:Nat) q,qs[j]?=some q->H3 q=some (.tup ((DJ n ws lv j).map V.int))) ⟨⟨_,_,rfl⟩,s2,[],e2,rfl,λj q h=>by simp at h⟩ (λi σ H3 _ h=>h.2.1.d0 ia) ?_ ?_⟩
  ·rintro i y q σ H3 hy ⟨⟨v3,v4,rfl⟩,s3,qs,e3,M3,ky⟩ hq
   have hi:i < ys.length:=(Qb.mp hy).1
   obtain ⟨dv,gk,i4⟩:=cD ij hy
   rw [Qd] at gk
   obtain ⟨l,hl,rfl⟩:∃ l,ws[i]?=some l/\bY l=dv:=by
    cases q:ws[i]? with
    | none=>rw [q] at gk; cases gk
    | some l=>rw [q] at gk; exact ⟨l,rfl,Option.some.inj gk⟩
   obtain ⟨pw,rfl,x9⟩:=aR.mp i4
   have s4:=aD.new (o:=.tup [.int (i:Nat),.ref pw]) hq
   have t4:upd H3 q (.tup [.int (i:Nat),.ref pw]) q=some (.tup [.int (i:Nat),.ref pw]):=aB
   have e4:=s4 _ _ e3
   have sx:=s3.trans s4
   generalize upd H3 q (.tup [.int (i:Nat),.ref pw])=H4 at s4 t4 e4 sx ⊢
   refine ⟨q,_,rfl,d_.of t4,rfl,_,_,rfl,_,_,rfl,rfl,?_⟩
   have X7:=s1 _ _ hP
   have l12:l.length<=12:=by
    have w:=aZ (ip l (Qe hl))
    have z:=mB (l:=l) (m:=(List.range n.toNat).map Int.ofNat) (w.2.2.imp λ{a b} h=>by omega) λh hh=>Qv.mpr ⟨h.toNat,Jm.mpr (by have:=w.2.1 h hh; omega),by have:=w.2.1 h hh; show ((h.toNat:Nat):Int)=h; omega⟩
    rw [Qa,Xe] at z
    omega
   dsimp only [jR]
   refine ⟨_,rfl,.inl ⟨rfl,_,fh.of e4⟩,_,rfl,pw,rfl,⟨_,sx.d0 x9⟩,hV (K:=K) (a:=pw) (xs:=l.map V.int) (λσ=>∃ v,σ = [v,some (.ref ba),some (.ref dp),some (.int (i:Nat))]) (λj zs H5=>aD H4 H5/\zs=((l.take j).filter (HP n ws lv i)).map V.int) (by rw [Qa]; exact eG (by omega)) ⟨none,rfl⟩ ⟨aD.refl _,rfl⟩ (λj _ _ h=>by rw [h.2,Qa]; exact Jd (Xd ..) (List.length_take_le ..)) (λ_ _ _ h=>(sx.trans h.1).d0 x9) ?_ ?_⟩
   ·rintro j zs σ xv H5 jw ⟨v,rfl⟩ ⟨s5,wz⟩ hz
    rw [Qd] at jw
    cases t_:l[j]? with
    | none=>rw [t_] at jw; cases jw
    | some h =>
     rw [t_] at jw
     obtain rfl:V.int h=xv:=Option.some.inj jw
     have MI:=sx.trans s5
     refine ⟨_,rfl,_,rfl,_,rfl,_,rfl,.ref ba,.ref dp,n,ws,hs,i,l,lv,h,rfl,g1.same MI,MI _ _ X7,hl,Qe t_,LL,λb H6 s6 Dy=>⟨_,rfl,?_⟩⟩
     have Dy:b=true↔Go n ws lv i h:=Dy
     have et:l.take (j+1)=l.take j++[h]:=by rw [Je,t_]; rfl
     cases b with
     | true=>exact gA ⟨_,rfl,hz,⟨_,rfl⟩,s5.trans s6,by rw [wz,et,Xb,Xt,if_pos (yL.mpr (Dy.mp rfl)),Qo]; rfl⟩
     | false=>exact fZ ⟨⟨_,rfl⟩,s5.trans s6,by rw [wz,et,Xb,Xt,if_neg (λz=>Qm (Dy.mpr (yL.mp z)))]; simp⟩
   ·rintro zs H5 ⟨s5,wz⟩ z hz
    refine ⟨z,_,rfl,.inl ⟨fh.of aB,λtp V8=>?_⟩⟩
    have s6:=s5.trans ((aD.new (o:=.lst zs) hz).trans (aD.new (o:=.tup zs) V8))
    have e6:=s6 _ _ e4
    have tt:upd (upd H5 z (.lst zs)) tp (.tup zs) tp=some (.tup zs):=aB
    refine ⟨tl,qs.map V.ref,.ref tp,rfl,rfl,e6,by rw [Rf,Qa]; omega,⟨_,_,rfl⟩,λb u h=>?_,qs++[tp],by rw [Qo]; exact aB,by rw [Qj,M3]; rfl,λjj q hq=>?_⟩
    ·rw [aG (λz=>by rw [z,M9] at h; cases h)]
     exact (sx.trans s6) _ _ h
    ·have ne:∀ a u,upd (upd H5 z (.lst zs)) tp (.tup zs) a=some (.tup u)->a≠tl:=λa u ha za=>by rw [za,e6] at ha; cases ha
     by_cases hj:jj < qs.length
     ·rw [Qs hj] at hq
      have:=s6 _ _ (s4 _ _ (ky jj q hq))
      rw [aG (ne _ _ this)]
      exact this
     ·rw [Ji (by omega)] at hq
      have e0:jj - qs.length=0:=by have:=(Qb.mp hq).1; simp at this; omega
      rw [e0] at hq
      cases hq
      have ej:jj=i:=by omega
      rw [aG (ne _ _ tt),tt,wz,Qa,Jj,ej]
      unfold DJ
      rw [Qn,hl]
      rfl
  ·rintro σ H3 ⟨⟨v3,v4,rfl⟩,s3,qs,e3,M3,ky⟩
   exact ⟨_,rfl,k tl qs hs lv H3 (s1.trans s3) hd LL e3 (by omega) ky⟩
theorem aDN (φ:List Int->Int) (f:List Int->Bool) (m:List (List Int×Int)):Wt φ (m.filter λp=>f p.1)=Wt (λb=>if f b then φ b else 0) m:=by
 unfold Wt
 rw [kQ]
 refine cV λp _=>?_
 by_cases c:f p.1=true
 ·rw [if_pos c]; show _=_*(if f p.1 then _ else _); rw [if_pos c]
 ·rw [if_neg c]; show _=_*(if f p.1 then _ else _); rw [if_neg c,Int.mul_zero]
theorem RX {d:List Int} (hl:lv.length=n.toNat):(((aJ n d).zip lv).all λq=>decide (q.2<=q.1))=true↔∀ h:Int,0<=h->h < n->jg lv h<=((d.count h:Nat):Int):=by
 have at_:∀ j:Nat,j < n.toNat->(aJ n d)[j]?=some ((d.count (j:Int):Nat):Int):=λj hj=>by
  unfold aJ cW
  rw [Jn,Qd,Xh hj]; rfl
 have MZ:∀ j:Nat,j < n.toNat->lv[j]?=some (jg lv (j:Int)):=λj hj=>by
  unfold jg
  rw [Qn,Jc,Qc (by omega)]; rfl
 rw [Qy]
 constructor
 ·intro a h h0 h1
  have z:(((d.count h:Nat):Int),jg lv h)∈(aJ n d).zip lv:=Qu.mpr ⟨h.toNat,Qz.mpr (by
   have e:((h.toNat:Nat):Int)=h:=by omega
   have a:=at_ h.toNat (by omega)
   have b:=MZ h.toNat (by omega)
   rw [e] at a b
   exact ⟨a,b⟩)⟩
  exact of_decide_eq_true (a _ z)
 ·intro a q hq
  obtain ⟨j,hj⟩:=Qu.mp hq
  obtain ⟨e1,e2⟩:=Qz.mp hj
  have ff:j < n.toNat:=by have:=(Qb.mp e2).1; omega
  rw [at_ j ff] at e1
  rw [MZ j ff] at e2
  rw [<- Option.some.inj e1,<- Option.some.inj e2]
  exact decide_eq_true (a j (by omega) (by omega))
section
open Classical
theorem RW (hb:bD (bB n ws)=true) (hl:lv.length=n.toNat) (L:gz n ws hs lv) (φ:List Int->Int):Wt φ (eQ n.toNat lv ws)=aL ((gY ws).map λd=>if gz n ws d lv then φ (aJ n d) else 0):=by
 have hn:=(aT hb).1
 unfold eQ
 rw [aDN φ (λb=>(b.zip lv).all λq=>decide (q.2<=q.1)),aGT n lv _ ws rfl (pC hb) (by omega) (λh h0 h1=>by have:=(L.box h h0 h1).2; omega)]
 refine cV λd _=>?_
 by_cases c:gz n ws d lv
 ·rw [if_pos c,if_pos ⟨λh h0 h1=>(c.box h h0 h1).2,c.low⟩,if_pos ((RX hl).mpr λh h0 h1=>(c.box h h0 h1).1)]
 ·rw [if_neg c]
  by_cases e:yq n ws lv d
  ·rw [if_pos e,if_neg λz=>c ⟨λh h0 h1=>⟨(RX hl).mp z h h0 h1,e.FJ h h0 h1⟩,e.low⟩]
  ·rw [if_neg e]
theorem RV (hb:bD (bB n ws)=true) (hl:lv.length=n.toNat) (L:gz n ws hs lv):SM (eQ n.toNat lv ws)=(((gY ws).filter λd=>decide (gz n ws d lv)).length:Int):=by
 have e:=RW hb hl L λ_=>1
 have a:∀ m,Wt (λ_=>1) m=SM m:=λm=>by unfold Wt SM; exact cV λp _=>Int.mul_one _
 rw [<- a,e]
 have:∀ l:List (List Int),aL (l.map λd=>if gz n ws d lv then (1:Int) else 0)=((l.filter λd=>decide (gz n ws d lv)).length:Int):=λl=>by
  induction l with
  | nil=>rfl
  | cons d l ih =>
   show (if gz n ws d lv then (1:Int) else 0)+aL (l.map λd=>if gz n ws d lv then (1:Int) else 0)=_
   rw [ih,Xt]
   by_cases c:gz n ws d lv
   ·rw [if_pos c,if_pos (decide_eq_true c),Ja]; omega
   ·rw [if_neg c,if_neg (λz=>c (of_decide_eq_true z))]; omega
 exact this _
theorem qN {f:α->Int}:∀ {l:List α},(∀ x∈l,0<=f x)->(0 < aL (l.map f)↔∃ x∈l,0 < f x)
 | [],_=>⟨λh=>absurd (show (0:Int) < 0 from h) (by decide),λ⟨x,h,_⟩=>by cases h⟩
 | a::l,h=>by
  have ih:=qN (l:=l) λx hx=>h x (Qg _ hx)
  have h0:=h a (Qi ..)
  have h1:0<=aL (l.map f):=by
   have:=lM (f:=λ_=>0) (g:=f) (l:=l) λx hx=>h x (Qg _ hx)
   have e:aL (l.map λ_=>(0:Int))=0:=gO λ_ _=>rfl
   omega
  show 0 < f a+aL (l.map f)↔_
  constructor
  ·intro p
   by_cases q:0 < f a
   ·exact ⟨a,Qi ..,q⟩
   ·obtain ⟨x,hx,hp⟩:=ih.mp (by omega)
    exact ⟨x,Qg _ hx,hp⟩
  ·rintro ⟨x,hx,hp⟩
   rcases Ql.mp hx with rfl | hx
   ·omega
   ·have:=ih.mpr ⟨x,hx,hp⟩
    omega
theorem Sz (hb:bD (bB n ws)=true) (hl:lv.length=n.toNat) (L:gz n ws hs lv) (k:List Int):(∃ p∈eQ n.toNat lv ws,p.1=k)↔∃ d∈gY ws,gz n ws d lv/\aJ n d=k:=by
 have e:=RW hb hl L λb=>if b=k then 1 else 0
 have pos:=(uF lv hb).1.pos
 have a:0 < Wt (λb=>if b=k then 1 else 0) (eQ n.toNat lv ws)↔∃ p∈eQ n.toNat lv ws,p.1=k:=by
  show 0 < aL ((eQ n.toNat lv ws).map λp=>p.2*if p.1=k then 1 else 0)↔_
  rw [qN (λp hp=>by have:=pos p hp; by_cases c:p.1=k <;> simp [c] <;> omega)]
  refine ⟨λ⟨p,hp,h⟩=>⟨p,hp,?_⟩,λ⟨p,hp,h⟩=>⟨p,hp,?_⟩⟩
  ·by_cases c:p.1=k
   ·exact c
   ·rw [if_neg c] at h; simp at h
  ·rw [if_pos h]; have:=pos p hp; omega
 rw [<- a,e,qN (λd _=>by split <;> (try split) <;> decide)]
 refine ⟨λ⟨d,hd,h⟩=>⟨d,hd,?_⟩,λ⟨d,hd,h1,h2⟩=>⟨d,hd,?_⟩⟩
 ·by_cases c:gz n ws d lv
  ·rw [if_pos c] at h
   by_cases f:aJ n d=k
   ·exact ⟨c,f⟩
   ·rw [if_neg f] at h; simp at h
  ·rw [if_neg c] at h; simp at h
 ·rw [if_pos h1,if_pos h2]; decide
end
theorem aAU:∀ (k:Nat) (ws:List (List Int)),ws.length=k->∀ d,bO ws (bK d)=true->d∈gY ws:=by
 intro k
 induction k with
 | zero =>
  intro ws hk d hd
  have:ws = []:=Jq.mp hk
  subst this
  have:d = []:=Jq.mp (aV hd).1
  subst this
  exact Yd _
 | succ k ih =>
  intro ws hk d hd
  obtain ⟨us,l,rfl⟩:∃ us l,ws=us++[l]:=⟨ws.dropLast,ws.getLast (by intro z; rw [z] at hk; simp at hk),(Xu _).symm⟩
  obtain ⟨a,b⟩:=aV hd
  rw [Qj] at a
  obtain ⟨e,h,rfl⟩:∃ e h,d=e++[h]:=⟨d.dropLast,d.getLast (by intro z; rw [z] at a; simp at a),(Xu _).symm⟩
  rw [Qj] at a
  have a':e.length=us.length:=by simpa using a
  rw [kP]
  refine List.mem_flatMap.mpr ⟨e,ih us (by simpa using hk) e (gX a' λj x m hx hm=>b j x m (by rw [Qs (Qb.mp hx).1]; exact hx) (by rw [Qs (Qb.mp hm).1]; exact hm)),Qv.mpr ⟨h,?_,rfl⟩⟩
  exact b us.length h l (by rw [<- a']; simp) (by simp)
def Hv (n:Int) (ws:List (List Int)) (lv:List Int) (j:Nat) (x:Int):Prop:=∃ d,bO ws (bK d)=true/\gz n ws d lv/\((d.count (j:Int):Nat):Int)=x
def vm (r:List Int) (p:Int->Prop):Prop:=r.Pairwise (· < ·)/\∀ x,x∈r↔p x
theorem vm.uniq {a b:List Int} {p:Int->Prop} (h1:vm a p) (h2:vm b p):a=b:=by
 have nd:∀ {l:List Int},l.Pairwise (· < ·)->l.Nodup:=λh=>h.imp λh e=>by omega
 refine List.Perm.eq_of_pairwise (le:=(· < ·)) (λx y _ _ h1 h2=>by omega) h1.1 h2.1 ?_
 exact (List.perm_ext_iff_of_nodup (nd h1.1) (nd h2.1)).mpr λx=>(h1.2 x).trans (h2.2 x).symm
theorem RU (hb:bD (bB n ws)=true) (hi:i < ws.length):vm (DJ n ws lv i) (Go n ws lv i):=by
 have e:=Qc hi
 unfold DJ
 rw [Qn,e]
 show vm (ws[i].filter _) _
 refine ⟨List.Pairwise.filter _ (aZ ((aT hb).2.2.2 _ (Jr hi))).2.2,λx=>?_⟩
 rw [Xa,yL]
 refine ⟨λh=>h.2,λh=>⟨?_,h⟩⟩
 obtain ⟨d,hd,hx,_⟩:=h
 exact (aV hd).2 i x _ hx e
end Ab
namespace L2
open PySem
theorem vH (hw:X.w=w) (hc:X.calm=true):eV X (.builtin "sorted") (λxs H Q=>∃ (p:ae) (ns:List Int),xs = [.ref p]/\H p=some (Br w p ns)/\ns.length<=12/\∀ q out,sX out ns->H q=none->Q (.ref q) (upd H q (.lst (out.map V.int)))):=by subst hw; exact xT hc
theorem aBT (hw:X.w=w) (S:fv X scope z own fr fm) (hc:X.calm=true) (hi:PE X d td) (hg:∀ C s0 H0 fp,PG (bH X scope z (own++fm) C s0 H0 fp) tg g) (ht:∀ C s0 H0 fp,PF (bH X scope z (own++fm) C s0 H0 fp) ifs tt) (he:∀ C s0 H0 fp,PE (bH X scope z (own++fm) C s0 H0 fp) elt te) (hs:autoParam (∀ x,foldedSetIterable d X.env x=pure x) L2.u4):PE X (.SetComp elt [⟨tg,d,ifs,0⟩] scope pos) (RB w own.length fr td g tt te):=by subst hw; exact aDz S hc hi hg ht he hs
end L2
namespace Ab
open PySem L2
theorem QE (hb:bD (bB n ws)=true) (hl:lv.length=n.toNat) (L:gz n ws hs lv) {p:List Int×Int} (hp:p∈eQ n.toNat lv ws) (hj:j < n.toNat):p.1[j]?=some (p.1.getD j 0)/\p.1.getD j 0∈[lv.getD j 0,lv.getD j 0+1]/\Hv n ws lv j (p.1.getD j 0):=by
 obtain ⟨d,hd,Ld,e⟩:=(Sz hb hl L p.1).mp ⟨p,hp,rfl⟩
 have c:p.1[j]?=some ((d.count (j:Int):Nat):Int):=by
  rw [<- e]
  unfold aJ cW
  rw [Jn,Qd,Xh hj]; rfl
 have g:p.1.getD j 0=((d.count (j:Int):Nat):Int):=by rw [Qn,c]; rfl
 have b:=Ld.box j (by omega) (by omega)
 unfold jg at b
 rw [Jc] at b
 rw [g]
 refine ⟨c,?_,d,lP _ ws rfl d hd,Ld,rfl⟩
 rw [Ql,Qr]
 omega
theorem aFH (hb:bD (bB n ws)=true) (hl:lv.length=n.toNat) (L:gz n ws hs lv) (hj:j < n.toNat) (x:Int):x∈(eQ n.toNat lv ws).map (λp=>p.1.getD j 0)↔Hv n ws lv j x:=by
 rw [Qv]
 refine ⟨λ⟨p,hp,e⟩=>e ▸ (QE hb hl L hp hj).2.2,λ⟨d,hd,Ld,e⟩=>?_⟩
 obtain ⟨p,hp,ep⟩:=(Sz hb hl L _).mpr ⟨d,aAU _ ws rfl d hd,Ld,rfl⟩
 refine ⟨p,hp,?_⟩
 rw [ep,Qn]
 unfold aJ cW
 rw [Jn,Qd,Xh hj]
 exact e
noncomputable def t?:c7:=match (dY iB).getD 1 (.Pass ⟨0,0,0,0⟩) with
 | .Return (some (.ListComp _ _ sc _)) _=>sc
 | _=>aF iB
def qO (K:Rc) (Pt:ae):Sp:=λvs H Q _=>∃ (x:V) (n:Int) (ws:List (List Int)),vs = [x]/\Den K H (bB n ws) x/\bD (bB n ws)=true/\H Pt=some (.tab qF)/\∀ (p:ae) (qs:List ae) (hs lv:List Int) H',aD H H'->bO ws (bK hs)=true->gz n ws hs lv->H' p=some (.lst (qs.map V.ref))->qs.length=n.toNat->(∀ (j:Nat) q,qs[j]?=some q->∃ r,H' q=some (.tup (r.map V.int))/\vm r (Hv n ws lv j))->Q (.ref p) H'
theorem wL:dz ["book", "rows"] ["book"] (aF iB):=.of
set_option maxHeartbeats 2000000 in
theorem aBU (G:Fn K mg "may_have" iB ["book"] f fd) (B:Bl mg) (Kq:Fn K mg "even_loads" iV ["book"] fE dE) (CF:c_ P w K mg base fc 12 fE dE ["book"] (sB K Pt)):c_ P w K mg base fc 13 f fd ["book"] (qO K Pt):=by
 refine G.fn.oK wL λft A outer s H vs Q E hr h=>?_
 ·obtain ⟨x,n,ws,rfl,hx,i6,hP,k⟩:=h
  have zx:ee 12 _:=hr
  refine ⟨_,(aE (bA (i:=1) wL.nd rfl (Or.inr rfl) (aX Kq CF zx rfl (aA (pv 0) aC)))
   (aH (aN (bX (z:=some "hand") (own:=["hand"]) (fr:=[1]) (fm:=["rows"]) (aBj (aF iB) ["book", "rows"] rfl rfl (λ_ _=>rfl) (λ_=>rfl) (by decide +kernel)) rfl (fU rfl B.range (aA (bC (cN (K:=K) rfl) (pv 0) aK il) aC))
    (λ_ _ _ _=>aI (i:=0) (show (["hand", "rows"]:List ax).Nodup by decide +kernel) rfl (Or.inr rfl)) (λ_ _ _ _=>cP)
    (λ_ _ _ _=>cK (O? (K:=K) rfl) rfl B.tuple cM (aA (aO (vH (w:=w) rfl rfl) rfl B.sorted aFf (aA (aBT (w:=w) rfl (own:=["many"]) (fr:=[0]) (fm:=["hand"]) (aY (Pg t? (aF iB)) ["hand", "rows"] rfl rfl (by decide +kernel)) rfl (pv 1)
     (λ_ _ _ _=>aI (i:=0) (show (["many", "hand"]:List ax).Nodup by decide +kernel) rfl fi) (λ_ _ _ _=>cP) (λ_ _ _ _=>bC (cN (K:=K) rfl) (pv 0) (pv 1) lj)) aC)) aC)))))),?_⟩
  obtain ⟨mi,km,iz,ip⟩:=aT i6
  refine ⟨_,rfl,x,n,ws,rfl,hx,i6,hP,λrp hs lv H1 s1 hd L e1=>?_⟩
  obtain ⟨ba,bb,ys,rfl,ha,ia,ij⟩:=cI (s1.den _ _ hx)
  have LL:=qJ L (cY i6 hd) (pC i6)
  have hM:=λp hp (j:Nat) hj=>QE (p:=p) (j:=j) i6 L.1 LL hp hj
  have hI:=λj hj=>aFH (j:=j) i6 L.1 LL hj
  have ek:∀ (i:Nat) p,(enc (eQ n.toNat lv ws))[i]?=some p->∃ q,(eQ n.toNat lv ws)[i]?=some q/\p=(q.1.map Sum.inl,.int q.2):=λi p h=>by
   unfold enc at h
   rw [Qd] at h
   cases q:(eQ n.toNat lv ws)[i]? with
   | none=>rw [q] at h; cases h
   | some u=>rw [q] at h; exact ⟨u,rfl,(Option.some.inj h).symm⟩
  have el:(enc (eQ n.toNat lv ws)).length=(eQ n.toNat lv ws).length:=by unfold enc; rw [Qa]
  generalize enc (eQ n.toNat lv ws)=kvs at e1 ek el
  generalize eQ n.toNat lv ws=M at ek el hM hI
  dsimp only [jR]
  have kl:∀ {H'},aD H1 H'->H' rp=some (.dT kvs):=λs=>s _ _ e1
  refine ⟨_,rfl,ba,_,0,.int n,rfl,rfl,ha,rfl,n,rfl,by omega,by omega,gK (lo:=0) (n:=n.toNat) (λσ=>∃ v,σ = [v,some (.ref rp)]) (λi zs H2=>aD H1 H2/\∃ qs:List ae,zs=qs.map V.ref/\qs.length=i/\∀ (j:Nat) q,qs[j]?=some q->∃ r,H2 q=some (.tup (r.map V.int))/\vm r (Hv n ws lv j)) (eG (by omega)) ⟨none,rfl⟩ ⟨aD.refl _,[],rfl,rfl,λj q h=>by simp at h⟩ (λi zs _ h=>by obtain ⟨_,qs,rfl,h,_⟩:=h; rw [Qa]; omega) ?_ ?_⟩
  ·rintro j zs σ H2 hj ⟨v,rfl⟩ ⟨s2,qs,rfl,t7,ky⟩ hz
   refine cQ ?_
   refine ⟨[lv.getD j 0,lv.getD j 0+1],by show 2<=3; decide,_,rfl,rp,kvs,rfl,kl s2,λo=>?_⟩
   refine aAt (λσ=>∃ v,σ = [v,some (.int (0+(j:Int)))]) (λi ys H3=>ys=(M.take i).map (λp=>p.1.getD j 0)/\H3 rp=some (.gh o (.dT kvs))/\∀ b u,b≠rp->H2 b=some u->H3 b=some u) ⟨none,rfl⟩ ⟨rfl,aB,λb u n e=>by rw [aG n]; exact e⟩ (λ_ _ _ h=>h.2.1) ?_ ?_
   ·rintro i ys σ p b H3 hp hb ⟨v,rfl⟩ h3
    obtain ⟨q,hq,rfl⟩:=ek i p hp
    obtain ⟨hx,GV,_⟩:=hM q (Qe hq) _ hj
    have ju:H3 b=some (.tup (q.1.map V.int)):=by rw [<- qK]; exact hb
    refine cQ ?_
    refine ⟨_,rfl,_,rfl,b,_,(0+(j:Int)),.int (q.1.getD j 0),rfl,rfl,d_.of ju,by rw [Zz]; exact bZ (by rw [Qd,hx]; rfl),?_⟩
    exact ⟨_,rfl,GV,⟨_,rfl⟩,by rw [h3.1,Je,hq,Qo]; rfl,h3.2⟩
   ·rintro ys H3 ⟨V1,h3,k3⟩ p us hp nd hu hl
    have VC:p≠rp:=λz=>by rw [z,h3] at hp; cases hp
    refine ⟨p,us,rfl,by rw [aG VC]; exact aB,by omega,λq out M_ hq=>?_⟩
    refine ⟨q,_,rfl,.inl ⟨fh.of aB,λl ua=>?_⟩⟩
    have s4:aD H1 (upd (upd H3 p (Br w p us)) rp (.dT kvs)):=λb u e=>by
     by_cases hb:b=rp
     ·subst hb
      rw [aB,<- e1,e]
     ·rw [aG hb,aG (λz=>by
       have:=k3 b u hb (s2 _ _ e)
       rw [z,hp] at this; cases this)]
      exact k3 b u hb (s2 _ _ e)
    have s5:=s4.trans ((aD.new hq).trans (aD.new (o:=.tup (out.map V.int)) ua))
    have B6:∀ b u,b≠rp->H2 b=some u->upd (upd (upd (upd H3 p (Br w p us)) rp (.dT kvs)) q (.lst (out.map V.int))) l (.tup (out.map V.int)) b=some u:=λb u nb e=>by
     refine ((aD.new hq).trans (aD.new ua)) _ _ ?_
     rw [aG nb,aG (λz=>by
       have:=k3 b u nb e
       rw [z,hp] at this; cases this)]
     exact k3 b u nb e
    refine ⟨hz,⟨_,rfl⟩,s5,qs++[l],by rw [Qo]; rfl,by rw [Qj,t7]; rfl,λjj q' w_=>?_⟩
    by_cases W9:jj < qs.length
    ·rw [Qs W9] at w_
     obtain ⟨r,De,iq⟩:=ky jj q' w_
     exact ⟨r,B6 q' _ (λz=>by rw [z,kl s2] at De; cases De) De,iq⟩
    ·rw [Ji (by omega)] at w_
     have e0:jj - qs.length=0:=by have:=(Qb.mp w_).1; simp at this; omega
     rw [e0] at w_
     cases w_
     have ej:jj=j:=by omega
     subst ej
     refine ⟨out,aB,M_.1,λx=>?_⟩
     rw [M_.2,hu,V1,el,Jj,hI jj hj]
  ·rintro zs H2 ⟨s2,qs,rfl,hl,ky⟩ p hp
   refine k p qs hs lv _ (s1.trans (s2.trans (aD.new hp))) hd LL aB hl λj q hq=>?_
   obtain ⟨r,h1,h2⟩:=ky j q hq
   exact ⟨r,aD.new hp _ _ h1,h2⟩
def Sy (K:Rc):Sp:=λvs H Q _=>∃ (p q:ae) (la ls:List Int),vs = [.ref p,.ref q]/\d_ K H p (la.map V.int)/\d_ K H q (ls.map V.int)/\la.length<=1000/\∀ H',aD H H'->Q (.bl (la.all λh=>ls.any (·==h))) H'
theorem aFI:dz ["able", "some"] ["able", "some"] (aF oI):=.of
theorem aDO (G:Fn K mg "is_within" oI ["able", "some"] f fd) (B:Bl mg):c_ P w K mg base fc 1 f fd ["able", "some"] (Sy K):=by
 refine G.fn.oK aFI λft A outer s H vs Q E hr h=>?_
 ·obtain ⟨p,q,la,ls,rfl,hp,hq,hl,k⟩:=h
  refine ⟨_,(aH (aN (aO (eW rfl) rfl B.all mV (aA (bX (own:=["hand"]) (fr:=[1]) (fm:=["some"]) (aY (aF oI) ["able", "some"] rfl rfl (by decide +kernel)) rfl (eI (pv 0))
    (λ_ _ _ _=>(aI (i:=0) (show (["hand", "some"]:List ax).Nodup by decide +kernel) rfl fi)) (λ_ _ _ _=>cP)
    (λ_ _ _ _=>(dX (tK (K:=K) rfl) (pv 0) (pv 1) (by with_unfolding_all rfl)))) aC)))),?_⟩
  refine ⟨_,rfl,p,rfl,⟨_,hp⟩,lF (K:=K) (a:=p) (xs:=la.map V.int) (vs:=(la.map λh=>ls.any (·==h)).map V.bl) (λσ=>∃ v,σ = [v,some (.ref q)]) (by rw [Qa]; exact hl) (by rw [Qa,Qa,Qa]) hp ⟨none,rfl⟩ ?_ ?_⟩
  ·rintro i xv v σ H1 hx hv ⟨v0,rfl⟩ s1 Q' j_
   obtain ⟨h,hh,rfl⟩:=qH hx
   have ev:v=V.bl (ls.any (·==h)):=by
    rw [Qd,Qd,hh] at hv
    exact (Option.some.inj hv).symm
   refine ⟨_,rfl,_,rfl,q,_,rfl,.inr (s1.d0 hq),rfl,mC _,?_⟩
   rw [mF]
   rw [ev] at j_
   exact j_ _ _ ⟨_,rfl⟩ (aD.refl _)
  ·rintro H1 s1 z hz
   refine ⟨z,_,rfl,fh.of aB,?_⟩
   rw [Zb]
   exact k _ (s1.trans (aD.new hz))
def jJ (n:Int) (rs:List Int):Prop:=rs.length=n.toNat/\∀ r∈rs,0<=r/\r<=12
def RT (K:Rc):Sp:=λvs H Q _=>∃ (x:V) (q:ae) (n:Int) (ws:List (List Int)) (rs:List Int),vs = [x,.ref q]/\Den K H (bB n ws) x/\bD (bB n ws)=true/\d_ K H q (rs.map V.int)/\jJ n rs/\∀ H',aD H H'->Q (.bl true) H'
theorem aGU:dz ["book", "thing"] ["book", "thing"] (aF pX):=.of
theorem aFJ (G:Fn K mg "are_rooms" pX ["book", "thing"] f fd) (B:Bl mg) (R:Pr K mg fW fH fK fB jn fD jy fL dW dH dK dB jo dD jz dL):c_ P w K mg base fc 5 f fd ["book", "thing"] (RT K):=by
 have D6:c_ P w K mg base fc 4 jn jo ["book"] (oR K):=oS B R
 have OW:c_ P w K mg base fc 1 fW dW ["thing"] (iL K):=iC R.W B
 refine G.fn.oK aGU λft A outer s H vs Q E hr h=>?_
 ·obtain ⟨x,q,n,ws,rs,rfl,hx,hb,hq,⟨hlen,K7⟩,k⟩:=h
  obtain ⟨CQ,FE⟩:=B.mr
  have r4:ee 4 _:=hr
  have r1:ee 1 _:=hr.mono (by decide)
  refine ⟨_,(aE (dJ (aX R.NB D6 r4 rfl (aA (pv 0) aC)))
  (aE (bU (PW.pt (fT (cF (cB (aO cG rfl B.isinstance jH (aA (pv 1) (aA (eZ (v:=.ty "tuple") rfl B.tuple cM rfl) aC))))) (eN (aU kS (aO bE rfl B.len gE (aA (pv 1) aC)) (bC bQ (pv 0) aK il) gm))))
   (aH (aN bP))
   aW)
  (aH (aN (aO (eW rfl) rfl B.all mV (aA (bX (own:=["room"]) (fr:=[]) (fm:=[]) (aY (aF pX) ["book", "thing"] rfl rfl (by decide +kernel)) rfl (eI (pv 1))
    (λ_ _ _ _=>(aI (i:=0) (show (["room"]:List ax).Nodup by decide +kernel) rfl fi)) (λ_ _ _ _=>cP)
    (λ_ _ _ _=>(kY (aX R.W OW r1 rfl (aA (pv 0) aC)) (nC (zD nW nW aK (pv 0) (nT (v:=.int 12) rfl FE ⟨CQ,rfl⟩)))))) aC)))))),?_⟩
  obtain ⟨mi,km,iz,ip⟩:=aT hb
  refine ⟨_,rfl,x,_,rfl,hx,hb,λH1 s1=>?_⟩
  obtain ⟨a,b,ys,rfl,ha,ia,ij⟩:=cI (s1.den _ _ hx)
  have mh:=s1.d0 hq
  refine ⟨_,rfl,.ref q,.tup,rfl,.inr (.inl ⟨rfl,_,mh⟩),_,rfl,?_⟩
  refine fZ ?_
  refine ⟨_,rfl,q,_,rfl,.inr mh,_,rfl,a,_,0,.int n,rfl,rfl,ha,rfl,rfl,_,rfl,?_⟩
  have el:decide (V.int ((rs.map V.int).length:Nat)=V.int n)=true:=decide_eq_true (by rw [Qa,hlen]; congr 1; omega)
  rw [el]
  refine fZ ?_
  refine ⟨_,rfl,q,rfl,⟨_,mh⟩,lF (K:=K) (a:=q) (xs:=rs.map V.int) (vs:=(List.replicate rs.length true).map V.bl) (λσ=>∃ v,σ = [v]) (by rw [Qa]; omega) (by rw [Qa,Jw,Qa]) mh ⟨none,rfl⟩ ?_ ?_⟩
  ·rintro i xv v σ H2 jw hv ⟨v0,rfl⟩ s2 Q' j_
   obtain ⟨r,xy,rfl⟩:=qH jw
   obtain ⟨r0,zx⟩:=K7 r (Qe xy)
   have ev:v=.bl true:=by
    obtain ⟨b,hb,rfl⟩:∃ b,b∈List.replicate rs.length true/\V.bl b=v:=Qv.mp (Qe hv)
    rw [Zg hb]
   subst ev
   refine ⟨_,rfl,_,.int r,rfl,dM.mpr rfl,_,rfl,?_⟩
   refine gA ?_
   refine ⟨_,rfl,_,_,rfl,rfl,_,rfl,?_⟩
   rw [decide_eq_true r0]
   refine gA ?_
   refine ⟨_,_,rfl,rfl,?_⟩
   have Cu:decide (r<=12)=true:=decide_eq_true zx
   dsimp only
   rw [Cu]
   exact j_ _ _ ⟨_,rfl⟩ (aD.refl _)
  ·rintro H2 s2 z hz
   refine ⟨z,_,rfl,fh.of aB,?_⟩
   rw [show (List.replicate rs.length true).all id=true by simp]
   exact k _ ((s1.trans s2).trans (aD.new hz))
def pF (K:Rc):Sp:=λvs H Q _=>∃ (x:V) (q:ae) (n:Int) (ws:List (List Int)) (rs:List Int),vs = [x,.ref q]/\Den K H (bB n ws) x/\bD (bB n ws)=true/\d_ K H q (rs.map V.int)/\jJ n rs/\∀ H',aD H H'->Q .f_ H'
theorem aGV:dz ["book", "rooms"] ["book", "rooms"] (aF pY):=.of
theorem Sx (G:Fn K mg "need_rooms" pY ["book", "rooms"] f fd) (B:Bl mg) (R:Pr K mg fW fH fK fB jn fD jy fL dW dH dK dB jo dD jz dL) (F5:Fn K mg "are_rooms" pX ["book", "thing"] fA dA):c_ P w K mg base fc 6 f fd ["book", "rooms"] (pF K):=by
 have OAr:c_ P w K mg base fc 5 fA dA ["book", "thing"] (RT K):=aFJ F5 B R
 refine G.fn.oK aGV λft A outer s H vs Q E hr h=>?_
 ·obtain ⟨x,q,n,ws,rs,rfl,hx,hb,hq,t8,k⟩:=h
  refine ⟨_,aH (bU (cF (cB (aX F5 OAr hr rfl (aA (pv 0) (aA (pv 1) aC))))) lV aW),?_⟩
  refine ⟨_,rfl,_,rfl,x,q,n,ws,rs,rfl,hx,hb,hq,t8,λH' s'=>⟨_,rfl,?_⟩⟩
  refine fZ ?_
  exact k H' s'
theorem aFK {tB:TT} {σ:St} {Q:Bool->Hp->Prop} (a b:Bool) (hA:∀ R:Bool->Hp->Prop,(∀ H2,aD H H2->R a H2)->tA σ H R) (hB:∀ H2,aD H H2->a=true->∀ R:Bool->Hp->Prop,(∀ H3,aD H2 H3->R b H3)->tB σ H2 R) (h:∀ H3,aD H H3->Q (a && b) H3):JE tA tB σ H Q:=by
 refine hA _ λH2 s2=>?_
 cases a with
 | false=>exact fZ (h H2 s2)
 | true=>exact gA (hB H2 s2 rfl _ λH3 s3=>h H3 (s2.trans s3))
theorem rF (h:jJ n rs) (x:Int):0<=rs.getD x.toNat 0/\rs.getD x.toNat 0 < 1000000:=by
 rw [Qn]
 cases q:rs[x.toNat]? with
 | none=>exact ⟨Js _,by decide⟩
 | some r=>have:=h.2 r (Qe q); exact ⟨this.1,by show r < 1000000; omega⟩
noncomputable def DX (ws:List (List Int)) (rs ls:List Int):Int:=(((ws.filter λl=>l.all λh=>ls.any (·==h)).length:Nat):Int) - aL (ls.map λh=>rs.getD h.toNat 0)
noncomputable def qP (n:Int) (ws:List (List Int)) (rs ls:List Int) (m:Int):Bool:=(ls.isEmpty || cH n (bY ls)) && decide (m<=DX ws rs ls)
def yN (K:Rc):Sp:=λvs H Q _=>∃ (x:V) (q p:ae) (n:Int) (ws:List (List Int)) (rs ls:List Int) (m:Int),vs = [x,.ref q,.ref p,.int m]/\Den K H (bB n ws) x/\bD (bB n ws)=true/\d_ K H q (rs.map V.int)/\jJ n rs/\d_ K H p (ls.map V.int)/\ls.length<=20/\∀ H',aD H H'->Q (.bl (qP n ws rs ls m)) H'
theorem RS:dz ["book", "rooms", "some", "number", "alone"] ["book", "rooms", "some", "number"] (aF pZ):=.of
theorem aFL {fI:ae} {dI:bo} (G:Fn K mg "do_bar" pZ ["book", "rooms", "some", "number"] f fd) (B:Bl mg) (R:Pr K mg fW fH fK fB jn fD jy fL dW dH dK dB jo dD jz dL) (CI:Fn K mg "need_rooms" pY ["book", "rooms"] fN dN) (D5:c_ P w K mg base fc 6 fN dN ["book", "rooms"] (pF K)) (TK:Fn K mg "is_within" oI ["able", "some"] fI dI):c_ P w K mg base fc 7 f fd ["book", "rooms", "some", "number"] (yN K):=by
 have OW:c_ P w K mg base fc 1 fW dW ["thing"] (iL K):=iC R.W B
 have OKw:c_ P w K mg base fc 2 fK dK ["hands", "thing"] (xZ K):=Sg R.Kw B R.W
 have OWi:c_ P w K mg base fc 1 fI dI ["able", "some"] (Sy K):=aDO TK B
 refine G.fn.oK RS λft A outer s H vs Q E hr h=>?_
 ·obtain ⟨x,q,p,n,ws,rs,ls,m,rfl,hx,hb,hq,t8,hp,aak,k⟩:=h
  have r6:ee 6 _:=hr
  have r2:ee 2 _:=hr.mono (by decide)
  have r1:ee 1 _:=hr.mono (by decide)
  refine ⟨_,(aE (dJ (aX CI D5 r6 rfl (aA (pv 0) (aA (pv 1) aC))))
  (aE (bU (PW.pt (fT (cF (cB (aX R.W OW r1 rfl (aA (pv 3) aC)))) (eN (PW.pt (wT (aU (nG hr.wq) (pv 2) (cO aC) gm) (rN (cF (cB (aX R.Kw OKw r2 rfl (aA (bC bQ (pv 0) aK il) (aA (pv 2) aC)))))))))))
   (aH (aN bP))
   aW)
  (aE (bA (i:=4) RS.nd rfl fi (aO bE rfl B.len gE (aA (bX (own:=["able"]) (fr:=[2]) (fm:=["some"]) (aY (aF pZ) ["book", "rooms", "some", "number", "alone"] rfl rfl (by decide +kernel)) rfl (eI (bC bQ (pv 0) aK il))
    (λ_ _ _ _=>(aI (i:=0) (show (["able", "some"]:List ax).Nodup by decide +kernel) rfl fi)) (λ_ _ _ _=>nE (cB (aX TK OWi r1 rfl (aA (pv 0) (aA (pv 1) aC)))))
    (λ_ _ _ _=>(pv 0))) aC)))
  (aH (aN (dX yZ (cR sF (pv 4) (aO (zN rfl) rfl B.sum JK (aA (bX (own:=["hand"]) (fr:=[1]) (fm:=["rooms"]) (aY (aF pZ) ["book", "rooms", "some", "number", "alone"] rfl rfl (by decide +kernel)) rfl (eI (pv 2))
    (λ_ _ _ _=>(aI (i:=0) (show (["hand", "rooms"]:List ax).Nodup by decide +kernel) rfl fi)) (λ_ _ _ _=>cP)
    (λ_ _ _ _=>(bC (cN (K:=K) rfl) (pv 1) (pv 0) lj))) aC))) (pv 3) gm)))))),?_⟩
  obtain ⟨mi,km,iz,ip⟩:=aT hb
  refine ⟨_,rfl,_,rfl,x,q,n,ws,rs,rfl,hx,hb,hq,t8,λH1 s1=>?_⟩
  obtain ⟨a,b,ys,rfl,ha,ia,ij⟩:=cI (s1.den _ _ hx)
  have jt:=aP ij
  rw [Qa] at jt
  have js:=s1.d0 hp
  have mh:=s1.d0 hq
  refine ⟨_,rfl,.int m,.int m,rfl,dM.mpr rfl,_,rfl,?_⟩
  refine fZ ?_
  refine aFK (!ls.isEmpty) (!cH n (bY ls)) (λR hR=>?_) (λH2 s2 _ R hR=>?_) (λH3 s3=>?_)
  ·refine ⟨_,rfl,eG (Jl _),λz hz=>⟨.tuple (ls.map .int),.tuple (([]:List Int).map .int),aR.mpr ⟨p,rfl,(aD.new hz).d0 js⟩,aR.mpr ⟨z,rfl,d_.of aB⟩,cS _,cS _,dZ _,dZ _,_,rfl,?_⟩⟩
   rw [mH,show decide (ls = [])=ls.isEmpty by cases ls <;> rfl]
   exact hR _ (aD.new hz)
  ·exact ⟨_,rfl,a,_,0,.int n,rfl,rfl,s2.d0 ha,rfl,_,rfl,n,.ref p,bY ls,rfl,aR.mpr ⟨p,rfl,s2.d0 js⟩,_,rfl,hR _ (aD.refl _)⟩
  ·have og:=s3.d0 js
   have Df:=s3.d0 mh
   refine eK (λc=>?_) (λc=>?_)
   ·have e:qP n ws rs ls m=false:=by
     unfold qP
     simp only [Jf,Wb] at c
     rw [c.1,c.2]; rfl
    rw [e] at k
    exact k _ (s1.trans s3)
   have fj:(ls.isEmpty || cH n (bY ls))=true:=by
    cases h1:ls.isEmpty <;> cases h2:cH n (bY ls) <;> simp [h1,h2] at c ⊢
   have vh:∀ h∈ls,0<=h/\h < n:=λh hh=>by
    rw [Wm] at fj
    rcases fj with z | z
    ·cases ls with
     | nil=>cases hh
     | cons _ _=>cases z
    ·exact (aZ z).2.1 h hh
   refine ⟨_,rfl,a,_,1,.ref b,rfl,rfl,s3.d0 ha,rfl,b,rfl,⟨_,s3.d0 ia⟩,hV (K:=K) (a:=b) (xs:=ys) (λσ=>∃ v,σ = [v,some (.ref p)]) (λi zs H4=>aD H3 H4/\zs.length=((ws.take i).filter λl=>l.all λh=>ls.any (·==h)).length) (eG (by omega)) ⟨none,rfl⟩ ⟨aD.refl _,rfl⟩ ?_ ?_ ?_ ?_⟩
   ·rintro i zs H4 ⟨_,hz⟩
    rw [hz]
    exact Jd (Xd _ _) (by rw [Qq]; omega)
   ·rintro i zs H4 ⟨s4,_⟩
    exact (s3.trans s4).d0 ia
   ·rintro i zs σ u H4 hu ⟨v0,rfl⟩ ⟨s4,C8⟩ hz
    obtain ⟨dv,gk,i4⟩:=cD ij hu
    rw [Qd] at gk
    obtain ⟨l,hl,rfl⟩:∃ l,ws[i]?=some l/\bY l=dv:=by
     cases q:ws[i]? with
     | none=>rw [q] at gk; cases gk
     | some l=>rw [q] at gk; exact ⟨l,rfl,Option.some.inj gk⟩
    obtain ⟨aw,rfl,qw⟩:=aR.mp i4
    obtain ⟨w1,w2,w3⟩:=aZ (ip l (Qe hl))
    have ya:=iY (by omega) w2 w3
    have gr:ws.take (i+1)=ws.take i++[l]:=by rw [Je,hl]; rfl
    refine ⟨_,rfl,_,rfl,aw,p,l,ls,rfl,(s3.trans s4).d0 qw,s4.d0 og,by omega,λH5 s5=>⟨_,rfl,?_⟩⟩
    refine eK (λc=>?_) (λc=>?_)
    ·refine ⟨_,rfl,hz,⟨_,rfl⟩,s4.trans s5,?_⟩
     rw [gr,Xb,Qj,Qj,C8]
     congr 1
     rw [Xj (p:=λl:List Int=>l.all λh=>ls.any (·==h)) (a:=l) (l:=[]) c]; rfl
    ·refine ⟨⟨_,rfl⟩,s4.trans s5,?_⟩
     rw [gr,Xb,Qj,C8,Xk (p:=λl:List Int=>l.all λh=>ls.any (·==h)) (a:=l) (l:=[]) c]; rfl
   ·rintro zs H4 ⟨s4,C8⟩ z hz
    rw [jt,Jj] at C8
    have s5:=s4.trans (aD.new (o:=.lst zs) hz)
    refine ⟨z,_,rfl,.inl (fh.of aB),?_⟩
    rw [C8]
    generalize upd H4 z (.lst zs)=H5 at s5 ⊢
    have Ff:=s5.d0 og
    have WD:=s5.d0 Df
    refine ⟨_,rfl,_,rfl,p,rfl,⟨_,Ff⟩,lF (K:=K) (a:=p) (xs:=ls.map V.int) (vs:=(ls.map λh=>rs.getD h.toNat 0).map V.int) (λσ=>∃ v,σ = [v,some (.ref q)]) (by rw [Qa]; omega) (by rw [Qa,Qa,Qa]) Ff ⟨none,rfl⟩ ?_ ?_⟩
    ·rintro i xv v σ H6 jw hv ⟨v0,rfl⟩ s6 Q' j_
     obtain ⟨h,hh,rfl⟩:=qH jw
     obtain ⟨h0,h1⟩:=vh h (Qe hh)
     have ev:v=V.int (rs.getD h.toNat 0):=by
      rw [Qd,Qd,hh] at hv
      exact (Option.some.inj hv).symm
     have ff:h.toNat < rs.length:=by rw [t8.1]; omega
     have lg:k4 (rs.map V.int) h=some (.int (rs.getD h.toNat 0)):=by
      have e:=bZ (xs:=rs.map V.int) (j:=h.toNat) (v:=.int (rs.getD h.toNat 0)) (by rw [Qd,Qn,Qc ff]; rfl)
      rwa [show ((h.toNat:Nat):Int)=h by omega] at e
     refine ⟨_,rfl,_,rfl,q,_,h,_,rfl,rfl,s6.d0 WD,lg,?_⟩
     rw [ev] at j_
     exact j_ _ _ ⟨_,rfl⟩ (aD.refl _)
    ·rintro H6 s6 z2 t7
     refine ⟨z2,ls.map λh=>rs.getD h.toNat 0,rfl,fh.of aB,λy hy=>?_,by rw [Qa]; omega,_,_,rfl,rfl,_,rfl,_,_,rfl,rfl,?_⟩
     ·obtain ⟨h,_,rfl⟩:=Qv.mp hy
      exact rF t8 h
     ·have e:qP n ws rs ls m=decide (m<=DX ws rs ls):=by unfold qP; rw [fj,Jx]
      rw [e] at k
      exact k _ ((s1.trans s3).trans (s5.trans (s6.trans (aD.new t7))))
noncomputable def jA:ar->List Int->Bool
 | .none,_=>true
 | .int i,l=>l.any (·==i)
 | _,_=>false
noncomputable def mY:ar->Option Int
 | .int i=>some i
 | _=>none
noncomputable def uH (os:List (Option Int)) (rs:List Int):Bool:=(List.range rs.length).all λi=>decide (((os.count (some (i:Int)):Nat):Int)<=rs.getD i 0)
noncomputable def iF (ws:List (List Int)) (rs:List Int):ar->Bool
 | .tuple ds=>decide (ds.length=ws.length) && ((ds.zip ws).all (λp=>jA p.1 p.2) && uH (ds.map mY) rs)
 | _=>false
theorem QD:∀ {K:Rc} {H:Hp} {ds:List ar} {xs:List V},bF K H ds xs->(∀ d∈ds,d=.none∨∃ i,d=.int i)->xs=(ds.map mY).map oV
 | K,H,[],xs,h,_=>by rw [bG.mp h]; rfl
 | K,H,d::ds,xs,h,hd=>by
  obtain ⟨x,r,rfl,h1,h2⟩:=aQ.mp h
  rw [QD h2 λe he=>hd e (Qg _ he)]
  rcases hd d (Qi ..) with rfl | ⟨i,rfl⟩
  ·rw [lE.mp h1]; rfl
  ·rw [dM.mp h1]; rfl
def JO (K:Rc):Sp:=λvs H Q _=>∃ (x:V) (q:ae) (y:V) (n:Int) (ws:List (List Int)) (rs:List Int) (d:ar),vs = [x,.ref q,y]/\Den K H (bB n ws) x/\bD (bB n ws)=true/\d_ K H q (rs.map V.int)/\jJ n rs/\Den K H d y/\∀ H',aD H H'->Q (.bl (iF ws rs d)) H'
theorem JN:dz ["book", "rooms", "thing", "hand", "able"] ["book", "rooms", "thing"] (aF lH):=.of
theorem t! (G:Fn K mg "is_in_rooms" lH ["book", "rooms", "thing"] f fd) (B:Bl mg) (R:Pr K mg fW fH fK fB jn fD jy fL dW dH dK dB jo dD jz dL) (CI:Fn K mg "need_rooms" pY ["book", "rooms"] fN dN) (D5:c_ P w K mg base fc 6 fN dN ["book", "rooms"] (pF K)):c_ P w K mg base fc 7 f fd ["book", "rooms", "thing"] (JO K):=by
 have OW:c_ P w K mg base fc 1 fW dW ["thing"] (iL K):=iC R.W B
 refine G.fn.oK JN λft A outer s H vs Q E hr h=>?_
 ·obtain ⟨x,q,y,n,ws,rs,d,rfl,hx,hb,hq,t8,hd,k⟩:=h
  have r6:ee 6 _:=hr
  have r1:ee 1 _:=hr.mono (by decide)
  refine ⟨_,(aE (dJ (aX CI D5 r6 rfl (aA (pv 0) (aA (pv 1) aC))))
  (aE (bU (PW.pt (fT (cF (cB (aO cG rfl B.isinstance jH (aA (pv 2) (aA (eZ (v:=.ty "tuple") rfl B.tuple cM rfl) aC))))) (eN (aU kS (aO bE rfl B.len gE (aA (pv 2) aC)) (aO bE rfl B.len gE (aA (bC bQ (pv 0) aK il) aC)) gm))))
   (aH (aN bP))
   aW)
  (aE (eJ az.never rfl (nH .t .t rfl B.zip (aA (pv 2) (aA (bC bQ (pv 0) aK il) aC))) (dO rfl (aM (aI (i:=3) JN.nd rfl fi) (aM (aI (i:=4) JN.nd rfl fi) bV)))
   (aH (bU (PW.pt (wT (aU aF8 (pv 3) wS gm) (rN (cF (PW.pt (wT (cB (aX R.W OW r1 rfl (aA (pv 3) aC))) (rN (aU pM (pv 3) (pv 4) (by with_unfolding_all rfl)))))))))
   (aH (aN bP))
   aW)))
  (aH (aN (aO (eW rfl) rfl B.all mV (aA (bX (own:=["hand", "room"]) (fr:=[2]) (fm:=["thing"]) (aY (aF lH) ["book", "rooms", "thing", "hand", "able"] rfl rfl (by decide +kernel)) rfl (xK .t rfl B.enumerate (aA (pv 1) aC))
    (λ_ _ _ _=>(oQ (K:=K) (n:=2) rfl rfl (aM (aI (i:=0) (show (["hand", "room", "thing"]:List ax).Nodup by decide +kernel) rfl fi) (aM (aI (i:=1) (show (["hand", "room", "thing"]:List ax).Nodup by decide +kernel) rfl fi) bV)))) (λ_ _ _ _=>cP)
    (λ_ _ _ _=>(dX nW (J6 (K:=K) rfl Md Uh Me (aBs (K:=K) rfl) (pv 2) (aA (pv 0) aC)) (pv 1) gm))) aC))))))),?_⟩
  obtain ⟨mi,km,iz,ip⟩:=aT hb
  refine ⟨_,rfl,_,rfl,x,q,n,ws,rs,rfl,hx,hb,hq,t8,λH1 s1=>?_⟩
  obtain ⟨a,b,ys,rfl,ha,ia,ij⟩:=cI (s1.den _ _ hx)
  have jt:=aP ij
  rw [Qa] at jt
  have Af:=s1.den _ _ hd
  have mh:=s1.d0 hq
  refine ⟨_,rfl,y,jM d,rfl,Af.kd,_,rfl,?_⟩
  refine eK (λc=>?_) (λc=>?_)
  ·refine gA ?_
   have e:false=iF ws rs d:=by cases d <;> first | rfl | (exfalso; simp [jM] at c)
   rw [<- e] at k; exact k H1 s1
  obtain ⟨hs,rfl⟩:∃ hs,d=.tuple hs:=by cases d <;> first | exact ⟨_,rfl⟩ | (exfalso; simp [jM] at c)
  obtain ⟨a2,xs,rfl,Ah,B_⟩:=cC.mp Af
  have Hg:=aP B_
  refine ⟨_,rfl,a2,xs,rfl,.inr Ah,_,rfl,a,_,1,.ref b,rfl,rfl,ha,rfl,b,ys,rfl,.inr ia,rfl,_,rfl,?_⟩
  refine eK (λc2=>?_) (λc2=>?_)
  ·have e:iF ws rs (.tuple hs)=false:=by
    show (decide (hs.length=ws.length) && _)=false
    rw [decide_eq_false]
    ·rfl
    ·intro z
     have:(V.int (xs.length:Int)=V.int (ys.length:Int)):=by rw [Hg,jt,z]
     simp [this] at c2
   rw [e] at k; exact k H1 s1
  have heq:xs.length=ys.length:=by
   have:V.int (xs.length:Int)=V.int (ys.length:Int):=by simpa using c2
   injection this with this
   omega
  have wj:∀ (i:Nat) du l,hs[i]?=some du->ws[i]?=some l->jA du l=false->iF ws rs (.tuple hs)=false:=λi du l h1 h2 h3=>by
   have e:(hs.zip ws).all (λp=>jA p.1 p.2)=false:=by
    rw [<- Zl,Qy]
    intro z
    have:=z (du,l) (Qe (i:=i) (by rw [Qz]; exact ⟨h1,h2⟩))
    rw [h3] at this; cases this
   show (_ && (_ && _))=false
   rw [e,Zm,Xp]
  refine ⟨_,rfl,_,rfl,a,_,1,.ref b,rfl,rfl,ha,rfl,a2,b,_,_,rfl,Ah,ia,xI (K:=K) (k1:=.t) (k2:=.t) (a:=a2) (b:=b) (xs:=xs) (ys:=ys) (λi σ H3=>(∃ v3 v4,σ = [some (.ref a),some (.ref q),some (.ref a2),v3,v4])/\aD H1 H3/\∀ (j:Nat) du l,j < i->hs[j]?=some du->ws[j]?=some l->jA du l=true)
   heq ⟨⟨_,_,rfl⟩,aD.refl _,λj _ _ hj=>absurd hj (Zt _)⟩ (λi σ H3 _ ⟨_,s3,_⟩=>⟨s3.d0 Ah,s3.d0 ia⟩) ?_ ?_⟩
  ·rintro i u v t σ H3 hu hv ⟨⟨v3,v4,rfl⟩,s3,ke⟩ ht
   obtain ⟨du,Du,o_⟩:=cD B_ hu
   obtain ⟨dv,gk,i4⟩:=cD ij hv
   rw [Qd] at gk
   obtain ⟨l,hl,rfl⟩:∃ l,ws[i]?=some l/\bY l=dv:=by
    cases q:ws[i]? with
    | none=>rw [q] at gk; cases gk
    | some l=>rw [q] at gk; exact ⟨l,rfl,Option.some.inj gk⟩
   obtain ⟨aw,rfl,qw⟩:=aR.mp i4
   have s4:=s3.trans (aD.new (o:=.tup [u,.ref aw]) ht)
   have et:upd H3 t (.tup [u,.ref aw]) t=some (.tup [u,.ref aw]):=aB
   generalize upd H3 t (.tup [u,.ref aw])=H4 at s4 et ⊢
   have next:jA du l=true->∀ (j:Nat) du l,j < i+1->hs[j]?=some du->ws[j]?=some l->jA du l=true:=λh j ZD l' hj h1 h2=>by
    by_cases z:j=i
    ·subst z
     rw [Du] at h1; rw [hl] at h2
     rw [<- Option.some.inj h1,<- Option.some.inj h2]; exact h
    ·exact ke j ZD l' (by omega) h1 h2
   refine ⟨t,_,rfl,d_.of et,rfl,_,_,rfl,_,_,rfl,rfl,?_⟩
   refine ⟨_,rfl,rfl,_,rfl,?_⟩
   by_cases BJ:du=.none
   ·subst BJ
    obtain rfl:=lE.mp o_
    refine fZ ?_
    refine fZ ?_
    exact ⟨⟨_,_,rfl⟩,s4,next rfl⟩
   ·have V6:u≠.f_:=λz=>by
     subst z
     cases du <;> first | exact BJ rfl | (simp [Den] at o_) | (cases o_)
    rw [decide_eq_false V6]
    refine gA ?_
    refine ⟨_,rfl,u,du,rfl,s4.den _ _ o_,_,rfl,?_⟩
    refine eK (λc3=>?_) (λc3=>?_)
    ·obtain ⟨j,rfl⟩:∃ j,du=.int j:=by cases du <;> first | exact ⟨_,rfl⟩ | (exfalso; simp [fO] at c3)
     obtain rfl:=dM.mp o_
     refine ⟨_,rfl,_,rfl,aw,_,rfl,.inr (s4.d0 qw),rfl,mC l,_,rfl,?_⟩
     cases ze:l.any (·==j) with
     | true =>
      rw [(mF j l).trans ze]
      refine fZ ?_
      exact ⟨⟨_,_,rfl⟩,s4,next ze⟩
     | false =>
      rw [(mF j l).trans ze]
      refine gA ?_
      rw [wj i _ l Du hl ze] at k
      exact k _ (s1.trans s4)
    ·have e:jA du l=false:=by cases du <;> first | rfl | exact absurd rfl BJ | (exfalso; simp [fO] at c3)
     refine gA ?_
     rw [wj i _ l Du hl e] at k
     exact k _ (s1.trans s4)
  ·rintro σ H3 ⟨⟨v3,v4,rfl⟩,s3,ke⟩
   have hlen:hs.length=ws.length:=by omega
   have each:∀ d∈hs,d=.none∨∃ i,d=.int i:=λd hd=>by
    obtain ⟨j,hj⟩:=Qu.mp hd
    have ue:=(Qb.mp hj).1
    have:=ke j d _ (by omega) hj (Qc (show j < ws.length by omega))
    cases d <;> first | exact .inl rfl | exact .inr ⟨_,rfl⟩ | cases this
   have Y4:=QD B_ each
   have EB:(hs.zip ws).all (λp=>jA p.1 p.2)=true:=by
    rw [Qy]
    intro p hp
    obtain ⟨j,hj⟩:=Qu.mp hp
    rw [Qz] at hj
    have ue:=(Qb.mp hj.1).1
    exact ke j _ _ (by omega) hj.1 hj.2
   have ek:iF ws rs (.tuple hs)=uH (hs.map mY) rs:=by
    show (decide (hs.length=ws.length) && (_ && _))=_
    rw [decide_eq_true hlen,EB,Jx,Jx]
   rw [ek] at k
   refine ⟨_,rfl,q,_,rfl,s3.d0 mh,aE1 (K:=K) (k:=.t) (a:=q) (xs:=rs.map V.int) (vs:=((List.range rs.length).map λi=>decide ((((hs.map mY).count (some ((i:Nat):Int)):Nat):Int)<=rs.getD i 0)).map V.bl) (λσ=>∃ v0 v1,σ = [v0,v1,some (.ref a2)]) (by rw [Qa,t8.1]; omega) (by rw [Qa,Qa,Xe,Qa]) (λH' s'=>(s3.trans s').d0 mh) ⟨none,none,rfl⟩ ?_ ?_⟩
   ·rintro i xv v t σ H5 jw hv ht ⟨v0,v1,rfl⟩ s5 Q' j_
    obtain ⟨r,xy,rfl⟩:=qH jw
    have Cg:=(Qb.mp xy).1
    have er:rs.getD i 0=r:=by rw [Qn,xy]; rfl
    have ev:v=V.bl (decide ((((hs.map mY).count (some ((i:Nat):Int)):Nat):Int)<=r)):=by
     rw [Qd,Qd,Xh Cg] at hv
     rw [<- er]
     exact (Option.some.inj hv).symm
    have sq:=((s3.trans s5).trans (aD.new (o:=.tup [.int (i:Nat),.int r]) ht)).d0 Ah
    have st:=aD.new (o:=.tup [.int (i:Nat),.int r]) ht
    rw [Y4] at sq
    refine ⟨t,_,rfl,d_.of aB,rfl,_,_,rfl,_,_,rfl,rfl,?_⟩
    refine ⟨_,rfl,.inr (.inl ⟨rfl,_,sq⟩),_,rfl,a2,hs.map mY,_,rfl,rfl,sq,_,rfl,_,_,rfl,rfl,?_⟩
    rw [ev] at j_
    exact j_ _ _ ⟨_,_,rfl⟩ st
   ·rintro H5 s5 z hz
    refine ⟨z,_,rfl,fh.of aB,?_⟩
    rw [Zb]
    exact k _ ((s1.trans s3).trans (s5.trans (aD.new hz)))
structure kq (K:Rc) (H:Hp) (x:V) (y:ae) (n:Int) (ws:List (List Int)) (hs:List Int):Prop where
 bk:Den K H (bB n ws) x
 n1:1<=n
 n7:n<=7
 L5:ws.length<=12
 six:∀ l∈ws,l.length<=6
 sq:fh K H y (hs.map V.int)
 ln:hs.length=ws.length
 ow:∀ h∈hs,0<=h/\h < n
theorem kq.len {x:V} {y:ae} (g:kq K H x y n ws hs):hs.length<=12/\1<=n/\n<=7:=⟨by have:=g.ln; have:=g.L5; omega,g.n1,g.n7⟩
theorem kq.hand {x:V} {y:ae} (g:kq K H x y n ws hs) {h:Int} (e:hs[i]?=some h):0<=h/\h < n:=g.ow h (Qe e)
theorem kq.LN {x:V} {y:ae} (g:kq K H x y n ws hs):hs.length=ws.length/\True:=⟨g.ln,trivial⟩
def uI (K:Rc):Sp:=λvs H Q _=>∃ x y n ws hs,vs = [x,.ref y]/\kq K H x y n ws hs/\∀ rp H' qs rs,aD H H'->H rp=none->(∀ q∈qs,H q=none)->Rows H' rp qs rs->rs.length=n.toNat->tS (iD ws hs) rs 100->Q (.ref rp) H'
theorem aAY (G:Fn K mg "handing" iA ["book", "deal"] f fd) (B:Bl mg):c_ P w K mg base fc 1 f fd ["book", "deal"] (uI K):=by
 refine G.fn.oK dU λft A outer s H vs Q E hr h=>?_
 ·obtain ⟨x,y,n,ws,hs,rfl,g,k⟩:=h
  refine ⟨_,(aE (nF (i:=2) (own:=["hand"]) (fr:=[]) (fm:=[]) (aY (aF iA) ["book", "deal", "rows", "work", "giver", "able", "taker"] rfl rfl (by decide +kernel)) rfl dU.nd rfl rfl rfl (fU rfl B.range (aA (bC bQ (pv 0) aK il) aC))
    (λ_ _ _ _=>(aI (i:=0) (show (["hand"]:List ax).Nodup by decide +kernel) rfl fi)) (λ_ _ _ _=>cP)
    (λ_ _ _ _=>Sq))
   (aE (eJ az.never rfl (sV .l .t rfl B.enumerate rfl B.zip (aA (pv 1) (aA (bC bQ (pv 0) aK il) aC))) (dO rfl (aM (aI (i:=3) dU.nd rfl fi) (aM (dO rfl (aM (aI (i:=4) dU.nd rfl fi) (aM (aI (i:=5) dU.nd rfl fi) bV))) bV)))
    (aH (eJ az.never rfl (eI (pv 5)) (aI (i:=6) dU.nd rfl fi)
     (aH (bU (aU kS (pv 6) (pv 4) gm)
      (aH (rR (jD hr) (bC gU (pv 2) (pv 4) lj) (pv 6) (pv 3) rfl))
      aW)))))
   (aH (aN (pv 2))))),?_⟩
  obtain ⟨ny,mi,km⟩:=g.len
  obtain ⟨a,b,ys,rfl,ha,ia,ij⟩:=cI g.bk
  have hy:=g.sq
  obtain ⟨jk,Ae⟩:=g.LN
  have iz:=g.L5
  have jt:=aP ij
  rw [Qa] at jt
  refine ⟨_,rfl,a,_,0,.int n,rfl,rfl,ha,rfl,n,rfl,by omega,by omega,gK (lo:=0) (n:=n.toNat) (λσ=>∃ v,σ = [v]) (λi zs H2=>∃ qs:List ae,zs=qs.map V.ref/\qs.length=i/\aD H H2/\qs.Nodup/\∀ q∈qs,H q=none/\H2 q=some (.dK [])) ?_ ⟨none,rfl⟩ ⟨[],rfl,rfl,aD.refl H,Zx,λ_ h=>(Qp h).elim⟩ ?_ ?_ ?_⟩
  ·rw [Rf]; omega
  ·rintro i zs H2 ⟨qs,rfl,hq,_⟩
   rw [Qa]; omega
  ·rintro i zs σ H2 hi ⟨v,rfl⟩ ⟨qs,rfl,hq,s2,nd,ky⟩ hz
   refine cQ ?_
   intro p hp
   refine ⟨hz,⟨_,rfl⟩,qs++[p],by rw [Qo]; rfl,by rw [Qj,hq]; rfl,s2.trans (aD.new hp),?_,λq w_=>?_⟩
   ·rw [Yg]
    refine ⟨nd,by simp,λx hx y hy e=>?_⟩
    rw [Qr.mp hy] at e
    have:=(ky x hx).2
    rw [e,hp] at this; cases this
   ·rcases Jk.mp w_ with h | h
    ·exact ⟨(ky q h).1,(aD.new hp) _ _ (ky q h).2⟩
    ·rw [Qr.mp h]
     exact ⟨s2.free hp,aB⟩
  ·rintro zs H2 ⟨qs,rfl,hq,s2,nd,ky⟩ rp w9
   have s3:=s2.trans (aD.new (o:=.lst (qs.map V.ref)) w9)
   have y3:H rp=none:=s2.free w9
   have R3:Rows (upd H2 rp (.lst (qs.map V.ref))) rp qs (List.replicate n.toNat []):=⟨aB,by rw [Jw]; exact hq,nd,λg q r h1 h2=>by
    have er:r = []:=by
     rw [Jz] at h2
     split at h2
     ·exact (Option.some.inj h2).symm
     ·cases h2
    rw [er]
    exact (aD.new w9) _ _ (ky q (Qe h1)).2⟩
   generalize upd H2 rp (.lst (qs.map V.ref))=H3 at s3 R3 ⊢
   have h6:∀ l∈ws,l.length<=6:=g.six
   refine ⟨_,rfl,_,rfl,a,_,1,.ref b,rfl,rfl,s3.d0 ha,rfl,y,b,_,_,rfl,s3.iy hy,s3.d0 ia,qW (K:=K) (k1:=.l) (k2:=.t) (a:=y) (b:=b) (xs:=hs.map V.int) (ys:=ys)
    (λi σ H4=>(∃ v3 v4 v5 v6,σ = [some (.ref a),some (.ref y),some (.ref rp),v3,v4,v5,v6])/\aD H H4/\∃ rs,Rows H4 rp qs rs/\rs.length=n.toNat/\tS (λg w t=>w < i/\iD ws hs g w t) rs (6*i))
    (by rw [Qa]; omega) ⟨⟨_,_,_,_,rfl⟩,s3,_,R3,Jw,λg r hr=>?_⟩ (λ_ σ H4 _ ⟨_,s4,_⟩=>⟨s4.iy hy,s4.d0 ia⟩) ?_ ?_⟩
   ·have er:r = []:=by
     rw [Jz] at hr
     split at hr
     ·exact (Option.some.inj hr).symm
     ·cases hr
    rw [er]
    exact ⟨tR.nil λw t h=>by omega,Jl _⟩
   ·rintro i u v p q σ H4 hu hv ⟨⟨v3,v4,v5,v6,rfl⟩,s4,rs,R4,vf,E4⟩ hp hq f'
    obtain ⟨h,hh,rfl⟩:=jI hu
    obtain ⟨dv,gk,i4⟩:=cD ij hv
    rw [Qd] at gk
    obtain ⟨l,hl,rfl⟩:∃ l,ws[i]?=some l/\bY l=dv:=by
     cases q:ws[i]? with
     | none=>rw [q] at gk; cases gk
     | some l=>rw [q] at gk; exact ⟨l,rfl,Option.some.inj gk⟩
    obtain ⟨aw,rfl,qw⟩:=aR.mp i4
    obtain ⟨Dp,Fm⟩:=g.hand hh
    have ya:=h6 l (Qe hl)
    have Ej:i < 12:=by
     have:=(Qb.mp hh).1
     omega
    have sp:=aD.new (o:=.tup [.int h,.ref aw]) hp
    have mh:upd H4 p (.tup [.int h,.ref aw]) q=none:=by rw [aG f']; exact hq
    have sq:=aD.new (o:=.tup [.int (i:Nat),.ref p]) mh
    have ep:upd (upd H4 p (.tup [.int h,.ref aw])) q (.tup [.int (i:Nat),.ref p]) p=some (.tup [.int h,.ref aw]):=sq _ _ aB
    have eq:upd (upd H4 p (.tup [.int h,.ref aw])) q (.tup [.int (i:Nat),.ref p]) q=some (.tup [.int (i:Nat),.ref p]):=aB
    have s5:=s4.trans (sp.trans sq)
    have R5:=R4.same (sp.trans sq)
    generalize upd (upd H4 p (.tup [.int h,.ref aw])) q (.tup [.int (i:Nat),.ref p])=H5 at ep eq s5 R5 ⊢
    refine ⟨q,_,rfl,d_.of eq,rfl,_,_,rfl,_,_,rfl,p,_,rfl,d_.of ep,rfl,_,_,rfl,_,_,rfl,rfl,rfl,?_⟩
    have A9:h.toNat < qs.length:=by rw [R5.len,vf]; omega
    obtain ⟨qh,x8⟩:∃ qh,qs[h.toNat]?=some qh:=⟨_,Qc A9⟩
    have jd:((h.toNat:Nat):Int)=h:=by omega
    refine ⟨_,rfl,aw,rfl,⟨_,s5.d0 qw⟩,nV (K:=K) (a:=aw) (xs:=l.map V.int) (λj σ H6=>(∃ v6,σ = [some (.ref a),some (.ref y),some (.ref rp),some (.int (i:Nat)),some (.int h),some (.ref aw),v6])/\aD H H6/\∃ rs,Rows H6 rp qs rs/\rs.length=n.toNat/\tS (λg w t=>(w < i/\iD ws hs g w t)∨(w=i/\g=h/\t∈l.take j/\t≠h)) rs (6*i+j))
     ⟨⟨_,rfl⟩,s5,rs,R5,vf,λg r hr=>⟨(E4 g r hr).1.congr λw t=>⟨.inl,λz=>z.elim id λz=>by rw [Zo] at z; exact (Qp z.2.2.1).elim⟩,(E4 g r hr).2⟩⟩ (λ_ σ H6 _ ⟨_,s6,_⟩=>s6.d0 qw) ?_ ?_⟩
    ·rintro j tv σ H6 GZ ⟨⟨v6,rfl⟩,s6,rs,R6,kc,E6⟩
     obtain ⟨t,ht,rfl⟩:=jI GZ
     have hj:j < l.length:=(Qb.mp ht).1
     have gr:l.take (j+1)=l.take j++[t]:=by rw [Je,ht]; rfl
     refine ⟨_,rfl,_,rfl,rfl,_,rfl,?_⟩
     refine eK (λc=>?_) (λc=>?_)
     ·have A2:t≠h:=λz=>by rw [z] at c; simp at c
      obtain ⟨r,hr⟩:∃ r,rs[h.toNat]?=some r:=⟨_,Qc (by rw [kc]; omega)⟩
      have lg:k4 (qs.map V.ref) h=some (.ref qh):=by
       have:=bZ (xs:=qs.map V.ref) (j:=h.toNat) (v:=.ref qh) (by rw [Qd,x8]; rfl)
       rwa [jd] at this
      have l7:=R6.row _ _ _ x8 hr
      have WB:=(E6 _ _ hr).2
      have G':H qh=none:=(ky qh (Qe x8)).1
      refine ⟨_,rfl,_,rfl,_,rfl,rp,_,h,_,rfl,rfl,fh.of R6.lst,lg,_,rfl,qh,_,rfl,vB.k (k:=.inl t) l7 (by rw [Rf]; omega),?_⟩
      refine ⟨⟨_,rfl⟩,s6.wr G',rs.set h.toNat (jC r (.inl t) (.int (i:Nat))),R6.put x8 hr,by rw [Ze]; exact kc,λg2 r2 iq=>?_⟩
      rw [Xv] at iq
      by_cases eg:h.toNat=g2
      ·rw [if_pos eg,if_pos (by rw [kc]; omega)] at iq
       cases iq
       have HY:((g2:Nat):Int)=h:=by omega
       refine ⟨((E6 _ _ hr).1.put i t).congr λw t'=>?_,Jd (jF _ _ _) (by omega)⟩
       rw [jd,HY,gr]
       constructor
       ·rintro ((z | ⟨z1,z2,z3,z4⟩) | ⟨z1,z2⟩)
        ·exact .inl z
        ·exact .inr ⟨z1,z2,Jp _ z3,z4⟩
        ·exact .inr ⟨z1,rfl,by rw [z2]; simp,by rw [z2]; exact A2⟩
       ·rintro (z | ⟨z1,z2,z3,z4⟩)
        ·exact .inl (.inl z)
        ·rcases Jk.mp z3 with z3 | z3
         ·exact .inl (.inr ⟨z1,z2,z3,z4⟩)
         ·exact .inr ⟨z1,Qr.mp z3⟩
      ·rw [if_neg eg] at iq
       refine ⟨(E6 _ _ iq).1.congr λw t'=>?_,Jd (E6 _ _ iq).2 (by omega)⟩
       have ng:¬ ((g2:Nat):Int)=h:=by omega
       constructor
       ·rintro (z | ⟨_,z2,_⟩)
        ·exact .inl z
        ·exact absurd z2 ng
       ·rintro (z | ⟨_,z2,_⟩)
        ·exact .inl z
        ·exact absurd z2 ng
     ·have A2:t=h:=by simpa using c
      refine ⟨⟨_,rfl⟩,s6,rs,R6,kc,λg2 r2 iq=>⟨(E6 _ _ iq).1.congr λw t'=>?_,Jd (E6 _ _ iq).2 (by omega)⟩⟩
      rw [gr]
      constructor
      ·rintro (z | ⟨z1,z2,z3,z4⟩)
       ·exact .inl z
       ·exact .inr ⟨z1,z2,Jp _ z3,z4⟩
      ·rintro (z | ⟨z1,z2,z3,z4⟩)
       ·exact .inl z
       ·rcases Jk.mp z3 with z3 | z3
        ·exact .inr ⟨z1,z2,z3,z4⟩
        ·exact absurd ((Qr.mp z3).trans A2) z4
    ·rintro σ H6 ⟨⟨v6,rfl⟩,s6,rs,R6,kc,E6⟩
     refine ⟨⟨_,_,_,_,rfl⟩,s6,rs,R6,kc,λg2 r2 iq=>⟨(E6 _ _ iq).1.congr λw t'=>?_,Jd (E6 _ _ iq).2 (by rw [Qa]; omega)⟩⟩
     rw [Qa,Jj]
     constructor
     ·rintro (⟨z1,z2⟩ | ⟨z1,z2,z3,z4⟩)
      ·exact ⟨by omega,z2⟩
      ·subst z1
       exact ⟨by omega,by rw [hh,z2],l,hl,z3,by rw [z2]; exact z4⟩
     ·rintro ⟨z1,z2⟩
      by_cases hw:w < i
      ·exact .inl ⟨hw,z2⟩
      ·have ew:w=i:=by omega
       subst ew
       obtain ⟨z3,l',z4,z5,z6⟩:=z2
       rw [hh] at z3
       rw [hl] at z4
       cases z4
       have ez:h=g2:=Option.some.inj z3
       exact .inr ⟨rfl,ez.symm,z5,by rw [ez]; exact z6⟩
   ·rintro σ H4 ⟨⟨v3,v4,v5,v6,rfl⟩,s4,rs,R4,vf,E4⟩
    refine ⟨_,rfl,k rp H4 qs rs s4 y3 (λq hq=>(ky q hq).1) R4 vf λg r hr=>⟨(E4 g r hr).1.congr λw t=>⟨λz=>z.2,λz=>⟨?_,z⟩⟩,Jd (E4 g r hr).2 (by rw [Qa]; omega)⟩⟩
    rw [Qa]
    exact (Qb.mp z.1).1
theorem aDP {tB:TT} {σ:St} {Q:Bool->Hp->Prop} (a b:Bool) (hA:∀ R:Bool->Hp->Prop,R a H->tA σ H R) (hB:a=true->∀ R:Bool->Hp->Prop,R b H->tB σ H R) (h:Q (a && b) H):JE tA tB σ H Q:=by
 refine hA _ ?_
 cases a with
 | false=>exact fZ h
 | true=>exact gA (hB rfl _ h)
theorem wM {Q:Nat->Int->Prop}:∀ (ss:List (Nat×Int×Int)) (hs:List Int),(∀ (j:Nat) (h:Int),hs[j]?=some h->Q j h)->(∀ s∈ss,Q s.1 s.2.2)->∀ (j:Nat) (h:Int),(eD hs ss)[j]?=some h->Q j h
 | [],_,h0,_=>h0
 | s::r,hs,h0,h1=>by
  refine wM r (hs.set s.1 s.2.2) (λj h e1=>?_) λs' h'=>h1 s' (Qg _ h')
  rw [Xv] at e1
  by_cases e:s.1=j
  ·rw [if_pos e] at e1
   split at e1
   ·rw [<- Option.some.inj e1,<- e]
    exact h1 s (Qi ..)
   ·cases e1
  ·rw [if_neg e] at e1
   exact h0 j h e1
theorem nO:∀ {ss:List (Nat×Int×Int)} {h x:Int},fP ws hs h ss x->∀ s∈ss,iD ws hs s.2.1 s.1 s.2.2
 | [],_,_,_,_,m=>(Qp m).elim
 | s::r,h,x,⟨e1,e2,e3⟩,s',m=>by
  rcases Ql.mp m with rfl | m
  ·rw [e1]; exact e2
  ·exact nO e3 s' m
theorem aBV (hs:List Int) (ss:List (Nat×Int×Int)) (s:Nat×Int×Int):eD hs (ss++[s])=(eD hs ss).set s.1 s.2.2:=by
 unfold eD
 rw [Xn]
 rfl
theorem uJ {p:Int->Bool} {f:List Int->Bool}:∀ {ws:List (List Int)} {hs:List Int},hs.length=ws.length->(∀ (i:Nat) (l:List Int) (h:Int),ws[i]?=some l->hs[i]?=some h->f l=p h)->(((ws.filter f).length:Nat):Int)=k9 p hs
 | [],[],_,_=>rfl
 | l::ws,h::hs,hl,hq=>by
  have ih:=uJ (p:=p) (f:=f) (ws:=ws) (hs:=hs) (by simpa using hl) λi a b ha hb=>hq (i+1) a b (by simpa using ha) (by simpa using hb)
  have h0:=hq 0 l h rfl rfl
  show _=(if p h then (1:Int) else 0)+k9 p hs
  rw [<- ih,<- h0]
  cases hf:f l with
  | true=>rw [Xj hf,if_pos rfl,Ja]; omega
  | false=>rw [Xk (by rw [hf]; decide),if_neg Qm]; omega
 | [],_::_,hl,_=>by simp at hl
 | _::_,[],hl,_=>by simp at hl
theorem uK {p:Int->Bool} {g:Int->Int}:∀ l:List Int,aL ((l.filter p).map g)=aL (l.map λh=>if p h then g h else 0)
 | []=>rfl
 | x::l=>by
  show _=(if p x then g x else 0)+aL (l.map λh=>if p h then g h else 0)
  rw [<- uK l]
  cases hp:p x with
  | true=>rw [Xj hp,if_pos rfl]; rfl
  | false=>rw [Xk (by rw [hp]; decide),if_neg Qm,Zz]
theorem aDQ (m:Nat):cW (m+1)=cW m++[(m:Int)]:=by unfold cW; rw [Wr,Qo]; rfl
noncomputable def pG (n:Int) (os:List Int):List Int:=(cW n.toNat).filter λh=>decide (h∈os)
theorem uL {h:Int}:h∈pG n os↔(0<=h/\h < n)/\h∈os:=by
 unfold pG
 rw [Xa,decide_eq_true_iff]
 refine and_congr_left λ_=>?_
 unfold cW
 rw [Qv]
 constructor
 ·rintro ⟨i,hi,rfl⟩
  have:=Jm.mp hi
  omega
 ·rintro ⟨h0,h1⟩
  exact ⟨h.toNat,Jm.mpr (by omega),by omega⟩
theorem aDR (n:Int) (os:List Int):(pG n os).Pairwise (· < ·):=by
 refine List.Pairwise.filter _ ?_
 unfold cW
 rw [List.pairwise_map]
 exact List.Pairwise.imp (λh=>by omega) (List.pairwise_lt_range)
def aId (n:Int) (ws:List (List Int)) (hs:List Int):Prop:=hs.length=ws.length/\∀ (j:Nat) (h:Int),hs[j]?=some h->h=n∨∃ l,ws[j]?=some l/\h∈l
theorem aGW (hn:0<=n) (hw:∀ l∈ws,∀ x∈l,0<=x/\x < n) (hd:aId n ws hs) (hc:P4 ws hs os) (xa:n∈os) (hf:∀ h∈os,0<=h->h < n->((hs.count h:Nat):Int)=rs.getD h.toNat 0) :
  DX ws rs (pG n os)=((hs.count n:Nat):Int):=by
 have y4:∀ h∈hs,0<=h/\h < n+1:=λh hh=>by
  obtain ⟨j,hj⟩:=Qu.mp hh
  rcases hd.2 j h hj with rfl | ⟨l,hl,hm⟩
  ·omega
  ·have:=hw l (Qe hl) h hm; omega
 have e1:=uJ (p:=λh=>decide (h∈os)) (f:=λl=>l.all λh=>(pG n os).any (·==h)) hd.1 λi l h hl hh=>by
  rw [Xf,Qy,decide_eq_true_iff]
  constructor
  ·intro q
   rcases hd.2 i h hh with rfl | ⟨l',ua,hm⟩
   ·exact xa
   ·rw [hl] at ua
    cases ua
    obtain ⟨x,hx,ex⟩:=Xg.mp (q h hm)
    rw [<- eq_of_beq ex]
    exact (uL.mp hx).2
  ·intro q t ht
   have V7:=hw l (Qe hl) t ht
   refine Xg.mpr ⟨t,uL.mpr ⟨V7,?_⟩,by simp⟩
   by_cases e:t=h
   ·rw [e]; exact q
   ·exact hc h q i t ⟨hh,l,hl,ht,e⟩
 have e2:=iO (n:=n+1) (λh=>decide (h∈os)) y4
 rw [show (n+1).toNat=n.toNat+1 by omega,aDQ,Qo,gH,show ((n.toNat:Nat):Int)=n by omega] at e2
 have e3:aL ([n].map λh=>if (decide (h∈os))=true then ((hs.count h:Nat):Int) else 0)=((hs.count n:Nat):Int):=by
  show (if (decide (n∈os))=true then ((hs.count n:Nat):Int) else 0)+0=_
  rw [decide_eq_true xa,if_pos rfl]; omega
 have e4:aL ((pG n os).map λh=>rs.getD h.toNat 0)=aL ((cW n.toNat).map λh=>if (decide (h∈os))=true then ((hs.count h:Nat):Int) else 0):=by
  unfold pG
  rw [uK]
  refine cV λh hh=>?_
  by_cases q:h∈os
  ·rw [decide_eq_true q,if_pos rfl,if_pos rfl]
   unfold cW at hh
   obtain ⟨i,hi,rfl⟩:=Qv.mp hh
   have:=Jm.mp hi
   exact (hf _ q (by omega) (by omega)).symm
  ·rw [decide_eq_false q,if_neg Qm,if_neg Qm]
 unfold DX
 rw [e1,e4]
 omega
noncomputable def kR (n:Int) (hs:List Int):List (Option Int):=hs.map λh=>if h < n then some h else none
theorem aDS {h:Int} (h1:h < n):(kR n hs).count (some h)=hs.count h:=by
 unfold kR
 induction hs with
 | nil=>rfl
 | cons x hs ih =>
  rw [Qw,Xc,Xc,ih]
  congr 1
  by_cases hx:x < n
  ·rw [if_pos hx]
   by_cases e:x=h
   ·simp [e]
   ·simp [e]
  ·rw [if_neg hx]
   have:¬ x=h:=by omega
   simp [this]
theorem aDT (hr:∀ h∈hs,h<=n):(kR n hs).count none=hs.count n:=by
 unfold kR
 induction hs with
 | nil=>rfl
 | cons x hs ih =>
  rw [Qw,Xc,Xc,ih λh hh=>hr h (Qg _ hh)]
  congr 1
  have:=hr x (Qi ..)
  by_cases hx:x < n
  ·rw [if_pos hx]
   have:¬ x=n:=by omega
   simp [this]
  ·rw [if_neg hx]
   have:x=n:=by omega
   simp [this]
def Pp (ws:List (List Int)) (rs:List Int) (os:List (Option Int)):Prop:=os.length=ws.length/\(∀ (j:Nat) (h:Int) (l:List Int),os[j]?=some (some h)->ws[j]?=some l->h∈l)/\∀ i,i < rs.length->((os.count (some (i:Int)):Nat):Int)<=rs.getD i 0
structure AI (n:Int) (ws:List (List Int)) (rs:List Int) (os:List (Option Int)) (ls:List Int):Prop where
 AH:Pp ws rs os
 rise:ls.Pairwise (· < ·)
 ow:∀ x∈ls,0<=x/\x < n
 over:DX ws rs ls=((os.count none:Nat):Int)
def Px (K:Rc):Sp:=λvs H Q _=>∃ (x:V) (q:ae) (n:Int) (ws:List (List Int)) (rs:List Int),vs = [x,.ref q]/\Den K H (bB n ws) x/\bD (bB n ws)=true/\d_ K H q (rs.map V.int)/\jJ n rs /\
 ∀ (p dp sp:ae) (os:List (Option Int)) (ls:List Int) H',aD H H'->H' p=some (.tup [.ref dp,.ref sp])->H' dp=some (.tup (os.map oV))->H' sp=some (.tup (ls.map V.int))->AI n ws rs os ls->Q (.ref p) H'
theorem mZ:dz ["book", "rooms", "hands", "works", "deal", "found", "free", "work", "giver", "taker", "some"] ["book", "rooms"] (aF Bs):=.of
set_option maxHeartbeats 4000000 in
theorem s? {DN fR DM:ae} {DQ dR DO:bo} (G:Fn K mg "in_rooms" Bs ["book", "rooms"] f fd) (B:Bl mg) (R:Pr K mg fW fH fK fB jn fD jy fL dW dH dK dB jo dD jz dL) (CI:Fn K mg "need_rooms" pY ["book", "rooms"] fN dN) (F5:Fn K mg "are_rooms" pX ["book", "thing"] fA dA) (GH:Fn K mg "handing" iA ["book", "deal"] DN DQ) (GR:Fn K mg "reached" lG ["rows", "first"] fR dR) (GW:Fn K mg "way_to" tF ["found", "last"] DM DO):c_ P w K mg base fc 7 f fd ["book", "rooms"] (Px K):=by
 have D5:c_ P w K mg base fc 6 fN dN ["book", "rooms"] (pF K):=Sx CI B R F5
 have OH:c_ P w K mg base fc 1 DN DQ ["book", "deal"] (uI K):=aAY GH B
 have OR:c_ P w K mg base fc 1 fR dR ["rows", "first"] (qC K):=tT GR B
 have OW:c_ P w K mg base fc 1 DM DO ["found", "last"] (yG K):=SN GW B
 refine G.fn.oK mZ λft A outer s H vs Q E hr h=>?_
 ·obtain ⟨x,q,n,ws,rs,rfl,hx,i6,hq,t8,k⟩:=h
  have r6:ee 6 _:=hr
  have r1:ee 1 _:=hr.mono (by decide)
  refine ⟨_,(aE (dJ (aX CI D5 r6 rfl (aA (pv 0) (aA (pv 1) aC))))
  (aE (iG (pv 0) (dO rfl (aM (aI (i:=2) mZ.nd rfl (Or.inr rfl)) (aM (aI (i:=3) mZ.nd rfl fi) bV))))
  (aE (bA (i:=4) mZ.nd rfl (Or.inr rfl) (cR QK (eO (aA (pv 2) aC)) (aO bE rfl B.len gE (aA (pv 3) aC))))
  (aE (nU az.never (cB bP)
   (aE (bA (i:=5) mZ.nd rfl (Or.inr rfl) (aX GR OR r1 rfl (aA (aX GH OH r1 rfl (aA (cO (aA (cR kZ (pv 2) aK) (aA (pv 3) aC))) (aA (pv 4) aC))) (aA (pv 2) aC))))
  (aE (RH (nF (i:=6) (own:=["hand"]) (fr:=[4,2,1]) (fm:=["deal", "hands", "rooms"]) (aY (aF Bs) ["book", "rooms", "hands", "works", "deal", "found", "free", "work", "giver", "taker", "some"] rfl rfl (by decide +kernel)) rfl mZ.nd rfl rfl rfl (RI (pv 5))
    (λ_ _ _ _=>(aI (i:=0) (show (["hand", "deal", "hands", "rooms"]:List ax).Nodup by decide +kernel) rfl fi)) (λ_ _ _ _=>nE (PW.pt (wT (aU yY (pv 0) (pv 2) gm) (rN (aU yY (J6 (K:=K) rfl Rt Mg PySem.F.type_list_count (aDq (K:=K) rfl) (pv 1) (aA (pv 0) aC)) (bC (cN (K:=K) rfl) (pv 3) (pv 0) lj) gm)))))
    (λ_ _ _ _=>(pv 0))))
  (aE (bU (aU mO (aO bE rfl B.len gE (aA (pv 6) aC)) aK gm)
   (aH aD5)
   aW)
  (aH (eJ az.never rfl (kH (aX GW OW r1 rfl (aA (pv 5) (aA (bC gU (pv 6) aK il) aC)))) (dO rfl (aM (aI (i:=7) mZ.nd rfl fi) (aM (aI (i:=8) mZ.nd rfl fi) (aM (aI (i:=9) mZ.nd rfl fi) bV))))
   (aH (iG (pv 9) (QT (pv 4) (pv 7) sL)))))))))
  (aE (bA (i:=10) mZ.nd rfl fi (cK bR rfl B.tuple cM (aA (bX (own:=["hand"]) (fr:=[5]) (fm:=["found"]) (aY (aF Bs) ["book", "rooms", "hands", "works", "deal", "found", "free", "work", "giver", "taker", "some"] rfl rfl (by decide +kernel)) rfl (fU rfl B.range (aA (pv 2) aC))
    (λ_ _ _ _=>(aI (i:=0) (show (["hand", "found"]:List ax).Nodup by decide +kernel) rfl fi)) (λ_ _ _ _=>nE (J8 (R! (jD hr) (pv 0) (pv 1)) (by with_unfolding_all rfl)))
    (λ_ _ _ _=>(pv 0))) aC)))
  (aH (aN (cO (aA (cK bR rfl B.tuple cM (aA (bX (own:=["hand"]) (fr:=[2]) (fm:=["hands"]) (aY (aF Bs) ["book", "rooms", "hands", "works", "deal", "found", "free", "work", "giver", "taker", "some"] rfl rfl (by decide +kernel)) rfl (kH (pv 4))
    (λ_ _ _ _=>(aI (i:=0) (show (["hand", "hands"]:List ax).Nodup by decide +kernel) rfl fi)) (λ_ _ _ _=>cP)
    (λ_ _ _ _=>(aD4 (aU yY (pv 0) (pv 1) gm) (pv 0) wS))) aC)) (aA (pv 10) aC)))))))))),?_⟩
  obtain ⟨mi,km,iz,ip⟩:=aT i6
  have GX:∀ l∈ws,∀ x∈l,0<=x/\x < n:=λl hl=>(aZ (ip l hl)).2.1
  have V3:∀ l∈ws,l.length<=6:=λl hl=>by
   obtain ⟨_,w2,w3⟩:=aZ (ip l hl)
   have:=iY (by omega) w2 w3
   omega
  refine ⟨_,rfl,_,rfl,x,q,n,ws,rs,rfl,hx,i6,hq,t8,λH1 s1=>?_⟩
  obtain ⟨a,b,ys,rfl,ha,ia,ij⟩:=cI (s1.den _ _ hx)
  have jt:=aP ij
  rw [Qa] at jt
  have mh:=s1.d0 hq
  refine ⟨_,rfl,a,_,rfl,ha,rfl,_,_,rfl,_,_,rfl,rfl,?_⟩
  refine ⟨_,rfl,um _,λz hz=>⟨_,rfl,b,_,rfl,.inr ((aD.new hz).d0 ia),z,_,_,rfl,rfl,aB,by omega,by omega,eG (by simp; omega),λdl jk=>?_⟩⟩
  have s2:=aD.new (o:=.lst [V.int n]) hz
  generalize upd H1 z (.lst [V.int n])=H2 at s2 jk ⊢
  have ZA:(List.replicate ((ys.length:Int)).toNat [V.int n]).flatten=(List.replicate ws.length n).map V.int:=by
   rw [Zd,Qan,Jc,jt]
  rw [ZA]
  have Lp:H1 dl=none:=s2.free jk
  have s3:=s2.trans (aD.new (o:=.lst ((List.replicate ws.length n).map V.int)) jk)
  have d3:upd H2 dl (.lst ((List.replicate ws.length n).map V.int)) dl=some (.lst ((List.replicate ws.length n).map V.int)):=aB
  generalize upd H2 dl (.lst ((List.replicate ws.length n).map V.int))=H3 at s3 d3 ⊢
  have A0:=s1.den _ _ hx
  have M6:aId n ws (List.replicate ws.length n):=⟨Jw,λj h e=>.inl (Zg (Qe e))⟩
  have qv:∀ h:Int,0<=h->h < n->(((List.replicate ws.length n).count h:Nat):Int)<=rs.getD h.toNat 0:=λh _ h1=>by
   rw [List.count_eq_zero_of_not_mem (λz=>by have:=Zg z; omega)]
   exact (rF t8 h).1
  generalize List.replicate ws.length n=WA at d3 M6 qv
  refine ⟨λm σ H4=>∃ (v5 v6 v7 v8 v9 v10:Option V) (hs:List Int),σ = [some (.ref a),some (.ref q),some (.int n),some (.ref b),some (.ref dl),v5,v6,v7,v8,v9,v10]/\m=hs.count n/\aD H1 H4/\H4 dl=some (.lst (hs.map V.int))/\aId n ws hs/\∀ h:Int,0<=h->h < n->((hs.count h:Nat):Int)<=rs.getD h.toNat 0,
   ⟨_,_,_,_,_,_,_,WA,rfl,rfl,s3,d3,M6,qv⟩,?_⟩
  rintro m σ H4 ⟨v5,v6,v7,v8,v9,v10,hs,rfl,rfl,s4,d4,hh,hle⟩
  refine ⟨_,rfl,gA ⟨_,λe_ H' z=>z,?_⟩⟩
  have y4:∀ h∈hs,0<=h/\h < n+1:=λh hm=>by
   obtain ⟨j,hj⟩:=Qu.mp hm
   rcases hh.2 j h hj with rfl | ⟨l,hl,hm⟩
   ·omega
   ·have:=GX l (Qe hl) h hm; omega
  refine ⟨_,rfl,_,_,rfl,rfl,_,rfl,qm _ _,λbk Lz=>?_⟩
  have s5:=aD.new (o:=.tup [.int (n+1),.ref b]) Lz
  have b5:upd H4 bk (.tup [.int (n+1),.ref b]) bk=some (.tup [.int (n+1),.ref b]):=aB
  have d5:=s5 _ _ d4
  have AN:=s4.trans s5
  generalize upd H4 bk (.tup [.int (n+1),.ref b])=H5 at s5 b5 d5 AN ⊢
  have gN:kq K H5 (.ref bk) dl (n+1) ws hs:=⟨wG (d_.of b5) (AN.d0 ia) (AN.gn _ _ ij),by omega,by omega,iz,V3,fh.of d5,hh.1,y4⟩
  refine ⟨_,rfl,.ref bk,dl,n+1,ws,hs,rfl,gN,λrp H6 qs rws s6 w9 ky R6 vd ER=>?_⟩
  have u5:=AN.trans s6
  have d6:=s6 _ _ d5
  have pg:∀ g w t,iD ws hs g w t->0<=t/\t < n+1:=λg w t e=>by
   obtain ⟨_,l,h1,h2,_⟩:=e
   have:=GX l (Qe h1) t h2
   omega
  refine ⟨_,rfl,rp,n,qs,rws,n+1,ws,hs,rfl,R6,vd,ER,pg,by omega,by omega,by omega,λjx H7 fs os s7 Dr e7 T7 C7=>?_⟩
  have zw:=u5.trans s7
  have d7:=s7 _ _ d6
  have T7l:=T7.len
  have Fo:=T7.Em
  have Lc:n∈os:=Qe T7.head
  have lg:∀ o:Int,0<=o->o < n->k4 (rs.map V.int) o=some (.int (rs.getD o.toNat 0)):=λo h0 h1=>by
   have hl:o.toNat < rs.length:=by rw [t8.1]; omega
   have:=bZ (xs:=rs.map V.int) (j:=o.toNat) (v:=.int (rs.getD o.toNat 0)) (by rw [Qd,Qn,Qc hl]; rfl)
   rwa [show ((o.toNat:Nat):Int)=o by omega] at this
  refine ⟨_,rfl,jx,fs,rfl,e7,λo nf=>aDr (a:=jx) (o:=o) (kvs:=fs) (λσ=>∃ v,σ = [v,some (.ref dl),some (.int n),some (.ref q)]) (λi zs H8=>H8=upd H7 jx (.gh o (.dK fs))/\zs=((os.take i).filter λo=>decide (o < n) && decide (((hs.count o:Nat):Int) < rs.getD o.toNat 0)).map V.int) (eG (by omega)) ⟨_,rfl⟩ ⟨rfl,rfl⟩ (λi zs H8 z=>?_) (λi zs H8 z=>by rw [z.1]; exact aB) ?_ ?_⟩
  ·rw [z.2,Qa]
   exact Jd (Xd _ _) (by rw [Qq]; omega)
  ·rintro i zq σ p H8 hp ⟨v,rfl⟩ ⟨rfl,rfl⟩ hsz
   obtain ⟨ov,Nj,WG⟩:∃ ov,os[i]?=some ov/\p.1=.inl ov:=by
    have e:=congrArg (λl=>l[i]?) T7.keys
    simp only [Qd] at e
    rw [hp] at e
    cases q:os[i]? with
    | none=>rw [q] at e; cases e
    | some ov=>rw [q] at e; exact ⟨ov,rfl,Option.some.inj e⟩
   have gr:os.take (i+1)=os.take i++[ov]:=by rw [Je,Nj]; rfl
   have WJ:=T7.ow ov (Qe Nj)
   have s8:aD H6 (upd H7 jx (.gh o (.dK fs))):=s7.wr Dr
   have d8:=s8 _ _ d6
   have q8:=(u5.trans s8).d0 mh
   generalize upd H7 jx (.gh o (.dK fs))=H8 at s8 d8 q8
   rw [WG]
   refine aDP (decide (ov < n)) (decide (((hs.count ov:Nat):Int) < rs.getD ov.toNat 0)) (λR hR=>?_) (λh0 R hR=>?_) ?_
   ·exact ⟨_,rfl,_,rfl,_,_,rfl,rfl,_,rfl,hR⟩
   ·have YG:ov < n:=of_decide_eq_true h0
    exact ⟨_,rfl,.inl ⟨rfl,_,fh.of d8⟩,_,rfl,dl,hs,ov,rfl,rfl,fh.of d8,_,rfl,_,rfl,q,_,ov,_,rfl,rfl,q8,lg ov WJ.1 YG,_,_,rfl,rfl,_,rfl,hR⟩
   refine eK (λc=>?_) (λc=>?_)
   ·refine ⟨_,rfl,hsz,⟨_,rfl⟩,rfl,?_⟩
    rw [gr,Xb,Qo]
    congr 1
    rw [Xj (p:=λo=>decide (o < n) && decide (((hs.count o:Nat):Int) < rs.getD o.toNat 0)) (a:=ov) c]
    rfl
   ·refine ⟨⟨_,rfl⟩,rfl,?_⟩
    rw [gr,Xb,Xk (p:=λo=>decide (o < n) && decide (((hs.count o:Nat):Int) < rs.getD o.toNat 0)) (a:=ov) c]
    rw [List.filter_nil,Xq]
  ·rintro zq H8 ⟨rfl,rfl⟩ lp kz
   rw [Fo,Jj]
   generalize j7:(os.filter λo=>decide (o < n) && decide (((hs.count o:Nat):Int) < rs.getD o.toNat 0))=free
   have Gv:jx≠lp:=λz=>by rw [<- z,aB] at kz; cases kz
   have y9:H7 lp=none:=by rw [aG (Ne.symm Gv)] at kz; exact kz
   refine ⟨jx,o,fs,by rw [aG Gv,aB],nf,?_⟩
   have s8:aD H7 (upd (upd (upd H7 jx (.gh o (.dK fs))) lp (.lst (free.map V.int))) jx (.dK fs)):=λb u hb=>by
    by_cases Bb:b=jx
    ·rw [Bb] at hb ⊢
     rw [aB,<- e7]; exact hb
    ·rw [aG Bb,aG (λz=>by rw [z,y9] at hb; cases hb),aG Bb]
     exact hb
   have l8:(upd (upd (upd H7 jx (.gh o (.dK fs))) lp (.lst (free.map V.int))) jx (.dK fs)) lp=some (.lst (free.map V.int)):=by
    rw [aG (Ne.symm Gv),aB]
   generalize upd (upd (upd H7 jx (.gh o (.dK fs))) lp (.lst (free.map V.int))) jx (.dK fs)=H8 at s8 l8 ⊢
   have tj:=zw.trans s8
   have e8:=s8 _ _ e7
   have d8:=s8 _ _ d7
   have T8:=T7.tp (Tp.of s8)
   refine ⟨_,rfl,lp,_,rfl,.inl (fh.of l8),rfl,_,rfl,?_⟩
   rw [wV,Qa]
   refine eK (λc=>?_) (λc=>?_)
   ·have qr:free = []:=by
     cases free with
     | nil=>rfl
     | cons _ _ =>
      have:=eq_of_beq c
      rw [Ja] at this
      omega
    have Ln:∀ h∈os,0<=h->h < n->((hs.count h:Nat):Int)=rs.getD h.toNat 0:=λh ho h0 h1=>by
     rw [qr] at j7
     have h2:=List.filter_eq_nil_iff.mp j7 h ho
     rw [Jf,decide_eq_true_iff,decide_eq_true_iff] at h2
     have h3:=hle h h0 h1
     have:¬ ((hs.count h:Nat):Int) < rs.getD h.toNat 0:=λz=>h2 ⟨h1,z⟩
     omega
    have v_:AI n ws rs (kR n hs) (pG n os):=by
     refine ⟨⟨by unfold kR; rw [Qa]; exact hh.1,λj h l e1 e2=>?_,λi hi=>?_⟩,aDR n os,λx hx=>(uL.mp hx).1,?_⟩
     ·unfold kR at e1
      rw [Qd] at e1
      cases e3:hs[j]? with
      | none=>rw [e3] at e1; cases e1
      | some y =>
       rw [e3] at e1
       have e4:(if y < n then some y else none)=some h:=Option.some.inj e1
       by_cases hy:y < n
       ·rw [if_pos hy] at e4
        have:=Option.some.inj e4
        subst this
        rcases hh.2 j y e3 with e5 | ⟨l',e5,e6⟩
        ·omega
        ·rw [e2] at e5; cases e5; exact e6
       ·rw [if_neg hy] at e4; cases e4
     ·have vh:(i:Int) < n:=by have:=t8.1; omega
      rw [aDS vh]
      have:=hle i (by omega) vh
      rwa [Jc] at this
     ·rw [aDT λh hm=>by have:=y4 h hm; omega]
      exact aGW (by omega) GX hh C7 Lc Ln
    refine ⟨_,rfl,n,rfl,by omega,by omega,gK (lo:=0) (n:=n.toNat) (λσ=>∃ v,σ = [v,some (.ref jx)]) (λi zs H9=>H9=H8/\zs=(((cW n.toNat).take i).filter λh=>decide (h∈os)).map V.int) (eG (by omega)) ⟨_,rfl⟩ ⟨rfl,rfl⟩ (λi zs H9 z=>?_) ?_ ?_⟩
    ·rw [z.2,Qa]
     exact Jd (Xd _ _) (by rw [Qq]; omega)
    ·rintro i zq σ H9 hi ⟨v,rfl⟩ ⟨rfl,rfl⟩ hsz
     rw [show (0:Int)+(i:Int)=(i:Int) by omega]
     have hu:(cW n.toNat)[i]?=some (i:Int):=by unfold cW; rw [Qd,Xh hi]; rfl
     have gr:(cW n.toNat).take (i+1)=(cW n.toNat).take i++[(i:Int)]:=by rw [Je,hu]; rfl
     refine ⟨_,rfl,_,rfl,jx,_,rfl,sT.k (k:=.inl (i:Int)) e8,_,rfl,?_⟩
     rw [rX T8.keys]
     refine eK (λc=>?_) (λc=>?_)
     ·refine ⟨_,rfl,hsz,⟨_,rfl⟩,rfl,?_⟩
      rw [gr,Xb,Qo,Xj (p:=λh=>decide (h∈os)) (a:=(i:Int)) c]
      rfl
     ·refine ⟨⟨_,rfl⟩,rfl,?_⟩
      rw [gr,Xb,Xk (p:=λh=>decide (h∈os)) (a:=(i:Int)) c,List.filter_nil,Xq]
    ·rintro zq H9 ⟨rfl,rfl⟩ lq Dj
     rw [Jb (show (cW n.toNat).length<=n.toNat by unfold cW; rw [Qa,Xe]; exact Qh _)]
     show _
     refine ⟨lq,_,rfl,.inl ⟨fh.of aB,λsp oa=>?_⟩⟩
     have s9:=(aD.new (o:=.lst ((pG n os).map V.int)) Dj).trans (aD.new (o:=.tup ((pG n os).map V.int)) oa)
     have p9:upd (upd H9 lq (.lst ((pG n os).map V.int))) sp (.tup ((pG n os).map V.int)) sp=some (.tup ((pG n os).map V.int)):=aB
     have d9:=s9 _ _ d8
     have tf:=tj.trans s9
     unfold pG at v_ p9 s9 d9 tf
     generalize ((cW n.toNat).filter λh=>decide (h∈os))=ls at v_ p9 s9 d9 tf ⊢
     generalize upd (upd H9 lq (.lst (ls.map V.int))) sp (.tup (ls.map V.int))=uy at p9 s9 d9 tf ⊢
     refine ⟨_,rfl,dl,rfl,⟨_,fh.of d9⟩,vS (K:=K) (a:=dl) (xs:=hs.map V.int) (λσ=>∃ v,σ = [v,some (.int n)]) (λi zs As=>As=uy/\zs=(kR n (hs.take i)).map oV) (eG (by rw [Qa,hh.1]; omega)) ⟨_,rfl⟩ ⟨rfl,rfl⟩ (λi zs As z=>?_) (λi zs As z=>by rw [z.1]; exact fh.of d9) ?_ ?_⟩
     ·rw [z.2,Qa]
      unfold kR
      rw [Qa,Qq]; omega
     ·rintro i zq σ y As hy ⟨v,rfl⟩ ⟨rfl,rfl⟩ hsz
      rw [Qd] at hy
      obtain ⟨t,ht,rfl⟩:∃ t,hs[i]?=some t/\V.int t=y:=by
       cases z:hs[i]? with
       | none=>rw [z] at hy; cases hy
       | some t=>rw [z] at hy; exact ⟨t,rfl,Option.some.inj hy⟩
      have gr:kR n (hs.take (i+1))=kR n (hs.take i)++[if t < n then some t else none]:=by
       unfold kR
       rw [Je,ht,Qo]; rfl
      refine cQ ?_
      refine ⟨_,rfl,_,rfl,_,_,rfl,rfl,_,rfl,?_⟩
      refine eK (λc=>?_) (λc=>?_)
      ·refine ⟨_,rfl,hsz,⟨_,rfl⟩,rfl,?_⟩
       rw [gr,if_pos (of_decide_eq_true c),Qo]
       rfl
      ·refine ⟨hsz,⟨_,rfl⟩,rfl,?_⟩
       rw [gr,if_neg (λz=>c (decide_eq_true z)),Qo]
       rfl
     ·rintro zq As ⟨rfl,rfl⟩ lr Lj
      rw [Jb (show hs.length<=(hs.map V.int).length by rw [Qa]; exact Qh _)]
      refine ⟨lr,_,rfl,.inl ⟨fh.of aB,λdp A'=>?_⟩⟩
      have s_:=(aD.new (o:=.lst ((kR n hs).map oV)) Lj).trans (aD.new (o:=.tup ((kR n hs).map oV)) A')
      have MQ:upd (upd As lr (.lst ((kR n hs).map oV))) dp (.tup ((kR n hs).map oV)) dp=some (.tup ((kR n hs).map oV)):=aB
      generalize upd (upd As lr (.lst ((kR n hs).map oV))) dp (.tup ((kR n hs).map oV))=H12 at s_ MQ ⊢
      refine ⟨_,rfl,qm _ _,λp hp=>?_⟩
      have mq:=aD.new (o:=.tup [.ref dp,.ref sp]) hp
      exact k p dp sp _ ls _ (s1.trans (tf.trans (s_.trans mq))) aB (mq _ _ MQ) ((s_.trans mq) _ _ p9) v_
   ·cases free with
    | nil=>exact absurd rfl c
    | cons t0 fr =>
     have Fc:t0∈os/\t0 < n/\((hs.count t0:Nat):Int) < rs.getD t0.toNat 0:=by
      have:=Xa.mp (show t0∈os.filter _ by rw [j7]; exact Qi ..)
      rw [Jf,decide_eq_true_iff,decide_eq_true_iff] at this
      exact this
     obtain ⟨jl,ue⟩:=Qu.mp Fc.1
     have W_:0 < jl:=by
      rcases Yu jl with z | z
      ·rw [z,T7.head] at ue
       have:=Option.some.inj ue
       omega
      ·exact z
     refine ⟨_,rfl,_,rfl,lp,_,0,.int t0,rfl,rfl,fh.of l8,bZ (j:=0) rfl,jx,t0,fs,os,n,n+1,ws,hs,jl,rfl,e8,T8,by omega,ue,λsp H9 ps ss s9 oa Cc S9 P9 N9 in9 ne9=>?_⟩
     have tf:=tj.trans s9
     have d9:=s9 _ _ d8
     have VI:dl≠sp:=λz=>by rw [z,oa] at d8; cases d8
     have ff:∀ s∈ss,s.1 < hs.length:=λs hs'=>by
      obtain ⟨h1,_⟩:=nO P9 s hs'
      exact (Qb.mp h1).1
     refine ⟨sp,rfl,⟨_,fh.of Cc⟩,sE (K:=K) (a:=sp) (xs:=ps.map V.ref) (λj σ uy=>∃ (v7 v8 v9:Option V),σ = [some (.ref a),some (.ref q),some (.int n),some (.ref b),some (.ref dl),some (.ref jx),some (.ref lp),v7,v8,v9,v10]/\aD H1 uy/\uy sp=some (.lst (ps.map V.ref))/\fq uy ps ss/\uy dl=some (.lst ((eD hs (ss.take j)).map V.int)))
      ⟨_,_,_,rfl,tf,Cc,S9,d9⟩ (λj σ uy _ ⟨_,_,_,_,_,h,_⟩=>fh.of h) ?_ ?_⟩
     ·rintro j pv σ uy Dg ⟨v7,v8,v9,rfl,n_,EY,D2,Bi⟩
      rw [Qd] at Dg
      obtain ⟨p,hp,rfl⟩:∃ p,ps[j]?=some p/\V.ref p=pv:=by
       cases z:ps[j]? with
       | none=>rw [z] at Dg; cases Dg
       | some p=>rw [z] at Dg; exact ⟨p,rfl,Option.some.inj Dg⟩
      have W7:j < ss.length:=by rw [<- D2.len]; exact (Qb.mp hp).1
      have es:ss[j]?=some ss[j]:=Qc W7
      generalize ss[j]=s at es
      have K':=D2.at_ j p s hp es
      have G2:=ff s (Qe es)
      refine ⟨p,_,rfl,d_.of K',rfl,_,_,rfl,_,_,rfl,_,_,rfl,rfl,?_⟩
      refine ⟨_,rfl,_,rfl,_,rfl,dl,_,(s.1:Int),s.1,rfl,rfl,Bi,?_,?_⟩
      ·have:=P5 (n:=((eD hs (ss.take j)).map V.int).length) (k:=(s.1:Int)) (by omega) (by rw [Qa,kA]; omega)
       rwa [Jc] at this
      ·refine ⟨_,_,_,rfl,n_.wr Lp,by rw [aG (Ne.symm VI)]; exact EY,D2.tp (Tp.upd λxs z=>by rw [Bi] at z; cases z),?_⟩
       rw [aB,Je,es]
       show _=some (HO.lst ((eD hs (ss.take j++[s])).map V.int))
       rw [aBV,List.map_set]
     ·rintro σ uy ⟨v7,v8,v9,rfl,n_,EY,D2,Bi⟩
      rw [Qa,D2.len,Jj] at Bi
      have gc:=nM ss P9 N9
      have XT:=gc n
      rw [if_pos rfl,if_neg (show ¬ n=t0 by omega)] at XT
      refine ⟨_,by show (eD hs ss).count n < hs.count n; omega,_,_,_,_,_,_,eD hs ss,rfl,rfl,n_,Bi,⟨by rw [kA]; exact hh.1,wM ss hs hh.2 λs hs'=>?_⟩,λh h0 h1=>?_⟩
      ·obtain ⟨_,l,e1,e2,_⟩:=nO P9 s hs'
       exact .inr ⟨l,e1,e2⟩
      ·have g1:=gc h
       rw [if_neg (show ¬ h=n by omega)] at g1
       have g2:=hle h h0 h1
       have g3:=Fc.2.2
       by_cases e:h=t0
       ·rw [if_pos e] at g1
        rw [<- e] at g3
        omega
       ·rw [if_neg e] at g1
        omega
noncomputable def cnt (hs:List Int) (h:Int):Int:=((hs.count h:Nat):Int)
noncomputable def Am (f:Int->Int):List Int->Int
 | []=>0
 | x::r=>if r.all (λy=>decide (f x<=f y)) then x else Am f r
theorem RQ {f:Int->Int}:∀ {ns:List Int} {j:Nat} {m:Int},ns[j]?=some m->(∀ n∈ns,f m<=f n)->(∀ (l:Nat) (n:Int),l < j->ns[l]?=some n->f m < f n)->Am f ns=m
 | [],j,m,h,_,_=>by simp at h
 | x::r,0,m,h,h1,_=>by
  have e:x=m:=by simpa using h
  subst e
  unfold Am
  rw [if_pos (Qy.mpr λy hy=>decide_eq_true (h1 y (Qg _ hy)))]
 | x::r,j+1,m,h,h1,h2=>by
  have h':r[j]?=some m:=by simpa using h
  have hx:=h2 0 x (by omega) rfl
  unfold Am
  rw [if_neg (λz=>by have:=of_decide_eq_true (Qy.mp z m (Qe h')); omega)]
  exact RQ h' (λn hn=>h1 n (Qg _ hn)) λl n hl hn=>h2 (l+1) n (by omega) (by simpa using hn)
noncomputable def pH (hs:List Int) (l:List Int):List Int:=hs++[Am (cnt hs) l]
noncomputable def gS (ws:List (List Int)):List Int:=ws.foldl pH []
theorem aA0 (ws:List (List Int)) (l:List Int):gS (ws++[l])=gS ws++[Am (cnt (gS ws)) l]:=by
 unfold gS
 rw [Xn]
 rfl
theorem aA1 (h:ws[i]?=some l):gS (ws.take (i+1))=gS (ws.take i)++[Am (cnt (gS (ws.take i))) l]:=by
 rw [Je,h]
 exact aA0 _ _
theorem aBW:∀ (us:List (List Int)),(gS us).length=us.length:=by
 have:∀ (us:List (List Int)) (hs:List Int),(us.foldl pH hs).length=hs.length+us.length:=by
  intro us
  induction us with
  | nil=>intro hs; rfl
  | cons l us ih =>
   intro hs
   show (us.foldl pH (pH hs l)).length=_
   rw [ih]
   unfold pH
   simp only [Qj,Ja,Xx]
   omega
 intro us
 have h:=this us []
 rw [Xx,Qat] at h
 exact h
noncomputable def Cw:ax:=("as_they_come" : ax) ++ ".<locals>." ++ "<lambda>"
theorem QC {h:Int} (h0:0<=h) (h1:h < n):(aJ n hs)[h.toNat]?=some (cnt hs h):=by
 rw [gM (by omega),show ((h.toNat:Nat):Int)=h by omega]
 rfl
def QB (K:Rc) (Pt:ae):Sp:=λvs H Q _=>∃ (x:V) (n:Int) (ws:List (List Int)),vs = [x]/\Den K H (bB n ws) x/\bD (bB n ws)=true/\H Pt=some (.tab Cw)/\∀ (p:ae) H',aD H H'->H' p=some (.tup ((gS ws).map V.int))->Q (.ref p) H'
theorem uM:dz ["book", "many", "deal", "able", "hand"] ["book"] (aF FT):=.of
theorem aGX (G:Fn K mg "as_they_come" FT ["book"] f fd) (hc:fd.code=.ref c) (Z:Lm K mg base c Pt) (B:Bl mg) (R:Pr K mg fW fH fK fB jn fD jy fL dW dH dK dB jo dD jz dL):c_ P w K mg base fc 5 f fd ["book"] (QB K Pt):=by
 have D6:c_ P w K mg base fc 4 jn jo ["book"] (oR K):=oS B R
 refine G.fn.MR hc uM (λvs H Q E h=>?_) (λA outer s H vs Q E hr h=>?_)
 ·obtain ⟨x,n,ws,rfl,_⟩:=h
  rfl
 ·obtain ⟨x,n,ws,rfl,hx,i6,hT,k⟩:=h
  have r4:ee 4 _:=hr
  have r1:ee 1 _:=hr.mono (by decide)
  refine ⟨_,(aE (dJ (aX R.NB D6 r4 rfl (aA (pv 0) aC)))
  (aE (bA (i:=1) uM.nd rfl (Or.inr rfl) (cR QK (eO (aA aK aC)) (bC bQ (pv 0) aK il)))
  (aE (bA (i:=2) uM.nd rfl fi (eO aC))
  (aE (eJ az.never rfl (eI (bC bQ (pv 0) aK il)) (aI (i:=3) uM.nd rfl fi)
   (aE (bA (i:=4) uM.nd rfl fi (vY 1 rfl r1 rfl B.min Z rfl (q:=Cw) rfl (pv 3) rfl rfl))
  (aE (aF6 (pv 1) (pv 4) aE5 aK QS sL)
  (aH (dJ (mP Rt Rz Ta gJ (pv 2) (aA (pv 4) aC)))))))
  (aH (aN (cK bR rfl B.tuple cM (aA (pv 2) aC)))))))),?_⟩
  obtain ⟨mi,km,iz,ip⟩:=aT i6
  refine ⟨_,rfl,x,bB n ws,rfl,hx,i6,λH1 s1=>?_⟩
  obtain ⟨a,b,ys,rfl,ha,ia,ij⟩:=cI (s1.den _ _ hx)
  have jt:=aP ij
  rw [Qa] at jt
  refine ⟨um _,λz hz=>⟨_,rfl,a,_,0,.int n,rfl,rfl,(aD.new hz).d0 ha,rfl,z,n,_,rfl,rfl,aB,by omega,by omega,eG (by simp; omega),λmp Cd=>?_⟩⟩
  have s2:=s1.trans (aD.new (o:=.lst [V.int 0]) hz)
  have s_:=aD.new (o:=.lst [V.int 0]) hz
  generalize upd H1 z (.lst [V.int 0])=H2 at s2 s_ Cd ⊢
  rw [aBF]
  have Lg:H1 mp=none:=s_.free Cd
  have mq:=s_.trans (aD.new (o:=.lst ((aJ n []).map V.int)) Cd)
  have m3:upd H2 mp (.lst ((aJ n []).map V.int)) mp=some (.lst ((aJ n []).map V.int)):=aB
  generalize upd H2 mp (.lst ((aJ n []).map V.int))=H3 at mq m3 ⊢
  refine ⟨eG (show 0<=1000 by decide),λdl jk=>?_⟩
  have Lq:H1 dl=none:=mq.free jk
  have MU:mp≠dl:=λz=>by rw [z,jk] at m3; cases m3
  have sx:=mq.trans (aD.new (o:=.lst []) jk)
  have m4:=(aD.new (o:=.lst []) jk) _ _ m3
  have d4:upd H3 dl (.lst []) dl=some (.lst []):=aB
  generalize upd H3 dl (.lst [])=H4 at sx m4 d4 ⊢
  refine ⟨_,rfl,a,_,1,.ref b,rfl,rfl,sx.d0 ha,rfl,b,rfl,⟨_,sx.d0 ia⟩,nV (K:=K) (a:=b) (xs:=ys) (λi σ H5=>∃ (v3 v4:Option V),σ = [some (.ref a),some (.ref mp),some (.ref dl),v3,v4]/\aD H1 H5/\H5 mp=some (.lst ((aJ n (gS (ws.take i))).map V.int))/\H5 dl=some (.lst ((gS (ws.take i)).map V.int)))
   ⟨_,_,rfl,sx,m4,d4⟩ (λi σ H5 _ ⟨_,_,_,s5,_⟩=>s5.d0 ia) ?_ ?_⟩
  ·rintro i u σ H5 hu ⟨v3,v4,rfl,s5,m5,d5⟩
   obtain ⟨dv,gk,i4⟩:=cD ij hu
   rw [Qd] at gk
   obtain ⟨l,hl,rfl⟩:∃ l,ws[i]?=some l/\bY l=dv:=by
    cases q:ws[i]? with
    | none=>rw [q] at gk; cases gk
    | some l=>rw [q] at gk; exact ⟨l,rfl,Option.some.inj gk⟩
   obtain ⟨aw,rfl,qw⟩:=aR.mp i4
   obtain ⟨l0,l1,l2⟩:=aZ (ip l (Qe hl))
   have Ej:i < 12:=by have:=(Qb.mp hl).1; omega
   have A9:(gS (ws.take i)).length=i:=by rw [aBW,Qq]; have:=(Qb.mp hl).1; omega
   rw [aA1 hl]
   generalize gS (ws.take i)=hs at m5 d5 A9
   refine ⟨_,rfl,l,λo=>cnt hs o,.ref mp,⟨aw,rfl,.inr (.inl (s5.d0 qw))⟩,Zj.mpr l0,(s1.trans s5) _ _ hT,rfl,λo ho=>?_,λj m H6 s6 hj q_ Lo=>?_⟩
   ·obtain ⟨o0,o1⟩:=l1 o ho
    refine ⟨o0,by omega,mp,_,rfl,.inr (fh.of m5),?_⟩
    rw [Qd,QC o0 o1]
    rfl
   have em:Am (cnt hs) l=m:=RQ hj q_ Lo
   obtain ⟨q0,q1⟩:=l1 m (Qe hj)
   have m6:=s6 _ _ m5
   have d6:=s6 _ _ d5
   have Fl:tu ((aJ n hs).map V.int).length m=some m.toNat:=by
    rw [Qa,bI]
    unfold tu
    rw [if_pos q0,if_pos (by omega)]
   refine ⟨_,rfl,_,rfl,mp,_,m,.int (cnt hs m),rfl,rfl,fh.of m6,q0,by rw [Qd,QC q0 q1]; rfl,?_⟩
   refine ⟨_,_,rfl,rfl,mp,_,m,m.toNat,rfl,rfl,m6,Fl,?_⟩
   have e7:((aJ n hs).map V.int).set m.toNat (.int (cnt hs m+1))=(aJ n (hs++[m])).map V.int:=aAE q0 q1
   rw [e7]
   have s7:=(s5.trans s6).wr (u:=.lst ((aJ n (hs++[m])).map V.int)) Lg
   have m7:upd H6 mp (.lst ((aJ n (hs++[m])).map V.int)) mp=some (.lst ((aJ n (hs++[m])).map V.int)):=aB
   have d7:upd H6 mp (.lst ((aJ n (hs++[m])).map V.int)) dl=some (.lst (hs.map V.int)):=by rw [aG (Ne.symm MU)]; exact d6
   generalize upd H6 mp (.lst ((aJ n (hs++[m])).map V.int))=H7 at s7 m7 d7 ⊢
   refine ⟨_,rfl,.inl ⟨rfl,_,fh.of d7⟩,_,rfl,dl,_,_,rfl,rfl,d7,by rw [Qa,Rf]; omega,?_⟩
   refine ⟨_,_,rfl,s7.wr Lq,by rw [aG MU,em]; exact m7,by rw [aB,Qo,em]; rfl⟩
  ·rintro σ H5 ⟨v3,v4,rfl,s5,m5,d5⟩
   rw [Jb (show ws.length<=ys.length by omega)] at d5
   refine ⟨_,rfl,dl,_,rfl,.inl ⟨fh.of d5,λp hp=>?_⟩⟩
   exact k p _ (s1.trans (s5.trans (aD.new hp))) aB
def RP (K:Rc):Sp:=λvs H Q _=>∃ x y n ws hs,vs = [x,y]/\dQ K H x y n ws hs/\∀ H',aD H H'->Q (.int (aH3 n hs)) H'
theorem aGY:dz ["book", "deal"] ["book", "deal"] (aF tG):=.of
theorem aFR (G:Fn K mg "waits" tG ["book", "deal"] f fd) (B:Bl mg) (R:Pr K mg fW fH fK fB jn fD jy fL dW dH dK dB jo dD jz dL):c_ P w K mg base fc 8 f fd ["book", "deal"] (RP K):=by
 have OL:c_ P w K mg base fc 7 fL dL ["book", "deal"] (kK K):=jW B R
 refine G.fn.oK aGY λft A outer s H vs Q E hr h=>?_
 ·obtain ⟨x,y,n,ws,hs,rfl,g,k⟩:=h
  refine ⟨_,aH (aN (aO (zN rfl) rfl B.sum JK (aA
    (bX (own:=["load"]) (fr:=[]) (fm:=[]) (aY (aF tG) ["book", "deal"] rfl rfl (by decide +kernel)) rfl (eI (aX R.L OL hr rfl (aA (pv 0) (aA (pv 1) aC))))
     (λ_ _ _ _=>aI (i:=0) (show (["load"]:List ax).Nodup by decide +kernel) rfl fi) (λ_ _ _ _=>cP)
     (λ_ _ _ _=>cR wU (cR X! (pv 0) (cR kZ (pv 0) aK)) aK)) aC))),?_⟩
  obtain ⟨hl,mi,km⟩:=g.len
  refine ⟨_,rfl,_,rfl,x,y,n,ws,hs,rfl,g,λp H1 s1 hp=>?_⟩
  refine ⟨p,rfl,⟨_,d_.of hp⟩,hV (K:=K) (a:=p) (xs:=(aJ n hs).map V.int) (λσ=>∃ v,σ = [v]) (λi zs H2=>H2=H1/\zs=(((aJ n hs).take i).map λl=>l*(l+1) / 2).map V.int) ?_ ⟨none,rfl⟩ ⟨rfl,rfl⟩ ?_ ?_ ?_ ?_⟩
  ·rw [Qa,bI,Rf]; omega
  ·rintro i zs H2 ⟨_,rfl⟩
   rw [Qa,Qa,Qq]; omega
  ·rintro i zs H2 ⟨rfl,_⟩
   exact d_.of hp
  ·rintro i zs σ x H2 hx ⟨v,rfl⟩ ⟨rfl,rfl⟩ hz
   rw [Qd] at hx
   obtain ⟨l,Hh,rfl⟩:∃ l,(aJ n hs)[i]?=some l/\V.int l=x:=by
    cases q:(aJ n hs)[i]? with
    | none=>rw [q] at hx; cases hx
    | some l=>rw [q] at hx; exact ⟨l,rfl,Option.some.inj hx⟩
   have hb:=oU (Qe Hh)
   refine cQ ?_
   refine ⟨_,rfl,_,rfl,_,_,rfl,rfl,_,_,rfl,rfl,.inl ⟨by omega,by omega⟩,_,_,rfl,rfl,⟨by decide,by decide⟩,hz,⟨_,rfl⟩,rfl,?_⟩
   rw [Je,Hh]
   simp
  ·rintro zs H2 ⟨rfl,rfl⟩ q hq
   refine ⟨q,_,rfl,fh.of aB,λm hm=>?_,?_,?_⟩
   ·obtain ⟨l,xb,rfl⟩:=Qv.mp hm
    have hb:=oU (Xl xb)
    have h0:0<=l*(l+1):=Int.mul_nonneg hb.1 (by omega)
    have h1:l*(l+1)<=12*13:=Int.mul_le_mul (by omega) (by omega) (by omega) (by omega)
    omega
   ·rw [Qa,Qq,bI]; omega
   ·have e:((aJ n hs).take ((aJ n hs).map V.int).length)=aJ n hs:=by rw [Qa,Jj]
    rw [e]
    exact k _ (s1.trans (aD.new hq))
def Pw (K:Rc):Sp:=λvs H Q _=>∃ x y1 y2 n ws h1 h2,vs = [x,y1,y2]/\dQ K H x y1 n ws h1/\dQ K H x y2 n ws h2 /\
 ∀ H' ms ys,aD H H'->ms.Perm (aJ n h1)->ms.Pairwise (·≥·)->ys.Perm (aJ n h2)->ys.Pairwise (·≥·)->Q (.bl (eP ms ys)) H'
theorem D0:dz ["book", "one", "other", "spare", "mine", "yours"] ["book", "one", "other"] (aF FN):=.of
theorem r? (G:Fn K mg "no_less_even" FN ["book", "one", "other"] f fd) (B:Bl mg) (R:Pr K mg fW fH fK fB jn fD jy fL dW dH dK dB jo dD jz dL) {fF:ae} {dF:bo} (ql:Fn K mg "falling" iT ["book", "deal"] fF dF):c_ P w K mg base fc 9 f fd ["book", "one", "other"] (Pw K):=by
 have OF:c_ P w K mg base fc 8 fF dF ["book", "deal"] (iM K):=kM ql B R
 refine G.fn.oK D0 λft A outer s H vs Q E hr h=>?_
 ·obtain ⟨x,y1,y2,n,ws,h1,h2,rfl,g1,g2,k⟩:=h
  refine ⟨_,aE (bA (i:=3) D0.nd rfl fi aK)
   (aE (eJ az.never rfl (nH .l .l rfl B.zip (aA (aX ql OF hr rfl (aA (pv 0) (aA (pv 1) aC))) (aA (aX ql OF hr rfl (aA (pv 0) (aA (pv 2) aC))) aC))) (dO rfl (aM (aI (i:=4) D0.nd rfl fi) (aM (aI (i:=5) D0.nd rfl fi) bV)))
    (aE (H? (i:=3) D0.nd rfl fi (cR sF (pv 5) (pv 4)) QS)
    (aH (bU (aU yY (pv 3) aK gm) (aH (aN bP)) aW))))
   (aH (aN bP))),?_⟩
  refine ⟨_,rfl,_,rfl,x,y1,n,ws,h1,rfl,g1,λp1 H1 ms s1 _ js MN U4=>⟨_,rfl,_,rfl,x,y2,n,ws,h2,rfl,g2.same s1,λp2 H2 ys s2 _ oh MM U3=>?_⟩⟩
  have s_:=s1.trans s2
  have y8:=s2 _ _ js
  have xc:ms.length=n.toNat:=by rw [MN.length_eq,bI]
  have xb:ys.length=n.toNat:=by rw [MM.length_eq,bI]
  have k':∀ H',aD H H'->Q (.bl (eP ms ys)) H':=λH' s'=>k H' ms ys s' MN U4 MM U3
  refine ⟨p1,p2,ms.map V.int,ys.map V.int,rfl,fh.of y8,fh.of oh,xI (K:=K) (k1:=.l) (k2:=.l) (a:=p1) (b:=p2) (xs:=ms.map V.int) (ys:=ys.map V.int) (λi σ H3=>∃ v4 v5,σ = [some x,some y1,some y2,some (.int (aL (ys.take i) - aL (ms.take i))),v4,v5]/\aD H2 H3/\∀ j,j<=i->aL (ms.take j)<=aL (ys.take j))
   (by rw [Qa,Qa,xc,xb]) ⟨none,none,rfl,aD.refl _,λj hj=>by rw [Nat.le_zero.mp hj]; exact Js _⟩ (λi σ H3 _ ⟨_,_,_,s3,_⟩=>⟨s3.iy (fh.of y8),s3.iy (fh.of oh)⟩) ?_ ?_⟩
  ·rintro i u v p σ H3 hu hv ⟨v4,v5,rfl,s3,hle⟩ hp
   obtain ⟨m,hm,rfl⟩:=qH hu
   obtain ⟨y,hy,rfl⟩:=qH hv
   have s4:aD H (upd H3 p (.tup [.int m,.int y])):=(s_.trans s3).trans (aD.new hp)
   have hi:i < ms.length:=(Qb.mp hm).1
   refine ⟨p,_,rfl,d_.of aB,rfl,_,_,rfl,_,_,rfl,rfl,?_⟩
   refine ⟨_,rfl,_,rfl,_,rfl,_,_,rfl,rfl,_,_,rfl,rfl,?_⟩
   have e1:=tY hm
   have e2:=tY hy
   have e:(aL (ys.take i) - aL (ms.take i))+(y - m)=aL (ys.take (i+1)) - aL (ms.take (i+1)):=by omega
   refine ⟨_,rfl,_,_,rfl,rfl,_,rfl,?_⟩
   refine eK (λc=>?_) (λc=>?_)
   ·have c':(aL (ys.take i) - aL (ms.take i))+(y - m) < 0:=of_decide_eq_true c
    have e3:false=eP ms ys:=(yJ (k:=i+1) (by omega) (by omega)).symm
    show Q (.bl false) _
    rw [e3]
    exact k' _ s4
   ·have c':¬ (aL (ys.take i) - aL (ms.take i))+(y - m) < 0:=λz=>c (decide_eq_true z)
    refine ⟨some (.int m),some (.int y),by rw [<- e]; rfl,s3.trans (aD.new hp),λj hj=>?_⟩
    by_cases z:j<=i
    ·exact hle j z
    ·rw [show j=i+1 by omega]
     omega
  ·rintro σ H3 ⟨v4,v5,rfl,s3,hle⟩
   have e:true=eP ms ys:=(rD λj hj=>hle j (by rw [Qa]; exact hj)).symm
   show Q (.bl true) _
   rw [e]
   exact k' _ (s_.trans s3)
noncomputable def DZ (hs:List Int) (L:List (List Int)):Bool:=decide (2<=((hs.count (jP (L.headD [])):Nat):Int) - ((hs.count (qB (L.getLastD [])):Nat):Int))
theorem aBX {L:List (List Int)} (h:L≠[]):∃ z,L.getLast?=some z/\L[L.length - 1]?=some z:=⟨L.getLast h,List.getLast?_eq_getLast h,by rw [List.getLast_eq_getElem]; exact Qc _⟩
def J4 (K:Rc):Sp:=λvs H Q _=>∃ x y p xs n ws hs L,vs = [x,y,.ref p]/\yk K H x y p xs n ws hs L/\mM ws hs L=true/\∀ H',aD H H'->Q (.bl (DZ hs L)) H'
theorem wN:dz ["book", "deal", "some", "many"] ["book", "deal", "some"] (aF oJ):=.of
theorem wO {h:Int} (h0:0<=h) (h1:h < n):(aJ n hs)[h.toNat]?=some ((hs.count h:Nat):Int):=by
 unfold aJ
 rw [Qd,oT (show h.toNat < n.toNat by omega)]
 show some (((hs.count ((h.toNat:Nat):Int):Nat)):Int)=_
 rw [show ((h.toNat:Nat):Int)=h by omega]
theorem SV {x:V} {kk gg tt:Int} (g:dQ K H x y n ws hs) (h:eY ws hs [kk,gg,tt]=true):(0<=gg/\gg < n)/\0<=tt/\tt < n:=by
 obtain ⟨k0,k1,e,_,hm⟩:=rC h
 obtain ⟨_,_,_,ip⟩:=aT g.2.1
 obtain ⟨jk,_⟩:=aV g.2.2.2
 refine ⟨g.hand e,?_⟩
 have ff:kk.toNat < ws.length:=by omega
 have e1:ws.getD kk.toNat []=ws[kk.toNat]:=by rw [Qn,Qc ff]; rfl
 rw [e1] at hm
 exact (aZ (ip _ (Jr ff))).2.1 tt hm
theorem r! {L:List (List Int)} (hw:mM ws hs L=true):L≠[]:=λz=>by subst z; cases hw
theorem aBZ (G:Fn K mg "betters" oJ ["book", "deal", "some"] f fd) (B:Bl mg) (R:Pr K mg fW fH fK fB jn fD jy fL dW dH dK dB jo dD jz dL) (Kh:Fn K mg "need_way" tH ["book", "deal", "some"] fN dN) (CD:c_ P w K mg base fc 8 fN dN ["book", "deal", "some"] (rZ K)):c_ P w K mg base fc 9 f fd ["book", "deal", "some"] (J4 K):=by
 have OL:c_ P w K mg base fc 7 fL dL ["book", "deal"] (kK K):=jW B R
 refine G.fn.oK wN λft A outer s H vs Q E hr h=>?_
 ·obtain ⟨x,y,p,xs,n,ws,hs,L,rfl,hi,hw,k⟩:=h
  have r8:ee 8 _:=hr
  have r7:ee 7 _:=hr.mono (by decide)
  refine ⟨_,(aE (dJ (aX Kh CD r8 rfl (aA (pv 0) (aA (pv 1) (aA (pv 2) aC)))))
  (aE (bA (i:=3) wN.nd rfl fi (aX R.L OL r7 rfl (aA (pv 0) (aA (pv 1) aC))))
  (aH (aN (dX yZ (cR sF (bC bQ (pv 3) (bC bQ (bC gU (pv 2) aK il) aK il) (λ_ _=>rfl)) (bC bQ (pv 3) (bC bQ (bC gU (pv 2) (JQ J3 aK) (λ_ _=>rfl)) aK il) (λ_ _=>rfl))) aK gm))))),?_⟩
  refine ⟨_,rfl,_,rfl,_,rfl,x,y,p,xs,n,ws,hs,L,rfl,hi,hw,λH1 s1=>?_⟩
  have oy:=hi.same s1
  refine ⟨_,rfl,_,rfl,x,y,n,ws,hs,rfl,oy.1,λq H2 s2 e2=>?_⟩
  have qq:=oy.same s2
  have uq:=aP hi.2.2.1
  rw [Qa] at uq
  have f':=r! hw
  have vw:=Zj.mpr f'
  obtain ⟨c,kk,gg,tt,eu,el,hc,ku⟩:=qq.AV hw (Qc (l:=xs) (i:=0) (by omega))
  obtain ⟨c',xq,YH,EG,Y6,OZ,fu,BG⟩:=qq.AV hw (Qc (l:=xs) (i:=xs.length - 1) (by omega))
  obtain ⟨⟨g0,g1⟩,_⟩:=SV qq.1 ku
  obtain ⟨_,t0,t1⟩:=SV qq.1 BG
  have eb:DZ hs L=decide (2<=((hs.count gg:Nat):Int) - ((hs.count EG:Nat):Int)):=by
   have h1:L.headD [] = [kk,gg,tt]:=by
    cases L with
    | nil=>exact absurd rfl f'
    | cons s r=>exact Option.some.inj el
   have h2:L.getLastD [] = [xq,YH,EG]:=by
    obtain ⟨z,z1,z2⟩:=aBX f'
    rw [uq] at OZ
    rw [OZ] at z2
    rw [List.getLastD_eq_getLast?,z1,<- Option.some.inj z2]
    rfl
   unfold DZ
   rw [h1,h2]
   rfl
  rw [eb] at k
  refine ⟨_,rfl,_,rfl,p,xs,0,.ref c,rfl,rfl,qq.2.1,bZ (j:=0) (by rw [Qc (show 0 < xs.length by omega),eu]),c,_,1,.int gg,rfl,rfl,hc,rfl,q,_,gg,_,rfl,rfl,d_.of e2,tQ g0 (wO g0 g1),
   _,rfl,_,rfl,1,rfl,p,xs,_,.ref c',rfl,rfl,qq.2.1,aFo (by rw [Qc (by omega),Y6]),c',_,2,.int EG,rfl,rfl,fu,rfl,q,_,EG,_,rfl,rfl,d_.of e2,tQ t0 (wO t0 t1),_,_,rfl,rfl,_,_,rfl,rfl,?_⟩
  exact k H2 (s1.trans s2)
theorem d?:ay "any" = some (.builtin "any"):=by decide +kernel
theorem qQ {as:List α} {bs:List β} {f:α×β->Bool} (h:∀ (j:Nat) a b,as[j]?=some a->bs[j]?=some b->f (a,b)=true):(as.zip bs).all f=true:=by
 rw [Qy]
 rintro ⟨a,b⟩ hm
 obtain ⟨j,hj⟩:=Qu.mp hm
 obtain ⟨h1,h2⟩:=Qz.mp hj
 exact h j a b h1 h2
theorem aB0 {as:List α} {bs:List β} {f:α×β->Bool} {a:α} {b:β} (h1:as[j]?=some a) (h2:bs[j]?=some b) (h:f (a,b)=false):(as.zip bs).all f=false:=by
 rw [Bool.eq_false_iff]
 intro z
 have hj:(as.zip bs)[j]?=some (a,b):=Qz.mpr ⟨h1,h2⟩
 have:=Qy.mp z _ (Qe hj)
 rw [h] at this
 cases this
noncomputable def nQ (p:Int×Int):Bool:=decide (p.1=p.2) || decide (p.1=p.2 - 1)
noncomputable def yO (ls:List Int) (p:Int×List Int):Bool:=p.2.all λo=>decide (ls.getD p.1.toNat 0<=ls.getD o.toNat 0)
noncomputable def yP (n:Int) (ws:List (List Int)) (hs ls:List Int):Bool:=decide (ls.length=n.toNat) && ((ls.zip (aJ n hs)).all nQ && (hs.zip ws).all (yO ls))
theorem q? (a b:Int):(!xt (.int a) [.int b,.int (b - 1)])=!nQ (a,b):=by
 have e:=mF a [b,b - 1]
 show (!xt (.int a) ([b,b - 1].map V.int))=_
 rw [e]
 unfold nQ
 congr 1
 rw [Xf]
 simp [Xz]
 constructor
 ·rintro (h | h) <;> omega
 ·rintro (h | h) <;> omega
def Pu (K:Rc):Sp:=λvs H Q _=>∃ x y p n ws hs ls,vs = [x,y,.ref p]/\dQ K H x y n ws hs/\d_ K H p (ls.map V.int)/\∀ H',aD H H'->Q (.bl (yP n ws hs ls)) H'
theorem pI:dz ["book", "deal", "levels", "many", "level", "load"] ["book", "deal", "levels"] (aF oM):=.of
theorem aDV (G:Fn K mg "are_levels" oM ["book", "deal", "levels"] f fd) (B:Bl mg) (R:Pr K mg fW fH fK fB jn fD jy fL dW dH dK dB jo dD jz dL):c_ P w K mg base fc 8 f fd ["book", "deal", "levels"] (Pu K):=by
 have OL:c_ P w K mg base fc 7 fL dL ["book", "deal"] (kK K):=jW B R
 have OW:c_ P w K mg base fc 1 fW dW ["thing"] (iL K):=iC R.W B
 refine G.fn.oK pI λft A outer s H vs Q E hr h=>?_
 ·obtain ⟨x,y,p,n,ws,hs,ls,rfl,g,hp,k⟩:=h
  have r7:ee 7 _:=hr
  have r1:ee 1 _:=hr.mono (by decide)
  refine ⟨_,(aE (bA (i:=3) pI.nd rfl fi (aX R.L OL r7 rfl (aA (pv 0) (aA (pv 1) aC))))
  (aE (bU (PW.pt (fT (cF (cB (aO cG rfl B.isinstance jH (aA (pv 2) (aA (eZ (v:=.ty "tuple") rfl B.tuple cM rfl) aC))))) (eN (aU kS (aO bE rfl B.len gE (aA (pv 2) aC)) (aO bE rfl B.len gE (aA (pv 3) aC)) gm))))
   (aH (aN bP))
   aW)
  (aE (eJ az.never rfl (nH .t .t rfl B.zip (aA (pv 2) (aA (pv 3) aC))) (dO rfl (aM (aI (i:=4) pI.nd rfl fi) (aM (aI (i:=5) pI.nd rfl fi) bV)))
   (aH (bU (PW.pt (fT (cF (cB (aX R.W OW r1 rfl (aA (pv 4) aC)))) (eN (aU wZ (pv 4) (cO (aA (pv 5) (aA (cR sF (pv 5) aK) aC))) (by with_unfolding_all rfl)))))
   (aH (aN bP))
   aW)))
  (aH (aN (aO (eW rfl) rfl B.all mV (aA (aEK (own:=["hand", "able", "other"]) (fr:=[2]) (fm:=["levels"]) (aY (aF oM) ["book", "deal", "levels", "many", "level", "load"] rfl rfl (by decide +kernel)) rfl (nH .t .t rfl B.zip (aA (pv 1) (aA (bC bQ (pv 0) aK il) aC)))
    (λ_ _ _ _=>(oQ (K:=K) (n:=2) rfl rfl (aM (aI (i:=0) (show (["hand", "able", "other", "levels"]:List ax).Nodup by decide +kernel) rfl fi) (aM (aI (i:=1) (show (["hand", "able", "other", "levels"]:List ax).Nodup by decide +kernel) rfl fi) bV)))) (λ_ _ _ _=>(aGN (K:=K) rfl (pv 1))) (λ_ _ _ _=>(aI (i:=2) (show (["hand", "able", "other", "levels"]:List ax).Nodup by decide +kernel) rfl fi))
    (λ_ _ _ _=>(dX nW (bC (cN (K:=K) rfl) (pv 3) (pv 0) lj) (bC (cN (K:=K) rfl) (pv 3) (pv 2) lj) gm))) aC))))))),?_⟩
  refine ⟨_,rfl,_,rfl,x,y,n,ws,hs,rfl,g,λq H1 s1 e1=>?_⟩
  have g1:=g.same s1
  have js:=s1.d0 hp
  obtain ⟨ny,mi,km⟩:=g.len
  refine ⟨_,rfl,.ref p,_,rfl,.inr (.inl ⟨rfl,_,js⟩),_,rfl,?_⟩
  refine fZ ?_
  refine ⟨_,rfl,p,_,rfl,.inr js,_,rfl,q,_,rfl,.inr (d_.of e1),rfl,_,rfl,?_⟩
  rw [Qa,Qa,bI]
  refine eK (λc=>?_) (λc=>?_)
  ·have f':ls.length≠n.toNat:=λz=>by rw [z] at c; simp at c
   have e:false=yP n ws hs ls:=by unfold yP; rw [decide_eq_false f']; rfl
   show Q (.bl false) _
   rw [e]; exact k H1 s1
  have heq:ls.length=n.toNat:=by
   have:V.int (ls.length:Int)=V.int (n.toNat:Int):=by simpa using c
   injection this with this
   omega
  refine ⟨_,rfl,_,rfl,p,q,_,_,rfl,js,d_.of e1,xI (K:=K) (k1:=.t) (k2:=.t) (a:=p) (b:=q) (xs:=ls.map V.int) (ys:=(aJ n hs).map V.int) (λi σ H3=>(∃ v4 v5,σ = [some x,some y,some (.ref p),some (.ref q),v4,v5])/\aD H1 H3/\∀ j a b,j < i->ls[j]?=some a->(aJ n hs)[j]?=some b->nQ (a,b)=true)
   (by rw [Qa,Qa,bI,heq]) ⟨⟨_,_,rfl⟩,aD.refl _,λj _ _ hj=>absurd hj (Zt _)⟩ (λi σ H3 _ ⟨_,s3,_⟩=>⟨s3.d0 js,s3.d0 (d_.of e1)⟩) ?_ ?_⟩
  ·rintro i u v t σ H3 hu hv ⟨⟨v4,v5,rfl⟩,s3,hle⟩ ht
   obtain ⟨a,ha,rfl⟩:=jI hu
   obtain ⟨b,hb,rfl⟩:=jI hv
   refine ⟨t,_,rfl,d_.of aB,rfl,_,_,rfl,_,_,rfl,rfl,?_⟩
   refine ⟨_,rfl,.int a,.int a,rfl,dM.mpr rfl,_,rfl,?_⟩
   refine fZ ?_
   have s4:=s3.trans (aD.new (o:=.tup [.int a,.int b]) ht)
   refine ⟨_,rfl,_,rfl,_,rfl,_,_,rfl,rfl,qm _ _,λz hz=>⟨z,_,rfl,.inr (d_.of aB),rfl,rfl,_,rfl,?_⟩⟩
   have s5:=s4.trans (aD.new (o:=.tup [.int b,.int (b - 1)]) hz)
   show if (!xt (.int a) [.int b,.int (b - 1)])=true then _ else _
   rw [q?]
   refine eK (λc2=>?_) (λc2=>?_)
   ·have hf:nQ (a,b)=false:=by simpa using c2
    have e:false=yP n ws hs ls:=by unfold yP; rw [aB0 ha hb hf,Zm,Xp]
    show Q (.bl false) _
    rw [e]; exact k _ (s1.trans s5)
   ·have V':nQ (a,b)=true:=by simpa using c2
    refine ⟨⟨_,_,rfl⟩,s5,λj a' b' hj h1 h2=>?_⟩
    by_cases z:j < i
    ·exact hle j a' b' z h1 h2
    ·have:j=i:=by omega
     subst this
     rw [ha] at h1; rw [hb] at h2
     cases h1; cases h2
     exact V'
  ·rintro σ H3 ⟨⟨v4,v5,rfl⟩,s3,hle⟩
   have Bj:(ls.zip (aJ n hs)).all nQ=true:=qQ λj a b h1 h2=>hle j a b (by rw [Qa]; exact (Qb.mp h1).1) h1 h2
   have LK:yP n ws hs ls=(hs.zip ws).all (yO ls):=by unfold yP; rw [Bj,decide_eq_true heq,Jx,Jx]
   rw [LK] at k
   have g3:=g1.same s3
   have og:=s3.d0 js
   obtain ⟨a,b,ys,rfl,ha,ia,ij⟩:=cI g3.1
   obtain ⟨c0,rfl,qv⟩:=aR.mp g3.2.2.1
   obtain ⟨jk,Ae⟩:=aV g.2.2.2
   obtain ⟨_,_,iz,ip⟩:=aT g.2.1
   have jt:=aP ij
   rw [Qa] at jt
   let xj:List (List Bool):=(hs.zip ws).map λp=>p.2.map λo=>decide (ls.getD p.1.toNat 0<=ls.getD o.toNat 0)
   have Hw:xj.length=hs.length:=by show ((hs.zip ws).map _).length=_; rw [Qa,Wq]; omega
   have XW:∀ l∈xj,l.length<=6:=λl hl=>by
    obtain ⟨⟨h,wk⟩,hm,rfl⟩:=Qv.mp hl
    obtain ⟨w1,w2,w3⟩:=aZ (ip wk (Yo hm).2)
    have:=iY (by omega) w2 w3
    rw [Qa]
    show wk.length<=6
    omega
   have Fo:(xj.map (List.map V.bl)).flatten.length<=1000:=by
    have:∀ (L:List (List Bool)),(∀ l∈L,l.length<=6)->(L.map (List.map V.bl)).flatten.length<=6*L.length:=λL=>by
     induction L with
     | nil=>intro _; exact Jl _
     | cons l r ih =>
      intro h
      have h1:=ih λl' ua=>h l' (Qg _ ua)
      have h2:=h l (Qi ..)
      rw [Qw,Zu,Qj,Qa,Ja]
      omega
    have:=this xj XW
    omega
   refine ⟨_,rfl,_,rfl,a,_,1,.ref b,rfl,rfl,ha,rfl,c0,b,_,_,rfl,qv,ia,aEM (J:=yo K .t .t c0 b) (n:=hs.length) (ji:=xj.map (List.map V.bl)) (λσ=>∃ v0 v1 v2,σ = [v0,v1,v2,some (.ref p)]) Fo (by rw [Qa,Hw]) ⟨_,_,_,rfl⟩
    (λH' s'=>⟨hs.map V.int,ys,s'.d0 qv,s'.d0 ia,by rw [Qa]; omega⟩) (λi H' hi s'=>⟨hs.map V.int,ys,(hs.map V.int)[i]'(by rw [Qa]; exact hi),ys[i]'(by omega),s'.d0 qv,s'.d0 ia,Qc _,Qc _⟩) ?_ ?_⟩
   ·rintro i vs x σ H4 H5 hi hv ⟨v0,v1,v2,rfl⟩ s4 ⟨t,ht,rfl,hy⟩ P' hP
    obtain ⟨xh,xw,h1,h2,rfl⟩:=hy _ _ (s4.d0 qv) (s4.d0 ia)
    obtain ⟨h,hh,rfl⟩:=jI h1
    obtain ⟨dv,gk,i4⟩:=cD ij h2
    rw [Qd] at gk
    obtain ⟨l,hl,rfl⟩:∃ l,ws[i]?=some l/\bY l=dv:=by
     cases q:ws[i]? with
     | none=>rw [q] at gk; cases gk
     | some l=>rw [q] at gk; exact ⟨l,rfl,Option.some.inj gk⟩
    obtain ⟨aw,rfl,qw⟩:=aR.mp i4
    obtain ⟨Dp,Fm⟩:=g.hand hh
    obtain ⟨w1,w2,w3⟩:=aZ (ip l (Qe hl))
    have HV:vs=l.map λo=>V.bl (decide (ls.getD h.toNat 0<=ls.getD o.toNat 0)):=by
     have hz:(hs.zip ws)[i]?=some (h,l):=Qz.mpr ⟨hh,hl⟩
     have:(xj.map (List.map V.bl))[i]?=some (l.map λo=>V.bl (decide (ls.getD h.toNat 0<=ls.getD o.toNat 0))):=by
      show (((hs.zip ws).map _).map (List.map V.bl))[i]?=_
      rw [Qd,Qd,hz]
      show some (List.map V.bl (List.map _ l))=_
      rw [Jn]
      rfl
     rw [this] at hv
     exact (Option.some.inj hv).symm
    have s5:aD H4 (upd H4 t (.tup [.int h,.ref aw])):=aD.new ht
    have zd:=(s4.trans s5).d0 qw
    refine ⟨t,_,rfl,d_.of aB,rfl,_,_,rfl,_,_,rfl,rfl,?_⟩
    refine ⟨_,rfl,aw,rfl,⟨_,zd⟩,hP _ _ _ s5 ⟨λσ=>∃ v2,σ = [some (.int h),some (.ref aw),v2,some (.ref p)],⟨_,rfl⟩,λki ⟨_,e⟩=>⟨_,_,_,e⟩,λH' s'=>⟨l.map V.int,s'.d0 zd,by rw [HV,Qa,Qa]; exact Qh _⟩,λj H' hj s'=>⟨l.map V.int,(l.map V.int)[j]'(by rw [HV,Qa] at hj; rw [Qa]; exact hj),s'.d0 zd,Qc _⟩,?_⟩⟩
    rintro j v yv ki H6 H7 C_ ⟨v2',rfl⟩ s6 ⟨rfl,GU⟩ Q' j_
    obtain ⟨o,ho,rfl⟩:=jI (GU _ (s6.d0 zd))
    obtain ⟨o0,o1⟩:=w2 o (Qe ho)
    have ev:v=V.bl (decide (ls.getD h.toNat 0<=ls.getD o.toNat 0)):=by
     rw [HV,Qd,ho] at C_
     exact (Option.some.inj C_).symm
    have Ni:=((s4.trans s5).trans s6).d0 og
    refine ⟨_,rfl,_,rfl,p,_,h,_,rfl,rfl,Ni,SO (xs:=ls) Dp (by omega),_,rfl,_,rfl,p,_,o,_,rfl,rfl,Ni,SO (xs:=ls) o0 (by omega),_,_,rfl,rfl,?_⟩
    rw [ev] at j_
    exact j_ _ _ ⟨_,rfl⟩ (aD.refl _)
   ·rintro H4 s4 l hl
    have ef:(xj.map (List.map V.bl)).flatten=xj.flatten.map V.bl:=by rw [List.map_flatten]
    have ea:xj.flatten.all id=(hs.zip ws).all (yO ls):=by
     show (List.map _ (hs.zip ws)).flatten.all id=_
     rw [List.all_flatten,Zb]
     congr 1
     funext p
     show (List.map _ p.2).all id=_
     rw [Zb]
     rfl
    refine ⟨l,xj.flatten,rfl,fh.of (by rw [<- ef]; exact aB),?_⟩
    rw [ea]
    exact k _ ((s1.trans s3).trans (s4.trans (aD.new hl)))
end Ab
namespace L2
open PySem PySem.Spec PyProof.Rows
def k7 (K:Rc) (fd:bo) (ps ks:List ax):Prop:=∀ (s:ah) (ws:List aa),K.In s.heap->ws.length=ps.length->dt s fd ⟨[],ks.zip ws⟩ (ps.zip ws.reverse)
theorem qy.E5 {ks:List ax} (F:qy K x qual st f fd) (h:∀ (kV doc pm:aa) (an:Option ae) (ft ct:aa) (ws:List aa),ws.length=ps.length->cu (Tc x qual (fJ st) (dY st) (aF st) .none kV doc pm an ft ct) ⟨[],ks.zip ws⟩=pure (ps.zip ws.reverse)):k7 K fd ps ks:=by
 obtain ⟨oc,od,kV,doc,pm,an,ft,ct,uo,rfl,lk,nu⟩:=F.ex
 exact λs ws _ h1=>.of_eq (h kV doc pm an ft ct ws h1)
section
variable {k:Nat} {ks:List ax} {E:XK} {u9:List dr} {tk:TA}
def q! (sp:Sp) (E:XK) (tk:TA):TE:=λσ H Q=>tk σ H λvs H1=>sp vs.reverse H1 Q E
theorem bL (G:Fn X.K X.mg x st ps f fd) (F:c_ X.prog X.w X.K X.mg X.base fc k f fd ps sp) (hr:ee k X.A) (hg:Gl X x) (hb:k7 X.K fd ps ks) (WZ:PK X u9 tk)
  (ke:autoParam ((dg pos (cq u9 X.env)).all (·.1.isSome)=true) L2.gj) (W2:autoParam ((dg pos (cq u9 X.env)).filterMap (·.1)=ks) L2.gj) (uh:autoParam ((x==("__debug__" : ax))=false) L2.ka)
  (qf:autoParam (((cy pos (au [] X.env)).any (·.1) || (dg pos (cq u9 X.env)).any (·.1.isNone))=false) L2.gj):PE X (.Call (.Name x p) [] u9 pos) (q! sp E0 tk):=by
 intro a_ s σ H Q I h
 refine Tf (nS I hg G.E2 ?_ uh)
 refine PySem.W.callWith_KW0 (h₀:=X.base) I.ok.mod.B9 G.kp ke (fk (WZ pos a_ s σ H _ I h) λws s1 fe=>?_) qf
 obtain ⟨zs,H1,I1,r,q⟩:=fe
 rw [W2]
 have r2:=r.reverse
 have hl:ws.length=ps.length:=by rw [<- Zy,<- r2.length]; exact F.len _ _ _ _ q
 refine ⟨I1.rh,Io (Um (F.run X.A X.stack s1 H1 ⟨[],ks.zip ws⟩ ws.reverse zs.reverse Q E0 hr I1.Eo (hb s1 ws I1.rh hl) r2 q) λr s' hq=>?_)⟩
 cases r with
 | error e=>exact False.elim hq
 | ok fl =>
  cases fl with
  | ret u=>exact I1.after hq
  | next=>exact False.elim hq
  | brk=>exact False.elim hq
  | cont=>exact False.elim hq
end
end L2
namespace Ab
open PySem L2
theorem e?:ay "ValueError" = some (.type "ValueError"):=by decide +kernel
noncomputable def MT:List ax:=["NoBook", "NoCosts", "NoDeal", "NoHand", "NoRooms", "NoRow", "NoText", "NoWay", "NoWeights", "NoWork", "TooMany"]
structure Cl (K:Rc) (mg:ax->Option aa) (cE:ae) (c:Nat->ae):Prop where
 mc:∀ (i:Nat) (n:ax),MT[i]?=some n->mg n=some (.ref (c i))
 ec:∀ i,i < 11->∀ h:af,K.In h->my h (c i) (.ref cE::kj)
 inj:∀ i j,i < 11->j < 11->c i=c j->i=j
 ne:∀ i,i < 11->c i≠cE
 mE:mg "DealError" = some (.ref cE)
 eE:∀ h:af,K.In h->my h cE kj
section
variable {cE:ae} {c:Nat->ae}
theorem Cl.has (Z:Cl K mg cE c) (hi:i < 11) (hj:j < 11):(aa.ref (c j)::.ref cE::kj).contains (.ref (c i))=decide (j=i):=by
 by_cases e:j=i
 ·subst e; simp
 ·have h1:(aa.ref (c i)==aa.ref (c j))=false:=by
   rw [beq_eq_false_iff_ne]
   intro z
   injection z with z
   exact e (Z.inj j i hj hi z.symm)
  have h2:(aa.ref (c i)==aa.ref cE)=false:=by
   rw [beq_eq_false_iff_ne]
   intro z
   injection z with z
   exact Z.ne i hi z
  rw [Yc,Yc,h1,h2,decide_eq_false e]
  rfl
theorem Cl.up (Z:Cl K mg cE c):(aa.ref (c j)::.ref cE::kj).contains (.ref cE)=true:=by simp
noncomputable def cx (c:Nat->ae) (cE:ae) (j:Nat):ae:=if j < 11 then c j else cE
noncomputable def bx (cE:ae) (j:Nat):List aa:=if j < 11 then .ref cE::kj else kj
theorem Cl.ZC (Z:Cl K mg cE c) (j:Nat):∀ h:af,K.In h->my h (cx c cE j) (bx cE j):=by
 unfold cx bx
 by_cases h:j < 11
 ·rw [if_pos h,if_pos h]; exact Z.ec j h
 ·rw [if_neg h,if_neg h]; exact Z.eE
theorem Cl.LA (Z:Cl K mg cE c) (hi:i < 11) (hj:j<=11):(aa.ref (cx c cE j)::bx cE j).contains (.ref (c i))=decide (j=i):=by
 unfold cx bx
 by_cases h:j < 11
 ·rw [if_pos h,if_pos h]; exact Z.has hi h
 ·rw [if_neg h,if_neg h,decide_eq_false (by omega),Yc]
  have h2:(aa.ref (c i)==aa.ref cE)=false:=by
   rw [beq_eq_false_iff_ne]
   intro z
   injection z with z
   exact Z.ne i hi z
  rw [h2]
  rfl
theorem d! (h:j < 11):cx c cE j=c j:=if_pos h
def e! (c:Nat->ae) (cE:ae) (i:Nat):TE:=λσ H Q=>∃ (a:ae) (j:Nat),σ[0]?=some (some (.ref a))/\H a=some (i_ (cx c cE j) a)/\j<=11/\Q (.bl (decide (j=i))) H
theorem jB {n:ax} (Z:Cl K mg cE c) (B:Bl mg) (hK:X.K=K) (z_:X.mg=mg) (hN:MT[i]?=some n) (hg:Gl X "isinstance") (XC:Gl X n) (h0:X.N[0]?=some x) (hx:X.env.scope.names.lookup x=some .local) (hd:autoParam ((x==("__debug__" : ax))=false) L2.ka) (nu:autoParam ((x==("__classdict__" : ax))=false) L2.ka) (XM:autoParam ((n==("__debug__" : ax))=false) L2.ka) (he:autoParam (au [.Name x p1,.Name n p2] X.env=(false,eval (.Name x p1) X.env)::au [.Name n p2] X.env) L2.gj) (qf:autoParam ((cy pos (au [.Name n p2] X.env)).any (·.1)=false) L2.gj) :
  PE X (.Call (.Name "isinstance" p) [.Name x p1,.Name n p2] [] pos) (e! c cE i):=by
 have hi:i < 11:=(Qb.mp hN).1
 have Bg:∀ h:af,K.In h->∃ dd cd sl,h.get? (c i)=some { cls:=.type "type",dict:=dd,data:=.cls cd,slots:=sl }:=λh vh=>by
  obtain ⟨N,nm,q,bs,j5,sn,sub,ab,col,dd,k0,k1,k2,k3,k5,mN,hC,_⟩:=Z.ec i hi h vh
  exact ⟨_,_,_,hC⟩
 have J:PE X (.Call (.Name "isinstance" p) [.Name x p1,.Name n p2] [] pos) _:=aO (oC (X:=X) (K:=K) (C':=c i) hK Bg) hg (by rw [z_]; exact B.isinstance) jH (aA (pv 0 h0 (.inl hx) hd nu) (aA (nT (v:=.ref (c i)) XC (by rw [z_]; exact Z.mc i n hN) rfl XM) aC)) (by decide) (by decide) he qf
 intro a_ s σ H Q I h
 obtain ⟨a,j,e0,hH,hj,q⟩:=h
 refine J a_ s σ H Q I ⟨_,e0,a,cx c cE j,_,rfl,hH,Z.ZC j,?_⟩
 rw [Z.LA hi hj]
 exact q
noncomputable def FK (j:Nat):List Bool:=[decide (j=0),decide (j=1),decide (j=2),decide (j=3),decide (j=4),decide (j=5),decide (j=6),decide (j=7),decide (j=8),decide (j=9),decide (j=10)]
def RO (c:Nat->ae) (cE:ae):Sp:=λvs H Q _=>∃ (a:ae) (j:Nat),vs = [.ref a]/\H a=some (i_ (cx c cE j) a)/\j<=11/\∀ p H',aD H H'->H' p=some (.lst ((FK j).map V.bl))->Q (.ref p) H'
theorem yQ:dz ["e", "kinds"] ["e"] (aF xX):=.of
theorem MB (x y z:V) : [x,y,z].length<=ak:=by rw [Rf]; simp
theorem Gd (x y z u:V) : [x,y,z,u].length<=ak:=by rw [Rf]; simp
theorem aFS (G:Fn K mg "_law_b_kinds" xX ["e"] f fd) (B:Bl mg) (Z:Cl K mg cE c):c_ P w K mg base fc 1 f fd ["e"] (RO c cE):=by
 refine G.fn.ok yQ (λvs H Q E h=>?_) (λft A outer s H vs Q E hr h=>?_)
 ·obtain ⟨a,j,rfl,_⟩:=h
  rfl
 ·obtain ⟨a,j,rfl,hH,hj,k⟩:=h
  refine ⟨_,aE (bA (i:=1) yQ.nd rfl fi (eO (aA (jB (i:=0) Z B rfl rfl rfl rfl rfl rfl rfl) (aA (jB (i:=1) Z B rfl rfl rfl rfl rfl rfl rfl) (aA (jB (i:=2) Z B rfl rfl rfl rfl rfl rfl rfl) (aA (jB (i:=3) Z B rfl rfl rfl rfl rfl rfl rfl) aC))))))
   (aE (bA (i:=1) yQ.nd rfl fi (cR xB (pv 1) (eO (aA (jB (i:=4) Z B rfl rfl rfl rfl rfl rfl rfl) (aA (jB (i:=5) Z B rfl rfl rfl rfl rfl rfl rfl) (aA (jB (i:=6) Z B rfl rfl rfl rfl rfl rfl rfl) (aA (jB (i:=7) Z B rfl rfl rfl rfl rfl rfl rfl) aC)))))))
   (aH (aN (cR xB (pv 1) (eO (aA (jB (i:=8) Z B rfl rfl rfl rfl rfl rfl rfl) (aA (jB (i:=9) Z B rfl rfl rfl rfl rfl rfl rfl) (aA (jB (i:=10) Z B rfl rfl rfl rfl rfl rfl rfl) aC)))))))),?_⟩
  refine ⟨a,j,rfl,hH,hj,a,j,rfl,hH,hj,a,j,rfl,hH,hj,a,j,rfl,hH,hj,Gd _ _ _ _,λp1 js=>?_⟩
  have h1:=λo=>(aD.new (o:=o) js) _ _ hH
  refine ⟨_,rfl,a,j,rfl,h1 _,hj,a,j,rfl,h1 _,hj,a,j,rfl,h1 _,hj,a,j,rfl,h1 _,hj,Gd _ _ _ _,λp2 oh=>?_⟩
  refine ⟨_,_,_,_,rfl,rfl,(aD.new oh) _ _ aB,aB,by rw [Rf]; simp,λp3 og=>?_⟩
  have s3:=λo=>(aD.new js).trans ((aD.new oh).trans (aD.new (o:=o) og))
  have h3:=λo=>s3 o _ _ hH
  refine ⟨_,rfl,a,j,rfl,h3 _,hj,a,j,rfl,h3 _,hj,a,j,rfl,h3 _,hj,MB _ _ _,λp4 Fg=>?_⟩
  refine ⟨_,_,_,_,rfl,rfl,(aD.new Fg) _ _ aB,aB,by rw [Rf]; simp,λp5 Ff=>?_⟩
  refine k p5 _ ((s3 _).trans ((aD.new Fg).trans (aD.new Ff))) ?_
  rw [aB]
  rfl
def Ao (c:TT) (σ:St) (H:Hp) (b:Bool):Prop:=∀ Q':Bool->Hp->Prop,(∀ H',aD H H'->Q' b H')->c σ H Q'
theorem Bt {t u:TT} {σ:St} (ht:Ao t σ H false) (hu:∀ H1,aD H H1->Ao u σ H1 false):Ao (L9 t u) σ H false:=λQ' q=>ht _ λH1 s1=>fZ (hu H1 s1 _ λH2 s2=>q H2 (s1.trans s2))
theorem FY {t:TT} {σ:St} (ht:Ao t σ H true):Ao (Pd t) σ H false:=λQ' q=>ht _ q
theorem gT {c:TT} {t u:TS} {σ:St} (hc:Ao c σ H false) (h:∀ H',aD H H'->u D σ H'):FQ (FP c t gZ) u D σ H:=hc _ λH' s=>fZ (h H' s)
theorem JM {c:TT} {t:TS} {σ:St} (hc:Ao c σ H false) (h:∀ H',aD H H'->D.nx σ H'):FP c t gZ D σ H:=hc _ λH' s=>fZ (h H' s)
theorem RN {p:ae} {bs:List Bool} (h:H p=some (.lst (bs.map V.bl))):Den K H (.list (bs.map .bool)) (.ref p):=by
 refine hJ.mpr ⟨p,_,rfl,fh.of h,?_⟩
 clear h
 induction bs with
 | nil=>exact bG.mpr rfl
 | cons b r ih=>exact aQ.mpr ⟨_,_,rfl,sM.mpr rfl,ih⟩
theorem uN (bs:List Bool):eA (.list (bs.map .bool))=true:=by
 unfold eA
 induction bs with
 | nil=>unfold List.map fM; rfl
 | cons n r ih=>rw [Qw]; unfold fM; rw [ih]; unfold eA; rfl
theorem uO (bs:List Bool):SeqAt.shaped (.list (bs.map .bool))=true:=mG (by unfold ar.canLay0; exact iX _ (λ_=>by unfold ar.canLay0; rfl) bs) (by unfold ar.depth; exact Zk (Jd (jX (k:=0) _ (λ_=>by unfold ar.depth; exact Qh _) bs) (by decide)))
def Ms (c:Nat->ae) (H0 H:Hp) (L:List ae):Prop:=aD H0 H/\∀ (j:Nat) (a:ae),L[j]?=some a->H a=some (i_ (c j) a)
theorem Ms.nil {c:Nat->ae}:Ms c H H []:=⟨aD.refl _,λ_ _ h=>by simp at h⟩
theorem Ms.same {L:List ae} (m:Ms c H0 H L) (s:aD H H'):Ms c H0 H' L:=⟨m.1.trans s,λj a h=>s _ _ (m.2 j a h)⟩
theorem Ms.mk {L:List ae} (m:Ms c H0 H L) (h:H a=none) (j:Nat) (hj:j=L.length):Ms c H0 (upd H a (i_ (c j) a)) (L++[a]):=by
 refine ⟨m.1.trans (aD.new h),λi b e=>?_⟩
 rw [Wy] at e
 split at e
 ·exact (aD.new h) _ _ (m.2 i b e)
 ·have hi:i=L.length:=by
   have:=(Qb.mp e).1
   rw [Zq] at this
   omega
  subst hi
  rw [Qau] at e
  have:a=b:=Option.some.inj e
  subst this
  rw [hj]
  exact aB
theorem RM:∀ a b:List Bool,ar.eqvAll (a.map .bool) (b.map .bool)=decide (a=b)
 | [],[]=>by simp [ar.eqvAll]
 | [],_::_=>by simp [ar.eqvAll]
 | _::_,[]=>by simp [ar.eqvAll]
 | x::a,y::b=>by
  rw [Qw,Qw,ar.eqvAll,RM a b]
  cases x <;> cases y <;> simp [ar.eqv]
def SU:Sp:=λvs H Q _=>vs = []/\∀ H',aD H H'->Q (.bl true) H'
theorem lQ:dz ["made", "at", "e"] [] (aF oO):=⟨rfl,rfl,rfl,by decide +kernel,rfl,by decide +kernel,by decide +kernel⟩
theorem aDW {OA:ae} {O4:bo} (G:Fn K mg "_law_b_errors_right" oO [] f fd) (B:Bl mg) (Z:Cl K mg cE c) (uc:∀ i,i < 11->Ro K (.ref (c i))=true) (Hi:Ro K (.ref cE)=true) (Kk:Fn K mg "_law_b_kinds" xX ["e"] OA O4):c_ P w K mg base fc 2 f fd [] SU:=by
 have S8:c_ P w K mg base fc 1 OA O4 ["e"] (RO c cE):=aFS Kk B Z
 have YE:∀ h:af,K.In h->∃ dd cd sl,h.get? cE=some { cls:=.type "type",dict:=dd,data:=.cls cd,slots:=sl }:=λh vh=>by
  obtain ⟨N,nm,q,bs,j5,sn,sub,ab,col,dd,k0,k1,k2,k3,k5,mN,hC,_⟩:=Z.eE h vh
  exact ⟨_,_,_,hC⟩
 refine G.fn.oK lQ λft A outer s H vs Q E hr h=>?_
 ·obtain ⟨rfl,k⟩:=h
  have r1:ee 1 _:=hr
  refine ⟨_,(aE (bA (i:=0) lQ.nd rfl fi (eO (aA (iH (Z.ec 0 (by decide)) (uc 0 (by decide)) rfl (Z.mc 0 _ rfl) rfl) (aA (iH (Z.ec 1 (by decide)) (uc 1 (by decide)) rfl (Z.mc 1 _ rfl) rfl) (aA (iH (Z.ec 2 (by decide)) (uc 2 (by decide)) rfl (Z.mc 2 _ rfl) rfl) (aA (iH (Z.ec 3 (by decide)) (uc 3 (by decide)) rfl (Z.mc 3 _ rfl) rfl) (aA (iH (Z.ec 4 (by decide)) (uc 4 (by decide)) rfl (Z.mc 4 _ rfl) rfl) (aA (iH (Z.ec 5 (by decide)) (uc 5 (by decide)) rfl (Z.mc 5 _ rfl) rfl) (aA (iH (Z.ec 6 (by decide)) (uc 6 (by decide)) rfl (Z.mc 6 _ rfl) rfl) (aA (iH (Z.ec 7 (by decide)) (uc 7 (by decide)) rfl (Z.mc 7 _ rfl) rfl) aC))))))))))
  (aE (bA (i:=0) lQ.nd rfl fi (cR xB (pv 0) (eO (aA (iH (Z.ec 8 (by decide)) (uc 8 (by decide)) rfl (Z.mc 8 _ rfl) rfl) (aA (iH (Z.ec 9 (by decide)) (uc 9 (by decide)) rfl (Z.mc 9 _ rfl) rfl) (aA (iH (Z.ec 10 (by decide)) (uc 10 (by decide)) rfl (Z.mc 10 _ rfl) rfl) aC))))))
  (aE (eJ az.never rfl (xK .l rfl B.enumerate (aA (pv 0) aC)) (dO rfl (aM (aI (i:=1) lQ.nd rfl (Or.inr rfl)) (aM (aI (i:=2) lQ.nd rfl fi) bV)))
   (aE (bU (PW.pt (fT (cF (cB (aO (oC (K:=K) (C':=cE) rfl YE) rfl B.isinstance jH (aA (pv 2) (aA (nT (v:=.ref cE) rfl Z.mE rfl) aC))))) (eN (cF (cB (aO (zX (K:=K) rfl) rfl B.isinstance jH (aA (pv 2) (aA (eZ (v:=.ty "ValueError") rfl B.ve e? rfl) aC))))))))
   (aH (aN bP))
   aW)
  (aH (bU (aU (nG hr.wq) (aX Kk S8 r1 rfl (aA (pv 2) aC)) (bX (own:=["place"]) (fr:=[1]) (fm:=["at"]) (aY (aF oO) ["made", "at", "e"] rfl rfl (by decide +kernel)) rfl (fU rfl B.range (aA aK aC))
    (λ_ _ _ _=>(aI (i:=0) (show (["place", "at"]:List ax).Nodup by decide +kernel) rfl fi)) (λ_ _ _ _=>cP)
    (λ_ _ _ _=>(dX mO (pv 1) (pv 0) gm))) gm)
   (aH (aN bP))
   aW))))
  (aH (aN (QU (aO (aEN rfl) rfl B.any d? (aA (aX Kk S8 r1 rfl (aA (iH Z.eE Hi rfl Z.mE rfl) aC)) aC)))))))),?_⟩
  have m:Ms c H H []:=Ms.nil
  refine λa0 h0 a1 h1 a2 h2 a3 h3 a4 h4 a5 h5 a6 h6 a7 h7=>?_
  refine ⟨eG (by simp),λp1 js=>?_⟩
  have m8:Ms c H (upd (upd (upd (upd (upd (upd (upd (upd H a0 (i_ (c 0) a0)) a1 (i_ (c 1) a1)) a2 (i_ (c 2) a2)) a3 (i_ (c 3) a3)) a4 (i_ (c 4) a4)) a5 (i_ (c 5) a5)) a6 (i_ (c 6) a6)) a7 (i_ (c 7) a7)) [a0,a1,a2,a3,a4,a5,a6,a7]:=((((((((m.mk h0 0 rfl).mk h1 1 rfl).mk h2 2 rfl).mk h3 3 rfl).mk h4 4 rfl).mk h5 5 rfl).mk h6 6 rfl).mk h7 7 rfl)
  clear m
  generalize (upd (upd (upd (upd (upd (upd (upd (upd H a0 (i_ (c 0) a0)) a1 (i_ (c 1) a1)) a2 (i_ (c 2) a2)) a3 (i_ (c 3) a3)) a4 (i_ (c 4) a4)) a5 (i_ (c 5) a5)) a6 (i_ (c 6) a6)) a7 (i_ (c 7) a7))=G8 at m8 js ⊢
  clear h7 h6 h5 h4 h3 h2 h1 h0
  have m9:=m8.same (aD.new (o:=.lst [.ref a0,.ref a1,.ref a2,.ref a3,.ref a4,.ref a5,.ref a6,.ref a7]) js)
  have e9:upd G8 p1 (.lst [.ref a0,.ref a1,.ref a2,.ref a3,.ref a4,.ref a5,.ref a6,.ref a7]) p1=some (.lst [.ref a0,.ref a1,.ref a2,.ref a3,.ref a4,.ref a5,.ref a6,.ref a7]):=aB
  generalize upd G8 p1 (.lst [.ref a0,.ref a1,.ref a2,.ref a3,.ref a4,.ref a5,.ref a6,.ref a7])=G9 at m9 e9 ⊢
  refine ⟨_,rfl,λa8 h8 a9 h9 jv HN=>?_⟩
  refine ⟨eG (by simp),λp2 oh=>?_⟩
  have Gy:Ms c H (upd (upd (upd G9 a8 (i_ (c 8) a8)) a9 (i_ (c 9) a9)) jv (i_ (c 10) jv)) [a0,a1,a2,a3,a4,a5,a6,a7,a8,a9,jv]:=(((m9.mk h8 8 rfl).mk h9 9 rfl).mk HN 10 rfl)
  have Cu:=((aD.new (o:=i_ (c 8) a8) h8).trans ((aD.new (o:=i_ (c 9) a9) h9).trans (aD.new (o:=i_ (c 10) jv) HN))) _ _ e9
  generalize (upd (upd (upd G9 a8 (i_ (c 8) a8)) a9 (i_ (c 9) a9)) jv (i_ (c 10) jv))=TR at Gy Cu oh ⊢
  clear HN h9 h8 m9 e9
  refine ⟨_,_,_,_,rfl,rfl,(aD.new oh) _ _ Cu,aB,eG (by simp),λp3 og=>?_⟩
  have M:=Gy.same ((aD.new oh).trans (aD.new (o:=.lst ([.ref a0,.ref a1,.ref a2,.ref a3,.ref a4,.ref a5,.ref a6,.ref a7]++[.ref a8,.ref a9,.ref jv])) og))
  have eL:upd (upd TR p2 (.lst [.ref a8,.ref a9,.ref jv])) p3 (.lst ([.ref a0,.ref a1,.ref a2,.ref a3,.ref a4,.ref a5,.ref a6,.ref a7]++[.ref a8,.ref a9,.ref jv])) p3=some (.lst ([.ref a0,.ref a1,.ref a2,.ref a3,.ref a4,.ref a5,.ref a6,.ref a7]++[.ref a8,.ref a9,.ref jv])):=aB
  generalize upd (upd TR p2 (.lst [.ref a8,.ref a9,.ref jv])) p3 (.lst ([.ref a0,.ref a1,.ref a2,.ref a3,.ref a4,.ref a5,.ref a6,.ref a7]++[.ref a8,.ref a9,.ref jv]))=G at M eL ⊢
  change G p3=some (.lst ([a0,a1,a2,a3,a4,a5,a6,a7,a8,a9,jv].map V.ref)) at eL
  have hl : [a0,a1,a2,a3,a4,a5,a6,a7,a8,a9,jv].length=11:=rfl
  generalize [a0,a1,a2,a3,a4,a5,a6,a7,a8,a9,jv]=L at M eL hl
  clear Gy Cu oh og js m8
  obtain ⟨s0,M⟩:=M
  refine ⟨_,rfl,p3,L.map V.ref,rfl,fh.of eL,zZ (K:=K) (k:=.l) (a:=p3) (xs:=L.map V.ref) (λi σ H2=>(∃ v1 v2,σ = [some (.ref p3),v1,v2])/\aD G H2) ⟨⟨_,_,rfl⟩,aD.refl _⟩ (λi σ H2 _ h=>h.2.iy (fh.of eL)) ?_ ?_⟩
  ·rintro i x t σ H2 hx ⟨⟨v1,v2,rfl⟩,s2⟩ ht
   rw [Qd] at hx
   obtain ⟨a,ha,rfl⟩:∃ a,L[i]?=some a/\V.ref a=x:=by
    cases z:L[i]? with
    | none=>rw [z] at hx; cases hx
    | some t=>rw [z] at hx; exact ⟨t,rfl,Option.some.inj hx⟩
   have hi:i < 11:=by have:=(Qb.mp ha).1; omega
   have s3:=s2.trans (aD.new (o:=.tup [.int (i:Nat),.ref a]) ht)
   have e3:=s3 _ _ (M i a ha)
   refine ⟨t,_,rfl,d_.of aB,rfl,_,_,rfl,_,_,rfl,rfl,?_⟩
   generalize upd H2 t (.tup [.int (i:Nat),.ref a])=H3 at s3 e3 ⊢
   refine gT (Bt (FY λQ' q=>⟨_,rfl,a,c i,_,rfl,e3,Z.ec i hi,_,rfl,?_⟩) λH4 s4=>FY λQ' q=>⟨_,rfl,a,c i,_,rfl,s4 _ _ e3,Z.ec i hi,_,rfl,?_⟩) λH4 s4=>?_
   ·rw [Z.up]; exact q _ (aD.refl _)
   ·exact q _ (aD.refl _)
   dsimp only [gZ]
   have e4:=s4 _ _ e3
   refine JM (λQ' q=>⟨_,rfl,a,i,rfl,by rw [d! hi]; exact e4,by omega,λp H5 s5 e5=>?_⟩) λH5 s5=>⟨⟨_,_,rfl⟩,s3.trans (s4.trans s5)⟩
   refine ⟨11,rfl,by decide,by decide,gK (lo:=0) (n:=11) (λσ=>∃ v,σ = [v,some (.int (i:Nat))]) (λj zs H6=>H6=H5/\zs=((List.range j).map λk=>decide (i=k)).map V.bl) (eG (by decide)) ⟨_,rfl⟩ ⟨rfl,rfl⟩ (λj zs H6 z=>by rw [z.2]; simp) ?_ ?_⟩
   ·rintro j zs σ H6 hj ⟨v,rfl⟩ ⟨rfl,rfl⟩ hz
    refine cQ ⟨_,rfl,_,rfl,rfl,hz,⟨_,rfl⟩,rfl,?_⟩
    rw [Wr,Qo,Qo]
    congr 3
    rw [decide_eq_decide]
    constructor
    ·intro z; injection z with z; omega
    ·intro z; rw [z,Zz]
   ·rintro zs H6 ⟨rfl,rfl⟩ q2 Fd
    have s7:=aD.new (o:=.lst (((List.range 11).map λk=>decide (i=k)).map V.bl)) Fd
    refine ⟨.list ((FK i).map .bool),.list ((FK i).map .bool),RN (s7 _ _ e5),RN aB,uN _,uN _,uO _,uO _,_,rfl,?_⟩
    rw [ar.eqv,RM,decide_eq_true rfl]
    exact q _ (s5.trans s7)
  ·rintro σ H2 ⟨⟨v1,v2,rfl⟩,s2⟩
   dsimp only
   refine λa h=>?_
   refine ⟨a,11,rfl,aB,by decide,λp H3 s3 e3=>?_⟩
   refine ⟨p,FK 11,rfl,fh.of e3,_,rfl,?_⟩
   exact k _ (s0.trans (s2.trans ((aD.new h).trans s3)))
end
theorem lR {p:ae} (h:H p=some (.tup (l.map V.int))):Den K H (.tuple (l.map .int)) (.ref p):=aR.mpr ⟨p,rfl,d_.of h⟩
theorem yR {p:ae} (h:H p=some (.lst (l.map V.int))):Den K H (.list (l.map .int)) (.ref p):=aC2.mpr ⟨p,rfl,fh.of h⟩
theorem kb1 {p:ax} (F:qy K x qual st f fd) (h:∀ (kV doc pm:aa) (an:Option ae) (ft ct:aa) (a:aa),cu (Tc x qual (fJ st) (dY st) (aF st) .none kV doc pm an ft ct) ⟨[],[(p,a)]⟩=pure [(p,a)]:=by exact λ_ _ _ _ _ _ _=>rfl):k7 K fd [p] [p] :=
 F.E5 λkV doc pm an ft ct ws hl=>match ws,hl with | [a],_=>h kV doc pm an ft ct a
theorem kb2 {p:ax} (F:qy K x qual st f fd) (h:∀ (kV doc pm:aa) (an:Option ae) (ft ct:aa) (a b:aa),cu (Tc x qual (fJ st) (dY st) (aF st) .none kV doc pm an ft ct) ⟨[],[(q,b),(p,a)]⟩=pure [(p,a),(q,b)]:=by exact λ_ _ _ _ _ _ _ _=>rfl):k7 K fd [p,q] [q,p] :=
 F.E5 λkV doc pm an ft ct ws hl=>match ws,hl with | [b,a],_=>h kV doc pm an ft ct a b
theorem B' {p r:ax} (F:qy K x qual st f fd) (h:∀ (kV doc pm:aa) (an:Option ae) (ft ct:aa) (a b c:aa),cu (Tc x qual (fJ st) (dY st) (aF st) .none kV doc pm an ft ct) ⟨[],[(r,c),(q,b),(p,a)]⟩=pure [(p,a),(q,b),(r,c)]:=by exact λ_ _ _ _ _ _ _ _ _=>rfl):k7 K fd [p,q,r] [r,q,p] :=
 F.E5 λkV doc pm an ft ct ws hl=>match ws,hl with | [c,b,a],_=>h kV doc pm an ft ct a b c
def SS (K:Rc):Sp:=λvs H Q _=>∃ (x y z:V) (n:Int) (ws:List (List Int)) (hs he lv:List Int),vs = [x,y,z]/\dQ K H x y n ws hs/\dQ K H x z n ws he/\gz n ws he lv/\∀ H',aD H H'->Q (.bl true) H'
theorem aFU:dz ["pad", "laid", "best"] ["pad", "laid", "best"] (aF rT):=.of
theorem aDX {Ot Ow:ae} {IE IH:bo} (G:Fn K mg "_law_b_loads_right" rT ["pad", "laid", "best"] f fd) (B:Bl mg) (R:Pr K mg fW fH fK fB jn fD jy fL dW dH dK dB jo dD jz dL) (ql:Fn K mg "falling" iT ["book", "deal"] Cs Bm) (F4:Fn K mg "waits" tG ["book", "deal"] Ot IE) (Kg:Fn K mg "no_less_even" FN ["book", "one", "other"] Ow IH):c_ P w K mg base fc 10 f fd ["pad", "laid", "best"] (SS K):=by
 have OB:c_ P w K mg base fc 3 fB dB ["thing"] (yA K):=Sf R.B B R.W R.H R.Kw
 have OD:c_ P w K mg base fc 5 fD dD ["book", "thing"] (yC K):=Se B R
 have OL:c_ P w K mg base fc 7 fL dL ["book", "deal"] (kK K):=jW B R
 have Aq:c_ P w K mg base fc 8 Cs Bm ["book", "deal"] (iM K):=kM ql B R
 have S0:c_ P w K mg base fc 8 Ot IE ["book", "deal"] (RP K):=aFR F4 B R
 have ONl:c_ P w K mg base fc 9 Ow IH ["book", "one", "other"] (Pw K):=r? Kg B R ql
 have GB:=R.B; have GD:=R.D; have GL:=R.L
 have VV:k7 K dB ["thing"] ["thing"]:=kb1 R.B.fn
 have VU:k7 K dD ["book", "thing"] ["thing", "book"]:=kb2 R.D.fn
 have VT:k7 K dL ["book", "deal"] ["deal", "book"]:=kb2 R.L.fn
 have KS:k7 K Bm ["book", "deal"] ["deal", "book"]:=kb2 ql.fn
 have KG:k7 K IE ["book", "deal"] ["deal", "book"]:=kb2 F4.fn
 have KH:k7 K IH ["book", "one", "other"] ["other", "one", "book"]:=B' Kg.fn
 refine G.fn.oK aFU λft A outer s H vs Q E hr h=>?_
 obtain ⟨x,y,z,n,ws,hs,he,lv,rfl,g,ge,L,k⟩:=h
 have r9:ee 9 _:=hr
 have r8:ee 8 _:=hr.mono (by decide)
 have r7:ee 7 _:=hr.mono (by decide)
 have r5:ee 5 _:=hr.mono (by decide)
 have r3:ee 3 _:=hr.mono (by decide)
 refine ⟨_,(aE (bU (PW.pt (fT (aU eU (bL GB OB r3 rfl VV (aS (pv 0) cX)) bP gm) (eN (aU eU (bL GD OD r5 rfl VU (aS (pv 1) (aS (pv 0) cX))) bP gm))))
   (aH (aN bP))
   aW)
  (aE (bU (PW.pt (fT (aU (nG hr.wq) (bL GL OL r7 rfl VT (aS (pv 1) (aS (pv 0) cX))) (aX GL OL r7 rfl (aA (pv 0) (aA (pv 1) aC))) gm) (eN (aU (nG hr.wq) (bL ql Aq r8 rfl KS (aS (pv 1) (aS (pv 0) cX))) (aX ql Aq r8 rfl (aA (pv 0) (aA (pv 1) aC))) gm))))
   (aH (aN bP))
   aW)
  (aE (bU (aU kS (bL F4 S0 r8 rfl KG (aS (pv 1) (aS (pv 0) cX))) (aX F4 S0 r8 rfl (aA (pv 0) (aA (pv 1) aC))) gm)
   (aH (aN bP))
   aW)
  (aH (aN (dX N! (bL Kg ONl r9 rfl KH (aS (pv 1) (aS (pv 2) (aS (pv 0) cX)))) bP gm)))))),?_⟩
 refine gT (Bt (λQ' q=>⟨_,rfl,x,bB n ws,rfl,g.1,λH1 s1=>⟨_,_,rfl,rfl,_,rfl,?_⟩⟩) λH2 s2 Q' q=>⟨_,rfl,_,rfl,x,y,n,ws,bK hs,rfl,s2.den _ _ g.1,g.2.1,s2.den _ _ g.2.2.1,λH1 s1=>⟨_,_,rfl,rfl,_,rfl,?_⟩⟩) λH1 s1=>?_
 ·rw [g.2.1]; exact q _ s1
 ·rw [g.2.2.2]; exact q _ s1
 try dsimp only [gZ]
 have g1:=g.same s1
 refine gT (Bt (λQ' q=>⟨_,rfl,_,rfl,x,y,n,ws,hs,rfl,g1,λp H2 s2 e2=>⟨_,rfl,_,rfl,x,y,n,ws,hs,rfl,g1.same s2,λp' H3 s3 e3=>⟨_,_,lR (s3 _ _ e2),lR e3,cS _,cS _,dZ _,dZ _,_,rfl,?_⟩⟩⟩) λH2 s2 Q' q=>⟨_,rfl,_,rfl,x,y,n,ws,hs,rfl,g1.same s2,λp H3 ms s3 _ e3 pm so=>⟨_,rfl,_,rfl,x,y,n,ws,hs,rfl,(g1.same s2).same s3,λp' H4 VM s4 _ e4 CY CT=>⟨_,_,yR (s4 _ _ e3),yR e4,eT _,eT _,fX _,fX _,_,rfl,?_⟩⟩⟩) λH2 s2=>?_
 ·rw [mH,decide_eq_true rfl]; exact q _ (s2.trans s3)
 ·rw [qA,decide_eq_true (aDE (pm.trans CY.symm) so CT)]; exact q _ (s3.trans s4)
 try dsimp only [gZ]
 have g2:=g1.same s2
 refine gT (λQ' q=>⟨_,rfl,_,rfl,x,y,n,ws,hs,rfl,g2,λH3 s3=>⟨_,rfl,_,rfl,x,y,n,ws,hs,rfl,g2.same s3,λH4 s4=>?_⟩⟩) λH3 s3=>?_
 ·refine ⟨rfl,_,rfl,?_⟩
  rw [decide_eq_true rfl]; exact q _ (s3.trans s4)
 try dsimp only [gZ]
 refine ⟨_,rfl,_,rfl,_,rfl,x,z,y,n,ws,he,hs,rfl,ge.same ((s1.trans s2).trans s3),g2.same s3,λH4 ms ys s4 pm so CY CT=>⟨_,_,rfl,rfl,?_⟩⟩
 rw [kN (by rw [bI,bI]) (λt=>L.least g.2.1 ge.2.2.2 g.2.2.2 t) pm CY CT]
 exact k _ (s1.trans (s2.trans (s3.trans s4)))
theorem rG:∀ {ss:List (Nat×Int×Int)} {h x:Int},fP ws hs h ss x->ss≠[]->qB ((ss.map iE).getLastD [])=x
 | [],_,_,_,ne=>absurd rfl ne
 | [s],_,_,⟨_,_,e⟩,_=>e
 | s::s'::r,_,_,⟨_,_,e⟩,_=>rG (ss:=s'::r) e (by simp)
theorem aG0 (W:kT n ws hs ss):DZ hs (ss.map iE)=true:=by
 obtain ⟨h,x,f',hP,hN,h0,h1,hR,hd⟩:=W
 unfold DZ
 rw [rG hP f']
 cases ss with
 | nil=>exact absurd rfl f'
 | cons s r =>
  show decide (2<=((hs.count s.2.1:Nat):Int) - _)=true
  rw [show s.2.1=h from hP.1]
  exact decide_eq_true hd
theorem p? (hb:bD (bB n ws)=true) (hd:bO ws (bK hs)=true) (L:cJ n ws hs lv):yP n ws hs lv=true:=by
 have hr:=cY hb hd
 have lg:∀ h:Int,0<=h->h < n->∃ v,lv[h.toNat]?=some v/\lv.getD h.toNat 0=v/\lL ws hs n.toNat h v:=λh h0 h1=>by
  have ff:h.toNat < lv.length:=by rw [L.1]; omega
  have e:=Qc ff
  refine ⟨_,e,by rw [Qn,e]; rfl,?_⟩
  have:=(L.2 h.toNat _ e).1
  rwa [show ((h.toNat:Nat):Int)=h by omega] at this
 unfold yP
 rw [decide_eq_true L.1,Jx,Jf]
 refine ⟨qQ λj a b ha ju=>?_,qQ λj h l hh hl=>?_⟩
 ·obtain ⟨m,aah⟩:=L.2 j a ha
  have hj:j < n.toNat:=by rw [<- L.1]; exact (Qb.mp ha).1
  have eb:b=((hs.count (j:Int):Nat):Int):=by
   unfold aJ at ju
   rw [Qd,oT hj] at ju
   exact (Option.some.inj ju).symm
  have:=m.le
  show (decide (a=b) || decide (a=b - 1))=true
  rw [Wm,decide_eq_true_iff,decide_eq_true_iff]
  omega
 ·show (l.all λo=>decide (lv.getD h.toNat 0<=lv.getD o.toNat 0))=true
  rw [Qy]
  intro o ho
  obtain ⟨_,_,_,ip⟩:=aT hb
  obtain ⟨o0,o1⟩:=(aZ (ip l (Qe hl))).2.1 o ho
  obtain ⟨h0,h1⟩:=hr h (Qe hh)
  obtain ⟨v,_,e2,m⟩:=lg h h0 h1
  obtain ⟨u,_,e4,m2⟩:=lg o o0 o1
  refine decide_eq_true ?_
  rw [e2,e4]
  by_cases e:o=h
  ·rw [e] at e4; rw [<- e2,<- e4]; exact Js _
  ·exact m.uk m2 ⟨hh,l,hl,ho,e⟩
theorem lT {u:TS} {σ:St} (h:te σ H λv H1=>u D (σ.set i (some v)) H1):FQ (DS te (jR i)) u D σ H:=h
theorem aFV {t u:TS} {σ:St} (I:St->Hp->Prop) (h1:∀ N:St->Hp->Prop,(∀ e_ H',I e_ H'->N e_ H')->t { D with nx:=N } σ H) (h2:∀ e_ H',I e_ H'->u D e_ H'):FQ t u D σ H:=h1 _ h2
theorem wP {p:ae} (h:JH n ws hs H H' p):∃ (wd:ax) (q:ae),H' p=some (.tup [.str wd,.ref q])/\((wd = "levels" /\ ∃ lv,cJ n ws hs lv)∨(wd = "way" /\ ∃ ss,kT n ws hs ss)):=by
 rcases h with ⟨q,lv,h1,_,L⟩ | ⟨q,ps,ss,h1,_,_,_,W⟩
 ·exact ⟨_,q,h1,.inl ⟨rfl,lv,L⟩⟩
 ·exact ⟨_,q,h1,.inr ⟨rfl,ss,W⟩⟩
theorem aDY {a b:ax} (h:(a = "levels" /\ ∃ lv,cJ n ws hs lv)∨(a = "way" /\ ∃ ss,kT n ws hs ss)) (h':(b = "levels" /\ ∃ lv,cJ n ws hs lv)∨(b = "way" /\ ∃ ss,kT n ws hs ss)):a=b:=by
 rcases h with ⟨rfl,lv,L⟩ | ⟨rfl,ss,W⟩ <;> rcases h' with ⟨rfl,u7,L'⟩ | ⟨rfl,Gf,W'⟩
 ·rfl
 ·exact (jQ L W').elim
 ·exact (jQ L' W).elim
 ·rfl
theorem p! {c:TT} {t:TS} {σ:St} (hc:Ao c σ H true) (h:∀ H',aD H H'->t D σ H'):FP c t gZ D σ H:=hc _ λH' s=>gA (h H' s)
theorem aG1:mM ws hs [[0,0,0]]=false:=by
 have e:eY ws hs [0,0,0]=false:=by
  show (decide ((0:Int)<=0) && (decide ((0:Int) < hs.length) && (hs[(0:Int).toNat]?==some 0 && (!decide ((0:Int)=0) && _))))=false
  rw [decide_eq_true rfl,Wg,Zm,Xp,Xp,Xp]
 unfold mM
 rw [Wf,e,Zm,Zm,Xp]
def RK (K:Rc) (Pt:ae):Sp:=λvs H Q _=>∃ (x y z:V) (lp:ae) (n:Int) (ws:List (List Int)) (hs he lv:List Int),vs = [x,y,z,.ref lp]/\dQ K H x y n ws hs/\dQ K H x z n ws he/\cJ n ws he lv/\H lp=some (.tup (lv.map V.int))/\H Pt=some (.tab qF)/\∀ H',aD H H'->Q (.bl true) H'
theorem yS:dz ["pad", "laid", "best", "marks", "told", "steps"] ["pad", "laid", "best", "marks"] (aF xY):=.of
set_option maxHeartbeats 2000000 in
theorem aFW {OV DL OU OM:ae} {IY Cv IW IQ:bo} (G:Fn K mg "_law_b_ways_right" xY ["pad", "laid", "best", "marks"] f fd) (B:Bl mg) (R:Pr K mg fW fH fK fB jn fD jy fL dW dH dK dB jo dD jz dL) (ql:Fn K mg "falling" iT ["book", "deal"] Cs Bm) (Ks:Fn K mg "are_levels" oM ["book", "deal", "levels"] OV IY) (Au:Fn K mg "levels_or_way" Cy ["book", "deal"] Cr Bk) (Bv:c_ P w K mg base fc 8 Cr Bk ["book", "deal"] (DY K Pt)) (Kf:Fn K mg "is_way" Al ["book", "deal", "some"] DL Cv) (F2:c_ P w K mg base fc 7 DL Cv ["book", "deal", "some"] (FR K)) (TQ:Fn K mg "betters" oJ ["book", "deal", "some"] OU IW) (OBe:c_ P w K mg base fc 9 OU IW ["book", "deal", "some"] (J4 K)) (Kn:Fn K mg "gone" DV ["book", "deal", "some"] OM IQ) (TC:c_ P w K mg base fc 9 OM IQ ["book", "deal", "some"] (yI K)) (CK:Fn K mg "bettered" gL ["book", "deal"] Ct Bn) (D8:c_ P w K mg base fc 10 Ct Bn ["book", "deal"] (iZ K Pt)) :
  c_ P w K mg base fc 11 f fd ["pad", "laid", "best", "marks"] (RK K Pt):=by
 have Aq:c_ P w K mg base fc 8 Cs Bm ["book", "deal"] (iM K):=kM ql B R
 have OAl:c_ P w K mg base fc 8 OV IY ["book", "deal", "levels"] (Pu K):=aDV Ks B R
 have K2:k7 K IY ["book", "deal", "levels"] ["levels", "deal", "book"]:=B' Ks.fn
 have KN:k7 K Bk ["book", "deal"] ["deal", "book"]:=kb2 Au.fn
 have Ec:k7 K Cv ["book", "deal", "some"] ["some", "deal", "book"]:=B' Kf.fn
 have K1:k7 K IW ["book", "deal", "some"] ["some", "deal", "book"]:=B' TQ.fn
 have KR:k7 K IQ ["book", "deal", "some"] ["some", "deal", "book"]:=B' Kn.fn
 have K0:k7 K Bn ["book", "deal"] ["deal", "book"]:=kb2 CK.fn
 refine G.fn.oK yS λft A outer s H vs Q E hr h=>?_
 obtain ⟨x,y,z,lp,n,ws,hs,he,lv,rfl,g,ge,L,kz,hT,k⟩:=h
 have AS:ee 10 _:=hr
 have r9:ee 9 _:=hr.mono (by decide)
 have r8:ee 8 _:=hr.mono (by decide)
 have r7:ee 7 _:=hr.mono (by decide)
 refine ⟨_,(aE (bU (aU eU (bL Ks OAl r8 rfl K2 (aS (pv 3) (aS (pv 2) (aS (pv 0) cX)))) bP gm)
   (aH (aN bP))
   aW)
  (aE (bA (i:=4) yS.nd rfl fi (bL Au Bv r8 rfl KN (aS (pv 1) (aS (pv 0) cX))))
  (aE (bU (aU kS (bC bQ (pv 4) aK il) (bC bQ (aX Au Bv r8 rfl (aA (pv 0) (aA (pv 1) aC))) aK il) gm)
   (aH (aN bP))
   aW)
  (aE (bU (aU eU (bL Kf F2 r7 rfl Ec (aS (eO (aA (cO (aA aK (aA aK (aA aK aC)))) aC)) (aS (pv 1) (aS (pv 0) cX)))) bP gm)
   (aH (aN bP))
   aW)
  (aE (bU (aU mO (bC bQ (pv 4) aK il) sD gm)
   (aE (bA (i:=5) yS.nd rfl fi (bC bQ (pv 4) aK il))
  (aE (bU (PW.pt (fT (aU eU (bL Kf F2 r7 rfl Ec (aS (pv 5) (aS (pv 1) (aS (pv 0) cX)))) bP gm) (eN (aU eU (bL TQ OBe r9 rfl K1 (aS (pv 5) (aS (pv 1) (aS (pv 0) cX)))) bP gm))))
   (aH (aN bP))
   aW)
  (aH (bU (aU (nG hr.wq) (bL Kn TC r9 rfl KR (aS (pv 5) (aS (pv 1) (aS (pv 0) cX)))) (aX Kn TC r9 rfl (aA (pv 0) (aA (pv 1) (aA (pv 5) aC)))) gm)
   (aH (aN bP))
   aW))))
   aW)
  (aH (aN (dX (J0 hr.wq) (aX ql Aq r8 rfl (aA (pv 0) (aA (bC bQ (bL CK D8 AS rfl K0 (aS (pv 1) (aS (pv 0) cX))) aK il) aC))) (aX ql Aq r8 rfl (aA (pv 0) (aA (pv 2) aC))) gm)))))))),?_⟩
 refine gT (λQ' q=>⟨_,rfl,_,rfl,_,rfl,x,z,lp,n,ws,he,lv,rfl,ge,d_.of kz,λH1 s1=>⟨_,_,rfl,rfl,_,rfl,?_⟩⟩) λH1 s1=>?_
 ·rw [p? ge.2.1 ge.2.2.2 L]; exact q _ s1
 try dsimp only [gZ]
 have g1:=g.same s1
 refine lT ⟨_,rfl,_,rfl,x,y,n,ws,hs,rfl,g1,s1 _ _ hT,λp H2 s2 TD=>?_⟩
 have CV:=s1.trans s2
 have g2:=g.same CV
 obtain ⟨wd,q0,e0,cw⟩:=wP TD
 refine gT (λQ' q=>⟨_,rfl,p,_,0,_,rfl,rfl,d_.of e0,rfl,_,rfl,_,rfl,x,y,n,ws,hs,rfl,g2,CV _ _ hT,λp' H3 s3 TD'=>?_⟩) λH3 s3=>?_
 ·obtain ⟨wd',q1,e1,ZZ⟩:=wP TD'
  cases aDY cw ZZ
  refine ⟨p',_,0,_,rfl,rfl,d_.of e1,rfl,rfl,_,rfl,?_⟩
  rw [decide_eq_true rfl]; exact q _ s3
 try dsimp only [gZ]
 have g3:=g2.same s3
 refine gT (λQ' q=>⟨MB _ _ _,λpa ha=>⟨um _,λpl qf=>⟨_,rfl,_,rfl,x,y,pl,_,n,ws,hs,[[0,0,0]],rfl,g3.same ((aD.new ha).trans (aD.new qf)),fh.of aB,aQ.mpr ⟨_,_,rfl,aR.mpr ⟨pa,rfl,d_.of ((aD.new qf) _ _ aB)⟩,bG.mpr rfl⟩,by decide,by simp,λH4 s4=>⟨_,_,rfl,rfl,_,rfl,?_⟩⟩⟩⟩) λH4 s4=>?_
 ·rw [aG1]; exact q _ ((aD.new ha).trans ((aD.new qf).trans s4))
 try dsimp only [gZ]
 have EU:=CV.trans (s3.trans s4)
 refine aFV (λe_ H'=>∃ v5,e_ = [some x,some y,some z,some (.ref lp),some (.ref p),v5]/\aD H H') (λN hN=>?_) ?_
 ·have Gj:=s3.trans s4
  rcases TD with ⟨q0,u7,h1,_,L'⟩ | ⟨q0,ps,ss,h1,h2,h3,h4,W⟩
  ·refine JM (λQ' q=>⟨_,rfl,p,_,0,_,rfl,rfl,d_.of (Gj _ _ h1),rfl,rfl,_,rfl,?_⟩) λH5 s5=>hN _ _ ⟨none,rfl,EU.trans s5⟩
   exact q _ (aD.refl _)
  ·refine p! (λQ' q=>⟨_,rfl,p,_,0,_,rfl,rfl,d_.of (Gj _ _ h1),rfl,rfl,_,rfl,q _ (aD.refl _)⟩) λH5 s5=>?_
   have B6:=Gj.trans s5
   refine lT ⟨_,rfl,p,_,1,_,rfl,rfl,d_.of (B6 _ _ h1),rfl,?_⟩
   have hle:(ss.map iE).length<=30:=by have:=g2.short W; rw [Qa]; omega
   have wi:yk K H5 x y q0 (ps.map V.ref) n ws hs (ss.map iE):=⟨g2.same B6,fh.of (B6 _ _ h3),(h4.tp (Tp.of B6)).den,hle,λl hl=>by
    obtain ⟨s,_,rfl⟩:=Qv.mp hl
    exact (by decide:3<=1000)⟩
   have hw:mM ws hs (ss.map iE)=true:=by
    obtain ⟨h,xx,a1,a2,a3,_⟩:=W
    exact Q5 a1 a2 a3
   refine gT (Bt (λQ' q=>⟨_,rfl,_,rfl,_,rfl,x,y,q0,_,n,ws,hs,_,rfl,wi.1,wi.2.1,wi.2.2.1,wi.2.2.2.1,wi.2.2.2.2,λH6 s6=>⟨_,_,rfl,rfl,_,rfl,?_⟩⟩) λH6 s6 Q' q=>⟨_,rfl,_,rfl,_,rfl,x,y,q0,_,n,ws,hs,_,rfl,wi.same s6,hw,λH7 s7=>⟨_,_,rfl,rfl,_,rfl,?_⟩⟩) λH6 s6=>?_
   ·rw [hw]; exact q _ s6
   ·rw [aG0 W]; exact q _ s7
   try dsimp only [gZ]
   refine JM (λQ' q=>⟨_,rfl,_,rfl,_,rfl,x,y,q0,_,n,ws,hs,_,rfl,wi.same s6,hw,λd H7 s7 _ e7=>⟨_,rfl,_,rfl,_,rfl,x,y,q0,_,n,ws,hs,_,rfl,(wi.same s6).same s7,hw,λd' H8 s8 _ e8=>⟨_,_,lR (s8 _ _ e7),lR e8,cS _,cS _,dZ _,dZ _,_,rfl,?_⟩⟩⟩) λH7 s7=>hN _ _ ⟨_,rfl,EU.trans (s5.trans (s6.trans s7))⟩
   rw [mH,decide_eq_true rfl]; exact q _ (s7.trans s8)
 rintro σ H5 ⟨v5,rfl,s5⟩
 refine ⟨_,rfl,_,rfl,_,rfl,x,y,n,ws,hs,rfl,g.same s5,s5 _ _ hT,λpb H6 s6 TB=>?_⟩
 obtain ⟨wl,dl,qs,Ws,hc,M0,b1,_,_,_,b5,b6,b7⟩:=TB
 have yd:=gQ b6 g.2.2.2
 have gc:dQ K H6 x (.ref dl) n ws hc:=⟨(s5.trans s6).den _ _ g.1,g.2.1,aR.mpr ⟨dl,rfl,d_.of b5⟩,yd⟩
 refine ⟨pb,_,1,_,rfl,rfl,d_.of b1,rfl,x,.ref dl,n,ws,hc,rfl,gc,λq1 H7 ms s7 _ e7 pm so=>⟨_,rfl,_,rfl,x,z,n,ws,he,rfl,ge.same (s5.trans (s6.trans s7)),λq2 H8 VM s8 _ e8 CY CT=>⟨_,_,yR (s8 _ _ e7),yR e8,eT _,eT _,fX _,fX _,?_⟩⟩⟩
 rw [qA,decide_eq_true (nN (by rw [bI,bI]) (tZ g.2.1 yd ge.2.2.2 b7) (tZ g.2.1 ge.2.2.2 yd L) pm CY so CT)]
 exact k _ (s5.trans (s6.trans (s7.trans s8)))
noncomputable def FX (n:Int) (ls:List Int):Bool:=ls.isEmpty || cH n (bY ls)
theorem aFX {ls:List Int}:FX n ls=true↔ls.Pairwise (· < ·)/\∀ h∈ls,0<=h/\h < n:=by
 unfold FX
 cases ls with
 | nil=>exact ⟨λ_=>⟨.nil,λ_ h=>(Qp h).elim⟩,λ_=>rfl⟩
 | cons a r =>
  show (false || _)=true↔_
  rw [Qai]
  constructor
  ·intro h
   obtain ⟨_,w2,w3⟩:=aZ h
   exact ⟨w3,w2⟩
  ·rintro ⟨h1,h2⟩
   exact aGJ (by simp) h2 h1
noncomputable def oD:Option Int->ar
 | none=>.none
 | some i=>.int i
theorem qR:∀ os:List (Option Int),bF K H (os.map oD) (os.map oV)
 | []=>bG.mpr rfl
 | none::os=>aQ.mpr ⟨_,_,rfl,lE.mpr rfl,qR os⟩
 | some i::os=>aQ.mpr ⟨_,_,rfl,dM.mpr rfl,qR os⟩
theorem yT:∀ os:List (Option Int),(os.map oD).map mY=os
 | []=>rfl
 | none::os=>congrArg (none::·) (yT os)
 | some i::os=>congrArg (some i::·) (yT os)
theorem wQ:∀ {os:List (Option Int)} {ws:List (List Int)},os.length=ws.length->(∀ (j:Nat) (h:Int) (l:List Int),os[j]?=some (some h)->ws[j]?=some l->h∈l)->((os.map oD).zip ws).all (λp=>jA p.1 p.2)=true
 | [],[],_,_=>rfl
 | o::os,l::ws,hl,hq=>by
  have ih:=wQ (os:=os) (ws:=ws) (by simpa using hl) λj h l e1 e2=>hq (j+1) h l (by simpa using e1) (by simpa using e2)
  rw [Qw,List.zip_cons_cons,Wf,ih,Qak]
  cases o with
  | none=>rfl
  | some h=>exact Xg.mpr ⟨h,hq 0 h l rfl rfl,by simp⟩
 | [],_::_,hl,_=>by simp at hl
 | _::_,[],hl,_=>by simp at hl
theorem o? {os:List (Option Int)} (h:Pp ws rs os):iF ws rs (.tuple (os.map oD))=true:=by
 show (decide ((os.map oD).length=ws.length) && (((os.map oD).zip ws).all (λp=>jA p.1 p.2) && uH ((os.map oD).map mY) rs))=true
 rw [yT,wQ h.1 h.2.1,Qa,decide_eq_true h.1,Jx,Jx]
 unfold uH
 rw [Qy]
 exact λi hi=>decide_eq_true (h.2.2 i (Jm.mp hi))
theorem aFY {os:List (Option Int)} (hj:j < rs.length) (h:rs.getD j 0 < ((os.count (some (j:Int)):Nat):Int)):iF ws rs (.tuple (os.map oD))=false:=by
 show (decide ((os.map oD).length=ws.length) && (((os.map oD).zip ws).all (λp=>jA p.1 p.2) && uH ((os.map oD).map mY) rs))=false
 have:uH ((os.map oD).map mY) rs=false:=by
  rw [yT]
  unfold uH
  rw [List.all_eq_false]
  exact ⟨j,Jm.mpr hj,by rw [decide_eq_true_iff]; omega⟩
 rw [this,Xp,Xp]
theorem qS:∀ (os:List (Option Int)),(os.filter λo=>decide (o=none)).length=os.count none
 | []=>rfl
 | none::os=>by rw [Xj (by rfl),Ja,qS os,Wz]
 | some i::os=>by rw [Xk (by simp),qS os,List.count_cons_of_ne (by simp)]
def SR (K:Rc) (Pa:ae):Sp:=λvs H Q _=>∃ (x y:V) (ws:List (List Int)) (hs:List Int),vs = [x,y]/\dQ K H x y 2 ws hs/\hs≠[]/\H Pa=some (.tab Cw)/\∀ H',aD H H'->Q (.bl true) H'
theorem pJ:dz ["pad", "laid", "put", "shown", "left"] ["pad", "laid"] (aF oP):=.of
set_option maxHeartbeats 2000000 in
theorem aDZ {OI OE OQ OT Pa:ae} {IM IL IU IV:bo} (G:Fn K mg "_law_b_rooms_right" oP ["pad", "laid"] f fd) (B:Bl mg) (TM:Fn K mg "in_rooms" Bs ["book", "rooms"] OI IM) (OIn:c_ P w K mg base fc 7 OI IM ["book", "rooms"] (Px K)) (Kl:Fn K mg "is_in_rooms" lH ["book", "rooms", "thing"] OE IL) (S':c_ P w K mg base fc 7 OE IL ["book", "rooms", "thing"] (JO K)) (TN:Fn K mg "do_bar" pZ ["book", "rooms", "some", "number"] OQ IU) (ODb:c_ P w K mg base fc 7 OQ IU ["book", "rooms", "some", "number"] (yN K)) (Kr:Fn K mg "as_they_come" FT ["book"] OT IV) (TH:c_ P w K mg base fc 5 OT IV ["book"] (QB K Pa)) :
  c_ P w K mg base fc 8 f fd ["pad", "laid"] (SR K Pa):=by
 have KO:k7 K IM ["book", "rooms"] ["rooms", "book"]:=kb2 TM.fn
 have Ed:k7 K IL ["book", "rooms", "thing"] ["thing", "rooms", "book"]:=B' Kl.fn
 have KW:k7 K IU ["book", "rooms", "some", "number"] ["number", "some", "rooms", "book"]:=TN.fn.E5 λ_ _ _ _ _ _ ws hl=>match ws,hl with | [_,_,_,_],_=>rfl
 have KZ:k7 K IV ["book"] ["book"]:=kb1 Kr.fn
 refine G.fn.oK pJ λft A outer s H vs Q E hr h=>?_
 obtain ⟨x,y,ws,hs,rfl,g,f',hT,k⟩:=h
 have r7:ee 7 _:=hr
 have r5:ee 5 _:=hr.mono (by decide)
 have u6:jJ 2 [1,1]:=⟨rfl,λr h=>by simp at h; omega⟩
 have U1:jJ 2 [0,0]:=⟨rfl,λr h=>by simp at h; omega⟩
 obtain ⟨ny,_,_⟩:=g.len
 obtain ⟨jk,Ae⟩:=aV g.2.2.2
 refine ⟨_,(aE (iG (bL TM OIn r7 rfl KO (aS (cO (aA aK (aA aK aC))) (aS (pv 0) cX))) (dO rfl (aM (aI (i:=2) pJ.nd rfl fi) (aM (aI (i:=3) pJ.nd rfl fi) bV))))
  (aE (bU (aU eU (bL Kl S' r7 rfl Ed (aS (pv 2) (aS (cO (aA aK (aA aK aC))) (aS (pv 0) cX)))) bP gm)
   (aH (aN bP))
   aW)
  (aE (bA (i:=4) pJ.nd rfl fi (aO bE rfl B.len gE (aA (bX (own:=["who"]) (fr:=[]) (fm:=[]) (aY (aF oP) ["pad", "laid", "put", "shown", "left"] rfl rfl (by decide +kernel)) rfl (eI (pv 2))
    (λ_ _ _ _=>(aI (i:=0) (show (["who"]:List ax).Nodup by decide +kernel) rfl fi)) (λ_ _ _ _=>nE (aU W? (pv 0) wS gm))
    (λ_ _ _ _=>(pv 0))) aC)))
  (aE (bU (aU eU (bL TN ODb r7 rfl KW (aS (pv 4) (aS (pv 3) (aS (cO (aA aK (aA aK aC))) (aS (pv 0) cX))))) bP gm)
   (aH (aN bP))
   aW)
  (aE (bU (aU eU (bL Kl S' r7 rfl Ed (aS (pv 1) (aS (cO (aA aK (aA aK aC))) (aS (pv 0) cX)))) bP gm)
   (aH (aN bP))
   aW)
  (aH (aN (dX (J0 hr.wq) (bL Kr TH r5 rfl KZ (aS (pv 0) cX)) (aX Kr TH r5 rfl (aA (pv 0) aC)) gm)))))))),?_⟩
 refine ⟨qm _ _,λra ha=>⟨_,rfl,x,ra,2,ws,[1,1],rfl,(aD.new ha).den _ _ g.1,g.2.1,d_.of aB,u6,λp dp sp os ls H1 s1 hp A' oa ht=>?_⟩⟩
 have MK:=(aD.new ha).trans s1
 refine ⟨p,_,rfl,d_.of hp,rfl,_,_,rfl,_,_,rfl,rfl,?_⟩
 have g1:=g.same MK
 have ZE:∀ H',aD H1 H'->Den K H' (.tuple (os.map oD)) (.ref dp):=λH' s'=>cC.mpr ⟨dp,_,rfl,d_.of (s' _ _ A'),qR os⟩
 dsimp only
 refine gT (λQ' q=>⟨_,rfl,qm _ _,λrb hb=>⟨_,rfl,x,rb,.ref dp,2,ws,[1,1],.tuple (os.map oD),rfl,(aD.new hb).den _ _ g1.1,g1.2.1,d_.of aB,u6,ZE _ (aD.new hb),λH2 s2=>⟨_,_,rfl,rfl,_,rfl,?_⟩⟩⟩) λH2 s2=>?_
 ·rw [o? ht.AH]; exact q _ ((aD.new hb).trans s2)
 try dsimp only [gZ]
 have CV:=MK.trans s2
 have d2:=s2 _ _ A'
 have A5:os.length<=12:=by have:=ht.AH.1; omega
 refine lT ⟨_,rfl,dp,rfl,⟨_,d_.of d2⟩,hV (K:=K) (a:=dp) (xs:=os.map oV) (λσ=>∃ v,σ = [v]) (λi zs H3=>H3=H2/\zs=((os.take i).filter λo=>decide (o=none)).map oV) (eG (by rw [Qa]; omega)) ⟨none,rfl⟩ ⟨rfl,rfl⟩ (λi zs H3 z=>by rw [z.2,Qa]; exact Jd (Xd _ _) (by rw [Qq]; omega)) (λi zs H3 z=>by rw [z.1]; exact d_.of d2) ?_ ?_⟩
 ·rintro i zs σ u H3 hu ⟨v0,rfl⟩ ⟨rfl,rfl⟩ hz
  rw [Qd] at hu
  obtain ⟨o,ho,rfl⟩:∃ o,os[i]?=some o/\oV o=u:=by
   cases q:os[i]? with
   | none=>rw [q] at hu; cases hu
   | some o=>rw [q] at hu; exact ⟨o,rfl,Option.some.inj hu⟩
  rw [Je,ho]
  cases o with
  | none=>exact ⟨_,rfl,rfl,_,rfl,_,rfl,hz,⟨_,rfl⟩,rfl,by simp⟩
  | some t=>exact ⟨_,rfl,rfl,_,rfl,⟨_,rfl⟩,rfl,by simp⟩
 rintro zs H3 ⟨rfl,rfl⟩ q1 mh
 rw [Jb (show os.length<=(os.map oV).length by rw [Qa]; exact Qh _)]
 refine ⟨q1,_,rfl,.inl (fh.of aB),?_⟩
 rw [Qa,qS]
 have xl:=CV.trans (aD.new (o:=.lst ((os.filter λo=>decide (o=none)).map oV)) mh)
 have mq:=s2.trans (aD.new (o:=.lst ((os.filter λo=>decide (o=none)).map oV)) mh)
 generalize upd H3 q1 (.lst ((os.filter λo=>decide (o=none)).map oV))=H4 at xl mq ⊢
 have EA:FX 2 ls=true:=aFX.mpr ⟨ht.rise,ht.ow⟩
 have WU:ls.length<=20:=by
  have:=jY 2 ls (ht.rise.imp λh=>Int.ne_of_lt h) ht.ow
  omega
 refine gT (λQ' q=>⟨_,rfl,_,rfl,qm _ _,λrb hb=>⟨_,rfl,x,rb,sp,2,ws,[1,1],ls,_,rfl,(xl.trans (aD.new hb)).den _ _ g.1,g.2.1,d_.of aB,u6,d_.of ((aD.new hb) _ _ (mq _ _ oa)),WU,λH5 s5=>⟨_,_,rfl,rfl,_,rfl,?_⟩⟩⟩) λH5 s5=>?_
 ·rw [show qP 2 ws [1,1] ls ((os.count none:Nat):Int)=true by
   show (FX 2 ls && _)=true
   rw [EA,Jx,ht.over,decide_eq_true (Js _)]]
  exact q _ ((aD.new hb).trans s5)
 try dsimp only [gZ]
 have AN:=xl.trans s5
 have g5:=g.same AN
 refine gT (λQ' q=>⟨_,rfl,qm _ _,λrb hb=>⟨_,rfl,x,rb,y,2,ws,[0,0],bK hs,rfl,(aD.new hb).den _ _ g5.1,g5.2.1,d_.of aB,U1,(aD.new hb).den _ _ g5.2.2.1,λH6 s6=>⟨_,_,rfl,rfl,_,rfl,?_⟩⟩⟩) λH6 s6=>?_
 ·have e:iF ws [0,0] (bK hs)=false:=by
   cases hs with
   | nil=>exact absurd rfl f'
   | cons h r =>
    obtain ⟨h0,h1⟩:=g.hand (i:=0) rfl
    have:=aFY (ws:=ws) (rs:=[0,0]) (os:=(h::r).map some) (j:=h.toNat) (show h.toNat < 2 by omega) (by
     rw [show ((h.toNat:Nat):Int)=h by omega,Qw,Wz,show ([0,0]:List Int).getD h.toNat 0=0 by
      have:h.toNat=0∨h.toNat=1:=by omega
      rcases this with e | e <;> rw [e] <;> rfl]
     omega)
    rw [Jn] at this
    exact this
  rw [e]; exact q _ ((aD.new hb).trans s6)
 try dsimp only [gZ]
 have u5:=AN.trans s6
 refine ⟨_,rfl,x,2,ws,rfl,u5.den _ _ g.1,g.2.1,u5 _ _ hT,λpa H7 s7 e7=>⟨_,rfl,x,2,ws,rfl,(u5.trans s7).den _ _ g.1,g.2.1,(u5.trans s7) _ _ hT,λpb H8 s8 e8=>⟨_,_,lR (s8 _ _ e7),lR e8,cS _,cS _,dZ _,dZ _,?_⟩⟩⟩
 rw [mH,decide_eq_true rfl]
 exact k _ (u5.trans (s7.trans s8))
end Ab
namespace L2
open PySem PySem.Spec PyProof.Rows
def c! (K:Rc):R2:=λx y H Q=>∃ l b xs zs,x=.ref l/\y=.ref b/\fh K H l xs/\fh K H b zs/\xs.length+zs.length<=ak/\∀ p,H p=none->Q (.ref p) (upd H p (.lst (xs++zs)))
theorem aG2 (hK:X.K=K):i7 X (binaryOp .Add) (c! K):=by
 subst hK
 intro a_ s σ H x y v u Q I rx ry h
 obtain ⟨l,b,xs,zs,rfl,rfl,hH,hB,hz,q⟩:=h
 cases rx
 cases ry
 obtain ⟨b_,r,⟨⟨cls,dd,data,sl⟩,n,ho,hc,_,hd⟩,hl⟩:=I.list hH
 obtain ⟨mn,r2,⟨⟨BQ,xi,data2,wu⟩,n2,t9,qi,_,hd2⟩,xb⟩:=I.list hB
 simp only at hc hd qi hd2
 subst hc hd qi hd2
 have t7:b_.length+mn.length<=ak:=by rw [<- r.length,<- r2.length]; exact hz
 have ea:b_.toArray++mn.toArray=(b_++mn).toArray:=by simp
 refine Vo ⟨_,ho,rfl⟩ ⟨_,t9,rfl⟩ noFill_list_add seq_list_add PySem.F.slot_list_add PySem.F.entry_list_add (PySem.F.args_list_add_2 _ _) (list_addW l b b_.toArray mn.toArray n n2 dd xi sl wu (by simpa using t7)) ⟨ho,t9,?_⟩
 rw [ea]
 exact ⟨.ref _,_,I.BC (t':=s.toks) (r.append r2) (by rw [Qj]; exact hz),rfl,q _ I.fresh⟩
end L2
namespace Ab
open PySem L2
theorem b?:ay "abs" = some (.builtin "abs"):=by decide +kernel
theorem wR:∀ {qs rs:List ae} {p:Nat->Int->Prop},qs.length=rs.length->(∀ j x,p j x->0<=x/\x < 1000)->(∀ (j:Nat) q,qs[j]?=some q->∃ r,H q=some (.tup (r.map V.int))/\vm r (p j))->(∀ (j:Nat) q,rs[j]?=some q->∃ r,H q=some (.tup (r.map V.int))/\vm r (p j))->∃ rr:List (List Int),rr.length=qs.length/\(∀ r∈rr,r.length<=1000)/\bF K H (rr.map bY) (qs.map V.ref)/\bF K H (rr.map bY) (rs.map V.ref)
 | [],[],_,_,_,_,_=>⟨[],rfl,λ_ h=>(by cases h),bG.mpr rfl,bG.mpr rfl⟩
 | [],_::_,_,hl,_,_,_=>by simp at hl
 | _::_,[],_,hl,_,_,_=>by simp at hl
 | q::qs,r::rs,p,hl,hp,h1,h2=>by
  obtain ⟨rr,a,z,b,c⟩:=wR (qs:=qs) (rs:=rs) (p:=λj=>p (j+1)) (by simpa using hl) (λj=>hp (j+1)) (λj x h=>h1 (j+1) x (by simpa using h)) (λj x h=>h2 (j+1) x (by simpa using h))
  obtain ⟨u,hu,ru⟩:=h1 0 q rfl
  obtain ⟨v,hv,rv⟩:=h2 0 r rfl
  obtain rfl:=ru.uniq rv
  have:=iY (n:=1000) (by decide) (λx hx=>hp 0 x ((ru.2 x).mp hx)) ru.1
  exact ⟨u::rr,by rw [Ja,a]; rfl,λr h=>by rcases Ql.mp h with rfl | h; omega; exact z r h,aQ.mpr ⟨_,_,rfl,aR.mpr ⟨q,rfl,d_.of hu⟩,b⟩,aQ.mpr ⟨_,_,rfl,aR.mpr ⟨r,rfl,d_.of hv⟩,c⟩⟩
section
variable {u7:List Int}
theorem lU (hb:bD (bB n ws)=true) (hd:bO ws (bK hs)=true) (i5:bO ws (bK hs')=true) (L:gz n ws hs lv) (L':gz n ws hs' u7) {d:List Int} (h:bO ws (bK d)=true):gz n ws d lv↔gz n ws d u7:=by
 have e:(aJ n hs').Perm (aJ n hs):=(L.iff hb hd i5).mpr (L.same hb hd i5 λt=>Int.le_antisymm (L'.least hb i5 hd t) (L.least hb hd i5 t))
 rw [<- L.iff hb hd h,<- L'.iff hb i5 h]
 exact ⟨λa=>a.trans e.symm,λa=>a.trans e⟩
theorem aG3 (hb:bD (bB n ws)=true) (hd:bO ws (bK hs)=true) (i5:bO ws (bK hs')=true) (L:gz n ws hs lv) (L':gz n ws hs' u7) (i:Nat) (x:Int):Go n ws lv i x↔Go n ws u7 i x :=
 ⟨λ⟨d,a,b,c⟩=>⟨d,a,b,(lU hb hd i5 L L' a).mp c⟩,λ⟨d,a,b,c⟩=>⟨d,a,b,(lU hb hd i5 L L' a).mpr c⟩⟩
theorem aG4 (hb:bD (bB n ws)=true) (hd:bO ws (bK hs)=true) (i5:bO ws (bK hs')=true) (L:gz n ws hs lv) (L':gz n ws hs' u7) (i:Nat) (x:Int):Hv n ws lv i x↔Hv n ws u7 i x :=
 ⟨λ⟨d,a,b,c⟩=>⟨d,a,(lU hb hd i5 L L' a).mp b,c⟩,λ⟨d,a,b,c⟩=>⟨d,a,(lU hb hd i5 L L' a).mpr b,c⟩⟩
theorem aD0 (hb:bD (bB n ws)=true) (hd:bO ws (bK hs)=true) (i5:bO ws (bK hs')=true) (L:cJ n ws hs lv) (L':cJ n ws hs' u7) (M:gz n ws hs lv) (M':gz n ws hs' u7):SM (eQ n.toNat lv ws)=SM (eQ n.toNat u7 ws):=by
 rw [RV hb L.1 M,RV hb L'.1 M']
 congr 2
 refine List.filter_congr λd h=>?_
 rw [decide_eq_decide]
 exact lU hb hd i5 M M' (lP _ ws rfl d h)
end
theorem o! (hb:bD (bB n ws)=true) (j:Nat) (x:Int) (h:Go n ws lv j x):0<=x/\x < 1000:=by
 obtain ⟨d,a,b,_⟩:=h
 have:=cY hb a x (Qe b)
 obtain ⟨_,_,_,_⟩:=aT hb
 omega
theorem n? (hb:bD (bB n ws)=true) (j:Nat) (x:Int) (h:Hv n ws lv j x):0<=x/\x < 1000:=by
 obtain ⟨d,a,_,rfl⟩:=h
 obtain ⟨_,_,_,_⟩:=aT hb
 have:=(aV a).1
 have:=Yn (a:=(j:Int)) (l:=d)
 omega
theorem RJ {p p':ae} {rs:List ae} {q:Nat->Int->Prop} (e1:H p=some (.lst (qs.map V.ref))) (e2:H p'=some (.lst (rs.map V.ref))) (hl:qs.length=rs.length) (hq:∀ j x,q j x->0<=x/\x < 1000) (h1:∀ (j:Nat) u,qs[j]?=some u->∃ r,H u=some (.tup (r.map V.int))/\vm r (q j)) (h2:∀ (j:Nat) u,rs[j]?=some u->∃ r,H u=some (.tup (r.map V.int))/\vm r (q j)) :
  ∃ d,Den K H d (.ref p)/\Den K H d (.ref p')/\eA d=true/\SeqAt.shaped d=true/\ar.eqv d d=true:=by
 obtain ⟨rr,_,_,a,b⟩:=wR (K:=K) hl hq h1 h2
 exact ⟨_,hJ.mpr ⟨p,_,rfl,fh.of e1,a⟩,hJ.mpr ⟨p',_,rfl,fh.of e2,b⟩,yH _,oX _,PySem.SeqAt.eqv_refl _ (SeqAt.canLay_of_shaped (oX _))⟩
def FW (K:Rc) (P1 P2:ae):Sp:=λvs H Q _=>∃ (a:ae) (ns:List Int),vs = [.ref a]/\fh K H a (ns.map V.int)/\ns.length<=63/\H P1=some (.tab qF)/\H P2=some (.tab Cw)/\∀ H',H' P1=some (.tab qF)->H' P2=some (.tab Cw)->Q (.bl true) H'
def JA (ls:List (List Int)):Prop:=∀ l∈ls,l = [0]∨l = [1]∨l = [0,1]
theorem JA.work {ls:List (List Int)} (h:JA ls):∀ l∈ls,cH 2 (bY l)=true:=λl hl=>by
 rcases h l hl with rfl | rfl | rfl <;> decide +kernel
def uP (H:Hp) (as:List ae) (ls:List (List Int)):Prop:=as.length=ls.length/\∀ (j:Nat) (a:ae) (l:List Int),as[j]?=some a->ls[j]?=some l->H a=some (.tup (l.map V.int))
theorem uP.same {as:List ae} {ls:List (List Int)} (r:uP H as ls) (s:aD H H'):uP H' as ls:=⟨r.1,λj a l h1 h2=>s _ _ (r.2 j a l h1 h2)⟩
theorem uP.den:∀ {as:List ae} {ls:List (List Int)},uP H as ls->bF K H (ls.map bY) (as.map V.ref)
 | [],[],_=>bG.mpr rfl
 | [],_::_,h=>by have:=h.1; simp at this
 | _::_,[],h=>by have:=h.1; simp at this
 | a::as,l::ls,h=>aQ.mpr ⟨_,_,rfl,aR.mpr ⟨a,rfl,d_.of (h.2 0 a l rfl rfl)⟩,uP.den ⟨by simpa using h.1,λj b m h1 h2=>h.2 (j+1) b m (by simpa using h1) (by simpa using h2)⟩⟩
theorem nB:dz ["script", "cell", "works", "left", "k", "pad", "laid", "best", "marks"] ["script"] (aF FL):=.of
set_option maxHeartbeats 4000000 in
theorem n! {OO OP Oz Oy Ox OJ Ou Ov P1 P2:ae} {IS O5 O3 IK IJ IP O1 O2:bo} (G:Fn K mg "law" FL ["script"] f fd) (B:Bl mg) (CJ:Fn K mg "evenest" iU ["book"] OO IS) (D7:c_ P w K mg base fc 11 OO IS ["book"] (kB K P1)) (Ko:Fn K mg "_law_b_errors_right" oO [] OP O5) (OEr:c_ P w K mg base fc 2 OP O5 [] SU) (GLr:Fn K mg "_law_b_loads_right" rT ["pad", "laid", "best"] Oz O3) (OLr:c_ P w K mg base fc 10 Oz O3 ["pad", "laid", "best"] (SS K)) (Kj:Fn K mg "may_go" tI ["book"] Oy IK) (S6:c_ P w K mg base fc 12 Oy IK ["book"] (yM K P1)) (Ki:Fn K mg "may_have" iB ["book"] Ox IJ) (S5:c_ P w K mg base fc 13 Ox IJ ["book"] (qO K P1)) (Km:Fn K mg "how_many" oN ["book"] OJ IP) (S_:c_ P w K mg base fc 13 OJ IP ["book"] (qM K P1)) (GWr:Fn K mg "_law_b_ways_right" xY ["pad", "laid", "best", "marks"] Ou O1) (OWr:c_ P w K mg base fc 11 Ou O1 ["pad", "laid", "best", "marks"] (RK K P1)) (GRr:Fn K mg "_law_b_rooms_right" oP ["pad", "laid"] Ov O2) (ORr:c_ P w K mg base fc 8 Ov O2 ["pad", "laid"] (SR K P2)) :
  c_ P w K mg base fc 14 f fd ["script"] (FW K P1 P2):=by
 have KU:k7 K IS ["book"] ["book"]:=kb1 CJ.fn
 have KL:k7 K IK ["book"] ["book"]:=kb1 Kj.fn
 have KJ:k7 K IJ ["book"] ["book"]:=kb1 Ki.fn
 have KQ:k7 K IP ["book"] ["book"]:=kb1 Km.fn
 refine G.fn.oK nB λft A outer s H vs Q E hr h=>?_
 obtain ⟨a,ns,rfl,nj,hl,hT,Ai,k⟩:=h
 have EW:ee 13 _:=hr
 have zx:ee 12 _:=hr.mono (by decide)
 have u6:ee 11 _:=hr.mono (by decide)
 have AS:ee 10 _:=hr.mono (by decide)
 have r8:ee 8 _:=hr.mono (by decide)
 have r2:ee 2 _:=hr.mono (by decide)
 refine ⟨_,(aE (bA (i:=1) nB.nd rfl fi (aO aEh rfl B.abs b? (aA (bC gU (cR (aG2 (K:=K) rfl) (pv 0) (eO (aA aK aC))) aK il) aC)))
  (aE (bA (i:=2) nB.nd rfl fi (eO aC))
  (aE (bA (i:=3) nB.nd rfl fi (cR wU (pv 1) aK))
  (aE (eJ az.never rfl (fU rfl B.range (aA (cR kZ aK (cR QQ (pv 1) aK)) aC)) (aI (i:=4) nB.nd rfl fi)
   (aE (dJ (mP Rt Rz Ta gJ (pv 2) (aA (bC gU (eO (aA (cO (aA aK aC)) (aA (cO (aA aK aC)) (aA (cO (aA aK (aA aK aC))) (aA (cO (aA aK (aA aK aC))) aC))))) (cR QQ (pv 3) aK) (λ_ _=>rfl)) aC)))
  (aH (bA (i:=3) nB.nd rfl fi (cR wU (pv 3) aK)))))
  (aE (bA (i:=5) nB.nd rfl fi (cO (aA aK (aA (cK bR rfl B.tuple cM (aA (pv 2) aC)) aC))))
  (aE (bA (i:=6) nB.nd rfl fi (cK bR rfl B.tuple cM (aA (bX (own:=["able"]) (fr:=[]) (fm:=[]) (aY (aF FL) ["script", "cell", "works", "left", "k", "pad", "laid", "best", "marks"] rfl rfl (by decide +kernel)) rfl (kH (pv 2))
    (λ_ _ _ _=>(aI (i:=0) (show (["able"]:List ax).Nodup by decide +kernel) rfl fi)) (λ_ _ _ _=>cP)
    (λ_ _ _ _=>(bC (cN (K:=K) rfl) (pv 0) aK il))) aC)))
  (aE (iG (bL CJ D7 u6 rfl KU (aS (pv 5) cX)) (dO rfl (aM (aI (i:=7) nB.nd rfl fi) (aM (aI (i:=8) nB.nd rfl fi) bV))))
  (aE (bU (PW.pt (fT (cF (cB (aEk OEr r2 rfl Ko.E2 Ko.kp Ko.bd .nil PR))) (eN (cF (cB (aX GLr OLr AS rfl (aA (pv 5) (aA (pv 6) (aA (pv 7) aC)))))))))
   (aH (aN bP))
   aW)
  (aE (bU (PW.pt (fT (aU (nG hr.wq) (bL Kj S6 zx rfl KL (aS (pv 5) cX)) (aX Kj S6 zx rfl (aA (pv 5) aC)) gm) (fT (aU (nG hr.wq) (bL Ki S5 EW rfl KJ (aS (pv 5) cX)) (aX Ki S5 EW rfl (aA (pv 5) aC)) gm) (eN (aU kS (bL Km S_ EW rfl KQ (aS (pv 5) cX)) (aX Km S_ EW rfl (aA (pv 5) aC)) gm)))))
   (aH (aN bP))
   aW)
  (aH (aN (kY (aX GWr OWr u6 rfl (aA (pv 5) (aA (pv 6) (aA (pv 7) (aA (pv 8) aC))))) (nC (aX GRr ORr r8 rfl (aA (pv 5) (aA (pv 6) aC)))))))))))))))),?_⟩
 obtain ⟨c,hc⟩:∃ c:Int,k4 (ns.map V.int++[V.int 0]) 0=some (.int c):=by
  cases ns with
  | nil=>exact ⟨0,bZ (j:=0) rfl⟩
  | cons x r=>exact ⟨x,bZ (j:=0) rfl⟩
 refine lT ⟨_,rfl,um _,λz hz=>⟨a,z,_,_,rfl,rfl,(aD.new hz).iy nj,fh.of aB,eG (by rw [Qa,Zq]; omega),λp hp=>⟨p,_,0,_,rfl,rfl,fh.of aB,hc,_,rfl,?_⟩⟩⟩
 have s1:=(aD.new (o:=.lst [V.int 0]) hz).trans (aD.new (o:=.lst (ns.map V.int++[V.int 0])) hp)
 generalize upd (upd H z (.lst [V.int 0])) p (.lst (ns.map V.int++[V.int 0]))=H1 at s1 ⊢
 have qv:0<=(if c < 0 then -c else c):=by split <;> omega
 generalize (if c < 0 then -c else c)=cell at qv ⊢
 refine lT ⟨eG (Jl _),λwl xu=>?_⟩
 have K5:H wl=none:=s1.free xu
 have s2:=s1.trans (aD.new (o:=.lst []) xu)
 have e2:upd H1 wl (.lst []) wl=some (.lst []):=aB
 generalize upd H1 wl (.lst [])=H2 at s2 e2 ⊢
 refine lT ⟨_,rfl,cell,4,rfl,rfl,⟨by decide,by decide⟩,?_⟩
 have hm:0<=cell % 4/\cell % 4 < 4:=⟨Wn _ (by decide),Yt _ (by decide)⟩
 refine ⟨_,rfl,_,_,rfl,rfl,(show (0:Int) < 4 by decide),_,_,rfl,rfl,_,rfl,by omega,by omega,vL (lo:=0) (n:=(1+cell % 4).toNat) (λi σ H3=>∃ (v4:Option V) (left:Int) (as:List ae) (ls:List (List Int)),σ = [some (.ref a),some (.int cell),some (.ref wl),some (.int left),v4,none,none,none,none]/\aD H H3/\H3 wl=some (.lst (as.map V.ref))/\uP H3 as ls/\as.length=i/\JA ls)
  ⟨none,_,[],[],rfl,s2,e2,⟨rfl,λj b l h=>by simp at h⟩,rfl,λl h=>by cases h⟩ ?_ ?_⟩
 ·rintro i σ H3 hi ⟨v4,left,as,ls,rfl,s3,e3,r3,Fs,Dh⟩
  have hq:0<=left % 4/\left % 4 < 4:=⟨Wn _ (by decide),Yt _ (by decide)⟩
  refine ⟨_,rfl,.inl ⟨rfl,_,fh.of e3⟩,um _,λt0 h0=>⟨um _,λt1 h1=>⟨qm _ _,λt2 h2=>⟨qm _ _,λt3 h3=>⟨Gd _ _ _ _,λq Cb=>?_⟩⟩⟩⟩⟩
  have s4:aD H3 (upd H3 t0 (.tup [.int 0])):=aD.new h0
  have a0:upd H3 t0 (.tup [.int 0]) t0=some (.tup ([0].map V.int)):=aB
  generalize upd H3 t0 (.tup [.int 0])=H4 at s4 a0 h1 h2 h3 Cb ⊢
  have s5:=s4.trans (aD.new (o:=.tup [.int 1]) h1)
  have b0:=(aD.new (o:=.tup [.int 1]) h1) _ _ a0
  have b1:upd H4 t1 (.tup [.int 1]) t1=some (.tup ([1].map V.int)):=aB
  generalize upd H4 t1 (.tup [.int 1])=H5 at s5 b0 b1 h2 h3 Cb ⊢
  have s6:=s5.trans (aD.new (o:=.tup [.int 0,.int 1]) h2)
  have c0:=(aD.new (o:=.tup [.int 0,.int 1]) h2) _ _ b0
  have c1:=(aD.new (o:=.tup [.int 0,.int 1]) h2) _ _ b1
  have c2:upd H5 t2 (.tup [.int 0,.int 1]) t2=some (.tup ([0,1].map V.int)):=aB
  generalize upd H5 t2 (.tup [.int 0,.int 1])=H6 at s6 c0 c1 c2 h3 Cb ⊢
  have sn:=(aD.new (o:=.tup [.int 0,.int 1]) h3).trans (aD.new (o:=.lst [.ref t0,.ref t1,.ref t2,.ref t3]) Cb)
  have s8:=s6.trans sn
  have d3:=(aD.new (o:=.lst [.ref t0,.ref t1,.ref t2,.ref t3]) Cb) _ _ (aB (o:=.tup ([0,1].map V.int)):upd H6 t3 (.tup [.int 0,.int 1]) t3=_)
  have dq:upd (upd H6 t3 (.tup [.int 0,.int 1])) q (.lst [.ref t0,.ref t1,.ref t2,.ref t3]) q=some (.lst [.ref t0,.ref t1,.ref t2,.ref t3]):=aB
  have pk:∃ t l,k4 [V.ref t0,V.ref t1,V.ref t2,V.ref t3] (left % 4)=some (.ref t)/\upd (upd H6 t3 (.tup [.int 0,.int 1])) q (.lst [.ref t0,.ref t1,.ref t2,.ref t3]) t=some (.tup (l.map V.int))/\(l = [0]∨l = [1]∨l = [0,1]):=by
   have:left % 4=0∨left % 4=1∨left % 4=2∨left % 4=3:=by omega
   rcases this with e | e | e | e <;> rw [e]
   ·exact ⟨t0,[0],bZ (j:=0) rfl,sn _ _ c0,.inl rfl⟩
   ·exact ⟨t1,[1],bZ (j:=1) rfl,sn _ _ c1,.inr (.inl rfl)⟩
   ·exact ⟨t2,[0,1],bZ (j:=2) rfl,sn _ _ c2,.inr (.inr rfl)⟩
   ·exact ⟨t3,[0,1],bZ (j:=3) rfl,d3,.inr (.inr rfl)⟩
  generalize upd (upd H6 t3 (.tup [.int 0,.int 1])) q (.lst [.ref t0,.ref t1,.ref t2,.ref t3])=H8 at s8 dq pk ⊢
  obtain ⟨t,l,at_,ht,Dl⟩:=pk
  clear sn d3 c0 c1 c2 h3 h2 h1 h0 b0 b1 a0 s4 s5 s6 Cb
  have e8:=s8 _ _ e3
  have UZ:=r3.same s8
  refine ⟨_,rfl,left,4,rfl,rfl,(show (0:Int) < 4 by decide),q,_,_,_,rfl,rfl,fh.of dq,at_,wl,_,_,rfl,rfl,e8,by rw [Qa,Rf]; omega,?_⟩
  dsimp only
  refine ⟨_,rfl,left,4,rfl,rfl,⟨by decide,by decide⟩,_,left / 4,as++[t],ls++[l],rfl,(s3.trans s8).wr K5,by rw [aB,Qo]; rfl,⟨by rw [Qj,Qj,r3.1]; rfl,λj b m h1 h2=>?_⟩,by rw [Qj,Fs]; rfl,λm Di=>?_⟩
  ·have hb:H8 b=some (.tup (m.map V.int)):=by
    rw [Wy] at h1
    split at h1
    ·rename_i hj
     rw [Qs (by rw [<- r3.1]; exact hj)] at h2
     exact UZ.2 j b m h1 h2
    ·rename_i hj
     rw [Ji (by rw [<- r3.1]; omega)] at h2
     have Aa:j - as.length=0:=by
      have:=(Qb.mp h1).1
      rw [Zq] at this
      omega
     rw [Aa] at h1
     rw [<- r3.1,Aa] at h2
     cases h1
     cases h2
     exact ht
   rw [aG (λz=>by rw [z,e8] at hb; cases hb)]
   exact hb
  ·rcases Jk.mp Di with h | h
   ·exact Dh m h
   ·rw [Qr.mp h]; exact Dl
 ·rintro σ H3 ⟨v4,left,as,ls,rfl,s3,e3,r3,Fs,Dh⟩
  dsimp only
  have Dk:ls.length=(1+cell % 4).toNat:=by rw [<- r3.1,Fs]
  have i6:bD (bB 2 ls)=true:=Q8 (by decide) (by decide) (by omega) Dh.work
  refine lT ⟨_,rfl,wl,_,rfl,.inl ⟨fh.of e3,λb hb=>⟨qm _ _,λpd Nh=>?_⟩⟩⟩
  have s4:=(aD.new (o:=.tup (as.map V.ref)) hb).trans (aD.new (o:=.tup [.int 2,.ref b]) Nh)
  have eb:=(aD.new (o:=.tup [.int 2,.ref b]) Nh) _ _ (aB (o:=.tup (as.map V.ref)):upd H3 b (.tup (as.map V.ref)) b=_)
  have ep:upd (upd H3 b (.tup (as.map V.ref))) pd (.tup [.int 2,.ref b]) pd=some (.tup [.int 2,.ref b]):=aB
  generalize upd (upd H3 b (.tup (as.map V.ref))) pd (.tup [.int 2,.ref b])=H4 at s4 eb ep ⊢
  have r4:=r3.same s4
  have e4:=s4 _ _ e3
  have EU:=s3.trans s4
  have hx:Den K H4 (bB 2 ls) (.ref pd):=wG (d_.of ep) (d_.of eb) r4.den
  refine lT ⟨_,rfl,wl,rfl,⟨_,fh.of e4⟩,vS (K:=K) (a:=wl) (xs:=as.map V.ref) (λσ=>∃ v,σ = [v]) (λi zs H5=>H5=H4/\zs=((ls.take i).map λl=>l.headD 0).map V.int) (eG (by rw [Qa]; omega)) ⟨none,rfl⟩ ⟨rfl,rfl⟩ (λi zs H5 z=>by rw [z.2,Qa,Qa,Qq]; omega) (λi zs H5 z=>by rw [z.1]; exact fh.of e4) ?_ ?_⟩
  ·rintro i zs σ u H5 hu ⟨v0,rfl⟩ ⟨rfl,rfl⟩ hz
   rw [Qd] at hu
   obtain ⟨t,ht,rfl⟩:∃ t,as[i]?=some t/\V.ref t=u:=by
    cases z:as[i]? with
    | none=>rw [z] at hu; cases hu
    | some t=>rw [z] at hu; exact ⟨t,rfl,Option.some.inj hu⟩
   have Cg:i < ls.length:=by rw [<- r4.1]; exact (Qb.mp ht).1
   have el:=Qc Cg
   generalize ls[i]=l at el
   have Dl:=Dh l (Qe el)
   have lg:k4 (l.map V.int) 0=some (.int (l.headD 0)):=by
    rcases Dl with rfl | rfl | rfl <;> exact bZ (j:=0) rfl
   refine cQ ⟨_,rfl,t,_,0,_,rfl,rfl,d_.of (r4.2 i t l ht el),lg,hz,⟨_,rfl⟩,rfl,?_⟩
   rw [Je,el,Qo,Qo]
   rfl
  rintro zs H5 ⟨rfl,rfl⟩ lq Dj
  rw [Jb (show ls.length<=(as.map V.ref).length by rw [Qa,r4.1]; exact Qh _)]
  refine ⟨lq,_,rfl,.inl ⟨fh.of aB,λdq Hr=>?_⟩⟩
  have s5:=(aD.new (o:=.lst ((ls.map λl=>l.headD 0).map V.int)) Dj).trans (aD.new (o:=.tup ((ls.map λl=>l.headD 0).map V.int)) Hr)
  have ed:upd (upd H5 lq (.lst ((ls.map λl=>l.headD 0).map V.int))) dq (.tup ((ls.map λl=>l.headD 0).map V.int)) dq=some (.tup ((ls.map λl=>l.headD 0).map V.int)):=aB
  generalize upd (upd H5 lq (.lst ((ls.map λl=>l.headD 0).map V.int))) dq (.tup ((ls.map λl=>l.headD 0).map V.int))=H6 at s5 ed ⊢
  have Dx:bO ls (bK (ls.map λl=>l.headD 0))=true:=gX (by rw [Qa]) λj h l e1 e2=>by
   rw [Qd,e2] at e1
   have e:l.headD 0=h:=Option.some.inj e1
   rw [<- e]
   rcases Dh l (Qe e2) with rfl | rfl | rfl <;> simp
  have f':(ls.map λl=>l.headD 0)≠[]:=by
   intro z
   have:=congrArg Ye z
   rw [Qa,Xx] at this
   omega
  generalize (ls.map λl=>l.headD 0)=hs at ed Dx f'
  have u5:=EU.trans s5
  have g6:dQ K H6 (.ref pd) (.ref dq) 2 ls hs:=⟨s5.den _ _ hx,i6,lR ed,Dx⟩
  clear hx ep eb r4 e4 s4 r3 e3 Fs
  have hw:∀ l∈ls,∀ h∈l,0<=h/\h < 2:=λl hl=>(aZ ((aT i6).2.2.2 l hl)).2.1
  refine ⟨_,rfl,.ref pd,2,ls,rfl,g6.1,i6,u5 _ _ hT,λp bp lp he lv H7 s7 hp XX Dw kz L=>?_⟩
  refine ⟨p,_,rfl,d_.of hp,rfl,_,_,rfl,_,_,rfl,rfl,?_⟩
  dsimp only
  have zw:=u5.trans s7
  have g7:=g6.same s7
  have ge:dQ K H7 (.ref pd) (.ref bp) 2 ls he:=⟨g7.1,i6,lR XX,Dw⟩
  have M:=qJ L (cY i6 Dw) hw
  refine gT (Bt (FY λQ' q=>⟨rfl,λH8 s8=>⟨_,rfl,q _ s8⟩⟩) λH8 s8=>FY λQ' q=>⟨_,rfl,_,rfl,_,rfl,.ref pd,.ref dq,.ref bp,2,ls,hs,he,lv,rfl,g7.same s8,ge.same s8,M,λH9 s9=>⟨_,rfl,q _ s9⟩⟩) λH8 s8=>?_
  try dsimp only [gZ]
  have tj:=zw.trans s8
  have g8:=g7.same s8
  refine gT (Bt (λQ' q=>⟨_,rfl,.ref pd,2,ls,rfl,g8.1,i6,tj _ _ hT,λp1 q1 h1 l1 Ha sa d1 L1 e1 n1 f1=>⟨_,rfl,.ref pd,2,ls,rfl,(g8.same sa).1,i6,(tj.trans sa) _ _ hT,λp2 q2 h2 l2 Hb sb d2 L2 e2 n2 f2=>?_⟩⟩) λH9 s9=>Bt (λQ' q=>⟨_,rfl,.ref pd,2,ls,rfl,(g8.same s9).1,i6,(tj.trans s9) _ _ hT,λp1 q1 h1 l1 Ha sa d1 L1 e1 n1 f1=>⟨_,rfl,.ref pd,2,ls,rfl,((g8.same s9).same sa).1,i6,((tj.trans s9).trans sa) _ _ hT,λp2 q2 h2 l2 Hb sb d2 L2 e2 n2 f2=>?_⟩⟩) λuy n_ Q' q=>⟨_,rfl,.ref pd,2,ls,rfl,((g8.same s9).same n_).1,i6,((tj.trans s9).trans n_) _ _ hT,λh1 l1 Ha sa d1 L1=>⟨_,rfl,.ref pd,2,ls,rfl,(((g8.same s9).same n_).same sa).1,i6,(((tj.trans s9).trans n_).trans sa) _ _ hT,λh2 l2 Hb sb d2 L2=>⟨rfl,_,rfl,?_⟩⟩⟩) λH9 s9=>?_
  ·obtain ⟨d,a1,a2,a3,a4,a5⟩:=RJ (K:=K) (sb _ _ e1) e2 (by rw [n1,n2]) (o! (lv:=l1) i6) (λj u hu=>⟨_,sb _ _ (f1 j u hu),RU i6 (by rw [<- n1]; exact (Qb.mp hu).1)⟩) λj u hu=>⟨_,f2 j u hu,by
    have r:=RU (lv:=l2) i6 (i:=j) (by rw [<- n2]; exact (Qb.mp hu).1)
    exact ⟨r.1,λx=>(r.2 x).trans (aG3 i6 d2 d1 L2 L1 j x)⟩⟩
   refine ⟨d,d,a1,a2,a3,a3,a4,a4,_,rfl,?_⟩
   rw [a5]; exact q _ (sa.trans sb)
  ·obtain ⟨d,a1,a2,a3,a4,a5⟩:=RJ (K:=K) (sb _ _ e1) e2 (by rw [n1,n2]) (n? (lv:=l1) i6) (λj u hu=>by
    obtain ⟨r,a1,a2⟩:=f1 j u hu
    exact ⟨r,sb _ _ a1,a2⟩) λj u hu=>by
    obtain ⟨r,a1,a2⟩:=f2 j u hu
    exact ⟨r,a1,a2.1,λx=>(a2.2 x).trans (aG4 i6 d2 d1 L2 L1 j x)⟩
   refine ⟨d,d,a1,a2,a3,a3,a4,a4,_,rfl,?_⟩
   rw [a5]; exact q _ (sa.trans sb)
  ·rw [aD0 i6 d1 d2 L1 L2 (qJ L1 (cY i6 d1) hw) (qJ L2 (cY i6 d2) hw),decide_eq_true rfl]
   exact q _ (sa.trans sb)
  try dsimp only [gZ]
  have tf:=tj.trans s9
  have g9:=g8.same s9
  refine ⟨_,rfl,_,rfl,_,rfl,_,rfl,.ref pd,.ref dq,.ref bp,lp,2,ls,hs,he,lv,rfl,g9,ge.same (s8.trans s9),L,(s8.trans s9) _ _ kz,tf _ _ hT,λuy n_=>?_⟩
  refine ⟨_,rfl,gA ?_⟩
  refine ⟨_,rfl,_,rfl,.ref pd,.ref dq,ls,hs,rfl,g9.same n_,f',(tf.trans n_) _ _ Ai,λAs CU=>?_⟩
  have s:=(tf.trans n_).trans CU
  exact k _ (s _ _ hT) (s _ _ Ai)
end Ab
namespace Ab
open PySem L2 PyProof.Rows
theorem M1 (h:us.length=1):∃ a,us = [a]:=by
 match us,h with
 | [a],_=>exact ⟨a,rfl⟩
theorem ln2 (h:us.length=2):∃ a b,us = [a,b]:=by
 match us,h with
 | [a,b],_=>exact ⟨a,b,rfl⟩
theorem VO (h:us.length=3):∃ a b c,us = [a,b,c]:=by
 match us,h with
 | [a,b,c],_=>exact ⟨a,b,c,rfl⟩
theorem VN (h:us.length=4):∃ a b c d,us = [a,b,c,d]:=by
 match us,h with
 | [a,b,c,d],_=>exact ⟨a,b,c,d,rfl⟩
theorem b! (X:K.In h) (G:h.Ns aq mg) {kV:aa} (hb:∀ (kV doc pm:aa) (an:Option ae) (ft ct:aa) (us:List aa),us.length=ps.length->cu (Tc x x (fJ st) (dY st) (aF st) .none kV doc pm an ft ct) ⟨us,[]⟩=pure (ps.zip us)) (a:Rh K aq x=some (some (.ref f))) (l:K.lookup f=some ⟨oc,od,.func (Tc x x (fJ st) (dY st) (aF st) .none kV doc pm an ft ct),uo⟩) (c:Ve K ft x=true) (k:Ro K (.ref f)=true) :
  ∃ f fd,Fn K mg x st ps f fd:=by
 have F:=QJ (st:=st) l c k
 exact ⟨f,_,F,Rq X G a,k,F.binds hb⟩
theorem QA (X:K.In h) (G:h.Ns aq mg) {kV:aa} (hb:∀ (kV doc pm:aa) (an:Option ae) (ft ct:aa) (us:List aa),us.length=ps.length->cu (Tc x x (fJ st) (dY st) (aF st) .none kV doc pm an ft ct) ⟨us,[]⟩=pure (ps.zip us)) (a:Rh K aq x=some (some (.ref f))) (l:K.lookup f=some ⟨oc,od,.func (Tc x x (fJ st) (dY st) (aF st) .none kV doc pm an ft ct),uo⟩) (c:Ve K ft x=true) (k:Ro K (.ref f)=true) :
  ∃ f fd,Fn K mg x st ps f fd/\fd.code=ft:=by
 have F:=QJ (st:=st) l c k
 exact ⟨f,_,⟨F,Rq X G a,k,F.binds hb⟩,rfl⟩
theorem a! (X:K.In h) (G:h.Ns aq mg) {t6 CQ tm:dc} (z0:Rh K aq "isinstance" = some none) (z1:Rh K aq "int" = some none) (z2:Rh K aq "bool" = some none) (z3:Rh K aq "tuple" = some none) (z4:Rh K aq "list" = some none) (z5:Rh K aq "len" = some none) (z6:Rh K aq "all" = some none) (z7:Rh K aq "zip" = some none) (z8:Rh K aq "range" = some none) (z9:Rh K aq "sorted" = some none) (CP:Rh K aq "set" = some none) (UE:Rh K aq "sum" = some none) (UD:Rh K aq "repr" = some none) (UC:Rh K aq "enumerate" = some none) (UB:Rh K aq "min" = some none) (UA:Rh K aq "any" = some none) (T_:Rh K aq "abs" = some none) (T9:Rh K aq "ValueError" = some none) (zA:Rh K aq "MOST_HANDS" = some (some (.int 6 t6))) (zB:Rh K aq "MOST_WORKS" = some (some (.int 12 CQ))) (zC:Rh K aq "MOST_ROOM" = some (some (.int 12 tm))):Bl mg :=
 ⟨Rl X G z0,Rl X G z1,Rl X G z2,Rl X G z3,Rl X G z4,Rl X G z5,Rl X G z6,Rl X G z7,Rl X G z8,Rl X G z9,Rl X G CP,Rl X G UE,Rl X G UD,Rl X G UC,Rl X G UB,Rl X G UA,Rl X G T_,Rl X G T9,⟨_,Rq X G zA⟩,⟨_,Rq X G zB⟩,⟨_,Rq X G zC⟩⟩
theorem Ω (X:K.In h) (G:h.Ns aq mg) {cE a0 a1 a2 a3 a4 a5 a6 a7 a8 a9 jv:ae} (zE:Rh K aq "DealError" = some (some (.ref cE))) (qE:o6 K cE kj=true) (z0:Rh K aq "NoBook" = some (some (.ref a0))) (q0:o6 K a0 (.ref cE::kj)=true) (z1:Rh K aq "NoCosts" = some (some (.ref a1))) (q1:o6 K a1 (.ref cE::kj)=true) (z2:Rh K aq "NoDeal" = some (some (.ref a2))) (q2:o6 K a2 (.ref cE::kj)=true) (z3:Rh K aq "NoHand" = some (some (.ref a3))) (q3:o6 K a3 (.ref cE::kj)=true) (z4:Rh K aq "NoRooms" = some (some (.ref a4))) (q4:o6 K a4 (.ref cE::kj)=true) (z5:Rh K aq "NoRow" = some (some (.ref a5))) (q5:o6 K a5 (.ref cE::kj)=true) (z6:Rh K aq "NoText" = some (some (.ref a6))) (q6:o6 K a6 (.ref cE::kj)=true) (z7:Rh K aq "NoWay" = some (some (.ref a7))) (q7:o6 K a7 (.ref cE::kj)=true) (z8:Rh K aq "NoWeights" = some (some (.ref a8))) (q8:o6 K a8 (.ref cE::kj)=true) (z9:Rh K aq "NoWork" = some (some (.ref a9))) (q9:o6 K a9 (.ref cE::kj)=true) (CP:Rh K aq "TooMany" = some (some (.ref jv))) (Gp:o6 K jv (.ref cE::kj)=true) (kE:Ro K (.ref cE)=true) (kC : [a0,a1,a2,a3,a4,a5,a6,a7,a8,a9,jv].all (λx=>Ro K (.ref x))=true) (nd : [cE,a0,a1,a2,a3,a4,a5,a6,a7,a8,a9,jv].Nodup):∃ cE c,Cl K mg cE c/\(∀ i,i < 11->Ro K (.ref (c i))=true)/\Ro K (.ref cE)=true:=by
 have hl:∀ i,i < 11->∃ a,[a0,a1,a2,a3,a4,a5,a6,a7,a8,a9,jv][i]?=some a:=λi hi=>⟨_,Qc (l:=[a0,a1,a2,a3,a4,a5,a6,a7,a8,a9,jv]) (i:=i) hi⟩
 have hc:∀ (i:Nat) (a:ae),[a0,a1,a2,a3,a4,a5,a6,a7,a8,a9,jv][i]?=some a->(λi:Nat=>([a0,a1,a2,a3,a4,a5,a6,a7,a8,a9,jv][i]?).getD 0) i=a:=λi a e=>by show ([a0,a1,a2,a3,a4,a5,a6,a7,a8,a9,jv][i]?).getD 0=a; rw [e]; rfl
 have VJ : [a0,a1,a2,a3,a4,a5,a6,a7,a8,a9,jv].Nodup:=(Jv.mp nd).2
 have VG:cE∉[a0,a1,a2,a3,a4,a5,a6,a7,a8,a9,jv]:=(Jv.mp nd).1
 refine ⟨cE,λi=>([a0,a1,a2,a3,a4,a5,a6,a7,a8,a9,jv][i]?).getD 0,⟨λi n e=>?_,λi hi=>?_,λi j hi hj e=>?_,λi hi e=>?_,Rq X G zE,aEF qE⟩,λi hi=>?_,kE⟩
 ·match i,e with
  | 0,e=>injection e with e; subst e; exact Rq X G z0
  | 1,e=>injection e with e; subst e; exact Rq X G z1
  | 2,e=>injection e with e; subst e; exact Rq X G z2
  | 3,e=>injection e with e; subst e; exact Rq X G z3
  | 4,e=>injection e with e; subst e; exact Rq X G z4
  | 5,e=>injection e with e; subst e; exact Rq X G z5
  | 6,e=>injection e with e; subst e; exact Rq X G z6
  | 7,e=>injection e with e; subst e; exact Rq X G z7
  | 8,e=>injection e with e; subst e; exact Rq X G z8
  | 9,e=>injection e with e; subst e; exact Rq X G z9
  | 10,e=>injection e with e; subst e; exact Rq X G CP
  | n+11,e=>exact absurd (Qb.mp e).1 (by show ¬ n+11 < 11; omega)
 ·match i,hi with
  | 0,_=>exact gD qE q0
  | 1,_=>exact gD qE q1
  | 2,_=>exact gD qE q2
  | 3,_=>exact gD qE q3
  | 4,_=>exact gD qE q4
  | 5,_=>exact gD qE q5
  | 6,_=>exact gD qE q6
  | 7,_=>exact gD qE q7
  | 8,_=>exact gD qE q8
  | 9,_=>exact gD qE q9
  | 10,_=>exact gD qE Gp
  | n+11,hi=>omega
 ·obtain ⟨a,ea⟩:=hl i hi
  obtain ⟨b,eb⟩:=hl j hj
  have e':a=b:=(hc i a ea).symm.trans (e.trans (hc j b eb))
  subst e'
  have uf:i < [a0,a1,a2,a3,a4,a5,a6,a7,a8,a9,jv].length:=hi
  exact (We uf VJ).mp (ea.trans eb.symm)
 ·obtain ⟨a,ea⟩:=hl i hi
  have e':a=cE:=(hc i a ea).symm.trans e
  subst e'
  exact VG (Qe ea)
 ·obtain ⟨a,ea⟩:=hl i hi
  show Ro K (.ref (([a0,a1,a2,a3,a4,a5,a6,a7,a8,a9,jv][i]?).getD 0))=true
  rw [ea]
  exact Qy.mp kC a (Qe ea)
theorem aG5 {l:Ic} {fa c2 sd:ae} (XE:mg "law" = some (.ref fa)) (B:Bl mg) (YC:∃ cE c,Cl K mg cE c/\(∀ i,i < 11->Ro K (.ref (c i))=true)/\Ro K (.ref cE)=true) (HE:∃ f fd,Fn K mg "levels_or_way" Cy ["book", "deal"] f fd/\fd.code=.ref c) (hZ:∀ base:af,base.BuiltinsAt mg Pt->Lm K mg base c Pt) (HJ:∃ f fd,Fn K mg "as_they_come" FT ["book"] f fd/\fd.code=.ref c2) (X1:∀ base:af,base.BuiltinsAt mg sd->Lm K mg base c2 sd) (hW:∃ f fd,Fn K mg "is_whole" nJ ["thing"] f fd) (hH:∃ f fd,Fn K mg "are_hands" sZ ["thing"] f fd) (uu:∃ f fd,Fn K mg "is_work" tD ["hands", "thing"] f fd) (Of:∃ f fd,Fn K mg "is_book" tE ["thing"] f fd) (Oc:∃ f fd,Fn K mg "is_deal" xV ["book", "thing"] f fd) (NQ:∃ f fd,Fn K mg "need_book" JX ["book"] f fd) (NP:∃ f fd,Fn K mg "need_deal" JW ["book", "deal"] f fd) (hC:∃ f fd,Fn K mg "counted" lI ["hands", "deal"] f fd) (hL:∃ f fd,Fn K mg "loads" J7 ["book", "deal"] f fd) (N':∃ f fd,Fn K mg "falling" iT ["book", "deal"] f fd) (Be:∃ f fd,Fn K mg "handing" iA ["book", "deal"] f fd) (NJ:∃ f fd,Fn K mg "reached" lG ["rows", "first"] f fd) (Nz:∃ f fd,Fn K mg "way_to" tF ["found", "last"] f fd) (NI:∃ f fd,Fn K mg "is_step" wD ["book", "deal", "step"] f fd) (Nx:∃ f fd,Fn K mg "is_way" Al ["book", "deal", "some"] f fd) (NM:∃ f fd,Fn K mg "need_way" tH ["book", "deal", "some"] f fd) (N8:∃ f fd,Fn K mg "gone" DV ["book", "deal", "some"] f fd) (Oe:∃ f fd,Fn K mg "bettered" gL ["book", "deal"] f fd) (N_:∃ f fd,Fn K mg "evenest" iU ["book"] f fd) (NG:∃ f fd,Fn K mg "is_within" oI ["able", "some"] f fd) (Oh:∃ f fd,Fn K mg "are_rooms" pX ["book", "thing"] f fd) (NN:∃ f fd,Fn K mg "need_rooms" pY ["book", "rooms"] f fd) (N1:∃ f fd,Fn K mg "in_rooms" Bs ["book", "rooms"] f fd) (N0:∃ f fd,Fn K mg "is_in_rooms" lH ["book", "rooms", "thing"] f fd) (Od:∃ f fd,Fn K mg "do_bar" pZ ["book", "rooms", "some", "number"] f fd) (NO:∃ f fd,Fn K mg "no_less_even" FN ["book", "one", "other"] f fd) (NA:∃ f fd,Fn K mg "waits" tG ["book", "deal"] f fd) (Og:∃ f fd,Fn K mg "betters" oJ ["book", "deal", "some"] f fd) (Oi:∃ f fd,Fn K mg "are_levels" oM ["book", "deal", "levels"] f fd) (Oj:∃ f fd,Fn K mg "is_as_even" rS ["book", "deal", "work", "hand"] f fd) (NT:∃ f fd,Fn K mg "may_go" tI ["book"] f fd) (Ny:∃ f fd,Fn K mg "with_work" xW ["rows", "takers", "levels"] f fd) (Ob:∃ f fd,Fn K mg "even_loads" iV ["book"] f fd) (NS:∃ f fd,Fn K mg "may_have" iB ["book"] f fd) (N3:∃ f fd,Fn K mg "how_many" oN ["book"] f fd) (NY:∃ f fd,Fn K mg "_law_b_kinds" xX ["e"] f fd) (Oa:∃ f fd,Fn K mg "_law_b_errors_right" oO [] f fd) (NV:∃ f fd,Fn K mg "_law_b_loads_right" rT ["pad", "laid", "best"] f fd) (NC:∃ f fd,Fn K mg "_law_b_ways_right" xY ["pad", "laid", "best", "marks"] f fd) (Fx:∃ f fd,Fn K mg "_law_b_rooms_right" oP ["pad", "laid"] f fd) (NU:∃ f fd,Fn K mg "law" FL ["script"] f fd)
  : ∃ fd:bo,(∀ (s:ah) (v:aa),dt s fd ⟨[v],[]⟩ [("script",v)])/\∀ base:af,K.In base->base.Ns aq mg->base.BuiltinsAt mg Pt->base.BuiltinsAt mg sd->c_ l.prog w K mg base fc 14 fa fd ["script"] (FW K Pt sd):=by
 obtain ⟨YR,ZM,LO,hc⟩:=HE
 obtain ⟨fCM,dCM,CM,qi⟩:=HJ
 obtain ⟨fW,dW,W⟩:=hW
 obtain ⟨fH,dH,H⟩:=hH
 obtain ⟨YS,ZN,Kw⟩:=uu
 obtain ⟨Y2,ZX,BP⟩:=Of
 obtain ⟨YZ,ZU,DP⟩:=Oc
 obtain ⟨jn,jo,NB⟩:=NQ
 obtain ⟨jy,jz,ND⟩:=NP
 obtain ⟨fC,dC,C⟩:=hC
 obtain ⟨fL,dL,L⟩:=hL
 obtain ⟨YW,ZR,FA⟩:=N'
 obtain ⟨fHD,dHD,HD⟩:=Be
 obtain ⟨fRC,dRC,RC⟩:=NJ
 obtain ⟨fWT,dWT,WT⟩:=Nz
 obtain ⟨fST,dST,ST⟩:=NI
 obtain ⟨YL,ZG,WY⟩:=Nx
 obtain ⟨YM,ZH,NW⟩:=NM
 obtain ⟨YV,ZQ,GO⟩:=N8
 obtain ⟨Y1,ZW,BT⟩:=Oe
 obtain ⟨YX,ZS,EV⟩:=N_
 obtain ⟨fWI,dWI,WI⟩:=NG
 obtain ⟨fAR,dAR,AR⟩:=Oh
 obtain ⟨YN,ZI,NR⟩:=NN
 obtain ⟨fIG,dIG,IG⟩:=N1
 obtain ⟨YT,ZO,IR⟩:=N0
 obtain ⟨Y0,ZV,DB⟩:=Od
 obtain ⟨fNL,dNL,NL⟩:=NO
 obtain ⟨fWS,dWS,WS⟩:=NA
 obtain ⟨Y3,ZY,BE⟩:=Og
 obtain ⟨fAL,dAL,AL⟩:=Oi
 obtain ⟨fAE,dAE,AE⟩:=Oj
 obtain ⟨YQ,ZK,MG⟩:=NT
 obtain ⟨HR,IF,WW⟩:=Ny
 obtain ⟨YY,ZT,EL⟩:=Ob
 obtain ⟨YO,ZJ,MH⟩:=NS
 obtain ⟨YU,ZP,HM⟩:=N3
 obtain ⟨fKI,dKI,KI⟩:=NY
 obtain ⟨fER,dER,ER⟩:=Oa
 obtain ⟨fLR,dLR,LR⟩:=NV
 obtain ⟨fWR,dWR,WR⟩:=NC
 obtain ⟨fRR,dRR,RR⟩:=Fx
 obtain ⟨fLW,ZL,LW⟩:=NU
 have e:=XE.symm.trans LW.E2
 cases e
 have R:Pr K mg fW fH YS Y2 jn YZ jy fL dW dH ZN ZX jo ZU jz dL:=⟨W,H,Kw,BP,NB,DP,ND,⟨fC,dC,C⟩,L⟩
 refine ⟨ZL,λs v=>?_,λbase _ _ HK LG=>?_⟩
 ·obtain ⟨oc,od,kV,doc,pm,an,ft,ct,uo,rfl,lk,nu⟩:=LW.fn.ex
  exact .of_eq rfl
 ·have Z:=hZ base HK
  have Z2:=X1 base LG
  have Kb:c_ l.prog w K mg base fc 8 YR ZM ["book", "deal"] (DY K Pt):=Z! LO hc Z B R HD RC WT
  have OWY:c_ l.prog w K mg base fc 7 YL ZG ["book", "deal", "some"] (FR K):=P6 WY B R ST
  have CD:c_ l.prog w K mg base fc 8 YM ZH ["book", "deal", "some"] (rZ K):=aFp NW B R WY ST
  have TF:c_ l.prog w K mg base fc 9 YV ZQ ["book", "deal", "some"] (yI K):=aGM GO B NW CD
  have Ke:c_ l.prog w K mg base fc 10 Y1 ZW ["book", "deal"] (iZ K Pt):=aAK BT B LO Kb GO TF
  have Kc:c_ l.prog w K mg base fc 11 YX ZS ["book"] (kB K Pt):=aBN EV B R BT Ke LO Kb
  have OBE:c_ l.prog w K mg base fc 9 Y3 ZY ["book", "deal", "some"] (J4 K):=aBZ BE B R NW CD
  have OFA:c_ l.prog w K mg base fc 8 YW ZR ["book", "deal"] (iM K):=kM FA B R
  have OMG:c_ l.prog w K mg base fc 12 YQ ZK ["book"] (yM K Pt):=aFF MG B EV Kc AE (aDM AE B BT Ke FA OFA)
  have CF:c_ l.prog w K mg base fc 12 YY ZT ["book"] (sB K Pt):=aFA EL B EV Kc WW
  have OMH:c_ l.prog w K mg base fc 13 YO ZJ ["book"] (qO K Pt):=aBU MH B EL CF
  have OHM:c_ l.prog w K mg base fc 13 YU ZP ["book"] (qM K Pt):=aBR HM B EL CF
  have S4:c_ l.prog w K mg base fc 6 YN ZI ["book", "rooms"] (pF K):=Sx NR B R AR
  have OIR:c_ l.prog w K mg base fc 7 YT ZO ["book", "rooms", "thing"] (JO K):=t! IR B R NR S4
  have ODB:c_ l.prog w K mg base fc 7 Y0 ZV ["book", "rooms", "some", "number"] (yN K):=aFL DB B R NR S4 WI
  obtain ⟨cE,c3,Zc,uc,Hi⟩:=YC
  exact n! LW B EV Kc ER (aDW ER B Zc uc Hi KI) LR (aDX LR B R FA WS NL) MG OMG MH OMH HM OHM WR (aFW WR B R FA AL LO Kb WY OWY BE OBE GO TF BT Ke) RR (aDZ RR B IG (s? IG B R NR AR HD RC WT) IR OIR DB ODB CM (aGX CM qi Z2 B R))
theorem walk {l:Ic} {q:br} {d:DefRec} {K:Params->Rc} {c2 sd:ae} (hn:l.most=some 63) (Dv:d.params.defaults = []) (hq:importsNone q=true) (hY:∀ (w:bf) (h:af),YP w h->(K w.params).In h) (hT:∀ (w:bf) (h:af),YP w h->h.get? Pt=some (Rx #[])) (Ai:∀ (w:bf) (h:af),YP w h->h.get? sd=some (Rx #[])) (f':Pt≠sd) (F:(∀ w:bf,Uw (K w.params) c Pt=true)->(∀ w:bf,Uw (K w.params) c2 sd=true)->∀ (w:bf) (mg:ax->Option aa) (fa:ae) (h:af),(K w.params).In h->h.Ns aq mg->mg d.name=some (.ref fa) ->
   ∃ fd:bo,(∀ (s:ah) (u:aa),dt s fd ⟨[u],[]⟩ [("script",u)])/\∀ base:af,(K w.params).In base->base.Ns aq mg->base.BuiltinsAt mg Pt->base.BuiltinsAt mg sd->c_ l.prog w (K w.params) mg base fc 14 fa fd ["script"] (FW (K w.params) Pt sd)) (X_:∀ w:bf,(K w.params).lookup Pt=none) (LD:∀ w:bf,(K w.params).lookup sd=none) (hC:∀ w:bf,Uw (K w.params) c Pt=true) (FC:∀ w:bf,Uw (K w.params) c2 sd=true) :
  Rai q loose XP YP l.row.toRowW d [] (λf vs=>Rac f vs) :=
 L2.aEY (n:=63) (k:=14) (x := "script") (CX:=λ_=>fc) (sp:=λw=>FW (K w.params) Pt sd) (ts:=[(Pt,qF),(sd,Cw)]) hn (by decide) Dv ⟨rfl,by decide,by decide,rfl⟩ hq hY
  (λw h Y p hp=>by
   rcases Ql.mp hp with e | e
   ·rw [e]; exact ⟨hT w h Y,X_ w,c,Vn (hY w h Y) (hC w)⟩
   ·rw [Qr.mp e]; exact ⟨Ai w h Y,LD w,c2,Vn (hY w h Y) (FC w)⟩) (by simp [f']) (λw mg fa h a b d=>let ⟨fd,h1,h2⟩:=F hC FC w mg fa h a b d; ⟨fd,h1,λbase k1 k2 k3=>h2 base k1 k2 (k3 _ (Qi ..)) (k3 _ (Qg _ (Qi ..)))⟩)
  (λ_ _ a ns Dk hO hS=>⟨a,ns,rfl,hS,Dk,hO.2 _ (Qi ..),hO.2 _ (Qg _ (Qi ..)),λH' h h2=>⟨rfl,λp hp=>by
   rcases Ql.mp hp with e | e
   ·rw [e]; exact h
   ·rw [Qr.mp e]; exact h2⟩⟩) λ_ _ _ _ _ z=>z
end Ab
open PySem PySem.W PyProof.Rows
set_option maxRecDepth 100000 in
set_option maxHeartbeats 0 in
theorem PySem.Challenge.cw_ablehands_k19_handed_by_names_holds : PySem.Challenge.rw_ablehands_k19_handed_by_names.Holds := by
 w_on; o_law; k_head; (case hw=>w_witness2)
 k_fill
 refine' Ab.walk (l:=PySem.Challenge.rw_ablehands_k19_handed_by_names) rfl rfl (by decide +kernel) (λw h Y=>PySem.W.km_in_of Y) (λw h Y=>Raa Y _ (Qg _ (Qi ..))) (λw h Y=>Raa Y _ (Qi ..)) (by decide) ?F ?KP ?KP2 ?HC ?HC2
 case F =>
  intro hC FC w mg fa h KX G z_
  refine' Ab.aG5 z_ ?B ?Ce ?HE ?Z ?HJ ?Z2 ?hW ?hH ?uu ?Of ?Oc ?NQ ?NP ?hC ?hL ?N' ?Be ?NJ ?Nz ?NI ?Nx ?NM ?N8 ?Oe ?N_ ?NG ?Oh ?NN ?N1 ?N0 ?Od ?NO ?NA ?Og ?Oi ?Oj ?NT ?Ny ?Ob ?NS ?N3 ?NY ?Oa ?NV ?NC ?Fx ?NU
  case Z =>
   intro base hb
   exact ⟨hC w,by decide,hb⟩
  case Z2 =>
   intro base hb
   exact ⟨FC w,by decide,hb⟩
  case HJ =>
   refine' Ab.QA KX G (by intro _ _ _ _ _ _ us hl; obtain ⟨_,rfl⟩:=Ab.M1 hl; rfl) ?a ?l ?c ?k
   (case a=>k_is); (case l=>k_is); (case c=>k_is); (case k=>k_is)
  case HE =>
   refine' Ab.QA KX G (by intro _ _ _ _ _ _ us hl; obtain ⟨_,_,rfl⟩:=Ab.ln2 hl; rfl) ?a ?l ?c ?k
   (case a=>k_is); (case l=>k_is); (case c=>k_is); (case k=>k_is)
  case Ce =>
   refine' Ab.Ω KX G ?zE ?qE ?z0 ?q0 ?z1 ?q1 ?z2 ?q2 ?z3 ?q3 ?z4 ?q4 ?z5 ?q5 ?z6 ?q6 ?z7 ?q7 ?z8 ?q8 ?z9 ?q9 ?CP ?Gp ?kE ?kC ?nd
   (case zE=>k_is); (case qE=>kernel_rfl)
   (case z0 | z1 | z2 | z3 | z4 | z5 | z6 | z7 | z8 | z9 | CP=>k_is); (case q0 | q1 | q2 | q3 | q4 | q5 | q6 | q7 | q8 | q9 | Gp=>kernel_rfl); (case kE=>k_is); (case kC=>kernel_rfl); (case nd=>decide)
  case B =>
   apply Ab.a! KX G <;> k_is
  all_goals (refine' Ab.b! KX G ?b ?a ?l ?c ?k; (case a=>k_is); (case l=>k_is); (case c=>k_is); (case k=>k_is); (case b=>(intro _ _ _ _ _ _ us hl; first | exact (match us,hl with | [],_=>rfl) | (obtain ⟨_,rfl⟩:=Ab.M1 hl; rfl) | (obtain ⟨_,_,rfl⟩:=Ab.ln2 hl; rfl) | (obtain ⟨_,_,_,rfl⟩:=Ab.VO hl; rfl) | (obtain ⟨_,_,_,_,rfl⟩:=Ab.VN hl; rfl))))
 case KP=>intro w; first | k_is | kernel_rfl
 case KP2=>intro w; first | k_is | kernel_rfl
 case HC=>intro w; kernel_rfl
 case HC2=>intro w; kernel_rfl
