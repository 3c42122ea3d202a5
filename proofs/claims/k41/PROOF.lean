import PyProof.Rows.All
import Wide.All
import OpenK.AllK
import Wide.FinOn
import PyProof.EqAt
import PyProof.EqKinds
import PyProof.TupleCall
import KE.KEqDict
import KE.KDictSum
import KE.KSortKey
import PyProof.Rows.TupDisplay
import PyProof.DictCompW
import PyProof.WalksMore
import PyProof.MinMaxWalk
import PyProof.DictDisplay
import PyProof.DictWalks
import Lean
import PySem.Challenge.RW_ablehands_k41_deeds_of_a_dealing_refused
open List renaming getElem?_eq_some_iff -> Qa,getElem?_eq_getElem -> Qb,length_map -> Qc,mem_of_getElem? -> Qd,length_append -> Qe,getElem?_map -> Qh,mem_cons_of_mem -> Qi,mem_cons -> Qj,size_toArray -> Qk,getElem?_append_left -> Ql,mem_cons_self -> Qm,getElem?_append_right -> Qo,not_mem_nil -> Qq,mem_iff_getElem? -> Qs,map_append -> Qt,mem_singleton -> Qu,map_cons -> Qw,mem_append_right -> Qy,nodup_iff_pairwise_ne -> Ja,getElem?_zip_eq_some -> Jb,length_eraseIdx -> Jc,mem_append -> Jd,length_take -> Jf,length_replicate -> Jg,nodup_cons -> Jh,take_of_length_le -> Jj,length_cons -> Jk,lookup_cons -> Jl,take_length -> Jm,mem_append_left -> Jn,getElem?_eq_none -> Jp,all_eq_true -> Jq,take_succ -> Jr,filterMap_cons -> Js,pairwise_cons -> Jv,take_succ_eq_append_getElem -> Jw,replicate_succ -> Jx,getElem?_set -> Jy,count_cons -> Xa,any_eq_true -> Xb,getElem?_replicate -> Xc,nodup_append -> Xe,mem_filter -> Xf,getD_eq_getElem?_getD -> Xh,length_zip -> Xm,mem_of_mem_eraseIdx -> Xn,map_nil -> Xo,mem_map -> Xp,map_map -> Xq,eraseIdx_cons_succ -> Xr,length_drop -> Xt,getElem?_set_self -> Xu,find?_cons -> Xv,length_filter_le -> Xw,flatten_cons -> Xx,pairwise_append -> Xy,mem_range -> Xz,getElem_inj -> Za,length_set -> Ze,forIn_cons -> Zf,length_eq_zero_iff -> Zh,mem_replicate -> Zk,reverse_cons -> Zl,forIn_nil -> Zm,take_append_drop -> Zp,mem_eraseIdx_iff_getElem? -> Zq,filter_cons -> Zs,getElem?_set_ne -> Zt,replicate_succ' -> Zu,any_cons -> Zv,of_mem_zip -> Zx,length_reverse -> Zy,idxOf_lt_length_of_mem -> Zz,contains_cons -> Yb,any_map -> Yc,filter_append -> Yd,count_eq_zero -> Yf,take_zero -> Yg,drop_eq_getElem_cons -> Yh,getElem?_eq_none_iff -> Yi,getElem?_inj -> Ym,count_append -> Yn,ext_getElem? -> Yo,foldl_append -> Yp,pairwise_singleton -> Yq,length_eraseIdx_le -> Yr,getElem_mem -> Ys,map_reverse -> Yt,drop_of_length_le -> Yu,length_pos_of_mem -> Yv,append_nil -> Yw,nil_append -> Yx,eraseIdx_sublist -> Yz,getElem?_of_mem -> Wa,drop_zero -> Wc,nodup_nil -> We,length -> Wf,toList_toArray -> Wg,mem_filterMap -> Wi,filterMap_map -> Wj,all_map -> Wm
open Nat renaming le_refl -> Qg,lt_of_lt_of_le -> Qn,ne_of_lt -> Qv,le_trans -> Qx,le_of_lt -> Je,lt_irrefl -> Ji,zero_le -> Jo,sub_self -> Jt,lt_succ_of_lt -> Xd,lt_succ_self -> Xi,le_add_right -> Xj,lt_of_le_of_lt -> Xk,le_succ_of_le -> Xl,ne_of_gt -> Zd,le_of_eq -> Zn,min_self -> Zo,succ_le_succ -> Zr,le_succ -> Zw,lt_trans -> Ya,eq_zero_or_pos -> Ye
open Option renaming map_eq_some_iff -> Qp,map_some -> Jz,isSome_iff_exists -> Yj,isSome_map -> Yl,isSome_some -> Wk,getD_none -> Wp
open Bool renaming false_ne_true -> Qr,and_eq_true -> Qz,eq_iff_iff -> Xg,true_and -> Xs,false_eq_true -> Zg,or_eq_true -> Yy
open Int renaming ne_of_lt -> Ju,le_refl -> Zb,emod_nonneg -> Zi,emod_lt_of_pos -> Zj,toNat_natCast -> Yk,toNat_of_nonneg -> Wh,ediv_one -> Wl,zero_add -> Wo
open PySem renaming Value -> aa,Addr -> ae,Heap -> af,sizeLine -> ag,Shared -> ah,wpAny -> ai,mainGlobals -> aj,model -> ak,starEach -> ao,Builtin -> aq,PyData -> au,Str -> ax,PassesOwn -> ay,FuncData -> az,Expr -> ba,bootBuiltins -> bc,Stmt -> bg,compareOp -> bh,NameKind -> bj,Program -> bo,World -> bq,sysModules -> br,Around -> bw,IsPair -> bx,Obj -> bz,backTo -> cb,cLine -> cm,getItem -> cp,swapsWith -> cq,DictEntry -> cu,Paired -> cx,Env -> cy,keywordEach -> cz,bindArgs -> c7,Scope -> c8,IsPart -> c9,Keyword -> de,IsEnum -> df,ZipApart -> di
open PySem renaming wpAny_bind -> Ra,wpAny_pure -> Rc,sizeLine_eq -> Rf,wpAny_mono -> Rj,wpAny_field -> Rk,wpAny_callSpecial?_slot -> Rn,wpAny_newObj_type -> Rq,wpAny_loadPart_at -> Rt,wpAny_holding -> Rx,wpAny_setField_rec -> Ry,wpAny_call_entry -> Rz,wpAny_truthy_bool -> Td,wpAny_seqItems -> Tf,wpAny_Call_Name_kw -> To,wpAny_execs_nil -> Tr,wpAny_passesOwn -> Tt,wpAny_loadPart' -> Tu,mem_of_lookup -> Tv,wpAny_letGo -> Uj,wpAny_pyIter_list -> Uk,wpAny_tryCatch -> Um,wpAny_execs_cons -> Up,call_meets -> Uq,wpAny_pyIter_zip -> Ur,evalPart_none -> Us,codeAny_mono -> Uv,tupleKind_room_in1 -> Ux,wpAny_standAt -> Va,wpAny_call -> Vg,wpAny_typeOf -> Vh,codeAny_builtin -> Vk,wpAny_updateSeq_pair -> Vo,codeAny_call_builtin -> Vp,wpAny_onRaise -> Vx,wpAny_attempt -> Vy,plainId_quiet -> Vz,wpAny_Name -> Ic,wpAny_pyIter_tuple -> Ie,wpAny_rule -> Ih,wpAny_sequenceKey -> Il,noFill_tuple_add -> Ir,wpAny_updateSeq -> Me,wpAny_Expr_any -> Mf,wpAny_newTuple -> Mg,seq_tuple_add -> Mj,evalPart_some -> Mm,wpAny_getItem_list_slice -> Mn,call -> Mq,concat_meets -> Mr,seqIndex_neg -> Ms,callType_new -> Mu,wpAny_isTrue_Compare1 -> Mw,wpAny_loadName_local -> My,wpAny_Slice -> Mz,seqIndex_of -> Raa,wpAny_newFunctionEnv -> Rab,wpAny_loadName_free -> Rac,typeIs_int -> Rad,wpAny_assign_Name -> Rae,wpAny_pyIter_dict -> Raf,wpAny_pyIter_enum -> Rag,wpAny_isInstance -> Rah,lookupAlong_cons -> Rai
open PySem.W renaming Frag -> Rb,nsIn -> Rg,mg_none_of -> Ri,findIn -> Rm,hideAll_none -> Ru,mg_of -> Rv,hideAll -> Rw,tabObj -> Ta,keepIn -> Tc,emptyDict -> Te,fnOf -> Tg,instObj -> Tj,of_hideAll -> Tw,callWith_K -> Tx,codeIn -> Uc,kla_fn -> Ue,plainGet -> Uh,codeHdIn -> Ui,hasDictIn -> Ut,isFn -> Uy,lookIn -> Vb,CodeHd -> Vc,hideAll_get -> Vd,plainGet_of -> Ve,codeHd_of_K -> Vf,methodObj -> Vm,plainOver -> Vn,takerIn -> Vs,makesIn -> Vt,OpenLaw -> Vu,cellsFrom_some -> Iu,methodCall_KW -> Iw,km_tabs_of -> Mi,handedIn -> Mp,keq_at -> Mv,WalkO -> Mx
open PySem.F renaming plainAttrs_list -> Rh,slot_list_append -> Ro,type_list_append -> Rp,slot_zip_next -> Tb,slot_dict_values -> Th,plainAttrs_dict -> Ti,slot_tuple_iterator_next -> Tn,type_dict_values -> Tq,slot_enumerate_next -> Ts,args_zip_next_1 -> Ua,slot_list_index -> Ub,entry_zip_next -> Ud,typeOf_object_class -> Uo,args_tuple_add_2 -> Uu,entry_tuple_add -> Uw,slot_tuple_add -> Uz,args_tuple_iterator_next_1 -> Vj,entry_tuple_iterator_next -> Vl,args_enumerate_next_1 -> Vq,entry_enumerate_next -> Vv,args_object_init_3 -> Ii,args_object_init_2 -> Ij,args_list_index_2 -> Ik,slot_tuple_count -> Im,entry_list_index -> Io,slot_list_count -> Ip,type_list_index -> Iq,typeCall_zip_2 -> Iv,newCall_zip_2 -> Iy,entry_zip_new -> Iz,slot_dict_pop -> Ma,slot_list_pop -> Mb,type_list_pop -> Mc,called_zip -> Mh
open PySem.SeqAt renaming eqv_refl -> Ug
open PyProof.Rows renaming subscriptTail_builtinR -> Ul,Subscript_ -> Vi,entry_tuple_getitem -> Vr,args_tuple_getitem -> Ig,tupleItemsOf_ -> Ml
open PySem.EqMixed renaming eq_bool_str -> Raj,eq_int_str -> Rak,eq_str_bool -> Ral,eq_str_int -> Ram,ne_bool_str -> Ran,ne_int_str -> Rao,ne_str_bool -> Rap,ne_str_int -> Raq
open PySem.W.Looks renaming here -> Rar
open PySem.EqNone renaming eq_none_none -> Ras,eq_none_bool -> Rau,eq_none_int -> Rav,eq_none_str -> Rax,eq_bool_none -> Ray,eq_int_none -> Raz,eq_str_none -> RaA,ne_none_none -> RaB,ne_none_bool -> RaC,ne_none_int -> RaD,ne_none_str -> RaE,ne_bool_none -> RaF,ne_int_none -> RaG,ne_str_none -> RaH
open PySem.Within renaming cons -> RaI
open PySem
variable {XP:(ax->Option aa)->af->Prop} {it t f c p C dx sl i2 l1 l2 C' fW fH fK fB xj fD xi fL fS DF fR DB Pt fC A2 A1 fA Pl fI cE fO dp fT:ae} {params:Arguments} {A:bw} {uw:Array (Option aa)} {items:Array aa} {L f1:Bool} {op:CmpOp} {e tg iter value elt kx vx:ba} {fd EJ dW dH dB xm dD xk dL DL dR DI dC A5 A4 dS dA dO dT:az} {h h' base:af} {lo:Int} {lv:Int->Int} {a_:List (ae×bz)} {ws:List (List Int)} {ss:List (Nat×Int×Int)} {cl:List (ax×ae)} {kw:List (ax×aa)} {ch fp:List ae} {outer:List cy} {es ifs:List ba} {l ns hs nums:List Int} {fr:List Nat} {ds:List au} {body:List bg} {N ps loose own fk:List ax} {us dj bm:List aa} {M:Model} {t' i j n m ep n2 x1:Nat} {n9 jn:Nat->af->Prop} {P1 P2:Nat->aa->Prop} {o ob:bz} {an od:Option ae} {hi:Option Int} {z:Option ax} {os:OsState} {pos pos' Cs apos p2 gu p1 p3:Pos} {P prog:bo} {B:Prop} {d:au} {K:Rb} {R:Result->ah->Prop} {sc scope:c8} {pl:Sem Bool} {s s':ah} {st:bg} {name qual q vn xn:ax} {kindOf:ax->Option bj} {mA mg:ax->Option aa} {T:String} {κ α β:Type} {u doc pm fh ct oc vl vu f0:aa} {E Q:aa->ah->Prop} {w w':bq} {YP:bq->af->Prop}
namespace PySem.W.Fast
def tw8638825563380087028:=True
def tw2993341735442391321:=True
def tw8090178113022181082:=True
def tw15637801890200822385:=True
def tw791068427471032920:=True
def tw16783854739343761044:=True
def tw14824764183916563452:=True
def tw2887389972398206927:=True
def tw17442438366211564862:=True
def tw18278416699260494272:=True
def tw12440996156155168739:=True
def tw14421480331502730249:=True
def tw12960601371389111795:=True
def tw3685598098566868762:=True
def tw11623591169987633481:=True
def tw17882534976433327586:=True
def tw3733436353315675988:=True
def tw12859014975510001091:=True
def tw6939118145126763074:=True
def tw16125235835606088719:=True
def tw9587879048301863833:=True
def tw3275918807923798513:=True
def tw6478584291394280107:=True
def tw12925462861486880102:=True
def tw6226401622266064831:=True
def tw17493872990131363069:=True
def tw10108719008539832942:=True
def tw8115620121898349171:=True
def tw15377682357659014293:=True
def tw17358025557608252079:=True
def tw9535866330434269142:=True
def tw8866265279972109640:=True
def tw8269785773577137728:=True
def tw7681340368284810308:=True
def tw2052420269129390321:=True
def tw10095698785647716914:=True
def tw17713257229841410172:=True
def tw10209021031816314254:=True
def tw15151783300625243978:=True
def tw12100021751281069637:=True
def tw3398839353688471369:=True
def tw4629262404418418300:=True
def tw1127842946778508384:=True
def tw2614417236445194640:=True
def tw17753019443209103529:=True
def tw14890547175504349775:=True
def tw2251851335987108782:=True
def tw1807966686171707031:=True
def tw5894718572999481978:=True
def tw7765557918587292194:=True
def tw6562780354412967206:=True
def tw10898226561277247210:=True
def tw5654136728605045708:=True
def tw16724254215556685366:=True
def tw4569701791152007509:=True
def tw3170529576746358558:=True
def tw3628359711342503558:=True
def tw10741969699458026116:=True
def tw1611034609770768255:=True
def tw5576590660499934347:=True
def tw636535669473037712:=True
def tw10436206080533439623:=True
def tw14552964661831128353:=True
def tw16275483142272553522:=True
def tw8878833313928436039:=True
def tw11194167922596609968:=True
def tw7237510021839991009:=True
def tw14486588042543020771:=True
def tw6956888192866093526:=True
def tw4419655960007408947:=True
def tw12612272626827509168:=True
def tw5496797505426448880:=True
def tw12615507745118204236:=True
def tw11832237549101912413:=True
def tw5563537684485754276:=True
def tw6156388469498527856:=True
def tw14696096609549982600:=True
def tw10431718711674183640:=True
def tw5589104620547841420:=True
def tw4134896769149807350:=True
def tw14967182166519963307:=True
def tw3841344940152786099:=True
def tw15315191213744476418:=True
def tw11019032189984099202:=True
def tw3781158941720401063:=True
def tw16032830542611371913:=True
def tw1803137693545048331:=True
def tw16312773733820409779:=True
def tw15019559114415429424:=True
def tw9565141781216854330:=True
def tw2395496006761988949:=True
def tw13398141370787266457:=True
def tw2530678885862012380:=True
def tw2334849298385979:=True
def tw10963357184746298771:=True
def tw11754403605956558645:=True
def tw17365832394026807558:=True
def tw16289629703855180113:=True
def tw16963626588560937531:=True
def tw6738555729112154278:=True
def tw12703215160215224187:=True
def tw14612337916324696351:=True
def tw8034402810371497900:=True
def tw16800808569000171659:=True
def tw10958016355927532781:=True
def tw2660638377490222598:=True
def tw4626954688440350559:=True
def tw18263887309413906378:=True
def tw2986399631971739598:=True
def tw1779546942771540964:=True
def tw4139088806386418976:=True
def tw10635030045866018399:=True
def tw1424593681534489084:=True
def tw1489753559595973962:=True
def tw10924912177788432366:=True
def tw9418665836923542671:=True
def tw5271649298915708745:=True
def tw6822418513578239324:=True
def tw5802857117122141985:=True
def tw9927252286658504781:=True
def tw6962154326450971893:=True
def tw17503351976092464937:=True
def tw16797171642870287046:=True
def tw8213297144354541297:=True
def tw4123652868513158817:=True
def tw8806354816780161523:=True
def tw12637266013746900491:=True
def tw7999506855686852848:=True
def tw14215113401598824055:=True
def tw15917695044174132552:=True
def tw9071499841166519772:=True
def tw14539902681736747533:=True
def tw960813535924380208:=True
def tw14999088242968003326:=True
def tw7151870092854692491:=True
def tw4663265337113898297:=True
def tw15405128825919929669:=True
def tw7567144763511052848:=True
def tw17387903027192119486:=True
def tw15014636251382747389:=True
def tw977544222193110899:=True
def tw109201139107952542:=True
def tw15904341475960311025:=True
def tw13460511391538097450:=True
def tw7015556731499586564:=True
def tw15839416964569032762:=True
def tw13273784622925189261:=True
def tw6247708900384502359:=True
def tw11235120727482127079:=True
def tw8197904292837476166:=True
def tw14118906434033324570:=True
def tw7767545457037461223:=True
def tw14231671019667560013:=True
def tw14738537885171559116:=True
def tw15893452124324702420:=True
def tw7034415157056667361:=True
def tw13814625015727784443:=True
def tw10230258642866429148:=True
def tw7247962306291762284:=True
def tw12900898290817742298:=True
def tw1231233394686325156:=True
def tw5764498380534334039:=True
def tw12240842262418737082:=True
def tw8629698209703481977:=True
def tw8460663521279700708:=True
def tw14883561564165326576:=True
def tw2340789323469651629:=True
def tw8344646830489556644:=True
def tw11161791719530773216:=True
def tw14549856830132263753:=True
def tw18179163708986645140:=True
def tw14043490264969080895:=True
def tw12204664790029856598:=True
def tw12926364238110450901:=True
def tw1615899553453874812:=True
def tw10535507954047910446:=True
def tw2342864392922875065:=True
def tw15421152714899501057:=True
def tw11553039633138871087:=True
def tw5411946396388963591:=True
def tw11279149394325589225:=True
def tw10272776456627832870:=True
def tw6764608396691761054:=True
def tw1258010025457741893:=True
def tw7585402919074014576:=True
def tw13283988519775234778:=True
def tw4434068981364190772:=True
def tw17240399503547842868:=True
def tw6323189587301504094:=True
def tw6006105005197846479:=True
def tw3525531630785810051:=True
def tw5501992714943389256:=True
def tw803049692009514072:=True
def tw1959080143046475836:=True
def tw423350921188062940:=True
def tw2826414310137360365:=True
def tw4855410815595855747:=True
def tw17030230602668765642:=True
def tw15331287233380409482:=True
def tw11368727890383326628:=True
def tw14740679605343586339:=True
def tw3085113090321874494:=True
def tw22897874013325388:=True
def tw4490689935252429353:=True
def tw17530678317558489261:=True
def tw12770949460909072074:=True
def tw7663945461287358523:=True
def tw1406830600838471251:=True
def tw881675383484700496:=True
def tw15413086867778039890:=True
def tw13346781461755753593:=True
def tw7959026303275839737:=True
def tw16408774418088778183:=True
def tw816009069298176258:=True
def tw1637385987321532539:=True
def tw3275718145302547689:=True
def tw15806875325263984142:=True
def tw16522136748723593176:=True
def tw18172977912938979241:=True
def tw17143481779465502685:=True
def tw11629567052669181834:=True
def tw12121310693792088846:=True
def tw4969623026621108229:=True
def tw1945917511054563083:=True
def tw12901019994801550185:=True
end PySem.W.Fast
namespace L2
theorem aIm (h:True:=by rfl):True:=h
def gc:Lean.Syntax:=aIm._auto_1
theorem aIn (h:True:=by decide):True:=h
def jd:Lean.Syntax:=aIn._auto_1
theorem aIo (h:True:=by intro _; rfl):True:=h
def y8:Lean.Syntax:=aIo._auto_1
theorem aIp (h:True:=by first | exact .inl rfl | exact .inr rfl | assumption):True:=h
def DU:Lean.Syntax:=aIp._auto_1
theorem aIq (h:True:=by decide +kernel):True:=h
def DS:Lean.Syntax:=aIq._auto_1
theorem aIr (h:True:=by exact rfl):True:=h
def Gq:Lean.Syntax:=aIr._auto_1
theorem aIs (h:True:=by
  intro vs H Q E h
  repeat (first | (obtain ⟨h,-⟩:=h; subst h; rfl) | obtain ⟨_,h⟩:=h)):True:=h
def Oz:Lean.Syntax:=aIs._auto_1
theorem aIt (h:True:=by simp):True:=h
def Oy:Lean.Syntax:=aIt._auto_1
end L2
set_option Elab.async false
set_option linter.all false
set_option maxRecDepth 100000
namespace L2
open PySem PySem.Spec PyProof.Rows
abbrev Key:=Sum Int ax
noncomputable def rY:Key->aa->Bool
 | .inl k,v=>aa.isInt k v
 | .inr x,v=>aa.isStrOf x v
noncomputable def LV (w:bq):Key->Int
 | .inl k=>hashInt k
 | .inr x=>hashStr w x
theorem dX:∀ {k:Key} {v:aa},rY k v=true->(∃ i t,k=Sum.inl i/\v=aa.int i t)∨(∃ x t,k=Sum.inr x/\v=aa.str x t)
 | .inl i,v,h=>by
  obtain ⟨t,e⟩:=aa.isInt_shape (k:=i) (v:=v) h
  exact .inl ⟨i,t,rfl,e⟩
 | .inr x,v,h=>by
  obtain ⟨t,e⟩:=aa.isStrOf_shape (x:=x) (v:=v) h
  exact .inr ⟨x,t,rfl,e⟩
theorem aCD (i:Int) (t:Tok):rY (.inl i) (.int i t)=true:=by simp [rY,aa.isInt]
theorem aCE (x:ax) (t:Tok):rY (.inr x) (.str x t)=true:=by simp [rY,aa.isStrOf]
theorem aGF (a b:Int):decide ((Sum.inl a:Key)=Sum.inl b)=(a==b):=by
 by_cases e:a=b
 ·subst e; simp
 ·have h:¬ (Sum.inl a:Key)=Sum.inl b:=λq=>e (Sum.inl.inj q)
  rw [decide_eq_false h]
  exact (beq_eq_false_iff_ne.mpr e).symm
theorem aGG (a b:ax):decide ((Sum.inr a:Key)=Sum.inr b)=decide (a=b):=by
 by_cases e:a=b
 ·subst e; simp
 ·have h:¬ (Sum.inr a:Key)=Sum.inr b:=λq=>e (Sum.inr.inj q)
  rw [decide_eq_false h,decide_eq_false e]
theorem aGH (a:Int) (b:ax):decide ((Sum.inl a:Key)=Sum.inr b)=false:=decide_eq_false (λq=>nomatch q)
theorem aGI (a:ax) (b:Int):decide ((Sum.inr a:Key)=Sum.inl b)=false:=decide_eq_false (λq=>nomatch q)
noncomputable def bF (prog:bo) (w:bq):PySem.KeyKind prog w Key where
 is:=rY
 hash:=LV w
 inj:=λv a b ha hb=>by
  rcases dX ha with ⟨i,t,rfl,rfl⟩ | ⟨x,t,rfl,rfl⟩
  ·rcases dX hb with ⟨j,u,rfl,e⟩ | ⟨y,u,rfl,e⟩
   ·injection e with e1 _; rw [e1]
   ·exact nomatch e
  ·rcases dX hb with ⟨j,u,rfl,e⟩ | ⟨y,u,rfl,e⟩
   ·exact nomatch e
   ·injection e with e1 _; rw [e1]
 byValue:=λk v h=>by
  rcases dX h with ⟨i,t,rfl,rfl⟩ | ⟨x,t,rfl,rfl⟩ <;> rfl
 pyHash:=λhv h=>by
  rcases dX hv with ⟨i,t,rfl,rfl⟩ | ⟨x,t,rfl,rfl⟩
  ·exact wpAny_pyHash_int h
  ·exact wpAny_pyHash_str h
 eqBool:=λhu hv h=>by
  rcases dX hu with ⟨i,t,rfl,rfl⟩ | ⟨x,t,rfl,rfl⟩
  ·rcases dX hv with ⟨j,u,rfl,rfl⟩ | ⟨y,u,rfl,rfl⟩
   ·rw [aGF] at h; exact wpAny_eqBool_int h
   ·rw [aGH] at h; exact SeqAt.EqAt.int_str i t y u _ _ _ _ h
  ·rcases dX hv with ⟨j,u,rfl,rfl⟩ | ⟨y,u,rfl,rfl⟩
   ·rw [aGI] at h; exact SeqAt.EqAt.str_int x t j u _ _ _ _ h
   ·rw [aGG] at h; exact wpAny_eqBool_str h
 «strs»:=λk x t v h=>by
  rcases dX h with ⟨i,u,rfl,e⟩ | ⟨y,u,rfl,e⟩
  ·exact nomatch e
  ·injection e with e1 _
   subst e1
   cases v <;> rfl
theorem zX (prog:bo) (w:bq) (i:Int) (t:Tok):(bF prog w).is (.inl i) (.int i t)=true:=aCD i t
theorem zY (prog:bo) (w:bq) (x:ax) (t:Tok):(bF prog w).is (.inr x) (.str x t)=true:=aCE x t
inductive V where
 | ft | bl (b:Bool) | int (i:Int) | str (x:ax) | sf (b:Array UInt8) | yu (b:UInt64) | ref (a:ae) | ty (n:String)
 deriving DecidableEq
end L2
open L2
variable {kvs:List (Key×V)} {xs ys vs iw:List V} {v y:V}
namespace L2
open PySem PySem.Spec PyProof.Rows
def bR:V->aa->Prop
 | .ft,u=>u=aa.none
 | .bl b,u=>u=aa.bool b
 | .int i,u=>∃ t,u=aa.int i t
 | .str x,u=>∃ t,u=aa.str x t
 | .sf b,u=>∃ t,u=aa.bytes b t
 | .yu b,u=>∃ t,u=aa.float b t
 | .ref a,u=>u=aa.ref a
 | .ty n,u=>u=aa.type n
abbrev bI:List V->List aa->Prop:=cx bR
theorem bI.length (r:bI xs us):xs.length=us.length:=cx.length r
theorem bI.get:∀ {xs:List V} {us:List aa} {i:Nat} {x:V},bI xs us->xs[i]?=some x->∃ u,us[i]?=some u/\bR x u
 | _,_,_,_,.nil,e=>by simp at e
 | _,_,0,_,.cons r _,e=>by simp at e; subst e; exact ⟨_,rfl,r⟩
 | _,_,i+1,x,.cons _ t,e=>by
  obtain ⟨u,h1,h2⟩:=bI.get (i:=i) (x:=x) t (by simpa using e)
  exact ⟨u,by simpa using h1,h2⟩
theorem bI.set {x:V} (r:bR x u):∀ {xs:List V} {us:List aa} (i:Nat),bI xs us->bI (xs.set i x) (us.set i u)
 | _,_,_,.nil=>.nil
 | _,_,0,.cons _ t=>.cons r t
 | _,_,i+1,.cons q t=>.cons q (bI.set r i t)
theorem bI.append:∀ {xs ys:List V} {us ws:List aa},bI xs us->bI ys ws->bI (xs++ys) (us++ws)
 := by
 intro xs ys us ws h s
 induction h with
 | nil=>exact s
 | cons r t ih=>exact .cons r ih
theorem bI.take:∀ {xs:List V} {us:List aa} (n:Nat),bI xs us->bI (xs.take n) (us.take n)
 | _,_,0,_=>.nil
 | _,_,_+1,.nil=>.nil
 | _,_,n+1,.cons r t=>.cons r (bI.take n t)
theorem bI.drop:∀ {xs:List V} {us:List aa} (n:Nat),bI xs us->bI (xs.drop n) (us.drop n)
 | _,_,0,r=>r
 | _,_,_+1,.nil=>.nil
 | _,_,n+1,.cons _ t=>bI.drop n t
def mI:Option V->Option aa->Prop
 | some v,some u=>bR v u
 | none,none=>True
 | _,_=>False
def KV:List (κ×V)->List (κ×aa)->Prop:=cx λ(p:κ×V) (q:κ×aa)=>p.1=q.1/\bR p.2 q.2
noncomputable def kV:Key->V
 | .inl i=>.int i
 | .inr x=>.str x
inductive HO where
 | lst (xs:List V)
 | tup (xs:List V)
 | dK (kvs:List (Key×V)) | dT (kvs:List (List Key×V))
 | set (S:Int->Bool) (n:Nat)
 | ins (C dx:ae) (fs:List (ax×V))
 | own (x:ae)
 | xd (fs:List (ax×V))
 | met (f x:ae)
 | vo (lo hi:Int)
 | fm (o:bz) (u:HO)
 | Ay (ps:Array aa)
 | tab (q:ax)
 | ext (φ:af->Prop)
abbrev Hp:=ae->Option HO
end L2
variable {H H' H1 H2 H0:Hp} {Qf:Hp->List V->Prop}
namespace L2
open PySem PySem.Spec PyProof.Rows
noncomputable def upd (H:Hp) (a:ae) (o:HO):Hp:=λb=>if b=a then some o else H b
theorem aB {a:ae} {o:HO}:upd H a o a=some o:=by unfold upd; rw [if_pos rfl]
theorem aF {a b:ae} {o:HO} (h:b≠a):upd H a o b=H b:=by unfold upd; rw [if_neg h]
theorem kG {a:ae} {o u:HO}:upd (upd H a o) a u=upd H a u:=by
 funext b; unfold upd; split <;> rfl
theorem aHw {a b:ae} {o u:HO} (h:H a=some o) (h':H b=some u) (d:o≠u):a≠b:=by
 intro e; subst e; rw [h] at h'; exact d (Option.some.inj h')
theorem iO {a b:ae} {o:HO} (h:H a=some o) (h':H b=none):a≠b:=by
 intro e; subst e; rw [h] at h'; cases h'
section
variable (P:bo) (w:bq)
def bS (H:Hp) (h:af) (a:ae):HO->Prop
 | .lst xs=>xs.length<=ag/\∃ (dj:List aa) (n:Nat),bI xs dj/\h.get? a=some { cls:=.type "list",data:=.seq dj.toArray n }
 | .tup xs=>xs.length<=ag/\∃ (dj:List aa) (n:Nat),bI xs dj/\h.get? a=some { cls:=.type "tuple",data:=.seq dj.toArray n }
 | .dK kvs=>kvs.length<=ag/\(a==br)=false/\∃ vs,KV kvs vs/\h.DictOf (bF P w) a vs
 | .dT kvs => kvs.length <= ag /\ (a == br) = false /\ ∃ xs : List (List Key × ae × aa),
     cx (λ(p:List Key×V) (q:List Key×ae×aa)=>p.1=q.1/\H q.2.1=some (.tup (p.1.map kV))/\bR p.2 q.2.2) kvs xs /\
     ∃ o es ep,h.get? a=some o/\o.ExactDict/\o.data=.dict es ep/\es.toList=xs.map (entryOfKey (tupleKind (bF P w)))/\(xs.map (·.1)).Nodup
 | .set S n=>h.SetOf (intKind P w) a S n
 | .ins C dx fs => H dx = some (.own a) /\ fs.length <= 1000 /\ dx ≠ a /\ h.get? a = some (Tj C dx) /\
     ∃ mA,h.Ns1 dx mA/\(∀ f,mI (fs.lookup f) (mA f))/\PySem.Within mA (fs.map (·.1))
 | .own _=>∃ o,h.get? a=some o
 | .xd fs=>∃ mA,h.Ns1 a mA/\∀ f,mI (fs.lookup f) (mA f)
 | .vo lo hi=>∃ t u v,h.get? a=some { cls:=.type "range",data:=.fields #[.int lo t,.int hi u,.int 1 v] }
 | .fm o u=>h.get? a=some o/\bS H h a u
 | .Ay ps=>h.get? a=some { cls:=.none,data:=.fields ps }
 | .tab q=>∃ ps:Array aa,h.get? a=some { cls:=.none,data:=.fields ps }/\TriplesOk ps.toList/\∀ (pos:Pos) (cv:aa),codeAmong pos ps.toList=some cv->∃ (c:ae) (o:bz) (vs:Array aa) (t:Tok),cv=.ref c/\H c=some (.own a)/\h.get? c=some o/\o.data=.fields vs/\vs[1]?=some (.str q t)
 | .met f x=>h.get? a=some (Vm (.ref f) (.ref x))
 | .ext φ=>φ h/\(∃ o,h.get? a=some o)/\∀ h1 h2:af,φ h1->(∀ o,h1.get? a=some o->h2.get? a=some o)->φ h2
def je (H:Hp) (h:af):Prop:=∀ a o,H a=some o->bS P w H h a o
end
section
variable {a:ae} {o:HO}
theorem bS.lt (x:bS P w H h a o):a < h.objs.size:=by
 cases o with
 | lst xs=>obtain ⟨_,_,_,_,e⟩:=x; exact af.lt_size e
 | tup xs=>obtain ⟨_,_,_,_,e⟩:=x; exact af.lt_size e
 | dK kvs=>obtain ⟨_,_,_,_,o,_,_,e,_⟩:=x; exact af.lt_size e
 | dT kvs=>obtain ⟨_,_,_,_,o,_,_,e,_⟩:=x; exact af.lt_size e
 | set S n=>obtain ⟨o,_,_,_,e,_⟩:=x; exact af.lt_size e
 | ins C dx fs=>obtain ⟨_,_,_,e,_⟩:=x; exact af.lt_size e
 | own y=>obtain ⟨_,e⟩:=x; exact af.lt_size e
 | xd fs=>obtain ⟨_,⟨_,_,_,e,_⟩,_⟩:=x; exact af.lt_size e
 | vo lo hi=>obtain ⟨_,_,_,e⟩:=x; exact af.lt_size e
 | fm ob u=>obtain ⟨e,_⟩:=x; exact af.lt_size e
 | Ay ps=>exact af.lt_size (show h.get? a=some _ from x)
 | tab q=>obtain ⟨_,e,_⟩:=x; exact af.lt_size e
 | met f y=>exact af.lt_size (show h.get? a=some _ from x)
 | ext φ=>obtain ⟨_,⟨_,e⟩,_⟩:=x; exact af.lt_size e
theorem cx.FK {F G:α->β->Prop}:∀ {Kk:List α} {Kj:List β},cx F Kk Kj->(∀ a b,F a b->G a b)->cx G Kk Kj
 := by
 intro Kk Kj h f
 induction h with
 | nil=>exact .nil
 | cons r t ih=>exact .cons (f _ _ r) ih
theorem bS.ie (x:bS P w H h a o) (k:∀ b u,(b=a∨H b=some (.own a))->h.get? b=some u->h'.get? b=some u)
  (ho:∀ b,H b=some (.own a)->H' b=some (.own a)) (ht:∀ b xs,H b=some (.tup xs)->H' b=some (.tup xs)):bS P w H' h' a o:=by
 induction o with
 | lst xs=>obtain ⟨z,dj,n,r,e⟩:=x; exact ⟨z,dj,n,r,k _ _ (.inl rfl) e⟩
 | tup xs=>obtain ⟨z,dj,n,r,e⟩:=x; exact ⟨z,dj,n,r,k _ _ (.inl rfl) e⟩
 | dK kvs=>obtain ⟨z,y,vs,r,ob,es,ep,e,c⟩:=x; exact ⟨z,y,vs,r,ob,es,ep,k _ _ (.inl rfl) e,c⟩
 | dT kvs =>
  obtain ⟨z,y,xs,r,ob,es,ep,e,c⟩:=x
  exact ⟨z,y,xs,cx.FK r λp q z=>⟨z.1,ht _ _ z.2.1,z.2.2⟩,ob,es,ep,k _ _ (.inl rfl) e,c⟩
 | set S n=>obtain ⟨ob,es,ep,t,e,c⟩:=x; exact ⟨ob,es,ep,t,k _ _ (.inl rfl) e,c⟩
 | ins C dx fs =>
  obtain ⟨d,z,ne,e,mA,⟨od,es,ep,e2,c⟩,r⟩:=x
  exact ⟨ho _ d,z,ne,k _ _ (.inl rfl) e,mA,⟨od,es,ep,k _ _ (.inr d) e2,c⟩,r⟩
 | own y=>obtain ⟨ob,e⟩:=x; exact ⟨ob,k _ _ (.inl rfl) e⟩
 | xd fs=>obtain ⟨mA,⟨od,es,ep,e,c⟩,r⟩:=x; exact ⟨mA,⟨od,es,ep,k _ _ (.inl rfl) e,c⟩,r⟩
 | vo lo hi=>obtain ⟨t,u,v,e⟩:=x; exact ⟨t,u,v,k _ _ (.inl rfl) e⟩
 | fm ob u ih=>obtain ⟨e,q⟩:=x; exact ⟨k _ _ (.inl rfl) e,ih q⟩
 | Ay ps =>
  have e:h.get? a=some { cls:=.none,data:=.fields ps }:=x
  show h'.get? a=some { cls:=.none,data:=.fields ps }
  exact k a _ (.inl rfl) e
 | tab q =>
  obtain ⟨ps,e,z,r⟩:=x
  refine ⟨ps,k _ _ (.inl rfl) e,z,λpos cv q=>?_⟩
  obtain ⟨c,o,vs,t,r1,r2,r3,r4⟩:=r pos cv q
  exact ⟨c,o,vs,t,r1,ho _ r2,k _ _ (.inr r2) r3,r4⟩
 | met f y =>
  have e:h.get? a=some (Vm (.ref f) (.ref y)):=x
  show h'.get? a=some (Vm (.ref f) (.ref y))
  exact k a _ (.inl rfl) e
 | ext φ=>obtain ⟨p,⟨o,e⟩,st⟩:=x; exact ⟨st _ _ p λo q=>k _ _ (.inl rfl) q,⟨o,k _ _ (.inl rfl) e⟩,st⟩
theorem je.lt (x:je P w H h) (e:H a=some o):a < h.objs.size:=(x a o e).lt
theorem je.fresh (x:je P w H h) (e:h.objs.size<=a):H a=none:=by
 cases q:H a with
 | none=>rfl
 | some u=>exact absurd (Qn (x.lt q) e) (Ji _)
theorem je.kept (x:je P w H h) (k:∀ b u,h.get? b=some u->h'.get? b=some u):je P w H h':=λa o e =>
 (x a o e).ie (λb u _ q=>k b u q) (λ_ q=>q) λ_ _ q=>q
theorem je.laid (x:je P w H h) (k:∀ b u,h.get? b=some u->h'.get? b=some u) (hp:h.objs.size<=a) (new:bS P w (upd H a o) h' a o):je P w (upd H a o) h':=λb u e=>by
 have hn:=x.fresh hp
 by_cases hb:b=a
 ·subst hb; rw [aB] at e; cases e; exact new
 ·rw [aF hb] at e
  exact (x b u e).ie (λc v _ q=>k c v q) (λc q=>by rw [aF (iO q hn)]; exact q) λc xs q=>by rw [aF (iO q hn)]; exact q
end
def Rd (H:Hp) (a:ae) (u:HO):Prop:=H a=some u∨∃ o,H a=some (.fm o u)
theorem Rd.ok {a:ae} {u:HO} (r:Rd H a u) (x:je P w H h):bS P w H h a u:=by
 rcases r with r | ⟨o,r⟩
 ·exact x a u r
 ·obtain ⟨_,q⟩:=x a _ r
  exact q
def Cm:Option HO->Prop
 | some (.lst _)=>True
 | some (.dK _)=>True
 | some (.dT _)=>True
 | some (.set _ _)=>True
 | some (.ins _ _ _)=>True
 | some (.ext _)=>True
 | some (.tab _)=>True
 | _=>False
section
variable {x e:ae} {o':HO}
theorem je.write (ok:je P w H h) (mu:Cm (H x)) (he:e=x∨H e=some (.own x)) (k:∀ b u,b≠e->h.get? b=some u->h'.get? b=some u) (Dv:∃ u,h'.get? e=some u)
  (new:bS P w (upd H x o') h' x o'):je P w (upd H x o') h':=λb u q=>by
 have FJ:∀ c y,H c=some (.own y)->c≠x:=λc y r z=>by subst z; rw [r] at mu; exact mu
 have Nr:∀ c xs,H c=some (.tup xs)->c≠x:=λc xs r z=>by subst z; rw [r] at mu; exact mu
 by_cases hb:b=x
 ·subst hb; rw [aB] at q; cases q; exact new
 ·rw [aF hb] at q
  by_cases BX:b=e
  ·have q':H b=some (.own x):=by
    rcases he with z | z
    ·exact absurd (BX.trans z) hb
    ·rw [BX]; exact z
   rw [q] at q'; cases q'
   obtain ⟨v,hv⟩:=Dv
   exact ⟨v,by rw [BX]; exact hv⟩
  ·refine (ok b u q).ie (λc v hc r=>k c v ?_ r) (λc r=>by rw [aF (FJ c b r)]; exact r) λc xs r=>by rw [aF (Nr c xs r)]; exact r
   rcases hc with rfl | hc
   ·exact BX
   ·rintro rfl
    rcases he with z | z
    ·exact FJ c b hc z
    ·rw [hc] at z; cases z; exact hb rfl
end
structure Un (fs ex:List ae) (H H':Hp) (h h':af):Prop where
 keep:∀ b o,h.get? b=some o->H b=none->b∉fs->b∉ex->h'.get? b=some o
 slot:∀ b o,h.get? b=some o->H b=none->b∈fs->b∉ex->∃ sl,h'.get? b=some { o with slots:=sl }
 free:∀ b o,h.get? b=some o->H b=none->b∉ex->H' b=none
 there:∀ b o,h.get? b=some o->b∉ex->∃ o',h'.get? b=some o'
 j3:∀ b xs,H b=some (.tup xs)->H' b=some (.tup xs)
 jh:∀ b o u,H b=some (.fm o u)->H' b=some (.fm o u)
 j4:∀ b ps,H b=some (.Ay ps)->∃ more,H' b=some (.Ay (ps++more))
section
variable {fs DA ex ex':List ae} {h1 h2:af} {a x e:ae} {o:HO}
theorem Un.any (u:Un fs ex H H1 h h1) {b:ae} (q:h.get? b=some ob) (n:H b=none) (hx:b∉ex):∃ sl,h1.get? b=some { ob with slots:=sl }:=by
 by_cases hb:b∈fs
 ·exact u.slot b ob q n hb hx
 ·exact ⟨ob.slots,u.keep b ob q n hb hx⟩
theorem Un.kept (k:∀ b u,h.get? b=some u->h'.get? b=some u):Un fs ex H H h h' :=
 ⟨λb ob q _ _ _=>k b ob q,λb ob q _ _ _=>⟨ob.slots,k b ob q⟩,λ_ _ _ n _=>n,λb ob q _=>⟨ob,k b ob q⟩,λ_ _ q=>q,λ_ _ _ q=>q,λ_ ps q=>⟨#[],by rw [q]; simp⟩⟩
theorem Un.refl:Un fs ex H H h h:=Un.kept λ_ _ q=>q
theorem Un.laid (k:∀ b u,h.get? b=some u->h'.get? b=some u) (hp:h.objs.size<=a) (hn:H a=none):Un fs ex H (upd H a o) h h' where
 keep:=λb u q _ _ _=>k b u q
 slot:=λb u q _ _ _=>⟨u.slots,k b u q⟩
 free:=λb u q n _=>by rw [aF (Qv (Qn (af.lt_size q) hp))]; exact n
 there:=λb u q _=>⟨u,k b u q⟩
 j3:=λb xs q=>by rw [aF (iO q hn)]; exact q
 jh:=λb u xs q=>by rw [aF (iO q hn)]; exact q
 j4:=λb ps q=>⟨#[],by rw [aF (iO q hn),q]; simp⟩
theorem Un.write (mu:Cm (H x)) (he:e=x∨H e=some (.own x)) (k:∀ b u,b≠e->h.get? b=some u->h'.get? b=some u) (Dv:∃ u,h'.get? e=some u):Un fs ex H (upd H x o) h h':=by
 have hx:∀ b,H b=none->b≠x:=λb n z=>by subst z; rw [n] at mu; exact mu
 have hb:∀ b,H b=none->b≠e:=λb n z=>by
  subst z
  rcases he with r | r
  ·exact hx b n r
  ·rw [n] at r; cases r
 have hm:∀ b u,H b=some u->¬ Cm (some u)->b≠x:=λb u q nm z=>by subst z; rw [q] at mu; exact nm mu
 refine ⟨λb u q n _ _=>k b u (hb b n) q,λb u q n _ _=>⟨u.slots,k b u (hb b n) q⟩,λb u q n _=>by rw [aF (hx b n)]; exact n,λb u q _=>?_,
  λb xs q=>by rw [aF (hm b _ q λz=>z)]; exact q,λb u xs q=>by rw [aF (hm b _ q λz=>z)]; exact q,λb ps q=>⟨#[],by rw [aF (hm b _ q λz=>z),q]; simp⟩⟩
 by_cases BX:b=e
 ·subst BX; exact Dv
 ·exact ⟨u,k b u BX q⟩
end
noncomputable def yj (h:af) (H:Hp):List ae:=(List.range h.objs.size).filter λa=>(H a).isSome
noncomputable def wB (h:af) (H:Hp):af:=Rw h (yj h H)
theorem aCF (h:af) (H:Hp):(wB h H).objs.size=h.objs.size:=PySem.W.hideAll_size _ _
theorem aDg {b:ae} (e:h.get? b=some o) (n:H b=none):(wB h H).get? b=some o :=
 Vd _ e λhm=>by
  have q:(H b).isSome=true:=(Xf.mp hm).2
  rw [n] at q; simp at q
theorem aE1 {b:ae} (e:(wB h H).get? b=some o):h.get? b=some o/\H b=none:=by
 have e':h.get? b=some o:=Tw (yj h H) e
 refine ⟨e',?_⟩
 cases q:H b with
 | none=>rfl
 | some x =>
  have hm:b∈yj h H:=Xf.mpr ⟨Xz.mpr (af.lt_size e'),by simp [q]⟩
  have z:(wB h H).get? b=none:=Ru (yj h H) hm
  rw [z] at e; cases e
noncomputable def aE2 (g h:af) (L:ae):List (ae×bz):=(List.range h.objs.size).filterMap λa=>if a=L∨(g.get? a).isSome=true then none else (h.get? a).map λo=>(a,o)
noncomputable def bP (g h:af) (L d:ae):List (ae×bz):=(aE2 g h L).filter λp=>decide (p.1≠d)
structure Mod (K:Rb) (mg:ax->Option aa) (base:af):Prop where
 zj:K.In base
 glob:base.Ns aj mg
 blt:∃ mb,base.Ns builtinsNs mb/\∀ x:ax,x ≠ "__name__" -> mb x=bc x
 nolimit:base.NoLimit
 mods:∃ mm,base.Ns br mm
structure Cx where
 prog:bo
 w:bq
 K:Rb
 mg:ax->Option aa
 base:af
 A:bw
 N:List ax
 jk:ah
 we:Hp
 env:cy
 outer:List cy
 stack:List cy
 ex:List ae
 fn:ax->Bool
 calm:Bool
 pn:List (ae×bz)
 xe:aa->ah->Prop
end L2
variable {X:Cx}
namespace L2
open PySem PySem.Spec PyProof.Rows
noncomputable def gy (l:List cy):List ae:=l.filterMap (·.frame)
noncomputable abbrev Cx.fs (X:Cx):List ae:=gy X.outer
def IE (sc:c8) (x:ax):Prop:=sc.names.lookup x=some .local∨sc.names.lookup x=some .cell∨sc.names.lookup x=some .free
def Loc (sc:c8) (x:ax):Prop:=sc.names.lookup x=some .local∨sc.names.lookup x=some .cell
def TC (env:cy) (h:af) (m:ax->Option aa) (x:ax) (u:aa):Prop :=
 (env.kindOf x=some .local/\m x=some u)∨((env.kindOf x=some .cell∨env.kindOf x=some .free)/\∃ c,env.cells.lookup x=some c/\h.IsCell c (some u))
structure Cx.Ok (X:Cx):Prop where
 mod:Mod X.K X.mg X.base
 kind:X.env.scope.kind=.function
 glob:X.env.globals=aj
 blt:X.env.builtins=builtinsNs
 above:X.jk.heap.objs.size<=X.env.locals
 inj:∀ x y c,X.env.cells.lookup x=some c->X.env.cells.lookup y=some c->x=y
 has:∀ x,(X.env.kindOf x=some .cell∨X.env.kindOf x=some .free)->∃ c,X.env.cells.lookup x=some c
 A9:∀ x c,X.fn x=true->X.env.cells.lookup x=some c->X.jk.heap.objs.size<=c
 hd:X.calm=true->X.A.handled=none
 frames:X.A.frames=some X.stack
 DY:X.stack=X.outer∨(X.stack=X.env::X.outer/\X.env.frame=some X.env.locals)
 EN:∀ b∈X.ex,b≠X.env.locals/\∀ x c,X.env.cells.lookup x=some c->c≠b
 bs:∀ b o,X.base.get? b=some o->X.jk.heap.get? b=some o/\X.we b=none
 Ad:X.base.objs.size<=X.jk.heap.objs.size
 oh:∀ b o,X.base.get? b=some o->b∉X.ex
 ya:∀ b∈X.ex,b∉X.fs
 j5:X.jk.heap.FunFrames X.base X.outer
 yt:∀ b∈X.fs,X.we b=none
structure Inv (X:Cx) (a_:List (ae×bz)) (σ:List (Option V)) (H:Hp) (s:ah):Prop where
 ok:X.Ok
 os:s.os=X.jk.os
 bare:AllBare s.gens
 base:Un X.fs X.ex X.we H X.jk.heap s.heap
 loc:∃ m,s.heap.Ns X.env.locals m/\∀ (i:Nat) (x:ax) (v:V),X.N[i]?=some x->σ[i]?=some (some v)->IE X.env.scope x->∃ u,bR v u/\TC X.env s.heap m x u
 cell:∀ x c,X.env.cells.lookup x=some c->∃ v,s.heap.IsCell c v
 free:H X.env.locals=none
 gj:∀ x c,X.env.cells.lookup x=some c->H c=none
 pin:∀ p∈X.pn++a_,s.heap.get? p.1=some p.2/\H p.1=none/\p.1≠X.env.locals/\p.1∉X.fs/\∀ v,p.2.data≠.cell v
 d_:je X.prog X.w H s.heap
 len:σ.length=X.N.length
section
variable {σ:List (Option V)}
theorem Cx.Ok.Nx (ok:X.Ok) {b:ae} (e:X.base.get? b=some o):b∉X.fs:=λhb=>by
 have:=(ok.j5.mem hb).1
 rw [e] at this; cases this
theorem Inv.bs (I:Inv X a_ σ H s):∀ b o,X.base.get? b=some o->s.heap.get? b=some o/\H b=none:=λb o e =>
 ⟨I.base.keep b o (I.ok.bs b o e).1 (I.ok.bs b o e).2 (I.ok.Nx e) (I.ok.oh b o e),I.base.free b o (I.ok.bs b o e).1 (I.ok.bs b o e).2 (I.ok.oh b o e)⟩
theorem Inv.bk (I:Inv X a_ σ H s):∀ b o,X.base.get? b=some o->s.heap.get? b=some o:=λb o e=>(I.bs b o e).1
theorem Inv.mod (I:Inv X a_ σ H s):Mod X.K X.mg X.base:=I.ok.mod
theorem Inv.kj (I:Inv X a_ σ H s):X.K.In s.heap:=I.ok.mod.zj.keeps I.bk
theorem Inv.nolimit (I:Inv X a_ σ H s):s.heap.NoLimit:=I.ok.mod.nolimit.keeps I.bk
theorem Inv.lt (I:Inv X a_ σ H s):X.env.locals < s.heap.objs.size:=let ⟨_,hn,_⟩:=I.loc; hn.lt
theorem Inv.sz (I:Inv X a_ σ H s):X.jk.heap.objs.size<=s.heap.objs.size:=Qx I.ok.above (Je I.lt)
theorem Inv.Cy (I:Inv X a_ σ H s) {a:ae} (h:s.heap.objs.size<=a):a∉X.fs:=λhb=>by
 obtain ⟨_,o,ho,_⟩:=I.ok.j5.mem hb
 exact absurd (Qn (af.lt_size ho) (Qx I.sz h)) (Ji _)
theorem Inv.xo (I:Inv X a_ σ H s):∀ x c,X.env.cells.lookup x=some c->c≠X.env.locals:=λx c e z=>by
 obtain ⟨v,o,ho,hd⟩:=I.cell x c e
 obtain ⟨m,⟨o',es,ep,n_,BV,_⟩,_⟩:=I.loc
 rw [z,n_] at ho; cases ho; rw [BV] at hd; cases hd
theorem Inv.j5 (I:Inv X a_ σ H s):s.heap.FunFrames X.base X.outer:=by
 have all:∀ (l:List cy),(∀ b∈gy l,b∈X.fs)->X.jk.heap.FunFrames X.base l->s.heap.FunFrames X.base l:=by
  intro l
  induction l with
  | nil=>intro _ _; trivial
  | cons env r ih =>
   intro hs hl
   obtain ⟨hk,⟨L,o,hf,hn,ho,hd⟩,hr⟩:=hl
   have hL:L∈X.fs:=hs L (by unfold gy; rw [Js,hf]; exact Qm)
   obtain ⟨sl,e⟩:=I.base.slot L o ho (I.ok.yt L hL) hL λz=>I.ok.ya L z hL
   exact ⟨hk,⟨L,_,hf,hn,e,hd⟩,ih (λb hb=>hs b (by unfold gy; rw [Js,hf]; exact Qi _ hb)) hr⟩
 exact all X.outer (λ_ hb=>hb) I.ok.j5
theorem Inv.stack (I:Inv X a_ σ H s):s.heap.FunFrames X.base X.stack:=by
 rcases I.ok.DY with e | ⟨e,hf⟩
 ·rw [e]; exact I.j5
 ·rw [e]
  obtain ⟨m,hn,_⟩:=I.loc
  refine .cons (by rw [I.ok.kind]; decide) hf hn ?_ I.j5
  exact af.get?_none_of_le (Qx I.ok.Ad I.ok.above)
theorem Inv.j6 (I:Inv X a_ σ H s):∀ b∈gy X.stack,b∈X.env.locals::X.fs:=λb hb=>by
 rcases I.ok.DY with e | ⟨e,hf⟩
 ·rw [e] at hb; exact Qi _ hb
 ·rw [e] at hb
  unfold gy at hb
  rw [Js,hf] at hb
  exact hb
theorem Inv.ju (I:Inv X a_ σ H s):∀ b∈gy X.stack,H b=none:=λb hb=>by
 rcases Qj.mp (I.j6 b hb) with e | hb
 ·rw [e]; exact I.free
 ·obtain ⟨_,o,ho,_⟩:=I.ok.j5.mem hb
  exact I.base.free b o ho (I.ok.yt b hb) λz=>I.ok.ya b z hb
theorem Inv.step {g':Array GenState} {d':Drawn} (I:Inv X a_ σ H s) (wa:∀ b∈ch,(b∈X.ex∨X.jk.heap.objs.size<=b)/\b≠X.env.locals/\(∀ x c,X.env.cells.lookup x=some c->c≠b)/\∀ p∈X.pn++a_,p.1≠b) (keep:∀ b o,b≠X.env.locals->b∉X.fs->b∉ch->s.heap.get? b=some o->H b=none->h'.get? b=some o) (slot:∀ b o,b≠X.env.locals->b∈X.fs->b∉ch->s.heap.get? b=some o->H b=none->∃ sl,h'.get? b=some { o with slots:=sl }) (free:∀ b o,b∉ch->s.heap.get? b=some o->H b=none->H' b=none) (there:∀ b o,b∉ch->s.heap.get? b=some o->∃ o',h'.get? b=some o') (j3:∀ b xs,H b=some (.tup xs)->H' b=some (.tup xs)) (jh:∀ b o u,H b=some (.fm o u)->H' b=some (.fm o u)) (j4:∀ b ps,H b=some (.Ay ps)->∃ more,H' b=some (.Ay (ps++more))) (ns:∀ m,s.heap.Ns X.env.locals m->h'.Ns X.env.locals m) (d_:je X.prog X.w H' h') (hg:AllBare g') :
  Inv X a_ σ H' { s with heap:=h',gens:=g',drawn:=d',toks:=t' }:=by
 have Po:∀ b o,X.jk.heap.get? b=some o->b≠X.env.locals:=λb o e=>Qv (Qn (af.lt_size e) I.ok.above)
 have GP:∀ b o,X.jk.heap.get? b=some o->b∉X.ex->b∉ch:=λb o e hx hb=>by
  rcases (wa b hb).1 with z | z
  ·exact hx z
  ·exact absurd (Qn (af.lt_size e) z) (Ji _)
 have cellK:∀ x c,X.env.cells.lookup x=some c->∀ v,s.heap.IsCell c v->h'.IsCell c v:=λx c e v ⟨o,ho,hd⟩=>by
  have D_:c∉ch:=λz=>(wa c z).2.2.1 x c e rfl
  by_cases hc:c∈X.fs
  ·obtain ⟨sl,q⟩:=slot c o (I.xo x c e) hc D_ ho (I.gj x c e)
   exact ⟨_,q,hd⟩
  ·exact ⟨o,keep c o (I.xo x c e) hc D_ ho (I.gj x c e),hd⟩
 refine ⟨I.ok,I.os,hg,⟨λb o e n hb hx=>?_,λb o e n hb hx=>?_,λb o e n hx=>?_,λb o e hx=>?_,λb xs e=>j3 b xs (I.base.j3 b xs e),λb o xs e=>jh b o xs (I.base.jh b o xs e),λb ps e=>?_⟩,?_,λx c e=>?_,?_,λx c e=>?_,λp hp=>?_,d_,I.len⟩
 ·exact keep b o (Po b o e) hb (GP b o e hx) (I.base.keep b o e n hb hx) (I.base.free b o e n hx)
 ·obtain ⟨sl,e1⟩:=I.base.slot b o e n hb hx
  obtain ⟨Bv,e2⟩:=slot b _ (Po b o e) hb (GP b o e hx) e1 (I.base.free b o e n hx)
  exact ⟨Bv,e2⟩
 ·obtain ⟨o',e1⟩:=I.base.there b o e hx
  exact free b o' (GP b o e hx) e1 (I.base.free b o e n hx)
 ·obtain ⟨o',e1⟩:=I.base.there b o e hx
  exact there b o' (GP b o e hx) e1
 ·obtain ⟨m1,e1⟩:=I.base.j4 b ps e
  obtain ⟨m2,e2⟩:=j4 b _ e1
  exact ⟨m1++m2,by rw [e2,Array.append_assoc]⟩
 ·obtain ⟨m,hn,hl⟩:=I.loc
  refine ⟨m,ns m hn,λi x v e1 e2 e3=>?_⟩
  obtain ⟨u,r,l⟩:=hl i x v e1 e2 e3
  refine ⟨u,r,?_⟩
  rcases l with l | ⟨k,c,e,z⟩
  ·exact .inl l
  ·exact .inr ⟨k,c,e,cellK x c e _ z⟩
 ·obtain ⟨v,z⟩:=I.cell x c e
  exact ⟨v,cellK x c e v z⟩
 ·obtain ⟨m,⟨o,_,_,ho,_⟩,_⟩:=I.loc
  exact free _ o (λz=>(wa _ z).2.1 rfl) ho I.free
 ·obtain ⟨v,o,ho,hd⟩:=I.cell x c e
  exact free c o (λz=>(wa c z).2.2.1 x c e rfl) ho (I.gj x c e)
 ·obtain ⟨e,n,ne,nf,d⟩:=I.pin p hp
  have D_:p.1∉ch:=λz=>(wa p.1 z).2.2.2 p hp rfl
  exact ⟨keep p.1 p.2 ne nf D_ e n,free p.1 p.2 D_ e n,ne,nf,d⟩
theorem Inv.un (I:Inv X a_ σ H s) (u:Un X.fs [] H H' s.heap h') (d_:je X.prog X.w H' h'):Inv X a_ σ H' { s with heap:=h',toks:=t' }:=by
 obtain ⟨m,⟨o,es,ep,ho,r⟩,_⟩:=id I.loc
 obtain ⟨sl,hL⟩:=u.any ho I.free (by simp)
 exact I.step (g':=s.gens) (d':=s.drawn) (ch:=[]) (λ_ z=>nomatch z) (λb o _ hb _ e n=>u.keep b o e n hb (by simp)) (λb o _ hb _ e n=>u.slot b o e n hb (by simp)) (λb o _ e n=>u.free b o e n (by simp)) (λb o _ e=>u.there b o e (by simp)) u.j3 u.jh u.j4 (λm' hm=>by
  obtain ⟨o',ES,ET,n_,r'⟩:=hm
  rw [ho] at n_; cases n_
  exact ⟨_,ES,ET,hL,r'⟩) d_ I.bare
theorem Inv.call {g':Array GenState} {d':Drawn} (I:Inv X a_ σ H s) (u:Un (gy X.stack) ch H H' s.heap h') (d_:je X.prog X.w H' h') (hg:AllBare g') (wa:∀ b∈ch,(b∈X.ex∨X.jk.heap.objs.size<=b)/\b≠X.env.locals/\(∀ x c,X.env.cells.lookup x=some c->c≠b)/\∀ p∈X.pn++a_,p.1≠b) :
  Inv X a_ σ H' { s with heap:=h',gens:=g',drawn:=d',toks:=t' }:=by
 obtain ⟨m,⟨o,es,ep,ho,r⟩,_⟩:=id I.loc
 obtain ⟨sl,hL⟩:=u.any ho I.free λz=>(wa _ z).2.1 rfl
 exact I.step (ch:=ch) wa (λb o hL hb hc e n=>u.keep b o e n (λz=>(Qj.mp (I.j6 b z)).elim hL hb) hc) (λb o _ _ hc e n=>u.any e n hc) (λb o hc e n=>u.free b o e n hc) (λb o hc e=>u.there b o e hc) u.j3 u.jh u.j4 (λm' hm=>by
  obtain ⟨o',ES,ET,n_,r'⟩:=hm
  rw [ho] at n_; cases n_
  exact ⟨_,ES,ET,hL,r'⟩) d_ hg
theorem Inv.turned (I:Inv X a_ σ H s) (k:∀ b o,b≠it->s.heap.get? b=some o->h'.get? b=some o) (hn:H it=none) (hL:it≠X.env.locals) (h1:it∈X.ex∨X.jk.heap.objs.size<=it) (h2:∀ x c,X.env.cells.lookup x=some c->c≠it) (h3:∀ p∈X.pn++a_,p.1≠it):Inv X a_ σ H { s with heap:=h',toks:=t' }:=by
 have D9:∀ b u,H b=some u->b≠it:=λb u e z=>by rw [z,hn] at e; cases e
 refine I.step (g':=s.gens) (d':=s.drawn) (ch:=[it]) (λb hb=>?_) (λb o _ _ hc e _=>k b o (λz=>hc (by simp [z])) e) (λb o _ _ hc e _=>⟨o.slots,k b o (λz=>hc (by simp [z])) e⟩) (λ_ _ _ _ n=>n)
  (λb o hc e=>⟨o,k b o (λz=>hc (by simp [z])) e⟩) (λ_ _ e=>e) (λ_ _ _ e=>e) (λb ps e=>⟨#[],by rw [e]; simp⟩) (λm hm=>?_) (λb u e=>?_) I.bare
 ·have e:b=it:=by simpa using hb
  subst e
  exact ⟨h1,hL,h2,h3⟩
 ·obtain ⟨o,es,ep,ho,r⟩:=hm
  exact ⟨o,es,ep,k _ o (Ne.symm hL) ho,r⟩
 ·refine (I.d_ b u e).ie (λc v hc q=>k c v ?_ q) (λ_ q=>q) λ_ _ q=>q
  rcases hc with z | z
  ·rw [z]; exact D9 b u e
  ·exact D9 c _ z
theorem Inv.tok (I:Inv X a_ σ H s) (t:Nat):Inv X a_ σ H { s with toks:=t }:=I.un (h':=s.heap) (t':=t) Un.refl I.d_
theorem Inv.kept (I:Inv X a_ σ H s) (k:∀ b u,s.heap.get? b=some u->h'.get? b=some u):Inv X a_ σ H { s with heap:=h',toks:=t' }:=I.un (Un.kept k) (I.d_.kept k)
theorem Inv.laid {a:ae} {o:HO} (I:Inv X a_ σ H s) (k:∀ b u,s.heap.get? b=some u->h'.get? b=some u) (hp:s.heap.objs.size<=a) (new:bS X.prog X.w (upd H a o) h' a o) :
  Inv X a_ σ (upd H a o) { s with heap:=h',toks:=t' }:=I.un (Un.laid k hp (I.d_.fresh hp)) (I.d_.laid k hp new)
theorem Inv.write {x e:ae} {o:HO} (I:Inv X a_ σ H s) (mu:Cm (H x)) (he:e=x∨H e=some (.own x)) (k:∀ b u,b≠e->s.heap.get? b=some u->h'.get? b=some u) (Dv:∃ u,h'.get? e=some u) (new:bS X.prog X.w (upd H x o) h' x o):Inv X a_ σ (upd H x o) { s with heap:=h',toks:=t' }:=I.un (Un.write mu he k Dv) (I.d_.write mu he k Dv new)
theorem Inv.jv {Bn:List (ae×bz)} (I:Inv X a_ σ H s) (h:∀ p∈Bn,s.heap.get? p.1=some p.2/\H p.1=none/\p.1≠X.env.locals/\p.1∉X.fs/\∀ v,p.2.data≠.cell v):Inv X Bn σ H s :=
 ⟨I.ok,I.os,I.bare,I.base,I.loc,I.cell,I.free,I.gj,λp hp=>(Jd.mp hp).elim (λz=>I.pin p (Jn _ z)) (h p),I.d_,I.len⟩
theorem tM (hN:N.Nodup) {x:ax} (a:N[i]?=some x) (b:N[j]?=some x):i=j:=by
 obtain ⟨h1,e1⟩:=Qa.mp a
 obtain ⟨h2,e2⟩:=Qa.mp b
 exact (Za hN).mp (e1.trans e2.symm)
theorem rA {x:ax} {Q:Unit->ah->Prop} (I:Inv X a_ σ H s) (hN:X.N.Nodup) (hi:X.N[i]?=some x) (hx:Loc X.env.scope x) (r:bR v u) (h:∀ s',Inv X a_ (σ.set i (some v)) H s'->(∃ a,af.SameBut a s.heap s'.heap/\(a=X.env.locals∨X.env.cells.lookup x=some a))->Q () s') (hf:autoParam (X.fn x=true∨X.env.scope.names.lookup x=some .local) L2.DU):ai M A (storeName X.env x u) Q E s:=by
 obtain ⟨m,hn,hl⟩:=id I.loc
 have CQ:(X.env.scope.kind==.class || (X.env.scope.kind==.module && X.env.locals !=X.env.globals))=false:=by rw [I.ok.kind]; rfl
 have An:i < σ.length:=by rw [I.len]; exact (Qa.mp hi).1
 have xo:=I.xo
 have tracked:∀ {a:ae} {h':af},(∃ o,s.heap.get? a=some o/\H a=none)->af.SameBut a s.heap h'->je X.prog X.w H h':=λ{a h'} ha hs b ob e=>by
  obtain ⟨_,_,qc⟩:=ha
  refine (I.d_ b ob e).ie (λc w' hc q=>(hs.2 c ?_).trans q) (λ_ q=>q) λ_ _ q=>q
  rintro rfl
  rcases hc with rfl | hc
  ·rw [qc] at e; cases e
  ·rw [qc] at hc; cases hc
 rcases hx with hk | hk
 ·refine wpAny_storeName_local hk hn (λh' KL hs=>?_) CQ
  obtain ⟨oL,_,_,xa,_⟩:=id hn
  refine h _ ⟨I.ok,I.os,I.bare,⟨λb o e n hb hx=>?_,λb o e n hb hx=>?_,I.base.free,λb o e hx=>?_,I.base.j3,I.base.jh,I.base.j4⟩,⟨_,KL,λj y v' e1 e2 e3=>?_⟩,λy c e=>?_,I.free,I.gj,λp hp=>?_,tracked ⟨oL,xa,I.free⟩ hs,by simpa using I.len⟩ ⟨_,hs,.inl rfl⟩
  ·exact (hs.2 b (Qv (Qn (af.lt_size e) I.ok.above))).trans (I.base.keep b o e n hb hx)
  ·obtain ⟨sl,e1⟩:=I.base.slot b o e n hb hx
   exact ⟨sl,(hs.2 b (Qv (Qn (af.lt_size e) I.ok.above))).trans e1⟩
  ·obtain ⟨o',e1⟩:=I.base.there b o e hx
   exact ⟨o',(hs.2 b (Qv (Qn (af.lt_size e) I.ok.above))).trans e1⟩
  ·by_cases hj:j=i
   ·subst hj
    rw [hi] at e1; cases e1
    rw [Xu An] at e2
    cases e2
    exact ⟨u,r,.inl ⟨hk,by simp⟩⟩
   ·rw [Zt (Ne.symm hj)] at e2
    obtain ⟨u',r',q⟩:=hl j y v' e1 e2 e3
    refine ⟨u',r',?_⟩
    rcases q with ⟨k,e⟩ | ⟨k,c,e,z⟩
    ·refine .inl ⟨k,?_⟩
     have:y≠x:=λe=>hj (tM hN e1 (e ▸ hi))
     simp [this,e]
    ·exact .inr ⟨k,c,e,z.sameBut hs (xo y c e)⟩
  ·obtain ⟨w',z⟩:=I.cell y c e
   exact ⟨w',z.sameBut hs (xo y c e)⟩
  ·obtain ⟨e,n,ne,nf,d⟩:=I.pin p hp
   exact ⟨(hs.2 p.1 ne).trans e,n,ne,nf,d⟩
 ·have KZ:X.fn x=true:=by
   rcases hf with z | z
   ·exact z
   ·rw [z] at hk; cases hk
  obtain ⟨c,hc⟩:=I.ok.has x (.inl hk)
  obtain ⟨w',z⟩:=I.cell x c hc
  refine wpAny_storeName_cell I.ok.kind hk hc z (λh' fw hs=>?_)
  obtain ⟨oc,t_,NQ⟩:=id z
  refine h { s with heap:=h' } ⟨I.ok,I.os,I.bare,⟨λb o e n hb hx=>?_,λb o e n hb hx=>?_,I.base.free,λb o e hx=>?_,I.base.j3,I.base.jh,I.base.j4⟩,⟨m,hn.sameBut hs (Ne.symm (xo x c hc)),λj y v' e1 e2 e3=>?_⟩,λy c' e=>?_,I.free,I.gj,λp hp=>?_,tracked ⟨oc,t_,I.gj x c hc⟩ hs,by simpa using I.len⟩ ⟨c,hs,.inr hc⟩
  ·exact (hs.2 b (Qv (Qn (af.lt_size e) (I.ok.A9 x c KZ hc)))).trans (I.base.keep b o e n hb hx)
  ·obtain ⟨sl,e1⟩:=I.base.slot b o e n hb hx
   exact ⟨sl,(hs.2 b (Qv (Qn (af.lt_size e) (I.ok.A9 x c KZ hc)))).trans e1⟩
  ·obtain ⟨o',e1⟩:=I.base.there b o e hx
   exact ⟨o',(hs.2 b (Qv (Qn (af.lt_size e) (I.ok.A9 x c KZ hc)))).trans e1⟩
  ·by_cases hj:j=i
   ·subst hj
    rw [hi] at e1; cases e1
    rw [Xu An] at e2
    cases e2
    exact ⟨u,r,.inr ⟨.inl hk,c,hc,fw⟩⟩
   ·rw [Zt (Ne.symm hj)] at e2
    obtain ⟨u',r',q⟩:=hl j y v' e1 e2 e3
    refine ⟨u',r',?_⟩
    rcases q with q | ⟨k,c',e,z'⟩
    ·exact .inl q
    ·refine .inr ⟨k,c',e,z'.sameBut hs ?_⟩
     rintro rfl
     exact hj (tM hN e1 (I.ok.inj _ _ _ e hc ▸ hi))
  ·by_cases BW:c'=c
   ·subst BW; exact ⟨_,fw⟩
   ·obtain ⟨w2,z2⟩:=I.cell y c' e
    exact ⟨w2,z2.sameBut hs BW⟩
  ·obtain ⟨e,n,ne,nf,d⟩:=I.pin p hp
   refine ⟨(hs.2 p.1 ?_).trans e,n,ne,nf,d⟩
   intro q
   rw [q,t_] at e
   have q':oc=p.2:=Option.some.inj e
   exact d w' (by rw [<- q']; exact NQ)
theorem zZ {x:ax} {Q:Unit->ah->Prop} (I:Inv X a_ σ H s) (hN:X.N.Nodup) (hi:X.N[i]?=some x) (hx:Loc X.env.scope x) (r:bR v u) (h:∀ s',Inv X a_ (σ.set i (some v)) H s'->Q () s') (hf:autoParam (X.fn x=true∨X.env.scope.names.lookup x=some .local) L2.DU):ai M A (storeName X.env x u) Q E s :=
 rA I hN hi hx r (λs' I' _=>h s' I') hf
theorem Inv.qj (I:Inv X a_ σ H s) (ho:s'.os=s.os) (u:Un (gy X.stack) ch H H' s.heap s'.heap) (d_:je X.prog X.w H' s'.heap) (hg:AllBare s'.gens) (wa:∀ b∈ch,(b∈X.ex∨X.jk.heap.objs.size<=b)/\b≠X.env.locals/\(∀ x c,X.env.cells.lookup x=some c->c≠b)/\∀ p∈X.pn++a_,p.1≠b):Inv X a_ σ H' s':=by
 obtain ⟨h',g',d',t',o'⟩:=s'
 have e:o'=s.os:=ho
 subst e
 exact I.call (g':=g') (t':=t') (d':=d') u d_ hg wa
end
abbrev XK:=aa->Option ae->Hp->Prop
abbrev St:=List (Option V)
abbrev VK:=V->Hp->Prop
abbrev TE:=St->Hp->VK->Prop
end L2
variable {ta tb te to tl tk tv ts td:TE}
namespace L2
open PySem PySem.Spec PyProof.Rows
abbrev TT:=St->Hp->(Bool->Hp->Prop)->Prop
end L2
variable {tc tt:TT}
namespace L2
open PySem PySem.Spec PyProof.Rows
abbrev TA:=St->Hp->(List V->Hp->Prop)->Prop
end L2
variable {tr:TA}
namespace L2
open PySem PySem.Spec PyProof.Rows
structure Ends where
 nx:St->Hp->Prop
 rt:VK
 bk:St->Hp->Prop:=λ_ _=>False
 ct:St->Hp->Prop:=λ_ _=>False
abbrev TS:=Ends->St->Hp->Prop
def EP (X:Cx) (a_:List (ae×bz)) (σ:St) (Q:VK) (u:aa) (s':ah):Prop:=∃ v H',Inv X a_ σ H' s'/\bR v u/\Q v H'
def TP (X:Cx) (a_:List (ae×bz)) (σ:St) (Q:Bool->Hp->Prop) (b:Bool) (s':ah):Prop:=∃ H',Inv X a_ σ H' s'/\Q b H'
def AP (X:Cx) (a_:List (ae×bz)) (σ:St) (Q:List V->Hp->Prop) (us:List aa) (s':ah):Prop:=∃ vs H',Inv X a_ σ H' s'/\bI vs us/\Q vs H'
def SP (X:Cx) (a_:List (ae×bz)) (D:Ends) (f:Flow) (s':ah):Prop :=
 match f with
 | .next=>∃ d6 H',Inv X a_ d6 H' s'/\D.nx d6 H'
 | .brk=>∃ d6 H',Inv X a_ d6 H' s'/\D.bk d6 H'
 | .cont=>∃ d6 H',Inv X a_ d6 H' s'/\D.ct d6 H'
 | .ret u=>∃ v d6 H',Inv X a_ d6 H' s'/\bR v u/\D.rt v H'
def PE (X:Cx) (e:ba) (t:TE):Prop :=
 ∀ (a_:List (ae×bz)) (s:ah) (σ:St) (H:Hp) (Q:VK),Inv X a_ σ H s->t σ H Q->ai (ak X.prog X.w) X.A (eval e X.env) (EP X a_ σ Q) X.xe s
def PT (X:Cx) (e:ba) (t:TT):Prop :=
 ∀ (a_:List (ae×bz)) (s:ah) (σ:St) (H:Hp) (Q:Bool->Hp->Prop),Inv X a_ σ H s->t σ H Q->ai (ak X.prog X.w) X.A (isTrue e X.env (eval e X.env)) (TP X a_ σ Q) X.xe s
def PW (X:Cx) (e:ba) (t:TT):Prop :=
 ∀ (whole:Sem aa) (a_:List (ae×bz)) (s:ah) (σ:St) (H:Hp) (Q:Bool->Hp->Prop),Inv X a_ σ H s->t σ H Q->ai (ak X.prog X.w) X.A (isTrue e X.env whole) (TP X a_ σ Q) X.xe s
theorem PW.pt {t:TT} (h:PW X e t):PT X e t:=h _
def PA (X:Cx) (es:List ba) (t:TA):Prop :=
 ∀ (pos:Pos) (a_:List (ae×bz)) (s:ah) (σ:St) (H:Hp) (Q:List V->Hp->Prop),Inv X a_ σ H s->t σ H Q->ai (ak X.prog X.w) X.A (spliced (cb pos (ao es X.env))) (AP X a_ σ Q) X.xe s
def PS (X:Cx) (st:bg) (t:TS):Prop :=
 ∀ (a_:List (ae×bz)) (s:ah) (σ:St) (H:Hp) (D:Ends),Inv X a_ σ H s->t D σ H->ai (ak X.prog X.w) X.A (exec st X.env) (SP X a_ D) X.xe s
def m9 (X:Cx) (st:List bg) (t:TS):Prop :=
 ∀ (a_:List (ae×bz)) (s:ah) (σ:St) (H:Hp) (D:Ends),Inv X a_ σ H s->t D σ H->ai (ak X.prog X.w) X.A (execs st X.env) (SP X a_ D) X.xe s
theorem fi {t:Sem α} {Q Q':α->ah->Prop} (h:ai M A t Q E s) (hQ:∀ a s,Q a s->Q' a s):ai M A t Q' E s:=Rj h hQ λ_ _ x=>x
section
def pR (i:Nat):TE:=λσ H Q=>∃ v,σ[i]?=some (some v)/\Q v H
abbrev tC (v:V):TE:=λ_ H Q=>Q v H
theorem U6 {x:ax} (hN:X.N[i]?=some x) (hv:IE X.env.scope x) (hd:autoParam ((x==("__debug__" : ax))=false) L2.jd) (mi:autoParam ((x==("__classdict__" : ax))=false) L2.jd):PE X (.Name x pos) (pR i):=by
 intro a_ s σ H Q I h
 obtain ⟨v,e,h⟩:=h
 obtain ⟨m,hn,hl⟩:=I.loc
 obtain ⟨u,r,l⟩:=hl i x v hN e hv
 have fin:EP X a_ σ Q u s:=⟨v,H,I,r,h⟩
 rcases l with ⟨hk,hm⟩ | ⟨hk,c,hc,iq⟩
 ·exact Ic (My I.ok.kind hk hn hm fin) hd
 ·rcases hk with hk | hk
  ·exact Ic (wpAny_loadName_cell I.ok.kind hk hc iq fin) hd
  ·exact Ic (Rac I.ok.kind hk hc iq fin mi) hd
theorem aH {i j pos}:PE X (.Constant (.int i) j pos) (tC (.int i)):=λ_ _ _ H _ I h=>wpAny_Constant_int ⟨.int i,H,I.tok _,⟨_,rfl⟩,h⟩
theorem gA {b j pos}:PE X (.Constant (.bool b) j pos) (tC (.bl b)):=λ_ _ _ H _ I h=>Constant_bool ⟨.bl b,H,I,rfl,h⟩
theorem oS {j pos}:PE X (.Constant .none j pos) (tC .ft):=λ_ _ _ H _ I h=>Constant_none ⟨.ft,H,I,rfl,h⟩
theorem aK {x j pos}:PE X (.Constant (.str x) j pos) (tC (.str x)):=λ_ _ _ H _ I h=>Calls.Constant_str ⟨.str x,H,I.tok _,⟨_,rfl⟩,h⟩
def Gl (X:Cx) (x:ax):Prop:=X.env.kindOf x=some .globalImplicit
theorem lL {σ:St} {x:ax} (I:Inv X a_ σ H s) (hg:Gl X x) (hm:X.mg x=some u) (h:Q u s) (hd:autoParam ((x==("__debug__" : ax))=false) L2.jd):ai (ak X.prog X.w) X.A (eval (.Name x pos) X.env) Q E s :=
 Calls.Name_function_global I.ok.kind hg (Calls.loadGlobal_global (by rw [I.ok.glob]; exact I.mod.glob.keeps I.bk) hm h) hd
theorem mK {σ:St} {x:ax} (I:Inv X a_ σ H s) (hg:Gl X x) (hm:X.mg x=none) (hv:bc x=some u) (h:Q u s) (hn:autoParam (x ≠ "__name__") L2.jd) (hd:autoParam ((x==("__debug__" : ax))=false) L2.jd):ai (ak X.prog X.w) X.A (eval (.Name x pos) X.env) Q E s:=by
 obtain ⟨mb,h1,h2⟩:=I.mod.blt
 exact Calls.Name_function_global I.ok.kind hg (Calls.loadGlobal_builtin (by rw [I.ok.glob]; exact I.mod.glob.keeps I.bk) hm (by rw [I.ok.blt]; exact h1.keeps I.bk) ((h2 x hn).trans hv) h) hd
theorem lM {x:ax} (hg:Gl X x) (hm:X.mg x=some u) (r:bR v u) (hd:autoParam ((x==("__debug__" : ax))=false) L2.jd):PE X (.Name x pos) (tC v) :=
 λ_ _ _ H _ I h=>lL I hg hm ⟨v,H,I,r,h⟩ hd
theorem eJ {x:ax} (hg:Gl X x) (hm:X.mg x=none) (hv:bc x=some u) (r:bR v u) (hn:autoParam (x ≠ "__name__") L2.jd) (hd:autoParam ((x==("__debug__" : ax))=false) L2.jd):PE X (.Name x pos) (tC v) :=
 λ_ _ _ H _ I h=>mK I hg hm hv ⟨v,H,I,r,h⟩ hn hd
variable {a b:ba}
def PC (X:Cx) (op:CmpOp) (a b:ba) (t:TE):Prop :=
 ∀ (a_:List (ae×bz)) (s:ah) (σ:St) (H:Hp) (Q:VK),Inv X a_ σ H s->t σ H Q ->
  ai (ak X.prog X.w) X.A (eval a X.env) (λv f'=>ai (ak X.prog X.w) X.A (eval b X.env) (λu kz=>ai (ak X.prog X.w) X.A (bh op v u) (EP X a_ σ Q) X.xe kz) X.xe f') X.xe s
theorem aDi (b:ba) (h:op≠.In) (h2:op≠.NotIn):behindInMarks op b=false:=by
 have e1:(op==CmpOp.In)=false:=by cases op <;> first | rfl | exact absurd rfl h
 have e2:(op==CmpOp.NotIn)=false:=by cases op <;> first | rfl | exact absurd rfl h2
 cases b <;> simp [behindInMarks,e1,e2]
def aHy (ta:TE):TE:=λσ H Q=>ta σ H λx H1=>Q (.bl (!decide (x=.ft))) H1
theorem bR.yh {x:V} {v:aa} (r:bR x v):(v==aa.none)=decide (x=.ft):=by
 cases x with
 | ft=>cases r; rfl
 | bl _=>cases r; rfl
 | int _=>obtain ⟨t,rfl⟩:=r; rfl
 | str _=>obtain ⟨t,rfl⟩:=r; rfl
 | sf _=>obtain ⟨t,rfl⟩:=r; rfl
 | yu _=>obtain ⟨t,rfl⟩:=r; rfl
 | ref _=>cases r; rfl
 | ty _=>cases r; rfl
theorem aE3 {j pos'} (ha:PE X a ta):PC X .IsNot a (.Constant .none j pos') (aHy ta):=by
 intro a_ s σ H Q I h
 refine fi (ha a_ s σ H _ I h) λv s1 e_=>?_
 obtain ⟨x,H1,I1,r1,q1⟩:=e_
 exact Constant_none (isnot_none_gen ⟨.bl _,H1,I1,by rw [r1.yh]; rfl,q1⟩)
def tB (t:TE):TT:=λσ H Q=>t σ H λx H1=>∃ c,x=.bl c/\Q c H1
theorem rB {t:TE} (h:PC X op a b t) (h1:behindInMarks op b=false:=by first | exact aDi _ (by decide) (by decide) | rfl):PT X (.Compare a [op] [b] pos) (tB t):=by
 intro a_ s σ H Q I hw
 refine Mw (fi (h a_ s σ H _ I hw) λv s1 h1=>fi h1 λu s2 h2=>fi h2 λc s3 e_=>?_) h1
 obtain ⟨x,H1,I1,r1,q1⟩:=e_
 obtain ⟨d,rfl,q⟩:=q1
 cases r1
 exact Td ⟨H1,I1,q⟩
theorem bM {t:TE} (h:PE X e t) (he:autoParam (∀ whole,isTrue e X.env whole=(do let v<-whole; standAt e.pos; holding [v] (truthy v))) L2.y8):PT X e (tB t):=by
 intro a_ s σ H Q I hw
 refine isTrue_plain (fi (h a_ s σ H _ I hw) λv s1 e_=>?_) (he _)
 obtain ⟨x,H1,I1,r1,q1⟩:=e_
 obtain ⟨d,rfl,q⟩:=q1
 cases r1
 exact Td ⟨H1,I1,q⟩
variable {tA GA:TT} {bP:List ba}
def LU (t u:TT):TT:=λσ H Q=>t σ H λc H1=>if c=true then u σ H1 Q else Q false H1
def OS (t u:TT):TT:=λσ H Q=>t σ H λc H1=>if c=true then Q true H1 else u σ H1 Q
def S_ (t:TT):TT:=λσ H Q=>t σ H λc H1=>Q (!c) H1
theorem lN (ha:PT X a tA):PW X (.BoolOp .And [a] pos) tA:=by
 intro wh a_ s σ H Q I h
 refine isTrue_and (fi (ha a_ s σ H Q I h) λc s1 e=>?_)
 cases c with
 | true=>exact isTrue_and_nil e
 | false=>exact e
theorem eY (ha:PT X a tA):PW X (.BoolOp .Or [a] pos) tA:=by
 intro wh a_ s σ H Q I h
 refine isTrue_or (fi (ha a_ s σ H Q I h) λc s1 e=>?_)
 cases c with
 | false=>exact isTrue_or_nil e
 | true=>exact e
theorem mL (ha:PT X a tA) (hb:PW X (.BoolOp .And (b::bP) pos) GA):PW X (.BoolOp .And (a::b::bP) pos) (LU tA GA):=by
 intro wh a_ s σ H Q I h
 refine isTrue_and (fi (ha a_ s σ H _ I h) λc s1 e_=>?_)
 obtain ⟨H1,I1,q1⟩:=e_
 cases c with
 | true=>exact hb wh a_ s1 σ H1 Q I1 q1
 | false=>exact ⟨H1,I1,q1⟩
theorem gD (ha:PT X a tA) (hb:PW X (.BoolOp .Or (b::bP) pos) GA):PW X (.BoolOp .Or (a::b::bP) pos) (OS tA GA):=by
 intro wh a_ s σ H Q I h
 refine isTrue_or (fi (ha a_ s σ H _ I h) λc s1 e_=>?_)
 obtain ⟨H1,I1,q1⟩:=e_
 cases c with
 | true=>exact ⟨H1,I1,q1⟩
 | false=>exact hb wh a_ s1 σ H1 Q I1 q1
theorem bW (ha:PT X a tA):PT X (.UnaryOp .Not a pos) (S_ tA):=by
 intro a_ s σ H Q I h
 exact isTrue_not (ha a_ s σ H (λc H1=>Q (!c) H1) I h)
def aHA (ta tb:TE):TE:=λσ H Q=>ta σ H λx H1=>∃ c,x=.bl c/\if c=true then tb σ H1 Q else Q (.bl false) H1
def aHB (ta:TE):TE:=λσ H Q=>ta σ H λx H1=>∃ c,x=.bl c/\Q (.bl (!c)) H1
theorem oU {op} {t:TE} (h:PE X a t):PE X (.BoolOp op [a] pos) t:=λa_ s σ H Q I hw=>BoolOp_one (h a_ s σ H Q I hw)
theorem oV (ha:PE X a ta) (hb:PE X (.BoolOp .And (b::bP) pos) tb):PE X (.BoolOp .And (a::b::bP) pos) (aHA ta tb):=by
 intro a_ s σ H Q I h
 refine BoolOp_and (fi (ha a_ s σ H _ I h) λv s1 e_=>?_)
 obtain ⟨x,H1,I1,r1,q1⟩:=e_
 obtain ⟨c,rfl,q1⟩:=q1
 cases r1
 refine Td ?_
 cases c with
 | true=>exact hb a_ s1 σ H1 Q I1 q1
 | false=>exact ⟨.bl false,H1,I1,rfl,q1⟩
theorem M3 (ha:PE X a ta):PE X (.UnaryOp .Not a pos) (aHB ta):=by
 intro a_ s σ H Q I h
 refine UnaryOp_ (fi (ha a_ s σ H _ I h) λv s1 e_=>?_)
 obtain ⟨x,H1,I1,r1,q1⟩:=e_
 obtain ⟨c,rfl,q1⟩:=q1
 cases r1
 exact not_of (Td ⟨.bl (!c),H1,I1,rfl,q1⟩)
end
def d9 (K:Rb) (H:Hp) (a:ae) (xs:List V):Prop :=
 Rd H a (.lst xs) ∨
  ∃ (o:bz) (dj:Array aa) (n:Nat),K.lookup a=some o/\o.cls=.type "list" /\ o.dict=none/\o.data=.seq dj n/\dj.size<=ag/\bI xs dj.toList
def d8 (K:Rb) (H:Hp) (a:ae) (xs:List V):Prop :=
 Rd H a (.tup xs) ∨
  ∃ (o:bz) (dj:Array aa) (n:Nat),K.lookup a=some o/\o.cls=.type "tuple" /\ o.dict=none/\o.data=.seq dj n/\dj.size<=ag/\bI xs dj.toList
noncomputable def aIu:aa->Option V
 | .none=>some .ft
 | .bool b=>some (.bl b)
 | .int i _=>some (.int i)
 | .str x _=>some (.str x)
 | .bytes b _=>some (.sf b)
 | .float b _=>some (.yu b)
 | .ref a=>some (.ref a)
 | .type n=>some (.ty n)
 | _=>none
theorem bR.abs {x:V} (r:bR x u):aIu u=some x:=by
 cases x with
 | ft=>cases r; rfl
 | bl _=>cases r; rfl
 | int _=>obtain ⟨t,rfl⟩:=r; rfl
 | str _=>obtain ⟨t,rfl⟩:=r; rfl
 | sf _=>obtain ⟨t,rfl⟩:=r; rfl
 | yu _=>obtain ⟨t,rfl⟩:=r; rfl
 | ref _=>cases r; rfl
 | ty _=>cases r; rfl
theorem bR.inj {x:V} (r:bR x u) (q:bR y u):x=y:=Option.some.inj (r.abs.symm.trans q.abs)
theorem bI.inj:∀ {xs ys:List V} {us:List aa},bI xs us->bI ys us->xs=ys
 := by
 intro xs ys us h
 induction h generalizing ys with
 | nil=>intro q; cases q; rfl
 | cons r t ih=>intro q; cases q with | cons r' t'=>rw [r.inj r',ih t']
section
variable {σ:St} {a:ae}
theorem d9.of (h:H a=some (.lst xs)):d9 K H a xs:=.inl (.inl h)
theorem d8.of (h:H a=some (.tup xs)):d8 K H a xs:=.inl (.inl h)
theorem Inv.list (I:Inv X a_ σ H s) (h:d9 X.K H a xs):∃ dj:List aa,bI xs dj/\PlainL s.heap a dj.toArray/\xs.length<=ag:=by
 rcases h with h | ⟨o,dj,n,hk,hc,hd,hs,hz,r⟩
 ·obtain ⟨z,dj,n,r,e⟩:=h.ok I.d_
  exact ⟨dj,r,⟨_,n,e,rfl,rfl,rfl⟩,z⟩
 ·refine ⟨dj.toList,r,⟨o,n,I.kj a o hk,hc,hd,by simpa using hs⟩,?_⟩
  have e:=r.length
  simp only [Array.length_toList] at e
  omega
theorem Inv.tuple (I:Inv X a_ σ H s) (h:d8 X.K H a xs):∃ dj:List aa,bI xs dj/\IsTup s.heap a dj.toArray/\xs.length<=ag:=by
 rcases h with h | ⟨o,dj,n,hk,hc,_,hs,hz,r⟩
 ·obtain ⟨z,dj,n,r,p⟩:=h.ok I.d_
  exact ⟨dj,r,⟨_,p,rfl,n,rfl⟩,z⟩
 ·refine ⟨dj.toList,r,⟨o,I.kj a o hk,hc,n,by simpa using hs⟩,?_⟩
  have e:=r.length
  simp only [Array.length_toList] at e
  omega
theorem Inv.qm (I:Inv X a_ σ H s) (h:d9 X.K H a xs) (h':d9 X.K H a ys):xs=ys:=by
 obtain ⟨dj,r,⟨o,n,e,_,_,d⟩,_⟩:=I.list h
 obtain ⟨its',r',⟨o',n',e',_,_,d'⟩,_⟩:=I.list h'
 rw [e] at e'; cases e'
 rw [d] at d'
 injection d' with d1 _
 have:dj=its':=by simpa using congrArg Array.toList d1
 subst this
 exact r.inj r'
theorem Inv.n8 (I:Inv X a_ σ H s) (h:d8 X.K H a xs) (h':d8 X.K H a ys):xs=ys:=by
 obtain ⟨dj,r,⟨o,e,_,n,d⟩,_⟩:=I.tuple h
 obtain ⟨its',r',⟨o',e',_,n',d'⟩,_⟩:=I.tuple h'
 rw [e] at e'; cases e'
 rw [d] at d'
 injection d' with d1 _
 have:dj=its':=by simpa using congrArg Array.toList d1
 subst this
 exact r.inj r'
end
noncomputable abbrev Cx.j2 (X:Cx) (E:aa->ah->Prop):Cx:={ X with xe:=E }
noncomputable abbrev Cx.wo (X:Cx):Cx:=X.j2 λ_ _=>False
theorem Cx.Ok.j2 (ok:X.Ok) (E:aa->ah->Prop):(X.j2 E).Ok :=
 ⟨ok.mod,ok.kind,ok.glob,ok.blt,ok.above,ok.inj,ok.has,ok.A9,ok.hd,ok.frames,ok.DY,ok.EN,ok.bs,ok.Ad,ok.oh,ok.ya,ok.j5,ok.yt⟩
theorem Cx.Ok.gw (ok:(X.j2 E).Ok):X.Ok :=
 ⟨ok.mod,ok.kind,ok.glob,ok.blt,ok.above,ok.inj,ok.has,ok.A9,ok.hd,ok.frames,ok.DY,ok.EN,ok.bs,ok.Ad,ok.oh,ok.ya,ok.j5,ok.yt⟩
section
variable {σ:St}
theorem Inv.j2 (I:Inv X a_ σ H s) (E:aa->ah->Prop):Inv (X.j2 E) a_ σ H s:=⟨I.ok.j2 E,I.os,I.bare,I.base,I.loc,I.cell,I.free,I.gj,I.pin,I.d_,I.len⟩
theorem Inv.gw (I:Inv (X.j2 E) a_ σ H s):Inv X a_ σ H s:=⟨I.ok.gw,I.os,I.bare,I.base,I.loc,I.cell,I.free,I.gj,I.pin,I.d_,I.len⟩
theorem SP.gw {D:Ends} {f:Flow} (h:SP (X.j2 E) a_ D f s'):SP X a_ D f s':=by
 cases f with
 | next=>obtain ⟨d6,H',I,q⟩:=h; exact ⟨d6,H',I.gw,q⟩
 | brk=>obtain ⟨d6,H',I,q⟩:=h; exact ⟨d6,H',I.gw,q⟩
 | cont=>obtain ⟨d6,H',I,q⟩:=h; exact ⟨d6,H',I.gw,q⟩
 | ret u=>obtain ⟨v,d6,H',I,r,q⟩:=h; exact ⟨v,d6,H',I.gw,r,q⟩
theorem m9.wo {st:List bg} {t:TS} (h:m9 X.wo st t):m9 X st t:=λa_ s σ H D I hw =>
 Rj (h a_ s σ H D (I.j2 _) hw) (λ_ _ q=>q.gw) λ_ _ z=>False.elim z
end
section
variable {bP:List bg} {t u:TS}
def jT:TS:=λD σ H=>D.nx σ H
def Bc (t u:TS):TS:=λD σ H=>t { D with nx:=u D } σ H
theorem aS:m9 X [] jT:=λ_ _ σ H _ I h=>Tr ⟨σ,H,I,h⟩
theorem aE (h1:PS X st t) (h2:m9 X bP u):m9 X (st::bP) (Bc t u):=by
 intro a_ s σ H D I h
 refine Up (fi (h1 a_ s σ H { D with nx:=u D } I h) λf s1 q=>?_)
 cases f with
 | next =>
  obtain ⟨d6,H',I',q⟩:=q
  exact h2 a_ s1 d6 H' D I' q
 | ret v=>exact q
 | brk=>exact q
 | cont=>exact q
theorem aJ (h1:PS X st t):m9 X [st] t:=by
 intro a_ s σ H D I h
 refine Up (fi (h1 a_ s σ H D I h) λf s1 q=>?_)
 cases f with
 | next=>exact Tr q
 | ret v=>exact q
 | brk=>exact q
 | cont=>exact q
def aGK:TS:=λD σ H=>D.bk σ H
theorem aDj:PS X (.Break pos) aGK:=λ_ _ σ H _ I h=>wpAny_Break ⟨σ,H,I,h⟩
theorem Inv.quiet {σ:St} (I:Inv X a_ σ H s):interactive X.env=false:=by simp [interactive,I.ok.kind]
def L9 (te:TE):TS:=λD σ H=>te σ H λ_ H1=>D.nx σ H1
theorem cL (he:PE X e te) (hs:autoParam (cq e none pos.line X.env=pure false) L2.gc):PS X (.Expr e pos) (L9 te):=by
 intro a_ s σ H D I h
 refine Mf (fi (he a_ s σ H _ I h) λv s1 e_=>?_) I.quiet hs
 obtain ⟨x,H1,I1,r1,q1⟩:=e_
 exact ⟨σ,H1,I1,q1⟩
def TY (te:TE):TS:=λD σ H=>te σ H D.rt
theorem aR (he:PE X e te):PS X (.Return (some e) pos) (TY te):=by
 intro a_ s σ H D I h
 refine wpAny_Return_some (fi (he a_ s σ H _ I h) λv s1 e_=>?_)
 obtain ⟨x,H1,I1,r1,q1⟩:=e_
 exact ⟨x,σ,H1,I1,r1,q1⟩
def E5 (c:TT) (t u:TS):TS:=λD σ H=>c σ H λb H1=>if b=true then t D σ H1 else u D σ H1
theorem bJ {c:ba} {a b:List bg} (hc:PT X c tc) (ha:m9 X a t) (hb:m9 X b u):PS X (.If c a b pos) (E5 tc t u):=by
 intro a_ s σ H D I h
 refine wpAny_If (fi (hc a_ s σ H _ I h) λd s1 e_=>?_)
 obtain ⟨H1,I1,q1⟩:=e_
 cases d with
 | true=>exact ha a_ s1 σ H1 D I1 q1
 | false=>exact hb a_ s1 σ H1 D I1 q1
def aGL:TS:=λ_ _ _=>False
theorem dZ {C9:List bg}:m9 X C9 aGL:=λ_ _ _ _ _ _ h=>h.elim
end
abbrev TG:=V->St->Hp->(St->Hp->Prop)->Prop
end L2
variable {g:TG}
namespace L2
open PySem PySem.Spec PyProof.Rows
abbrev Bd:=List V->St->Hp->(St->Hp->Prop)->Prop
def PG (X:Cx) (target:ba) (t:TG):Prop :=
 ∀ (a_:List (ae×bz)) (s:ah) (σ:St) (H:Hp) (v:V) (u:aa) (Q:St->Hp->Prop),Inv X a_ σ H s->bR v u->t v σ H Q ->
  ai (ak X.prog X.w) X.A (assign target X.env u) (λ_ s'=>∃ d6 H',Inv X a_ d6 H' s'/\Q d6 H') X.xe s
def Fj (X:Cx) (ts:List ba) (t:Bd):Prop :=
 ∀ (a_:List (ae×bz)) (s:ah) (σ:St) (H:Hp) (vs:List V) (us:List aa) (Q:St->Hp->Prop),Inv X a_ σ H s->bI vs us->t vs σ H Q ->
  ai (ak X.prog X.w) X.A (assignInOrder ((assignEach ts X.env).map (·.2)) us) (λ_ s'=>∃ d6 H',Inv X a_ d6 H' s'/\Q d6 H') X.xe s
abbrev LS:=V->V->V->Hp->(Hp->Prop)->Prop
def TX (X:Cx) (t:LS):Prop :=
 ∀ (a_:List (ae×bz)) (s:ah) (σ:St) (H:Hp) (o i v:V) (ov iv u:aa) (Q:Hp->Prop),Inv X a_ σ H s->bR o ov->bR i iv->bR v u->t o i v H Q ->
  ai (ak X.prog X.w) X.A (setItem ov iv u) (λ_ s'=>∃ H',Inv X a_ σ H' s'/\Q H') X.xe s
def bO (i:Nat):TG:=λv σ H Q=>Q (σ.set i (some v)) H
theorem aV {x:ax} (hN:X.N.Nodup) (hi:X.N[i]?=some x) (hx:Loc X.env.scope x) (hf:autoParam (X.fn x=true∨X.env.scope.names.lookup x=some .local) L2.DU):PG X (.Name x pos) (bO i):=by
 intro a_ s σ H v u Q I r h
 exact Rae (zZ I hN hi hx r (λs' I'=>⟨_,H,I',h⟩) hf)
def aIv:Bd:=λvs σ H Q=>vs = []/\Q σ H
def aHE (t:TG) (u:Bd):Bd:=λvs σ H Q=>∃ v r,vs=v::r/\t v σ H λd6 H'=>u r d6 H' Q
theorem lO:Fj X [] aIv:=by
 intro a_ s σ H vs us Q I r h
 obtain ⟨e,h⟩:=h
 subst e
 cases r
 exact assignInOrder_nil ⟨σ,H,I,h⟩
theorem dP {t:TG} {u:Bd} (h1:PG X e t) (h2:Fj X es u) (hs:autoParam ((assignEach (e::es) X.env).map (·.2)=assign e X.env::(assignEach es X.env).map (·.2)) L2.gc):Fj X (e::es) (aHE t u):=by
 intro a_ s σ H vs us Q I r h
 obtain ⟨v,vr,e1,h⟩:=h
 subst e1
 cases r with
 | cons r rr =>
  rw [hs]
  refine assignInOrder_cons (fi (h1 a_ s σ H _ _ _ I r h) λ_ s1 e_=>?_)
  obtain ⟨C6,H1,I1,q1⟩:=e_
  exact h2 a_ s1 C6 H1 _ _ Q I1 rr q1
def TV (K:Rb) (n:Nat) (t:Bd):TG:=λv σ H Q=>∃ a xs,v=.ref a/\d8 K H a xs/\xs.length=n/\t xs σ H Q
theorem oW {k:Nat} {t:Bd} (hc:X.calm=true) (h:Fj X es t) (hn:autoParam ((assignEach es X.env).length=n) L2.gc) (j0:autoParam ((assignEach es X.env).findIdx? (·.1)=none) L2.gc):PG X (.Tuple es k pos) (TV X.K n t):=by
 intro a_ s σ H v u Q I r hw
 obtain ⟨a,xs,e1,hq,hl,hw⟩:=hw
 subst e1
 cases r
 obtain ⟨dj,rv,ht,hz⟩:=I.tuple hq
 refine assign_Tuple_tuple (I.ok.hd hc) ht (by simp [hn,<- hl,rv.length]) j0 λh' hx=>?_
 have I1:Inv X a_ σ H { s with heap:=h' }:=I.kept (t':=s.toks) λb o e=>hx b o (Qv (af.lt_size e)) e
 exact h a_ _ σ H xs _ Q I1 (by simpa using rv) hw
def aIw (to ti:TE) (t:LS):TG:=λv σ H Q=>to σ H λo H1=>ti σ H1 λi H2=>t o i v H2 λH3=>Q σ H3
theorem xT {o i:ba} {ti:TE} {t:LS} (ho:PE X o to) (hi:PE X i ti) (hs:TX X t) (ha:autoParam (∀ v,assign (.Subscript o i pos) X.env v=(do
   let ov<-holding [v] (eval o X.env)
   let iv<-holding [v,ov] (eval i X.env)
   standAt pos
   holding [v,ov,iv] (setItem ov iv v)
   release [v,ov,iv] [])) L2.y8):PG X (.Subscript o i pos) (aIw to ti t):=by
 intro a_ s σ H v u Q I r h
 rw [ha]
 refine Ra (Rx (fi (ho a_ s σ H _ I h) λov s1 e_=>?_))
 obtain ⟨x,H1,I1,r1,q1⟩:=e_
 refine Ra (Rx (fi (hi a_ s1 σ H1 _ I1 q1) λiv s2 e_=>?_))
 obtain ⟨y,H2,I2,r2,q2⟩:=e_
 refine Ra (Va (Ra (Rx (fi (hs a_ s2 σ H2 x y v ov iv u _ I2 r1 r2 r q2) λ_ s3 e_=>?_))))
 obtain ⟨H3,I3,q3⟩:=e_
 exact wpAny_release ⟨σ,H3,I3,q3⟩
def Cb (te:TE) (g:TG):TS:=λD σ H=>te σ H λx H1=>g x σ H1 D.nx
theorem tN (he:PE X e te) (hg:PG X tg g) (hs:autoParam (swapsWithSole [tg] e pos.line X.env=pure false) L2.gc) (hw:autoParam (swappedStores [tg] e X.env=pure none) L2.gc) (h1:autoParam ((assignEach [tg] X.env).map (·.2) = [assign tg X.env]) L2.gc):PS X (.Assign [tg] e pos) (Cb te g):=by
 intro a_ s σ H D I h
 refine wpAny_Assign_stores (fi (he a_ s σ H _ I h) λv s1 e_=>?_) hs hw
 obtain ⟨x,H1,I1,r1,q1⟩:=e_
 rw [h1]
 exact fi (hg a_ s1 σ H1 x v _ I1 r1 q1) λ_ s2 q=>q
theorem aX {x:ax} (hN:X.N.Nodup) (hi:X.N[i]?=some x) (hx:Loc X.env.scope x) (he:PE X e te) (hs:autoParam (cq e (some (.Name x pos')) pos.line X.env=pure false) L2.gc) (hf:autoParam (X.fn x=true∨X.env.scope.names.lookup x=some .local) L2.DU) :
  PS X (.Assign [.Name x pos'] e pos) (Cb te (bO i)):=by
 intro a_ s σ H D I h
 refine wpAny_Assign_Name (fi (he a_ s σ H _ I h) λv s1 e_=>?_) hs
 obtain ⟨y,H1,I1,r1,q1⟩:=e_
 exact zZ I1 hN hi hx r1 (λs2 I2=>⟨_,H1,I2,q1⟩) hf
def aGN (c:TT) (tb:TS):TS:=λD σ H=>∃ W:Nat->St->Hp->Prop,(∃ m,W m σ H)/\∀ m σ H,W m σ H ->
 c σ H λb H1=>if b=true then ∃ N:St->Hp->Prop,(∀ d6 H',N d6 H'->∃ m',m' < m/\W m' d6 H')/\tb { D with nx:=N,ct:=N,bk:=D.nx } σ H1 else D.nx σ H1
theorem tO {c:ba} {tb:TS} (hp:ay (ak X.prog X.w) X.A X.env X.xe) (hc:PT X c tc) (hb:m9 X body tb):PS X (.While c body [] pos) (aGN tc tb):=by
 intro a_ s σ H D I h
 obtain ⟨W,⟨m0,w0⟩,turn⟩:=h
 refine wpAny_While (codeAny_whileLoop (λn s'=>∃ d6 H',Inv X a_ d6 H' s'/\W n d6 H') ?_ m0 ⟨σ,H,I,w0⟩)
 rintro n s1 ⟨C6,H1,I1,w1⟩
 refine Tt hp (fi (hc a_ s1 C6 H1 _ I1 (turn n C6 H1 w1)) λb s2 e_=>?_)
 obtain ⟨H2,I2,q2⟩:=e_
 cases b with
 | true =>
  obtain ⟨N,hN,q2⟩:=q2
  rw [if_pos rfl]
  refine Tt hp (fi (hb a_ s2 C6 H2 _ I2 q2) λf s3 q3=>?_)
  cases f with
  | next =>
   obtain ⟨uo,H3,I3,n3⟩:=q3
   obtain ⟨m',hm,w3⟩:=hN uo H3 n3
   exact ⟨m',hm,uo,H3,I3,w3⟩
  | cont =>
   obtain ⟨uo,H3,I3,n3⟩:=q3
   obtain ⟨m',hm,w3⟩:=hN uo H3 n3
   exact ⟨m',hm,uo,H3,I3,w3⟩
  | brk=>exact q3
  | ret v=>exact q3
 | false =>
  rw [if_neg Qr]
  exact Tr ⟨C6,H2,I2,q2⟩
structure It where
 go:Nat->Hp->Prop
 s_:Nat->Hp->V->Hp->Prop
 stop:Nat->Hp->Prop
end L2
variable {J:It}
namespace L2
open PySem PySem.Spec PyProof.Rows
def sN (X:Cx) (a_:List (ae×bz)) (H:Hp) (b:ae):Prop :=
 H b=none/\b≠X.env.locals/\b∉X.fs/\(b∈X.ex∨X.jk.heap.objs.size<=b)/\(∀ x c,X.env.cells.lookup x=some c->c≠b)/\∀ p∈X.pn++a_,p.1≠b
theorem Inv.nj {σ:St} {b:ae} (I:Inv X a_ σ H s) (hb:s.heap.objs.size<=b) (hn:H' b=none):sN X a_ H' b:=by
 refine ⟨hn,Zd (Qn I.lt hb),I.Cy hb,.inr (Qx I.sz hb),λx c e z=>?_,λp hp z=>?_⟩
 ·obtain ⟨v,q⟩:=I.cell x c e
  exact absurd (Qn q.lt (by rw [z]; exact hb)) (Ji _)
 ·exact absurd (Qn (af.lt_size (I.pin p hp).1) (by rw [z]; exact hb)) (Ji _)
structure Turn (P:bo) (w:bq) (K:Rb) (tg:ba) (J:It) (fp:List ae) (it:ae) (tn:Nat->af->Prop):Prop where
 mem:it∈fp
 obj:∀ i h,tn i h->∀ b∈fp,∃ o,h.get? b=some o/\∀ v,o.data≠.cell v
 keep:∀ i h h',tn i h->(∀ b∈fp,∀ o,h.get? b=some o->h'.get? b=some o)->tn i h'
 item:∀ (X:Cx),X.prog=P->X.w=w->X.K=K->X.calm=true->∀ (i:Nat) (a_:List (ae×bz)) (s:ah) (σ:St) (H:Hp) (E:aa->ah->Prop),Inv X a_ σ H s->(∀ b∈fp,sN X a_ H b)->tn i s.heap->J.go i H ->
  ai (ak P w) X.A (pyNext (.ref it)) (λr s1=>∃ u,r=some u /\
   ai (ak P w) X.A (letOwnedTupleGo tg (.ref it) u) (λ_ s2=>∃ x H',Inv X a_ σ H' s2/\bR x u/\J.s_ i H x H'/\tn (i+1) s2.heap/\∀ b∈fp,H' b=none) E s1) E s
 done:∀ (X:Cx),X.prog=P->X.w=w->X.K=K->X.calm=true->∀ (i:Nat) (a_:List (ae×bz)) (s:ah) (σ:St) (H:Hp) (E:aa->ah->Prop),Inv X a_ σ H s->(∀ b∈fp,sN X a_ H b)->tn i s.heap->J.stop i H ->
  ai (ak P w) X.A (pyNext (.ref it)) (λr s1=>r=none/\Inv X a_ σ H s1) E s
 self:∀ (A:bw) (i:Nat) (s:ah) (Q:aa->ah->Prop) (E:aa->ah->Prop),tn i s.heap->Q (.ref it) s->ai (ak P w) A (pyIter (.ref it)) Q E s
abbrev TI:=St->Hp->(It->Hp->Prop)->Prop
def W_ (X:Cx) (a_:List (ae×bz)) (σ:St) (tg:ba) (R:It->Hp->Prop) (Km:aa) (s2:ah):Prop :=
 ∃ (it:ae) (fp:List ae) (tn:Nat->af->Prop) (J:It) (H':Hp),Km=.ref it/\Inv X a_ σ H' s2/\Turn X.prog X.w X.K tg J fp it tn/\tn 0 s2.heap/\(∀ b∈fp,sN X a_ H' b)/\R J H'
def PI (X:Cx) (tg iter:ba) (wi:TI):Prop :=
 ∀ (a_:List (ae×bz)) (s:ah) (σ:St) (H:Hp) (R:It->Hp->Prop),Inv X a_ σ H s->wi σ H R ->
  ai (ak X.prog X.w) X.A (eval iter X.env) (λv s1=>ai (ak X.prog X.w) X.A (pyIter v) (W_ X a_ σ tg R) X.xe s1) X.xe s
theorem E9 {n:String} {vs:Array aa} {Q:Unit->ah->Prop} (ho:s.heap.get? it=some o) (hc:o.cls=.type n) (hd:o.data=.fields vs) (hn : ["enumerate", "zip", "dict_itemiterator", "dict_reverseitemiterator", "odict_iterator", "itertools.zip_longest", "itertools.pairwise"].contains n=false) (hQ:Q () s):ai M A (letOwnedTupleGo tg (.ref it) u) Q E s:=by
 unfold letOwnedTupleGo
 cases tg <;> first
  | exact Rc hQ
  | (cases u <;> first
    | exact Rc hQ
    | (refine Ra (wpAny_load ho ?_)
       rw [hc,hd]
       show ai M A (if (["enumerate", "zip", "dict_itemiterator", "dict_reverseitemiterator", "odict_iterator", "itertools.zip_longest", "itertools.pairwise"].contains n && vs[0]?==some (rawInt _))=true then _ else _) Q E s
       rw [if_neg (by intro h; rw [hn,Bool.false_and] at h; cases h)]
       exact Rc hQ))
noncomputable def y4 (K:Rb) (a:ae):It :=
 ⟨λi H=>∃ xs x,d9 K H a xs/\xs[i]?=some x,λi H x H'=>H'=H/\∀ xs,d9 K H a xs->xs[i]?=some x,λi H=>∃ xs,d9 K H a xs/\xs.length<=i⟩
noncomputable def Bg (K:Rb) (a:ae):It :=
 ⟨λi H=>∃ xs x,d8 K H a xs/\xs[i]?=some x,λi H x H'=>H'=H/\∀ xs,d8 K H a xs->xs[i]?=some x,λi H=>∃ xs,d8 K H a xs/\xs.length<=i⟩
noncomputable def Bh (lo:Int) (n:Nat):It:=⟨λi _=>i < n,λi H x H'=>H'=H/\x=.int (lo+i),λi _=>n<=i⟩
theorem aCG (a it:ae):Turn P w K tg (y4 K a) [it] it (λi h=>h.IsListIter it a i) where
 mem:=by simp
 obj:=λi h st b hb=>by
  have e:b=it:=by simpa using hb
  subst e
  obtain ⟨o,e,c,d⟩:=st
  exact ⟨o,e,λv z=>by rw [d] at z; cases z⟩
 keep:=λi h h' st k=>st.at λo e=>k it (by simp) o e
 item:=by
  intro X hP hw hK hc i a_ s σ H E I hf st hg
  subst hP hw hK
  obtain ⟨xs,x,hq,hx⟩:=hg
  obtain ⟨dj,rv,p,hz⟩:=I.list hq
  obtain ⟨u,hu,ru⟩:=rv.get hx
  obtain ⟨f0,f1,f2,f3,f4,f5⟩:=hf it (by simp)
  refine wpAny_pyNext_list_item st p.isList (x:=u) (by simpa using hu) λh' qq sb=>?_
  have I1:Inv X a_ σ H { s with heap:=h' }:=I.turned (t':=s.toks) (λb o hb e=>(sb.2 b hb).trans e) f0 f1 f3 f4 f5
  obtain ⟨o,e,c,d⟩:=id qq
  exact ⟨u,rfl,E9 (s:={ s with heap:=h' }) e c d (by decide) ⟨x,H,I1,ru,⟨rfl,λys hy=>by rw [I.qm hy hq]; exact hx⟩,qq,λb hb=>(hf b hb).1⟩⟩
 done:=by
  intro X hP hw hK hc i a_ s σ H E I hf st hg
  subst hP hw hK
  obtain ⟨xs,hq,hx⟩:=hg
  obtain ⟨dj,rv,p,hz⟩:=I.list hq
  obtain ⟨f0,f1,f2,f3,f4,f5⟩:=hf it (by simp)
  have hl:=rv.length
  exact wpAny_pyNext_list_end (I.ok.hd hc) st p.isList (by simp; omega) λh' eb=>⟨rfl,I.turned (t':=s.toks) (λb o hb e=>eb b o hb e) f0 f1 f3 f4 f5⟩
 self:=λ_ _ _ _ _ st h=>wpAny_pyIter_listiter st h
theorem aA5 (a it:ae):Turn P w K tg (Bg K a) [it] it (λi h=>h.IsTupleIter it a i) where
 mem:=by simp
 obj:=λi h st b hb=>by
  have e:b=it:=by simpa using hb
  subst e
  obtain ⟨o,e,c,d⟩:=st
  exact ⟨o,e,λv z=>by rw [d] at z; cases z⟩
 keep:=λi h h' st k=>st.at λo e=>k it (by simp) o e
 item:=by
  intro X hP hw hK hc i a_ s σ H E I hf st hg
  subst hP hw hK
  obtain ⟨xs,x,hq,hx⟩:=hg
  obtain ⟨dj,rv,p,hz⟩:=I.tuple hq
  obtain ⟨u,hu,ru⟩:=rv.get hx
  obtain ⟨f0,f1,f2,f3,f4,f5⟩:=hf it (by simp)
  refine wpAny_pyNext_tuple_item st (show s.heap.IsTuple a dj.toArray from p) (x:=u) (by simpa using hu) λh' qq sb=>?_
  have I1:Inv X a_ σ H { s with heap:=h' }:=I.turned (t':=s.toks) (λb o hb e=>(sb.2 b hb).trans e) f0 f1 f3 f4 f5
  obtain ⟨o,e,c,d⟩:=id qq
  exact ⟨u,rfl,E9 (s:={ s with heap:=h' }) e c d (by decide) ⟨x,H,I1,ru,⟨rfl,λys hy=>by rw [I.n8 hy hq]; exact hx⟩,qq,λb hb=>(hf b hb).1⟩⟩
 done:=by
  intro X hP hw hK hc i a_ s σ H E I hf st hg
  subst hP hw hK
  obtain ⟨xs,hq,hx⟩:=hg
  obtain ⟨dj,rv,p,hz⟩:=I.tuple hq
  obtain ⟨f0,f1,f2,f3,f4,f5⟩:=hf it (by simp)
  have hl:=rv.length
  exact wpAny_pyNext_tuple_end (I.ok.hd hc) st (show s.heap.IsTuple a dj.toArray from p) (by simp; omega) λh' eb=>⟨rfl,I.turned (t':=s.toks) (λb o hb e=>eb b o hb e) f0 f1 f3 f4 f5⟩
 self:=λ_ _ _ _ _ st h=>wpAny_pyIter_tupleiter st h
theorem aA6 (it:ae) (lo:Int) (n:Nat):Turn P w K tg (Bh lo n) [it] it (λi h=>IsRangeIter h it (lo+(i:Nat)*1) ((n:Int) - (i:Nat)) 1) where
 mem:=by simp
 obj:=λi h st b hb=>by
  have e:b=it:=by simpa using hb
  subst e
  exact ⟨_,st,λv z=>by
   have z':Data.fields _=Data.cell v:=z
   cases z'⟩
 keep:=λi h h' st k=>k it (by simp) _ st
 item:=by
  intro X hP hw hK hc i a_ s σ H E I hf st hg
  subst hP hw hK
  obtain ⟨f0,f1,f2,f3,f4,f5⟩:=hf it (by simp)
  have W:=Walks.range (prog:=X.prog) (w:=X.w) (I.ok.hd hc) it lo 1 n
  refine W.item i s _ _ hg st λv h' tk hv qq kk=>?_
  obtain ⟨t,rfl⟩:=hv
  have I1:Inv X a_ σ H { s with heap:=h',toks:=tk }:=I.turned (λb o hb e=>kk b o (by simpa using hb) e) f0 f1 f3 f4 f5
  refine ⟨_,rfl,E9 (s:={ s with heap:=h',toks:=tk }) (n := "range_iterator") qq rfl rfl (by decide) ⟨.int (lo+i),H,I1,⟨t,?_⟩,⟨rfl,rfl⟩,qq,λb hb=>(hf b hb).1⟩⟩
  rw [Int.mul_one]
 done:=by
  intro X hP hw hK hc i a_ s σ H E I hf st hg
  subst hP hw hK
  obtain ⟨f0,f1,f2,f3,f4,f5⟩:=hf it (by simp)
  exact wpAny_pyNext_range_end (I.ok.hd hc) st (by have:n<=i:=hg; omega) λh' eb=>⟨rfl,I.turned (t':=s.toks) (λb o hb e=>eb b o hb e) f0 f1 f3 f4 f5⟩
 self:=λ_ _ _ _ _ st h=>wpAny_pyIter_rangeiter st h
def L8 (K:Rb) (tl:TE):TI:=λσ H R=>tl σ H λx H1=>∃ a,x=.ref a/\(∃ xs,d9 K H1 a xs)/\R (y4 K a) H1
def TU (K:Rb) (tl:TE):TI:=λσ H R=>tl σ H λx H1=>∃ a,x=.ref a/\(∃ xs,d8 K H1 a xs)/\R (Bg K a) H1
theorem hX {l:ba} (hl:PE X l tl):PI X tg l (L8 X.K tl):=by
 intro a_ s σ H R I h
 refine fi (hl a_ s σ H _ I h) λv s1 e_=>?_
 obtain ⟨x,H1,I1,r1,q1⟩:=e_
 obtain ⟨a,e,⟨xs,hq⟩,q⟩:=q1
 subst e
 cases r1
 obtain ⟨dj,rv,p,hz⟩:=I1.list hq
 refine Uk p.isList ?_
 refine ⟨s1.heap.objs.size,[s1.heap.objs.size],_,_,H1,rfl,I1.kept (t':=s1.toks) λb o e=>af.get?_push_of_some _ e,aCG a _,⟨_,af.get?_push_size _ rfl,rfl,rfl⟩,λb hb=>?_,q⟩
 have e:b=s1.heap.objs.size:=by simpa using hb
 subst e
 exact I1.nj (Qg _) (I1.d_.fresh (Qg _))
theorem oX {l:ba} (hl:PE X l tl):PI X tg l (TU X.K tl):=by
 intro a_ s σ H R I h
 refine fi (hl a_ s σ H _ I h) λv s1 e_=>?_
 obtain ⟨x,H1,I1,r1,q1⟩:=e_
 obtain ⟨a,e,⟨xs,hq⟩,q⟩:=q1
 subst e
 cases r1
 obtain ⟨dj,rv,p,hz⟩:=I1.tuple hq
 refine Ie (show s1.heap.IsTuple a dj.toArray from p) ?_
 refine ⟨s1.heap.objs.size,[s1.heap.objs.size],_,_,H1,rfl,I1.kept (t':=s1.toks) λb o e=>af.get?_push_of_some _ e,aA5 a _,⟨_,af.get?_push_size _ rfl,rfl,rfl⟩,λb hb=>?_,q⟩
 have e:b=s1.heap.objs.size:=by simpa using hb
 subst e
 exact I1.nj (Qg _) (I1.d_.fresh (Qg _))
theorem aDn {σ:St} {R:It->Hp->Prop} {hi:Int} {t u v:Tok} {tk:Nat} (I:Inv X a_ σ H s) (h1:-(2^62)<=lo) (h2:lo < 2^62) (h3:-(2^62)<=hi) (h4:hi < 2^62) (q:R (Bh lo (hi - lo).toNat) H):ai (ak X.prog X.w) X.A (pyIter (.ref s.heap.objs.size)) (W_ X a_ σ tg R) E { s with heap:=s.heap.push { cls:=.type "range",data:=.fields #[.int lo t,.int hi u,.int 1 v] },toks:=tk }:=by
 refine wpAny_pyIter_range (IsRange.new ..) (small_one h1 h2 h3 h4) ?_
 have I1:Inv X a_ σ H { s with heap:=s.heap.push { cls:=.type "range",data:=.fields #[.int lo t,.int hi u,.int 1 v] },toks:=tk }:=I.kept λb o e=>af.get?_push_of_some _ e
 refine ⟨(s.heap.push { cls:=.type "range",data:=.fields #[.int lo t,.int hi u,.int 1 v] }).objs.size,[(s.heap.push { cls:=.type "range",data:=.fields #[.int lo t,.int hi u,.int 1 v] }).objs.size],_,_,H,rfl,
  I1.kept (t':=tk) λb o e=>af.get?_push_of_some _ e,aA6 _ lo (hi - lo).toNat,?_,λb hb=>?_,q⟩
 ·have e1:lo+((0:Nat):Int)*1=lo:=by simp
  have e2:(((hi - lo).toNat:Nat):Int) - ((0:Nat):Int)=aq.Range.rangeSize lo hi 1:=by rw [rangeSize_one]; split <;> omega
  show IsRangeIter _ _ (lo+((0:Nat):Int)*1) ((((hi - lo).toNat:Nat):Int) - ((0:Nat):Int)) 1
  rw [e1,e2]
  exact af.get?_push_size _ rfl
 ·have e:b=(s.heap.push { cls:=.type "range",data:=.fields #[.int lo t,.int hi u,.int 1 v] }).objs.size:=by simpa using hb
  subst e
  exact I1.nj (Qg _) (I1.d_.fresh (Qg _))
def aHH (ta:TA):TI:=λσ H R=>ta σ H λvs H1=>∃ j:Int,vs = [.int j]/\-(2^62)<=j/\j < 2^62/\R (Bh 0 j.toNat) H1
theorem eD {a:ba} {ta:TA} {p:Pos} (hg:Gl X "range") (hm:X.mg "range" = none) (ha:PA X [a] ta) (hs:autoParam (ao [a] X.env = [(false,eval a X.env)]) L2.gc):PI X tg (.Call (.Name "range" p) [a] [] pos) (aHH ta):=by
 intro a_ s σ H R I h
 refine Call_ (mK I hg hm boot_range (PyProof.Rows.callWith_type1 (fi (ha pos a_ s σ H _ I h) λus s1 e_=>?_) hs rfl))
 obtain ⟨vs,H1,I1,r1,q1⟩:=e_
 obtain ⟨j,e,q1,q2,q⟩:=q1
 subst e
 cases r1 with
 | cons r rr =>
  cases rr
  obtain ⟨t,rfl⟩:=r
  exact call_range_1 (aDn I1 (by omega) (by omega) q1 q2 (by simpa using q))
def HN (wi:TI) (g:TG) (tb:TS):TS:=λD σ H=>wi σ H λJ H1=>∃ W:Nat->Nat->St->Hp->Prop,(∃ m,W 0 m σ H1)/\∀ i m σ H,W i m σ H ->
 (J.stop i H/\D.nx σ H)∨(J.go i H/\∃ N:St->Hp->Prop,(∀ d6 H',N d6 H'->∃ m',m' < m/\W (i+1) m' d6 H')/\∀ x H',J.s_ i H x H'->g x σ H' λfc H2=>tb { D with nx:=N,ct:=N,bk:=D.nx } fc H2)
noncomputable def rC (fp:List ae) (h:af):List (ae×bz):=fp.filterMap λb=>(h.get? b).map λo=>(b,o)
theorem oY {b:ae} (hb:b∈fp) (e:h.get? b=some o):(b,o)∈rC fp h:=Wi.mpr ⟨b,hb,by rw [e]; rfl⟩
theorem wM {p:ae×bz} (hp:p∈rC fp h):p.1∈fp/\h.get? p.1=some p.2:=by
 obtain ⟨b,hb,e⟩:=Wi.mp hp
 cases q:h.get? b with
 | none=>rw [q] at e; cases e
 | some o =>
  rw [q] at e
  have e':(b,o)=p:=Option.some.inj e
  subst e'
  exact ⟨hb,q⟩
theorem Inv.pinned {σ:St} (I:Inv X a_ σ H s) (hf:∀ b∈fp,sN X a_ H b) (ho:∀ b∈fp,∃ o,s.heap.get? b=some o/\∀ v,o.data≠.cell v):Inv X (a_++rC fp s.heap) σ H s :=
 I.jv λp hp=>(Jd.mp hp).elim (λz=>I.pin p (Qy _ z)) λz=>by
  obtain ⟨hb,e⟩:=wM z
  obtain ⟨f0,f1,f2,_⟩:=hf p.1 hb
  obtain ⟨o,e',d⟩:=ho p.1 hb
  rw [e] at e'; cases e'
  exact ⟨e,f0,f1,f2,d⟩
theorem Inv.jw {pl:List (ae×bz)} {σ:St} (I:Inv X (a_++pl) σ H s):Inv X a_ σ H s:=I.jv λp hp=>I.pin p (Qy _ (Jn _ hp))
theorem iA {wi:TI} {tb:TS} (hp:ay (ak X.prog X.w) X.A X.env X.xe) (hc:X.calm=true) (hi:PI X tg iter wi) (hg:PG X tg g) (hb:m9 X body tb) (hs:autoParam (∀ x,foldedSetIterable iter X.env x=pure x) L2.y8):PS X (.For tg iter body [] pos) (HN wi g tb):=by
 intro a_ s σ H D I h
 refine wpAny_For (fi (hi a_ s σ H _ I h) λv s1 h1=>fi h1 λKm s2 h2=>?_) hs
 obtain ⟨it,fp,tn,J,H2,e,I2,T,jn,f2,W,⟨m0,w0⟩,turn⟩:=h2
 subst e
 -- what stays true of the iterator's objects through the loop
 have si:∀ {H':Hp},(∀ b∈fp,H' b=none)->∀ b∈fp,sN X a_ H' b:=λhn b hb=>⟨hn b hb,(f2 b hb).2⟩
 refine codeAny_forLoop_any (λn s'=>∃ i d6 H',Inv X a_ d6 H' s'/\tn i s'.heap/\(∀ b∈fp,H' b=none)/\W i n d6 H') ?_ m0 ⟨0,σ,H2,I2,jn,λb hb=>(f2 b hb).1,w0⟩
 rintro n s3 ⟨i,uo,H3,I3,za,Sg,w3⟩
 rcases turn i n uo H3 w3 with ⟨stop,qn⟩ | ⟨go,N,hN,step⟩
 ·refine Tt hp (fi (T.done X rfl rfl rfl hc i a_ s3 uo H3 X.xe I3 (si Sg) za stop) λr s4 e_=>?_)
  obtain ⟨hr,I4⟩:=e_
  subst hr
  exact Tr ⟨uo,H3,I4,qn⟩
 ·refine Tt hp (fi (T.item X rfl rfl rfl hc i a_ s3 uo H3 X.xe I3 (si Sg) za go) λr s4 e_=>?_)
  obtain ⟨u,hr,h4⟩:=e_
  subst hr
  refine Tt hp (fi h4 λ_ s5 e_=>?_)
  obtain ⟨x,H5,I5,r5,y5,C_,Hs⟩:=e_
  have I5':=I5.pinned (si Hs) (T.obj _ _ C_)
  refine Tt hp (fi (hg _ s5 uo H5 x u _ I5' r5 (step x H5 y5)) λ_ s6 e_=>?_)
  obtain ⟨Ox,H6,I6,q6⟩:=e_
  refine Tt hp (fi (hb _ s6 Ox H6 _ I6 q6) λf s7 q7=>?_)
  have again:∀ {wg:St} {H7:Hp},Inv X (a_++rC fp s5.heap) wg H7 s7->N wg H7->∃ m,m < n/\∃ i d6 H',Inv X a_ d6 H' s7/\tn i s7.heap/\(∀ b∈fp,H' b=none)/\W i m d6 H':=λ{wg H7} I7 n7=>by
   obtain ⟨m',hm,w7⟩:=hN wg H7 n7
   refine ⟨m',hm,i+1,wg,H7,I7.jw,T.keep _ _ _ C_ λb hb o e=>(I7.pin (b,o) (Qy _ (Qy _ (oY hb e)))).1,λb hb=>?_,w7⟩
   obtain ⟨o,e,d⟩:=T.obj _ _ C_ b hb
   exact (I7.pin (b,o) (Qy _ (Qy _ (oY hb e)))).2.1
  cases f with
  | next=>obtain ⟨wg,H7,I7,n7⟩:=q7; exact again I7 n7
  | cont=>obtain ⟨wg,H7,I7,n7⟩:=q7; exact again I7 n7
  | brk=>obtain ⟨wg,H7,I7,q7⟩:=q7; exact ⟨wg,H7,I7.jw,q7⟩
  | ret v=>obtain ⟨x7,wg,H7,I7,r7,q7⟩:=q7; exact ⟨x7,wg,H7,I7.jw,r7,q7⟩
theorem jC {a:ae} {tb:TS} {D:Ends} {σ:St} (Pv:Nat->St->Hp->Prop) (h0:Pv 0 σ H) (hl:∀ i σ H,i<=xs.length->Pv i σ H->d9 K H a xs) (hs:∀ i x σ H,xs[i]?=some x->Pv i σ H->g x σ H λfc H2=>tb { D with nx:=Pv (i+1),ct:=Pv (i+1),bk:=D.nx } fc H2) (hd:∀ σ H,Pv xs.length σ H->D.nx σ H) :
  ∃ W:Nat->Nat->St->Hp->Prop,(∃ m,W 0 m σ H)/\∀ i m σ H,W i m σ H ->
   ((y4 K a).stop i H/\D.nx σ H)∨((y4 K a).go i H/\∃ N:St->Hp->Prop,(∀ d6 H',N d6 H'->∃ m',m' < m/\W (i+1) m' d6 H')/\∀ x H',(y4 K a).s_ i H x H'->g x σ H' λfc H2=>tb { D with nx:=N,ct:=N,bk:=D.nx } fc H2):=by
 refine ⟨λi m σ H=>m=xs.length - i/\i<=xs.length/\Pv i σ H,⟨xs.length,by simp,Jo _,h0⟩,?_⟩
 rintro i m σ H ⟨rfl,hi,p⟩
 have q:=hl i σ H hi p
 by_cases fu:i < xs.length
 ·refine .inr ⟨⟨xs,xs[i],q,by simp [fu]⟩,Pv (i+1),λd6 H' p'=>⟨xs.length - (i+1),by omega,rfl,fu,p'⟩,λx H' y=>?_⟩
  obtain ⟨e,y⟩:=y
  subst e
  exact hs i x σ _ (y xs q) p
 ·have e:i=xs.length:=by omega
  subst e
  exact .inl ⟨⟨xs,q,Qg _⟩,hd σ H p⟩
theorem V1 {a:ae} {tb:TS} {D:Ends} {σ:St} (Pv:Nat->St->Hp->Prop) (h0:Pv 0 σ H) (hl:∀ i σ H,i<=xs.length->Pv i σ H->d8 K H a xs) (hs:∀ i x σ H,xs[i]?=some x->Pv i σ H->g x σ H λfc H2=>tb { D with nx:=Pv (i+1),ct:=Pv (i+1),bk:=D.nx } fc H2) (hd:∀ σ H,Pv xs.length σ H->D.nx σ H) :
  ∃ W:Nat->Nat->St->Hp->Prop,(∃ m,W 0 m σ H)/\∀ i m σ H,W i m σ H ->
   ((Bg K a).stop i H/\D.nx σ H)∨((Bg K a).go i H/\∃ N:St->Hp->Prop,(∀ d6 H',N d6 H'->∃ m',m' < m/\W (i+1) m' d6 H')/\∀ x H',(Bg K a).s_ i H x H'->g x σ H' λfc H2=>tb { D with nx:=N,ct:=N,bk:=D.nx } fc H2):=by
 refine ⟨λi m σ H=>m=xs.length - i/\i<=xs.length/\Pv i σ H,⟨xs.length,by simp,Jo _,h0⟩,?_⟩
 rintro i m σ H ⟨rfl,hi,p⟩
 have q:=hl i σ H hi p
 by_cases fu:i < xs.length
 ·refine .inr ⟨⟨xs,xs[i],q,by simp [fu]⟩,Pv (i+1),λd6 H' p'=>⟨xs.length - (i+1),by omega,rfl,fu,p'⟩,λx H' y=>?_⟩
  obtain ⟨e,y⟩:=y
  subst e
  exact hs i x σ _ (y xs q) p
 ·have e:i=xs.length:=by omega
  subst e
  exact .inl ⟨⟨xs,q,Qg _⟩,hd σ H p⟩
theorem iP {tb:TS} {D:Ends} {σ:St} (Pv:Nat->St->Hp->Prop) (h0:Pv 0 σ H) (hs:∀ i σ H,i < n->Pv i σ H->g (.int (lo+i)) σ H λfc H2=>tb { D with nx:=Pv (i+1),ct:=Pv (i+1),bk:=D.nx } fc H2) (hd:∀ σ H,Pv n σ H->D.nx σ H) :
  ∃ W:Nat->Nat->St->Hp->Prop,(∃ m,W 0 m σ H)/\∀ i m σ H,W i m σ H ->
   ((Bh lo n).stop i H/\D.nx σ H)∨((Bh lo n).go i H/\∃ N:St->Hp->Prop,(∀ d6 H',N d6 H'->∃ m',m' < m/\W (i+1) m' d6 H')/\∀ x H',(Bh lo n).s_ i H x H'->g x σ H' λfc H2=>tb { D with nx:=N,ct:=N,bk:=D.nx } fc H2):=by
 refine ⟨λi m σ H=>m=n - i/\i<=n/\Pv i σ H,⟨n,by simp,Jo _,h0⟩,?_⟩
 rintro i m σ H ⟨rfl,hi,p⟩
 by_cases fu:i < n
 ·refine .inr ⟨fu,Pv (i+1),λd6 H' p'=>⟨n - (i+1),by omega,rfl,fu,p'⟩,λx H' y=>?_⟩
  obtain ⟨e,y⟩:=y
  subst e y
  exact hs i σ _ fu p
 ·have e:i=n:=by omega
  subst e
  exact .inl ⟨Qg _,hd σ H p⟩
abbrev R2:=V->V->Hp->VK->Prop
end L2
variable {r:R2}
namespace L2
open PySem PySem.Spec PyProof.Rows
def iy (X:Cx) (f:aa->aa->Sem aa) (r:R2):Prop :=
 ∀ (a_:List (ae×bz)) (s:ah) (σ:St) (H:Hp) (x y:V) (v u:aa) (Q:VK),Inv X a_ σ H s->bR x v->bR y u->r x y H Q ->
  ai (ak X.prog X.w) X.A (f v u) (EP X a_ σ Q) X.xe s
def M4 (X:Cx) (f:aa->Sem aa) (r:V->Hp->VK->Prop):Prop :=
 ∀ (a_:List (ae×bz)) (s:ah) (σ:St) (H:Hp) (x:V) (v:aa) (Q:VK),Inv X a_ σ H s->bR x v->r x H Q ->
  ai (ak X.prog X.w) X.A (f v) (EP X a_ σ Q) X.xe s
def eX (X:Cx) (f:aa) (r:List V->Hp->VK->Prop):Prop :=
 ∀ (a_:List (ae×bz)) (s:ah) (σ:St) (H:Hp) (xs:List V) (us:List aa) (Q:VK),Inv X a_ σ H s->bI xs us->r xs H Q ->
  ai (ak X.prog X.w) X.A (call f us) (EP X a_ σ Q) X.xe s
def aIx (X:Cx) (r:V->Hp->(Bool->Hp->Prop)->Prop):Prop :=
 ∀ (a_:List (ae×bz)) (s:ah) (σ:St) (H:Hp) (x:V) (v:aa) (Q:Bool->Hp->Prop),Inv X a_ σ H s->bR x v->r x H Q ->
  ai (ak X.prog X.w) X.A (truthy v) (TP X a_ σ Q) X.xe s
def y_ (r:R2) (ta tb:TE):TE:=λσ H Q=>ta σ H λx H1=>tb σ H1 λy H2=>r x y H2 Q
def Gx (r:V->Hp->VK->Prop) (ta:TE):TE:=λσ H Q=>ta σ H λx H1=>r x H1 Q
def rI (C:Int->Int->Prop) (g:Int->Int->V):R2:=λx y H Q=>∃ i j,x=.int i/\y=.int j/\C i j/\Q (g i j) H
def zd (g:Int->Int->V):R2:=λx y H Q=>∃ i j,x=.int i/\y=.int j/\Q (g i j) H
def rU (g:Int->V):V->Hp->VK->Prop:=λx H Q=>∃ i,x=.int i/\Q (g i) H
section
variable {a b c:ba} {tc:TE}
theorem LR (ha:PE X a ta) (hb:PE X b tb) {σ:St} {R:V->V->Hp->Prop} (I:Inv X a_ σ H s) (h:ta σ H λx H1=>tb σ H1 λy H2=>R x y H2) {f:aa->aa->Sem aa} (hf:∀ v u s2 x y H2,Inv X a_ σ H2 s2->bR x v->bR y u->R x y H2->ai (ak X.prog X.w) X.A (f v u) Q X.xe s2) :
  ai (ak X.prog X.w) X.A (eval a X.env) (λv f'=>ai (ak X.prog X.w) X.A (eval b X.env) (λu kz=>ai (ak X.prog X.w) X.A (f v u) Q X.xe kz) X.xe f') X.xe s:=by
 refine fi (ha a_ s σ H _ I h) λv s1 e_=>?_
 obtain ⟨x,H1,I1,r1,q1⟩:=e_
 refine fi (hb a_ s1 σ H1 _ I1 q1) λu s2 e_=>?_
 obtain ⟨y,H2,I2,r2,q2⟩:=e_
 exact hf v u s2 x y H2 I2 r1 r2 q2
theorem aY {op:Operator} (ho:iy X (binaryOp op) r) (ha:PE X a ta) (hb:PE X b tb):PE X (.BinOp a op b pos) (y_ r ta tb):=by
 intro a_ s σ H Q I h
 exact wpAny_BinOp (LR ha hb I h λv u s2 x y H2 I2 rx ry q=>ho a_ s2 σ H2 x y v u Q I2 rx ry q)
theorem pS {op:UnaryOp} {r:V->Hp->VK->Prop} (ho:M4 X (unaryOp op) r) (ha:PE X a ta):PE X (.UnaryOp op a pos) (Gx r ta):=by
 intro a_ s σ H Q I h
 refine UnaryOp_ (fi (ha a_ s σ H _ I h) λv s1 e_=>?_)
 obtain ⟨x,H1,I1,r1,q1⟩:=e_
 exact ho a_ s1 σ H1 x v Q I1 r1 q1
theorem GL {f:aa->aa->Sem aa} {C:Int->Int->Prop} {g:Int->Int->Int}
  (rule:∀ (i j:Int) (t u:Tok) (s:ah) (Q:aa->ah->Prop) (E:aa->ah->Prop),C i j->Q (.int (g i j) s.toks) { s with toks:=s.toks+1 }->ai (ak X.prog X.w) X.A (f (.int i t) (.int j u)) Q E s) :
  iy X f (rI C λi j=>.int (g i j)):=by
 intro a_ s σ H x y v u Q I rx ry h
 obtain ⟨i,j,rfl,rfl,hc,q⟩:=h
 obtain ⟨t,rfl⟩:=rx
 obtain ⟨t',rfl⟩:=ry
 exact rule i j t t' s _ _ hc ⟨.int (g i j),H,I.tok _,⟨_,rfl⟩,q⟩
theorem TR {f:aa->aa->Sem aa} {g:Int->Int->Int}
  (rule:∀ (i j:Int) (t u:Tok) (s:ah) (Q:aa->ah->Prop) (E:aa->ah->Prop),Q (.int (g i j) s.toks) { s with toks:=s.toks+1 }->ai (ak X.prog X.w) X.A (f (.int i t) (.int j u)) Q E s) :
  iy X f (zd λi j=>.int (g i j)):=by
 intro a_ s σ H x y v u Q I rx ry h
 obtain ⟨i,j,rfl,rfl,q⟩:=h
 obtain ⟨t,rfl⟩:=rx
 obtain ⟨t',rfl⟩:=ry
 exact rule i j t t' s _ _ ⟨.int (g i j),H,I.tok _,⟨_,rfl⟩,q⟩
theorem HM {f:aa->aa->Sem aa} {g:Int->Int->Bool}
  (rule:∀ (i j:Int) (t u:Tok) (s:ah) (Q:aa->ah->Prop) (E:aa->ah->Prop),Q (.bool (g i j)) s->ai (ak X.prog X.w) X.A (f (.int i t) (.int j u)) Q E s) :
  iy X f (zd λi j=>.bl (g i j)):=by
 intro a_ s σ H x y v u Q I rx ry h
 obtain ⟨i,j,rfl,rfl,q⟩:=h
 obtain ⟨t,rfl⟩:=rx
 obtain ⟨t',rfl⟩:=ry
 exact rule i j t t' s _ _ ⟨.bl (g i j),H,I,rfl,q⟩
def aIy (i j:Int):Prop:=0<=j/\j<=1000000/\i.natAbs < 2^64
def LQ (i j:Int):Prop:=(-(2^64) < i/\i < 2^64)∨(-(2^64) < j/\j < 2^64)
theorem LQ.ok {i j:Int} (h:LQ i j):IntMulOk i j:=by
 rcases h with ⟨h1,h2⟩ | ⟨h1,h2⟩
 ·exact .of_left (intBits_le_64 h1 h2)
 ·exact .of_right (intBits_le_64 h1 h2)
theorem eF:iy X (binaryOp .Add) (zd λi j=>.int (i+j)):=TR λ_ _ _ _ _ _ _ q=>add_int q
theorem fX:iy X (binaryOp .Sub) (zd λi j=>.int (i - j)):=TR λ_ _ _ _ _ _ _ q=>sub_int q
theorem iB:iy X (binaryOp .Mult) (rI LQ λi j=>.int (i*j)):=GL λ_ _ _ _ _ _ _ hc q=>mul_int q hc.ok
theorem oZ:iy X (binaryOp .Mod) (rI (λ_ j=>0 < j) λi j=>.int (i % j)):=GL λi j _ _ _ _ _ hc q=>by
 have h1:(0:Int) < j:=hc
 exact mod_int' (by omega) (by rw [Int.fmod_eq_emod_of_nonneg i (by omega)]; exact q)
theorem xU:iy X (binaryOp .Pow) (rI aIy λi j=>.int (i^j.toNat)):=GL λ_ _ _ _ _ _ _ hc q=>pow_int_small hc.1 hc.2.1 hc.2.2 q
theorem YR {f:aa->Sem aa} {g:Int->Int}
  (rule:∀ (i:Int) (t:Tok) (s:ah) (Q:aa->ah->Prop) (E:aa->ah->Prop),Q (.int (g i) s.toks) { s with toks:=s.toks+1 }->ai (ak X.prog X.w) X.A (f (.int i t)) Q E s) :
  M4 X f (rU λi=>.int (g i)):=by
 intro a_ s σ H x v Q I rx h
 obtain ⟨i,rfl,q⟩:=h
 obtain ⟨t,rfl⟩:=rx
 exact rule i t s _ _ ⟨.int (g i),H,I.tok _,⟨_,rfl⟩,q⟩
theorem lP:M4 X (unaryOp .USub) (rU λi=>.int (-i)):=YR λ_ _ _ _ _ q=>neg_int q
noncomputable def LP:V->V->Bool
 | .ft,.ft=>true | .ft,.int _=>true | .int _,.ft=>true | .ft,.bl _=>true | .bl _,.ft=>true | .ft,.str _=>true | .str _,.ft=>true
 | .int _,.int _=>true | .bl _,.bl _=>true | .str _,.str _=>true | .sf _,.sf _=>true
 | .int _,.str _=>true | .str _,.int _=>true | .bl _,.str _=>true | .str _,.bl _=>true
 | _,_=>false
def Y8:R2:=λx y H Q=>LP x y=true/\Q (.bl (decide (x=y))) H
def Y7:R2:=λx y H Q=>LP x y=true/\Q (.bl (!decide (x=y))) H
theorem V0 {i j:Int}:decide (V.int i=V.int j)=(i==j):=by
 rw [Xg]
 simp
theorem U5 {i j:Bool}:decide (V.bl i=V.bl j)=(i==j):=by
 rw [Xg]
 simp
theorem VZ {i j:ax}:decide (V.str i=V.str j)=(i==j):=by
 rw [Xg]
 simp
theorem VY {i j:Array UInt8}:decide (V.sf i=V.sf j)=(i.toList==j.toList):=by
 rw [Xg]
 cases i
 cases j
 simp
theorem cI {σ:St} {Q:VK} {k k':Bool} (I:Inv X a_ σ H s) (q:Q (.bl k) H) (e:k=k'):EP X a_ σ Q (.bool k') s:=by
 subst e
 exact ⟨.bl k,H,I,rfl,q⟩
theorem dY:iy X (bh .Eq) Y8:=by
 intro a_ s σ H x y v u Q I rx ry h
 obtain ⟨hs,q⟩:=h
 cases x with
 | ft =>
  cases rx
  cases y with
  | ft=>cases ry; exact Ras (cI I q (by simp))
  | bl j=>cases ry; exact Rau (cI I q (by simp))
  | int j=>obtain ⟨t',rfl⟩:=ry; exact Rav (cI I q (by simp))
  | str j=>obtain ⟨t',rfl⟩:=ry; exact Rax (cI I q (by simp))
  | _=>exact absurd (show false=true from hs) Qr
 | bl i =>
  cases rx
  cases y with
  | ft=>cases ry; exact Ray (cI I q (by simp))
  | bl j=>cases ry; exact eq_bool (cI I q U5)
  | str j=>obtain ⟨t',rfl⟩:=ry; exact Raj (cI I q (by simp))
  | _=>exact absurd (show false=true from hs) Qr
 | int i =>
  obtain ⟨t,rfl⟩:=rx
  cases y with
  | ft=>cases ry; exact Raz (cI I q (by simp))
  | int j=>obtain ⟨t',rfl⟩:=ry; exact eq_int (cI I q V0)
  | str j=>obtain ⟨t',rfl⟩:=ry; exact Rak (cI I q (by simp))
  | _=>exact absurd (show false=true from hs) Qr
 | str i =>
  obtain ⟨t,rfl⟩:=rx
  cases y with
  | ft=>cases ry; exact RaA (cI I q (by simp))
  | bl j=>cases ry; exact Ral (cI I q (by simp))
  | int j=>obtain ⟨t',rfl⟩:=ry; exact Ram (cI I q (by simp))
  | str j=>obtain ⟨t',rfl⟩:=ry; exact eq_str (cI I q VZ)
  | _=>exact absurd (show false=true from hs) Qr
 | sf i =>
  obtain ⟨t,rfl⟩:=rx
  cases y with
  | sf j=>obtain ⟨t',rfl⟩:=ry; exact PySem.W.eq_bytes (cI I q VY)
  | _=>exact absurd (show false=true from hs) Qr
 | _=>cases y <;> exact absurd (show false=true from hs) Qr
theorem oJ:iy X (bh .NotEq) Y7:=by
 intro a_ s σ H x y v u Q I rx ry h
 obtain ⟨hs,q⟩:=h
 cases x with
 | ft =>
  cases rx
  cases y with
  | ft=>cases ry; exact RaB (cI I q (by simp))
  | bl j=>cases ry; exact RaC (cI I q (by simp))
  | int j=>obtain ⟨t',rfl⟩:=ry; exact RaD (cI I q (by simp))
  | str j=>obtain ⟨t',rfl⟩:=ry; exact RaE (cI I q (by simp))
  | _=>exact absurd (show false=true from hs) Qr
 | bl i =>
  cases rx
  cases y with
  | ft=>cases ry; exact RaF (cI I q (by simp))
  | bl j=>cases ry; exact ne_bool (cI I q (congrArg not U5))
  | str j=>obtain ⟨t',rfl⟩:=ry; exact Ran (cI I q (by simp))
  | _=>exact absurd (show false=true from hs) Qr
 | int i =>
  obtain ⟨t,rfl⟩:=rx
  cases y with
  | ft=>cases ry; exact RaG (cI I q (by simp))
  | int j=>obtain ⟨t',rfl⟩:=ry; exact ne_int (cI I q (congrArg not V0))
  | str j=>obtain ⟨t',rfl⟩:=ry; exact Rao (cI I q (by simp))
  | _=>exact absurd (show false=true from hs) Qr
 | str i =>
  obtain ⟨t,rfl⟩:=rx
  cases y with
  | ft=>cases ry; exact RaH (cI I q (by simp))
  | bl j=>cases ry; exact Rap (cI I q (by simp))
  | int j=>obtain ⟨t',rfl⟩:=ry; exact Raq (cI I q (by simp))
  | str j=>obtain ⟨t',rfl⟩:=ry; exact ne_str (cI I q (congrArg not VZ))
  | _=>exact absurd (show false=true from hs) Qr
 | sf i =>
  obtain ⟨t,rfl⟩:=rx
  cases y with
  | sf j=>obtain ⟨t',rfl⟩:=ry; exact PySem.W.ne_bytes (cI I q (congrArg not VY))
  | _=>exact absurd (show false=true from hs) Qr
 | _=>cases y <;> exact absurd (show false=true from hs) Qr
theorem wN:iy X (bh .Lt) (zd λi j=>.bl (decide (i < j))):=HM λ_ _ _ _ _ _ _ q=>lt_int q
theorem L7:iy X (bh .LtE) (zd λi j=>.bl (decide (i<=j))):=HM λ_ _ _ _ _ _ _ q=>le_int q
theorem mM:iy X (bh .Gt) (zd λi j=>.bl (decide (j < i))):=HM λ_ _ _ _ _ _ _ q=>gt_int q
theorem IA:iy X (bh .GtE) (zd λi j=>.bl (decide (j<=i))):=HM λ_ _ _ _ _ _ _ q=>ge_int q
theorem U4:iy X (bh .Is) (λx y H Q=>y=.ft/\Q (.bl (decide (x=.ft))) H):=by
 intro a_ s σ H x y v u Q I rx ry h
 obtain ⟨rfl,q⟩:=h
 cases ry
 refine is_none_gen (cI I q ?_)
 cases x <;> first
  | (cases rx; rfl)
  | (obtain ⟨t,rfl⟩:=rx; rfl)
theorem aU (b:ba) (h:autoParam (op≠.In) L2.jd) (h2:autoParam (op≠.NotIn) L2.jd):behindInMarks op b=false:=by
 have e1:(op==CmpOp.In)=false:=by cases op <;> first | rfl | exact absurd rfl h
 have e2:(op==CmpOp.NotIn)=false:=by cases op <;> first | rfl | exact absurd rfl h2
 cases b <;> simp [behindInMarks,e1,e2]
theorem gQ (ho:iy X (bh op) r) (ha:PE X a ta) (hb:PE X b tb) (hm:behindInMarks op b=false):PE X (.Compare a [op] [b] pos) (y_ r ta tb):=by
 intro a_ s σ H Q I h
 exact wpAny_Compare1 (LR ha hb I h λv u s2 x y H2 I2 rx ry q=>ho a_ s2 σ H2 x y v u Q I2 rx ry q) hm
def aHJ (t:TE):TT:=λσ H Q=>t σ H λx H'=>∃ k,x=.bl k/\Q k H'
theorem aP (ho:iy X (bh op) r) (ha:PE X a ta) (hb:PE X b tb) (hm:behindInMarks op b=false):PT X (.Compare a [op] [b] pos) (aHJ (y_ r ta tb)):=by
 intro a_ s σ H Q I h
 refine Mw (fi (ha a_ s σ H _ I h) λv s1 ⟨x,H1,I1,r1,q1⟩=>fi (hb a_ s1 σ H1 _ I1 q1) λu s2 ⟨y,H2,I2,r2,q2⟩ =>
  fi (ho a_ s2 σ H2 x y v u _ I2 r1 r2 q2) λc s3 ⟨z,H3,I3,r3,k,e,q3⟩=>?_) hm
 subst e
 cases r3
 exact Td ⟨H3,I3,q3⟩
def aGR (r r':R2) (ta tb tc:TE):TE:=λσ H Q=>ta σ H λx H1=>tb σ H1 λy H2=>r x y H2 λz H3=>∃ k,z=.bl k /\
 (if k=true then tc σ H3 λw' H4=>r' y w' H4 Q else Q (.bl false) H3)
theorem aDr {JU:CmpOp} {r':R2} (ho:iy X (bh op) r) (n_:iy X (bh JU) r') (ha:PE X a ta) (hb:PE X b tb) (hc:PE X c tc) (hm:lastMarks [op,JU] [b,c]=false:=by with_unfolding_all rfl):PE X (.Compare a [op,JU] [b,c] pos) (aGR r r' ta tb tc):=by
 intro a_ s σ H Q I h
 refine Compare_chain (fi (ha a_ s σ H _ I h) λv s1 ⟨x,H1,I1,r1,q1⟩=>chain_link (fi (hb a_ s1 σ H1 _ I1 q1) λu s2 ⟨y,H2,I2,r2,q2⟩ =>
  fi (ho a_ s2 σ H2 x y v u _ I2 r1 r2 q2) λd s3 ⟨z,H3,I3,r3,k,e,q3⟩=>?_)) hm
 subst e
 cases r3
 refine Td ?_
 cases k with
 | false=>exact ite_ff ⟨.bl false,H3,I3,rfl,q3⟩
 | true=>exact ite_tt (chain_last (fi (hc a_ s3 σ H3 _ I3 q3) λw' s4 ⟨z',H4,I4,r4,q4⟩=>n_ a_ s4 σ H4 y z' u w' Q I4 r2 r4 q4))
def TQ (K:Rb) (x:V) (H:Hp) (k:Bool):Prop :=
 match x with
 | .ft=>k=false
 | .bl b=>k=b
 | .int i=>k=(i !=0)
 | .str y=>y.length<=ag/\k=((y.length:Int) !=0)
 | .sf y=>y.size<=ag/\k=((y.size:Int) !=0)
 | .ref p=>(∃ xs,d9 K H p xs/\k=!xs.isEmpty)∨(∃ xs,d8 K H p xs/\k=!xs.isEmpty)∨∃ kvs,H p=some (.dK kvs)/\k=!kvs.isEmpty
 | _=>False
theorem aA7 {kvs:List (κ×V)} {vs:List (κ×aa)} (r:KV kvs vs):(!vs.isEmpty)=!kvs.isEmpty:=by
 cases r <;> rfl
theorem tP (r:bI xs dj):(!dj.toArray.isEmpty)=!xs.isEmpty:=by
 cases r <;> simp
theorem tQ:(ag:Nat) < 2^63:=by rw [Rf]; decide
theorem aGS:aIx X (λx H Q=>∃ k,TQ X.K x H k/\Q k H):=by
 intro a_ s σ H x v Q I rx h
 obtain ⟨k,e,q⟩:=h
 have hl:=tQ
 have hs:ag=16777216:=Rf
 cases x with
 | ft =>
  cases rx
  have e':k=false:=e
  subst e'
  exact truthy_none ⟨H,I,q⟩
 | bl b =>
  cases rx
  have e':k=b:=e
  subst e'
  exact Td ⟨H,I,q⟩
 | int i =>
  obtain ⟨t,rfl⟩:=rx
  have e':k=(i !=0):=e
  subst e'
  exact PySem.P.truthy_int ⟨H,I,q⟩
 | str y =>
  obtain ⟨t,rfl⟩:=rx
  obtain ⟨hy,e'⟩:y.length<=ag/\k=((y.length:Int) !=0):=e
  subst e'
  exact PySem.P.truthy_str (by omega) ⟨H,I.tok _,q⟩
 | sf y =>
  obtain ⟨t,rfl⟩:=rx
  obtain ⟨hy,e'⟩:y.size<=ag/\k=((y.size:Int) !=0):=e
  subst e'
  exact PySem.W.truthy_bytes (by omega) ⟨H,I.tok _,q⟩
 | ref p =>
  cases rx
  have e':(∃ xs,d9 X.K H p xs/\k=!xs.isEmpty)∨(∃ xs,d8 X.K H p xs/\k=!xs.isEmpty)∨∃ kvs,H p=some (.dK kvs)/\k=!kvs.isEmpty:=e
  rcases e' with ⟨xs,hx,e'⟩ | ⟨xs,hx,e'⟩ | ⟨kvs,hx,e'⟩
  ·subst e'
   obtain ⟨dj,r,pl,hz⟩:=I.list hx
   have hlen:=r.length
   exact wpAny_truthy_list pl.isList (by simp only [Qk]; omega) ⟨H,I.tok _,by rw [tP r]; exact q⟩
  ·subst e'
   obtain ⟨dj,r,pl,hz⟩:=I.tuple hx
   have hlen:=r.length
   exact truthy_tuple pl (by simp only [Qk]; omega) ⟨H,I.tok _,by rw [tP r]; exact q⟩
  ·subst e'
   obtain ⟨hz,hS,vs,r,m⟩:kvs.length<=ag/\(p==br)=false/\∃ vs,KV kvs vs/\s.heap.DictOf (bF X.prog X.w) p vs:=I.d_ p _ hx
   have hlen:kvs.length=vs.length:=cx.length r
   exact wpAny_truthy_dict hS m (by omega) ⟨H,I.tok _,by rw [aA7 r]; exact q⟩
 | _=>exact (show False from e).elim
theorem aDs (ha:PE X a ta) (he:∀ whole,isTrue a X.env whole=(do let v<-whole; standAt a.pos; holding [v] (truthy v))) :
  PT X a (λσ H Q=>ta σ H λx H'=>∃ k,TQ X.K x H' k/\Q k H'):=by
 intro a_ s σ H Q I h
 refine isTrue_plain (fi (ha a_ s σ H _ I h) λv s1 e_=>?_) (he _)
 obtain ⟨x,H1,I1,r1,q1⟩:=e_
 exact aGS a_ s1 σ H1 x v Q I1 r1 q1
theorem iC {x:V} (r:bI [x] us):∃ u,us = [u]/\bR x u:=by
 cases r with
 | cons r1 r2=>cases r2; exact ⟨_,rfl,r1⟩
theorem rZ {x:V} (r:bI [x,y] us):∃ u w',us = [u,w']/\bR x u/\bR y w':=by
 cases r with
 | cons r1 r2 =>
  cases r2 with
  | cons r3 r4=>cases r4; exact ⟨_,_,rfl,r1,r3⟩
theorem wO:eX X (.type "int") (λxs H Q=>(∃ i,xs = [.int i]/\Q (.int i) H)∨∃ k,xs = [.bl k]/\Q (.int (if k then 1 else 0)) H):=by
 intro a_ s σ H xs us Q I r h
 rcases h with ⟨i,rfl,q⟩ | ⟨k,rfl,q⟩
 ·obtain ⟨u,rfl,t,rfl⟩:=iC r
  exact call_int_int ⟨.int i,H,I,⟨_,rfl⟩,q⟩
 ·obtain ⟨u,rfl,r1⟩:=iC r
  cases r1
  exact call_int_bool ⟨.int (if k then 1 else 0),H,I.tok _,⟨_,rfl⟩,q⟩
end
structure so (h:af) (x dx C:ae) (mA:ax->Option aa):Prop where
 obj:h.get? x=some (Tj C dx)
 ns:h.Ns1 dx mA
 ne:dx≠x
theorem aCH (n:h.Ns1 dx mA):∃ od,h.get? dx=some od/\∀ name,Vb name od=some (mA name):=by
 obtain ⟨o,es,ep,ho,hd,hk,_,hm⟩:=n
 refine ⟨o,ho,λname=>?_⟩
 have e:=hm name
 unfold nsFind findBy at e
 rw [<- Array.find?_toList] at e
 unfold Vb
 rw [hd]
 dsimp only
 split
 ·rename_i y q
  rw [q] at e
  exact congrArg some e
 ·rename_i q
  rw [q] at e
  have a:es.toList.any (·.refKey)=false:=by
   rw [List.any_eq_false]
   intro y hy
   obtain ⟨z,t,i6⟩:=hk y (Array.mem_toList_iff.mp hy)
   simp [cu.refKey,i6]
  have a':¬ es.toList.any (·.refKey)=true:=by rw [a]; exact Qr
  rw [if_neg a']
  exact congrArg some e
theorem so.look {x:ae} (I:so h x dx C mA):∃ od,PySem.W.InstAt h x (Tj C dx) C (some od)/\∀ name,Vb name od=some (mA name) :=
 let ⟨od,ho,hl⟩:=aCH I.ns
 ⟨od,⟨I.obj,rfl,rfl,ho⟩,hl⟩
section
variable {x:ae} {v:aa}
theorem aE6 {expr:Bool} (X:K.In s.heap) (I:so s.heap x dx C mA) (hg:Uh K C name=true) (hh:Ut K C=true) (ha:Rm K (.ref C) name=some none) (hv:mA name=some v) (G1:Mp v=true) (h:Q v { s with toks:=s.toks+1 }) :
  ai (ak prog w) A (getAttr (.ref x) name expr) Q E s:=by
 obtain ⟨od,J,hl⟩:=I.look
 exact PySem.W.get_value X J (Ve hg).1 (PySem.W.findObj_own hh ha rfl (by rw [hl,hv])) G1 h
theorem aDt {Q:aa×List aa->ah->Prop} (X:K.In s.heap) (I:so s.heap x dx C mA) (hg:Uh K C name=true) (hf:Rm K (.ref C) name=some (some (.ref f))) (ht:Uy K (.ref f)=true) (hv:mA name=none) (h:Q (.ref f,[.ref x]) s) :
  ai (ak prog w) A (getMethod (.ref x) name pl) Q E s:=by
 obtain ⟨od,J,hl⟩:=I.look
 exact PySem.W.method_fn X J (Ve hg).1 (Ve hg).2 hf (beq_iff_eq.mp ht) (by show (Vb name od).map (·.isSome)=some false; rw [hl,hv]; rfl) h
theorem aE7 {ns:List ax} {Q:Unit->ah->Prop} (X:K.In s.heap) (I:so s.heap x dx C mA)
  (hs:Rm K (.ref C) "__setattr__" = some (some (.builtin "object.__setattr__"))) (hp:Vn K C=true) (ht:Vs K C name=some none) (hh:Ut K C=true)
  (hw:PySem.Within mA ns) (hsz:ns.length<=ag)
  (h:∀ h',so h' x dx C (λy=>if y=name then some v else mA y)->af.SameBut dx s.heap h'->Q () { s with heap:=h',toks:=s.toks+2 }) :
  ai (ak prog w) A (setAttr (.ref x) name v) Q E s:=by
 obtain ⟨od,J,hl⟩:=I.look
 refine PySem.W.set_plain X J hs (PySem.W.osa_open (s:={ s with toks:=s.toks+1 }) (r:=none) X J hp ht λb=>?_)
 obtain ⟨cd,hc,BV⟩:=PySem.W.any_some hh
 have hx:s.heap.get? x=some ⟨.ref C,some dx,.plain,#[]⟩:=I.obj
 refine Ra (Rc (Ra (Ra (wpAny_loadPart hx (Ra (Rar (s:={ s with toks:=s.toks+1 }) (PySem.W.looks_clsIn X hc) ?_))))))
 rw [BV]
 refine Rc (a:=some dx) (Ra (Rc (Ra ?_)))
 refine wpAny_nsSet1 (s:={ s with toks:=s.toks+1 }) I.ns λh' G7 AN=>?_
 obtain ⟨oD,esD,epD,KH,K3,y!⟩:=G7.count (RaI name v hw)
 refine Ra (wpAny_lookBehind KH (by rw [K3]; exact pastItsLine_dict (Qx y! (by rw [Jk]; omega))) ?_)
 exact Rc (h _ ⟨(AN.2 _ (Ne.symm I.ne)).trans I.obj,G7,I.ne⟩ AN)
theorem WB {vs:List aa} (X:K.In s.heap) (hm:Vt K C=true) (hi:Rm K (.ref C) "__init__" = some (some (.ref f))) (hf:PySem.W.typeIn K (.ref f)=some (.type "function")) (h:codeAny (ak prog w) (A.under (.builtin "type.__call__" ⟨.ref C::vs,kw⟩)) (.call (.ref f) ⟨.ref (s.heap.objs.size+1)::vs,kw⟩) (PySem.W.InitBack (s.heap.objs.size+1) R)
   { s with heap:=(s.heap.push Te).push (Tj C s.heap.objs.size) }) :
  codeAny (ak prog w) A (.call (.ref C) ⟨vs,kw⟩) R s:=by
 obtain ⟨hh,g,d,t,os⟩:=s
 exact PySem.W.make_core (PySem.W.makes_of X hm) (PySem.W.looks_findIn X hi) (λself=>PySem.W.bind_fn X self hf) (.inl rfl) h
end
noncomputable def mO (f:ax) (v:V):List (ax×V)->List (ax×V)
 | []=>[(f,v)]
 | (g,x)::r=>if g=f then (g,v)::r else (g,x)::mO f v r
theorem sA (f g:ax) (v:V):∀ fs:List (ax×V),(mO f v fs).lookup g=if g=f then some v else fs.lookup g
 | []=>by
  show List.lookup g [(f,v)]=_
  by_cases h:g=f
  ·have hb:(g==f)=true:=beq_iff_eq.mpr h
   simp only [List.lookup,hb,if_pos h]
  ·have hb:(g==f)=false:=beq_eq_false_iff_ne.mpr h
   simp only [List.lookup,hb,if_neg h]
 | (k,x)::r=>by
  have ih:=sA f g v r
  rw [show mO f v ((k,x)::r)=(if k=f then (k,v)::r else (k,x)::mO f v r) from rfl]
  by_cases hk:k=f
  ·rw [if_pos hk]
   by_cases h:g=k
   ·have hb:(g==k)=true:=beq_iff_eq.mpr h
    simp only [List.lookup,hb,if_pos (h.trans hk)]
   ·have hb:(g==k)=false:=beq_eq_false_iff_ne.mpr h
    simp only [List.lookup,hb,if_neg (λe:g=f=>h (e.trans hk.symm))]
  ·rw [if_neg hk]
   by_cases h:g=k
   ·have hb:(g==k)=true:=beq_iff_eq.mpr h
    simp only [List.lookup,hb,if_neg (λe:g=f=>hk (h.symm.trans e))]
   ·have hb:(g==k)=false:=beq_eq_false_iff_ne.mpr h
    simp only [List.lookup,hb]
    exact ih
theorem rD (f:ax) (v:V):∀ fs:List (ax×V),f∈(mO f v fs).map (·.1)/\∀ g,g∈fs.map (·.1)->g∈(mO f v fs).map (·.1)
 | []=>⟨by simp [mO],λg h=>by simp at h⟩
 | (k,x)::r=>by
  obtain ⟨i1,i2⟩:=rD f v r
  rw [show mO f v ((k,x)::r)=(if k=f then (k,v)::r else (k,x)::mO f v r) from rfl]
  by_cases hk:k=f
  ·rw [if_pos hk]
   subst hk
   exact ⟨by simp,λg h=>by simpa using h⟩
  ·rw [if_neg hk]
   refine ⟨?_,λg h=>?_⟩
   ·rw [Qw]
    exact Qi _ i1
   ·rw [Qw] at h ⊢
    rcases Qj.mp h with e | e
    ·exact Qj.mpr (.inl e)
    ·exact Qi _ (i2 g e)
theorem sB (f:ax) (v:V):∀ fs:List (ax×V),(mO f v fs).length<=fs.length+1
 | []=>by simp [mO]
 | (k,x)::r=>by
  have ih:=sB f v r
  rw [show mO f v ((k,x)::r)=(if k=f then (k,v)::r else (k,x)::mO f v r) from rfl]
  by_cases hk:k=f
  ·rw [if_pos hk,Jk,Jk]; omega
  ·rw [if_neg hk,Jk,Jk]; omega
theorem mI.some_of {o:Option aa} (r:mI (some v) o):∃ u,o=some u/\bR v u:=by
 cases o with
 | none=>exact (show False from r).elim
 | some u=>exact ⟨u,rfl,r⟩
theorem mI.none_of {o:Option aa} (r:mI none o):o=none:=by
 cases o with
 | none=>rfl
 | some u=>exact (show False from r).elim
theorem aCI (r:bR v u):Mp u=true:=by
 cases v with
 | ft=>cases (show u=aa.none from r); rfl
 | bl b=>cases (show u=aa.bool b from r); rfl
 | int i=>obtain ⟨t,e⟩:=(show ∃ t,u=aa.int i t from r); cases e; rfl
 | str x=>obtain ⟨t,e⟩:=(show ∃ t,u=aa.str x t from r); cases e; rfl
 | sf b=>obtain ⟨t,e⟩:=(show ∃ t,u=aa.bytes b t from r); cases e; rfl
 | yu b=>obtain ⟨t,e⟩:=(show ∃ t,u=aa.float b t from r); cases e; rfl
 | ref a=>cases (show u=aa.ref a from r); rfl
 | ty n=>cases (show u=aa.type n from r); rfl
section
variable {a:ae} {fs DA:List (ax×V)}
theorem xV (d_:je P w H h) (e:H a=some (.ins C dx fs)):∃ mA,so h a dx C mA/\(∀ f,mI (fs.lookup f) (mA f))/\PySem.Within mA (fs.map (·.1))/\fs.length<=1000/\H dx=some (.own a):=by
 obtain ⟨d,z,ne,ob,mA,n,r,q⟩:=(show bS P w H h a (.ins C dx fs) from d_ a _ e)
 exact ⟨mA,⟨ob,n,ne⟩,r,q,z,d⟩
end
structure xp (K:Rb) (C:ae):Prop where
 pg:Uh K C ax.empty=true
 hd:Ut K C=true
 po:Vn K C=true
 sa:Rm K (.ref C) "__setattr__" = some (some (.builtin "object.__setattr__"))
theorem xp.get (c:xp K C) (f:ax):Uh K C f=true:=c.pg
def iQ (K:Rb) (C:ae) (f:ax):Prop:=Rm K (.ref C) f=some none
theorem iQ.Ge {f:ax} (n:iQ K C f):Vs K C f=some none:=by
 unfold Vs
 rw [show Rm K (.ref C) f=some none from n]
 rfl
structure Meth (K:Rb) (C:ae) (m:ax) (f:ae):Prop where
 at_:Rm K (.ref C) m=some (some (.ref f))
 fn:Uy K (.ref f)=true
 kp:Tc K (.ref f)=true
section
variable {σ:St} {a:ae} {fs:List (ax×V)} {f:ax}
theorem tR {b:Bool} (I:Inv X a_ σ H s) (e:H a=some (.ins C dx fs)) (c:xp X.K C) (n:iQ X.K C f) (l:fs.lookup f=some v) (h:∀ u s',Inv X a_ σ H s'->bR v u->Q u s'):ai (ak X.prog X.w) A (getAttr (.ref a) f b) Q E s:=by
 obtain ⟨mA,O,r,_,_,_⟩:=xV I.d_ e
 obtain ⟨u,hu,ru⟩:=mI.some_of (v:=v) (o:=mA f) (by rw [<- l]; exact r f)
 exact aE6 I.kj O (c.get f) c.hd n hu (aCI ru) (h u _ (I.tok _) ru)
theorem tT {m:ax} {g:ae} {Q:aa×List aa->ah->Prop} (I:Inv X a_ σ H s) (e:H a=some (.ins C dx fs)) (c:xp X.K C) (k:Meth X.K C m g) (l:fs.lookup m=none) (h:Q (.ref g,[.ref a]) s):ai (ak X.prog X.w) A (getMethod (.ref a) m pl) Q E s:=by
 obtain ⟨mA,O,r,_,_,_⟩:=xV I.d_ e
 have hn:mA m=none:=mI.none_of (by rw [<- l]; exact r m)
 exact aDt I.kj O (c.get m) k.at_ k.fn hn h
theorem tU {Q:Unit->ah->Prop} (I:Inv X a_ σ H s) (e:H a=some (.ins C dx fs)) (c:xp X.K C) (n:iQ X.K C f) (hl:fs.length < 1000) (ry:bR y u) (h:∀ s',Inv X a_ σ (upd H a (.ins C dx (mO f y fs))) s'->Q () s'):ai (ak X.prog X.w) A (setAttr (.ref a) f u) Q E s:=by
 obtain ⟨mA,O,r,wi,_,ho⟩:=xV I.d_ e
 have hz:(fs.map (·.1)).length<=ag:=by rw [Qc,Rf]; omega
 refine aE7 I.kj O c.sa c.po n.Ge c.hd wi hz λh' O' sb=>h _ ?_
 have hd:∃ o,h'.get? dx=some o:=let ⟨o,_,_,e',_⟩:=O'.ns; ⟨o,e'⟩
 refine I.write (x:=a) (e:=dx) (by rw [e]; exact True.intro) (.inr ho) (λb q hb z=>(sb.2 b hb).trans z) hd ?_
 refine ⟨by rw [aF O.ne]; exact ho,?_,O.ne,O'.obj,_,O'.ns,λg=>?_,λg hg=>?_⟩
 ·have:=sB f y fs; omega
 ·show mI ((mO f y fs).lookup g) (if g=f then some u else mA g)
  rw [sA]
  by_cases q:g=f
  ·rw [if_pos q,if_pos q]; exact ry
  ·rw [if_neg q,if_neg q]; exact r g
 ·by_cases q:g=f
  ·rw [q]; exact (rD f y fs).1
  ·refine (rD f y fs).2 g (wi g λz=>hg ?_)
   show (if g=f then some u else mA g)=none
   rw [if_neg q]; exact z
theorem Inv.made (I:Inv X a_ σ H s):Inv X a_ σ (upd (upd H s.heap.objs.size (.own (s.heap.objs.size+1))) (s.heap.objs.size+1) (.ins C s.heap.objs.size []))
  { s with heap:=(s.heap.push Te).push (Tj C s.heap.objs.size) }:=by
 have e1:(s.heap.push Te).get? s.heap.objs.size=some Te:=af.get?_push_size s.heap rfl
 have e2:((s.heap.push Te).push (Tj C s.heap.objs.size)).get? (s.heap.objs.size+1)=some (Tj C s.heap.objs.size):=by
  have:=af.get?_push_size (s.heap.push Te) (o:=Tj C s.heap.objs.size) rfl
  rwa [af.size_push] at this
 have e3:(s.heap.push Te).Ns s.heap.objs.size (λ_=>none):=⟨Te,#[],_,e1,rfl,(λe he=>absurd he (by simp)),λ_=>rfl⟩
 have I1:=I.laid (a:=s.heap.objs.size) (o:=.own (s.heap.objs.size+1)) (h':=s.heap.push Te) (t':=s.toks) (λb u q=>af.get?_push_of_some _ q) (Qg _) ⟨_,e1⟩
 refine I1.laid (a:=s.heap.objs.size+1) (o:=.ins C s.heap.objs.size []) (t':=s.toks) (λb u q=>af.get?_push_of_some _ q) (Zn (af.size_push _ _)) ?_
 have ne:s.heap.objs.size≠s.heap.objs.size+1:=Qv (Xi _)
 refine ⟨by rw [aF ne,aB],Jo _,ne,e2,λ_=>none,(af.Ns1.of_empty e3).at λo q=>af.get?_push_of_some _ q,λ_=>True.intro,λy hy=>absurd rfl hy⟩
theorem aE8 {env:cy} {f:ax} (hb:attributeBase e f env (eval e env)=eval e env) (h:ai (ak prog w) A (eval e env) (λo f'=>ai (ak prog w) A (getAttr o f true) Q E f') E s):ai (ak prog w) A (eval (.Attribute e f pos) env) Q E s :=
 Attribute_any_ h (by rw [arm_eval_Attribute,hb])
end
def TN (K:Rb) (ta:TE) (f:ax):TE:=λσ H Q=>ta σ H λx H1=>∃ a C dx fs v,x=.ref a/\H1 a=some (.ins C dx fs)/\xp K C/\iQ K C f/\fs.lookup f=some v/\Q v H1
def aIz (K:Rb) (ta tv:TE) (f:ax):TS:=λD σ H=>tv σ H λy H1=>ta σ H1 λx H2=>∃ a C dx fs,x=.ref a/\H2 a=some (.ins C dx fs)/\xp K C/\iQ K C f/\fs.length < 1000 /\
 D.nx σ (upd H2 a (.ins C dx (mO f y fs)))
def LN (X:Cx) (op:Operator) (rd:V->V->Hp->VK->Prop):Prop :=
 ∀ (a_:List (ae×bz)) (s:ah) (σ:St) (H:Hp) (x y:V) (u v:aa) (Q:VK),Inv X a_ σ H s->bR x u->bR y v->rd x y H Q->ai (ak X.prog X.w) X.A (inplaceOp op u v) (EP X a_ σ Q) X.xe s
def aE9 (K:Rb) (ta tv:TE) (rd:V->V->Hp->VK->Prop) (f:ax):TS:=λD σ H=>ta σ H λx H1=>∃ a C dx fs v,x=.ref a/\H1 a=some (.ins C dx fs)/\xp K C/\iQ K C f/\fs.lookup f=some v /\
 tv σ H1 λy H2=>rd v y H2 λz H3=>∃ LA DA,H3 a=some (.ins C LA DA)/\DA.length < 1000/\D.nx σ (upd H3 a (.ins C LA (mO f z DA)))
section
variable {o:ba} {f:ax}
theorem cM (he:PE X e ta) (hb:attributeBase e f X.env (eval e X.env)=eval e X.env):PE X (.Attribute e f pos) (TN X.K ta f):=by
 intro a_ s σ H Q I h
 refine aE8 hb (fi (he a_ s σ H _ I h) λu s1 e_=>?_)
 obtain ⟨x,H1,I1,rx,a,C,dx,fs,v,ex,ea,c,n,l,q⟩:=e_
 subst ex
 obtain rfl:u=aa.ref a:=rx
 exact tR I1 ea c n l λu' s2 I2 ru=>⟨v,H1,I2,ru,q⟩
theorem pA (ha:PE X o ta) (hv:PE X value tv) (hs:cq value (some (.Attribute o f pos')) pos.line X.env=pure false):PS X (.Assign [.Attribute o f pos'] value pos) (aIz X.K ta tv f):=by
 intro a_ s σ H D I h
 refine plainObj_wpAny_Assign_Attribute (fi (hv a_ s σ H _ I h) λu s1 ⟨y,H1,I1,ry,q⟩=>fi (ha a_ s1 σ H1 _ I1 q) λov s2 e_=>?_) hs
 obtain ⟨x,H2,I2,rx,a,C,dx,fs,ex,ea,c,n,l,q2⟩:=e_
 subst ex
 obtain rfl:ov=aa.ref a:=rx
 exact tU I2 ea c n l ry λs3 I3=>⟨σ,_,I3,q2⟩
theorem nJ {op:Operator} {rd:V->V->Hp->VK->Prop} (ha:PE X o ta) (hv:PE X value tv) (h!:LN X op rd):PS X (.AugAssign (.Attribute o f Cs) op value pos) (aE9 X.K ta tv rd f):=by
 intro a_ s σ H D I h
 refine wpAny_AugAssign_AttributeAny (fi (ha a_ s σ H _ I h) λov s1 e_=>?_)
 obtain ⟨x,H1,I1,rx,a,C,dx,fs,v,ex,ea,c,n,l,q⟩:=e_
 subst ex
 obtain rfl:ov=aa.ref a:=rx
 refine tR I1 ea c n l λu s2 I2 ru=>fi (hv a_ s2 σ H1 _ I2 q) λw3 s3 ⟨y,H2,I3,ry,q3⟩=>fi (h! a_ s3 σ H2 v y u w3 _ I3 ru ry q3) λw4 s4 e_=>?_
 obtain ⟨z,H3,I4,rz,LA,DA,ea',l',q4⟩:=e_
 exact tU I4 ea' c n l' rz λs5 I5=>⟨σ,_,I5,q4⟩
def aIA:V->V->Hp->VK->Prop:=λx y H Q=>∃ i j,x=.int i/\y=.int j/\Q (.int (i+j)) H
def aIB:V->V->Hp->VK->Prop:=λx y H Q=>∃ i j,x=.int i/\y=.int j/\Q (.int (i - j)) H
theorem M0:LN X .Add aIA:=by
 rintro a_ s σ H x y u v Q I rx ry ⟨i,j,rfl,rfl,q⟩
 obtain ⟨t,rfl⟩:=(show ∃ t,u=aa.int i t from rx)
 obtain ⟨t',rfl⟩:=(show ∃ t',v=aa.int j t' from ry)
 exact PyProof.Rows.iadd_int ⟨.int (i+j),H,I.tok _,⟨_,rfl⟩,q⟩
theorem aGU:LN X .Sub aIB:=by
 rintro a_ s σ H x y u v Q I rx ry ⟨i,j,rfl,rfl,q⟩
 obtain ⟨t,rfl⟩:=(show ∃ t,u=aa.int i t from rx)
 obtain ⟨t',rfl⟩:=(show ∃ t',v=aa.int j t' from ry)
 exact PyProof.Rows.isub_int ⟨.int (i - j),H,I.tok _,⟨_,rfl⟩,q⟩
end
section
variable {σ:St} {c:aa} {b:Bool}
end
structure dz (k:Nat) (A:bw):Prop where
 hd:A.handled=none
 dp:A.depth+3*k+5 < recursionLimit
 un:A.units+16*k+200 < cm
 gd:A.guards=some []
theorem dz.mono {k:Nat} (r:dz k A) (h:j<=k):dz j A:=⟨r.hd,by have:=r.dp; omega,by have:=r.un; omega,r.gd⟩
theorem dz.deeper {k:Nat} (r:dz (k+1) A) (env:cy):dz k (A.deeper env) :=
 ⟨r.hd,by have:=r.dp; show A.depth+1+3*k+5 < _; omega,by have:=r.un; show A.units+3+16*k+200 < _; omega,r.gd⟩
theorem dz.in1 {k:Nat} (r:dz (k+1) A):dz k A.in1 :=
 ⟨r.hd,by have:=r.dp; show A.depth+3*k+5 < _; omega,by have:=r.un; show A.units+1+16*k+200 < _; omega,r.gd⟩
theorem aA9:(A.under (.builtin "type.__call__" ⟨.ref C::us,kw⟩)).depth=A.depth+1:=by
 first | rfl | simp [bw.under,Code.weight,Code.isCreation,Code.isGuard,Code.isCaller,Code.frames,Code.isFrame,guardIds]
theorem aBa:(A.under (.builtin "type.__call__" ⟨.ref C::us,kw⟩)).units=A.units+1:=by
 first | rfl | simp [bw.under,Code.cUnits,Code.frames,Code.isFrame]
theorem aAd:(A.under (.builtin "type.__call__" ⟨.ref C::us,kw⟩)).guards=A.guards:=by
 first | rfl | simp [bw.under,Code.guards,Code.isGuard,pushGuards,guardIds]
theorem dz.make {k:Nat} (r:dz (k+1) A) (C:ae) (us:List aa) (kw:List (ax×aa)):dz k (A.under (.builtin "type.__call__" ⟨.ref C::us,kw⟩)) :=
 ⟨r.hd,by have:=r.dp; rw [aA9]; omega,by have:=r.un; rw [aBa]; omega,by rw [aAd]; exact r.gd⟩
theorem dz.depth {k:Nat} (r:dz k A):A.depth < recursionLimit:=by have:=r.dp; omega
theorem dz.units {k:Nat} (r:dz k A):A.units+64 < cm:=by have:=r.un; omega
abbrev oF:TA:=λ_ H Q=>Q [] H
abbrev iM (ta:TE) (tr:TA):TA:=λσ H Q=>ta σ H λx H1=>tr σ H1 λxs H2=>Q (x::xs) H2
section
variable {t:TA}
theorem aC:PA X [] oF:=λ_ _ _ _ H Q I h=>Calls.spliced_nil ⟨[],H,I,.nil,h⟩
theorem aA (ha:PE X e te) (hr:PA X es t) (hs:autoParam (ao (e::es) X.env=(false,eval e X.env)::ao es X.env) L2.gc):PA X (e::es) (iM te t):=by
 intro pos a_ s σ H Q I h
 rw [hs]
 show ai _ _ (spliced ((false,eval e X.env)::cb pos (ao es X.env))) _ _ s
 refine Calls.spliced_cons (fi (ha a_ s σ H _ I h) λu s1 e_=>?_)
 obtain ⟨x,H1,I1,r1,q1⟩:=e_
 refine fi (hr pos a_ s1 σ H1 _ I1 q1) λus s2 e_=>?_
 obtain ⟨xs,H2,I2,r2,q2⟩:=e_
 exact ⟨x::xs,H2,I2,.cons r1 r2,q2⟩
def Bb (t:TA):TE:=λσ H Q=>t σ H λxs H1=>xs.length<=ag/\∀ p,H1 p=none->Q (.ref p) (upd H1 p (.tup xs))
def E2 (t:TA):TE:=λσ H Q=>t σ H λxs H1=>xs.length<=ag/\∀ p,H1 p=none->Q (.ref p) (upd H1 p (.lst xs))
theorem cC {x1} (h:PA X es t):PE X (.Tuple es x1 pos) (Bb t):=by
 intro a_ s σ H Q I hq
 refine wpAny_Tuple_spliced (fi (h pos a_ s σ H _ I hq) λus s1 ⟨xs,H1,I1,r,z,q⟩=>⟨by rw [<- r.length]; exact z,?_⟩)
 have hf:H1 s1.heap.objs.size=none:=I1.d_.fresh (Qg _)
 refine ⟨.ref s1.heap.objs.size,upd H1 s1.heap.objs.size (.tup xs),I1.laid (t':=s1.toks) (λb u e=>af.get?_push_of_some _ e) (Qg _) ?_,rfl,q _ hf⟩
 exact ⟨z,us,0,r,af.get?_push_size _ rfl⟩
theorem gW (h:PA X es t):PE X (.List es pos) (E2 t):=by
 intro a_ s σ H Q I hq
 refine wpAny_List_spliced (fi (h pos a_ s σ H _ I hq) λus s1 ⟨xs,H1,I1,r,z,q⟩=>⟨by rw [<- r.length]; exact z,?_⟩)
 have hf:H1 s1.heap.objs.size=none:=I1.d_.fresh (Qg _)
 refine ⟨.ref s1.heap.objs.size,upd H1 s1.heap.objs.size (.lst xs),I1.laid (t':=s1.toks) (λb u e=>af.get?_push_of_some _ e) (Qg _) ?_,rfl,q _ hf⟩
 exact ⟨z,us,0,r,af.get?_push_size _ rfl⟩
end
abbrev Sp:=List V->Hp->VK->XK->Prop
end L2
variable {sp:Sp}
namespace L2
open PySem PySem.Spec PyProof.Rows
abbrev Bk:=List cy->Hp->ah->XK->aa->ah->Prop
end L2
variable {CX:Bk}
namespace L2
open PySem PySem.Spec PyProof.Rows
structure su (P:bo) (w:bq) (K:Rb) (mg:ax->Option aa) (base:af) (A:bw) (outer:List cy) (s:ah) (H:Hp):Prop where
 frames:A.frames=some outer
 mod:Mod K mg base
 bs:∀ b o,base.get? b=some o->s.heap.get? b=some o/\H b=none
 Ad:base.objs.size<=s.heap.objs.size
 j5:s.heap.FunFrames base outer
 yt:∀ b∈gy outer,H b=none
 d_:je P w H s.heap
 bare:AllBare s.gens
def CE (outer:List cy) (P:bo) (w:bq) (H:Hp) (s:ah) (Q:VK) (u:aa) (s':ah):Prop :=
 ∃ v H',s'.os=s.os/\AllBare s'.gens/\Un (gy outer) [] H H' s.heap s'.heap/\je P w H' s'.heap/\bR v u/\Q v H'
def CR (CX:Bk) (outer:List cy) (P:bo) (w:bq) (H:Hp) (s:ah) (Q:VK) (E:XK) (r:Result) (s':ah):Prop :=
 match r with
 | .ok (.ret u)=>CE outer P w H s Q u s'
 | .ok _=>False
 | .error e=>CX outer H s E e s'
structure b_ (P:bo) (w:bq) (K:Rb) (mg:ax->Option aa) (base:af) (CX:Bk) (k:Nat) (f:ae) (fd:az) (ps:List ax) (sp:Sp):Prop where
 len:∀ vs H Q E,sp vs H Q E->vs.length=ps.length
 run:∀ (A:bw) (outer:List cy) (s:ah) (H:Hp) (args:Args) (us:List aa) (vs:List V) (Q:VK) (E:XK),dz k A->su P w K mg base A outer s H->BindsTo s fd args (ps.zip us)->bI vs us->sp vs H Q E ->
  codeAny (ak P w) A (.call (.ref f) args) (CR CX outer P w H s Q E) s
theorem su.make (e:su P w K mg base A outer s H) (C:ae) (us:List aa) (kw:List (ax×aa)) :
  su P w K mg base (A.under (.builtin "type.__call__" ⟨.ref C::us,kw⟩)) outer s H:=⟨by first | exact e.frames | (simpa [bw.under,Code.envs,Code.isFrame,pushEnvs] using e.frames),e.mod,e.bs,e.Ad,e.j5,e.yt,e.d_,e.bare⟩
section
variable {σ:St}
theorem Inv.Ar (I:Inv X a_ σ H s):su X.prog X.w X.K X.mg X.base X.A X.stack s H :=
 ⟨I.ok.frames,I.ok.mod,I.bs,Qx I.ok.Ad I.sz,I.stack,I.ju,I.d_,I.bare⟩
theorem Inv.after {Q:VK} (I:Inv X a_ σ H s) (h:CE X.stack X.prog X.w H s Q u s'):EP X a_ σ Q u s':=by
 obtain ⟨v,H',os,bare,un,d_,r,q⟩:=h
 obtain ⟨hh,g,d,t,Dh⟩:=s'
 obtain rfl:Dh=s.os:=os
 exact ⟨v,H',I.call (h':=hh) (g':=g) (d':=d) (t':=t) (ch:=[]) un d_ bare (λb z=>absurd z (by simp)),r,q⟩
end
def H_ (sp:Sp) (iw:List V) (E:XK) (t:TA):TE:=λσ H Q=>t σ H λvs H1=>sp (vs++iw) H1 Q E
def UN (C:ae) (m:ax) (sp:Sp) (iw:List V) (E:XK) (ta:TE) (t:TA):TE:=λσ H Q=>ta σ H λx H1=>∃ a dx fs,x=.ref a/\H1 a=some (.ins C dx fs)/\fs.lookup m=none /\
 t σ H1 λvs H2=>sp (x::(vs++iw)) H2 Q E
def UM (C:ae) (sp:Sp) (iw:List V) (E:XK) (t:TA):TE:=λσ H Q=>t σ H λvs H1=>∀ x dx,H1 x=none->H1 dx=none->dx≠x ->
 sp (.ref x::(vs++iw)) (upd (upd H1 dx (.own x)) x (.ins C dx [])) (λv H2=>v=.ft/\Q (.ref x) H2) E
def jU (K:Rb) (fd:az) (ps:List ax) (ds:List aa):Prop :=
 ∀ (s:ah) (us:List aa),K.In s.heap->(us++ds).length=ps.length->BindsTo s fd ⟨us,[]⟩ (ps.zip (us++ds))
theorem jU.all (h:∀ us:List aa,us.length=ps.length->c7 fd ⟨us,[]⟩=pure (ps.zip us)):jU K fd ps []:=λs us _ hl=>by
 rw [Yw] at hl ⊢
 exact .of_eq (h us hl)
def mP (CX:Bk) (X:Cx) (E:XK):Prop:=∀ (a_:List (ae×bz)) (σ:St) (H:Hp) (s:ah) (e:aa) (s':ah),Inv X a_ σ H s->CX X.stack H s E e s'->X.xe e s'
section
variable {k:Nat} {ds:List aa} {E:XK} {x m:ax} {p:Pos} {o:ba} {t:TA}
theorem MQ {σ:St} {Q:VK} (F:b_ X.prog X.w X.K X.mg X.base CX k f fd ps sp) (hr:dz k X.A) (hb:jU X.K fd ps ds) (hd:bI iw ds) (hx:mP CX X E) (I:Inv X a_ σ H s) (r:bI vs us) (h:sp (vs++iw) H Q E):ai (ak X.prog X.w) X.A (call (.ref f) us) (EP X a_ σ Q) X.xe s:=by
 have r2:bI (vs++iw) (us++ds):=r.append hd
 have hl:(us++ds).length=ps.length:=by rw [<- r2.length]; exact F.len _ _ _ _ h
 refine Vg (Uv (F.run X.A X.stack s H ⟨us,[]⟩ (us++ds) (vs++iw) Q E hr I.Ar (hb s us I.kj hl) r2 h) λr s' hq=>?_)
 cases r with
 | error e=>exact hx a_ σ H s e s' I hq
 | ok fl =>
  cases fl with
  | ret u=>exact I.after hq
  | next=>exact False.elim hq
  | brk=>exact False.elim hq
  | cont=>exact False.elim hq
theorem aFa (F:b_ X.prog X.w X.K X.mg X.base CX k f fd ps sp) (hr:dz k X.A) (hg:Gl X x) (hm:X.mg x=some (.ref f)) (hk:Tc X.K (.ref f)=true) (hb:jU X.K fd ps ds) (hd:bI iw ds) (hx:mP CX X E)
  (ha:PA X (e::es) t) (oa:autoParam ((x==("__debug__" : ax))=false) L2.jd) (he:autoParam (ao (e::es) X.env=(false,eval e X.env)::ao es X.env) L2.gc) (nr:autoParam ((cb pos (ao es X.env)).any (·.1)=false) L2.gc) :
  PE X (.Call (.Name x p) (e::es) [] pos) (H_ sp iw E t):=by
 intro a_ s σ H Q I h
 refine To (lL I hg hm ?_ oa)
 refine Tx (h₀:=X.base) I.ok.mod.zj hk (fi (ha pos a_ s σ H _ I h) λus s1 ⟨vs,H1,I1,r,q⟩=>⟨I1.kj,?_⟩) he nr
 exact MQ F hr hb hd hx I1 r q
theorem kH (he:PE X o ta) (c:xp X.K C) (hm:Meth X.K C m f) (F:b_ X.prog X.w X.K X.mg X.base CX k f fd ps sp) (hr:dz k X.A) (hb:jU X.K fd ps ds) (hd:bI iw ds) (hx:mP CX X E) (ha:PA X (e::es) t) (j0:autoParam (ao (e::es) X.env=(false,eval e X.env)::ao es X.env) L2.gc) (nr:autoParam ((cb pos (ao es X.env)).any (·.1)=false) L2.gc) (ht:autoParam (eval (.Call (.Attribute o m apos) (e::es) [] pos) X.env=(do
   let ov<-eval o X.env
   standAt apos.atName
   let (f,first)<-holding [ov] (getMethod ov m pl)
   callWith pos f first (cb pos (ao (e::es) X.env)) (backToKw pos (cz [] X.env)))) L2.gc) :
  PE X (.Call (.Attribute o m apos) (e::es) [] pos) (UN C m sp iw E ta t):=by
 intro a_ s σ H Q I h
 refine Iw (pl:=pl) (fi (he a_ s σ H _ I h) λu s1 e_=>?_) ht
 obtain ⟨x,H1,I1,rx,a,dx,fs,ex,ea,l,q⟩:=e_
 subst ex
 obtain rfl:u=aa.ref a:=rx
 refine tT I1 ea c hm l ?_
 refine Tx (first:=[.ref a]) (h₀:=X.base) I.ok.mod.zj hm.kp (fi (ha pos a_ s1 σ H1 _ I1 q) λus s2 ⟨vs,H2,I2,r,q2⟩=>⟨I2.kj,?_⟩) j0 nr
 exact MQ (us:=.ref a::us) (vs:=.ref a::vs) F hr hb hd hx I2 (.cons rfl r) q2
theorem cW (he:PE X o ta) (c:xp X.K C) (hm:Meth X.K C m f) (F:b_ X.prog X.w X.K X.mg X.base CX k f fd ps sp) (hr:dz k X.A) (hb:jU X.K fd ps ds) (hd:bI iw ds) (hx:mP CX X E) (ht:autoParam (eval (.Call (.Attribute o m apos) [] [] pos) X.env=(do
   let ov<-eval o X.env
   standAt apos.atName
   let (f,first)<-holding [ov] (getMethod ov m pl)
   callWith pos f first (cb pos (ao [] X.env)) (backToKw pos (cz [] X.env)))) L2.gc) :
  PE X (.Call (.Attribute o m apos) [] [] pos) (UN C m sp iw E ta oF):=by
 intro a_ s σ H Q I h
 refine Iw (pl:=pl) (fi (he a_ s σ H _ I h) λu s1 e_=>?_) ht
 obtain ⟨x,H1,I1,rx,a,dx,fs,ex,ea,l,q⟩:=e_
 subst ex
 obtain rfl:u=aa.ref a:=rx
 refine tT I1 ea c hm l ?_
 exact PySem.W.callWith_K0 (first:=[.ref a]) I1.kj hm.kp (MQ (us:=[.ref a]) (vs:=[.ref a]) F hr hb hd hx I1 (.cons rfl .nil) q)
structure Mk (K:Rb) (C f:ae):Prop where
 makes:Vt K C=true
 init:Rm K (.ref C) "__init__" = some (some (.ref f))
 fn:Uy K (.ref f)=true
 kp:Tc K (.ref C)=true
theorem aDv {σ:St} {Q:VK} (M:Mk X.K C f) (F:b_ X.prog X.w X.K X.mg X.base CX k f fd ps sp) (hr:dz (k+1) X.A) (hb:jU X.K fd ps ds) (hd:bI iw ds) (hx:mP CX X E) (I:Inv X a_ σ H s) (r:bI vs us) (h:∀ x dx,H x=none->H dx=none->dx≠x->sp (.ref x::(vs++iw)) (upd (upd H dx (.own x)) x (.ins C dx [])) (λv H2=>v=.ft/\Q (.ref x) H2) E) :
  ai (ak X.prog X.w) X.A (call (.ref C) us) (EP X a_ σ Q) X.xe s:=by
 have hq:=h (s.heap.objs.size+1) s.heap.objs.size (I.d_.fresh (Zw _)) (I.d_.fresh (Qg _)) (Qv (Xi _))
 have I2:=Inv.made (C:=C) I
 have r2:bI (V.ref (s.heap.objs.size+1)::(vs++iw)) (aa.ref (s.heap.objs.size+1)::(us++ds)):=.cons rfl (r.append hd)
 have hl:(aa.ref (s.heap.objs.size+1)::us++ds).length=ps.length:=by
  have e:=r2.length
  rw [F.len _ _ _ _ hq] at e
  exact e.symm
 refine Vg (WB (f:=f) I.kj M.makes M.init (beq_iff_eq.mp M.fn) (Uv (F.run _ X.stack _ _ ⟨aa.ref (s.heap.objs.size+1)::us,[]⟩ (aa.ref (s.heap.objs.size+1)::(us++ds)) _ _ E (hr.make C us [])
  (I2.Ar.make C us []) (hb _ (aa.ref (s.heap.objs.size+1)::us) I2.kj hl) r2 hq) λr s' uz=>?_))
 cases r with
 | error e=>exact hx a_ σ _ _ e s' I2 uz
 | ok fl =>
  cases fl with
  | ret u =>
   obtain ⟨v,H',I3,rv,ev,q3⟩:=I2.after uz
   subst ev
   exact ⟨rv,⟨V.ref (s.heap.objs.size+1),H',I3,rfl,q3⟩⟩
  | next=>exact False.elim uz
  | brk=>exact False.elim uz
  | cont=>exact False.elim uz
theorem aFb (M:Mk X.K C f) (F:b_ X.prog X.w X.K X.mg X.base CX k f fd ps sp) (hr:dz (k+1) X.A) (hg:Gl X x) (hm:X.mg x=some (.ref C)) (hb:jU X.K fd ps ds) (hd:bI iw ds) (hx:mP CX X E)
  (ha:PA X (e::es) t) (oa:autoParam ((x==("__debug__" : ax))=false) L2.jd) (he:autoParam (ao (e::es) X.env=(false,eval e X.env)::ao es X.env) L2.gc) (nr:autoParam ((cb pos (ao es X.env)).any (·.1)=false) L2.gc) :
  PE X (.Call (.Name x p) (e::es) [] pos) (UM C sp iw E t):=by
 intro a_ s σ H Q I h
 refine To (lL I hg hm ?_ oa)
 refine Tx (h₀:=X.base) I.ok.mod.zj M.kp (fi (ha pos a_ s σ H _ I h) λus s1 ⟨vs,H1,I1,r,q⟩=>⟨I1.kj,?_⟩) he nr
 exact aDv M F hr hb hd hx I1 r q
end
section
variable {k:Nat} {ks:List ax} {E:XK} {x m:ax} {p FO:Pos} {o:ba} {BB:List de} {t tk:TA} {nm:Option ax}
variable {g:List aa->List aa->List aa} {gV:List V->List V->List V}
end
structure c_ (N P:List ax) (sc:c8):Prop where
 kind:sc.kind=.function
 co:sc.isCoroutine=false
 gen:sc.isGenerator=false
 nd:N.Nodup
 pre:N.take P.length=P
 par:∀ x∈P,sc.names.lookup x=some .local∨sc.names.lookup x=some .cell
 C0:∀ y∈sc.names,y.2≠.free
theorem c_.of {P:List ax} (a:autoParam (sc.kind=.function) L2.Gq) (b:autoParam (sc.isCoroutine=false) L2.Gq) (c:autoParam (sc.isGenerator=false) L2.Gq) (d:autoParam (N.Nodup) L2.DS) (e:autoParam (N.take P.length=P) L2.Gq) (f:autoParam (∀ x∈P,sc.names.lookup x=some .local∨sc.names.lookup x=some .cell) L2.DS) (g:autoParam (∀ y∈sc.names,y.2≠.free) L2.DS):c_ N P sc:=⟨a,b,c,d,e,f,g⟩
theorem wP {x:ax}:∀ {binds:List (ax×aa)} {m:ax->Option aa},(∀ v,(x,v)∉binds)->bindL kindOf binds m x=m x
 | [],_,_=>rfl
 | (n,v)::r,m,h=>by
  unfold bindL
  rw [wP λw hw=>h w (Qi _ hw)]
  split
  ·have:x≠n:=by rintro rfl; exact h v Qm
   simp [this]
  ·rfl
theorem wQ {x:ax}:∀ {binds:List (ax×aa)} {m:ax->Option aa},(∀ v,(x,v)∉binds)->bindC kindOf binds m x=m x
 | [],_,_=>rfl
 | (n,v)::r,m,h=>by
  unfold bindC
  rw [wQ λw hw=>h w (Qi _ hw)]
  split
  ·rfl
  ·have:x≠n:=by rintro rfl; exact h v Qm
   simp [this]
theorem wR {x:ax} {v:aa}:∀ {P:List ax} {vs:List aa} {i:Nat} {m:ax->Option aa},P.Nodup->P[i]?=some x->vs[i]?=some v->kindOf x=some .local ->
  bindL kindOf (P.zip vs) m x=some v
 | [],_,_,_,_,h,_,_=>by simp at h
 | _::_,[],_,_,_,_,h,_=>by simp at h
 | p::P,w::vs,0,m,nd,h1,h2,hk=>by
  simp at h1 h2; subst h1; subst h2
  show bindL kindOf ((p,w)::P.zip vs) m p=_
  unfold bindL
  rw [wP λv hv=>(Jh.mp nd).1 (Zx hv).1,if_pos hk]
  simp
 | p::P,w::vs,i+1,m,nd,h1,h2,hk=>by
  show bindL kindOf ((p,w)::P.zip vs) m x=_
  unfold bindL
  exact wR (i:=i) (Jh.mp nd).2 (by simpa using h1) (by simpa using h2) hk
theorem wS {x:ax} {v:aa}:∀ {P:List ax} {vs:List aa} {i:Nat} {m:ax->Option aa},P.Nodup->P[i]?=some x->vs[i]?=some v->kindOf x≠some .local ->
  bindC kindOf (P.zip vs) m x=some v
 | [],_,_,_,_,h,_,_=>by simp at h
 | _::_,[],_,_,_,_,h,_=>by simp at h
 | p::P,w::vs,0,m,nd,h1,h2,hk=>by
  simp at h1 h2; subst h1; subst h2
  show bindC kindOf ((p,w)::P.zip vs) m p=_
  unfold bindC
  rw [wQ λv hv=>(Jh.mp nd).1 (Zx hv).1,if_neg hk]
  simp
 | p::P,w::vs,i+1,m,nd,h1,h2,hk=>by
  show bindC kindOf ((p,w)::P.zip vs) m x=_
  unfold bindC
  exact wS (i:=i) (Jh.mp nd).2 (by simpa using h1) (by simpa using h2) hk
noncomputable def start (N:List ax) (vs:List V):St:=vs.map some++List.replicate (N.length - vs.length) none
noncomputable def oG (CX:Bk) (P:bo) (w:bq) (K:Rb) (mg:ax->Option aa) (base:af) (N:List ax) (qual:ax) (scope:c8) (f:ae) (cd:aa) (A:bw) (outer:List cy) (s:ah) (H:Hp) (E:XK):Cx where
 prog:=P
 w:=w
 K:=K
 mg:=mg
 base:=base
 A:=A.deeper (envOfC qual scope s.heap.objs.size f cd)
 N:=N
 jk:=s
 we:=H
 env:=envOfC qual scope s.heap.objs.size f cd
 outer:=outer
 stack:=envOfC qual scope s.heap.objs.size f cd::outer
 ex:=[]
 calm:=true
 fn:=λ_=>true
 pn:=[]
 xe:=λe s'=>ai (ak P w) (A.deeper (envOfC qual scope s.heap.objs.size f cd)) (leaving (envOfC qual scope s.heap.objs.size f cd) e) (λ_ Bx=>CX outer H s E e Bx) (λe' Bx=>CX outer H s E e' Bx) s'
theorem WA {x:ax} (h:sc.names.lookup x=some .cell):∃ c,(cellsFrom n sc.names []).lookup x=some c:=by
 have q:=Iu sc.names n [] (.inl h)
 exact Yj.mp q
theorem aCJ {cd:aa} {s1:ah} {E:XK} (S:c_ N ps scope) (hd:A.handled=none) (e0:su P w K mg base A outer s H) (hl:vs.length=ps.length) (r:bI vs us) (x:InCallC s s.heap.objs.size (bindL (envOfC qual scope s.heap.objs.size f cd).kindOf (ps.zip us) λ_=>none) (cellsFrom (s.heap.objs.size+1) scope.names []) (bindC (envOfC qual scope s.heap.objs.size f cd).kindOf (ps.zip us) λ_=>none) s1) :
  Inv (oG CX P w K mg base N qual scope f cd A outer s H E) [] (start N vs) H s1:=by
 have nr:ps.length<=N.length:=by have:=congrArg Wf S.pre; rw [Jf] at this; omega
 obtain ⟨h1,tk,rfl,hk⟩:=x.done
 have D7:∀ b:ae,b∉(oG CX P w K mg base N qual scope f cd A outer s H E).ex:=λb z=>absurd (show b∈([]:List ae) from z) (by simp)
 refine ⟨⟨e0.mod,S.kind,rfl,rfl,Qg _,λy z c h1 h2=>?_,λy hy=>?_,λy c _ h=>?_,λ_=>hd,bw.frames_deeper e0.frames,.inr ⟨rfl,rfl⟩,λb z=>absurd z (D7 b),e0.bs,e0.Ad,λb _ _=>D7 b,λb z=>absurd z (D7 b),e0.j5,e0.yt⟩,
  rfl,e0.bare,Un.kept hk,⟨_,x.toInCall.ns,λi y v h1 h2 h3=>?_⟩,λy c h=>⟨_,x.cell y c h⟩,e0.d_.fresh (Qg _),λy c h=>?_,λp hp=>absurd (show p∈([]:List (ae×bz)) from hp) (by simp),e0.d_.kept hk,?_⟩
 ·exact name_of_addr x.apart (Tv h1) (Tv h2)
 ·have hy:scope.names.lookup y=some .cell∨scope.names.lookup y=some .free:=hy
  rcases hy with hy | hy
  ·exact WA hy
  ·exact absurd rfl (S.C0 _ (Tv hy))
 ·exact Je (x.above y c (Tv h))
 ·have hi:i < vs.length:=by
   unfold start at h2
   by_cases hi:i < vs.length
   ·exact hi
   ·rw [Qo (by simpa using hi)] at h2
    rw [Xc] at h2
    split at h2 <;> cases h2
  have ha:vs[i]?=some v:=by
   unfold start at h2
   rw [Ql (by simpa using hi),Qh] at h2
   cases e:vs[i]? with
   | none=>rw [e] at h2; cases h2
   | some a=>rw [e] at h2; cases h2; rfl
  obtain ⟨u,hu,rv⟩:=r.get ha
  have hp:ps[i]?=some y:=by
   rw [<- S.pre,List.getElem?_take_of_lt (by omega)]; exact h1
  have Pp:ps.Nodup:=by rw [<- S.pre]; exact S.nd.sublist (List.take_sublist _ _)
  refine ⟨u,rv,?_⟩
  rcases S.par y (Qd hp) with k | k
  ·exact .inl ⟨k,wR Pp hp hu k⟩
  ·obtain ⟨c,e⟩:=WA (n:=s.heap.objs.size+1) k
   refine .inr ⟨.inl k,c,e,?_⟩
   have q:=x.cell y c e
   rw [wS Pp hp hu (by show scope.names.lookup y≠_; rw [k]; decide)] at q
   exact q
 ·exact e0.d_.fresh (Je (x.above y c (Tv h)))
 ·unfold start
  show _=N.length
  rw [Qe,Qc,Jg]
  omega
theorem L6 {k:Nat} {dV kV:aa} (lk:K.lookup f=some ⟨oc,od,.func (Tg name qual params body scope dV kV doc pm an fh ct),uw⟩) (mi:Uc K fh qual=true) (S:c_ N ps scope) (len:∀ vs H Q E,sp vs H Q E->vs.length=ps.length) (i8:∀ (A:bw) (outer:List cy) (s:ah) (H:Hp) (vs:List V) (Q:VK) (E:XK),dz k (A.deeper (envOfC qual scope s.heap.objs.size f fh))->sp vs H Q E ->
   ∃ t,m9 (oG CX P w K mg base N qual scope f fh A outer s H E) body t/\t { nx:=λ_ H'=>Q .ft H',rt:=Q } (start N vs) H) :
  b_ P w K mg base CX (k+1) f (Tg name qual params body scope dV kV doc pm an fh ct) ps sp:=by
 refine ⟨len,λA outer s H args us vs Q E hr e0 hb r t9=>?_⟩
 have hl:=len _ _ _ _ t9
 have KX:K.In s.heap:=e0.mod.zj.keeps λb o e=>(e0.bs b o e).1
 have lim:s.heap.NoLimit:=e0.mod.nolimit.keeps λb o e=>(e0.bs b o e).1
 have Gj:∀ y∈ps.zip us,scope.names.lookup y.1=some .local∨(scope.names.lookup y.1=some .cell/\((cellsFrom (s.heap.objs.size+1) scope.names []).lookup y.1).isSome=true):=λ⟨n,v⟩ hy=>by
  rcases S.par n (Zx hy).1 with q | q
  ·exact .inl q
  ·exact .inr ⟨q,Iu _ _ _ (.inl q)⟩
 refine codeAny_call_function hr.depth (KX _ _ lk) rfl S.co S.gen rfl (PySem.W.codeRec_of KX mi) (hb _ _ _ _ ?_)
 refine wpAny_newFunctionEnv_cells S.kind Gj λenv he s1 x=>?_
 subst he
 refine ⟨lim.keeps x.toInCall.keep,codeAny_func ?_⟩
 obtain ⟨t,ht,hq⟩:=i8 A outer s H vs Q E (hr.deeper _) t9
 have I:Inv (oG CX P w K mg base N qual scope f fh A outer s H E) [] (start N vs) H s1:=aCJ S hr.hd e0 hl r x
 refine Rj (ht [] s1 (start N vs) H _ I hq) (λfl s' hs=>?_) λe s' hs=>hs
 have fin:∀ {d6:St} {H':Hp} {v:V} {u:aa},Inv (oG CX P w K mg base N qual scope f fh A outer s H E) [] d6 H' s'->bR v u->Q v H'->CE outer P w H s Q u s' :=
  λ{d6 H' v u} J rv q=>⟨v,H',J.os,J.bare,J.base,J.d_,rv,q⟩
 cases fl with
 | ret u =>
  obtain ⟨v,d6,H',J,rv,q⟩:=hs
  exact fin J rv q
 | next =>
  obtain ⟨d6,H',J,q⟩:=hs
  exact fin (v:=V.ft) (u:=aa.none) J rfl q
 | brk =>
  obtain ⟨_,_,_,q⟩:=hs
  exact False.elim q
 | cont =>
  obtain ⟨_,_,_,q⟩:=hs
  exact False.elim q
section
variable {x:ax} {p:Pos} {t:TA} {id:String} {r:List V->Hp->VK->Prop}
def Gy (r:List V->Hp->VK->Prop) (t:TA):TE:=λσ H Q=>t σ H λvs H1=>r vs H1 Q
theorem aL (hc:eX X (.builtin id) r) (hg:Gl X x) (hm:X.mg x=none) (hv:bc x=some (.builtin id)) (ha:PA X (e::es) t) (hn:autoParam (x ≠ "__name__") L2.jd) (oa:autoParam ((x==("__debug__" : ax))=false) L2.jd)
  (he:autoParam (ao (e::es) X.env=(false,eval e X.env)::ao es X.env) L2.gc) (nr:autoParam ((cb pos (ao es X.env)).any (·.1)=false) L2.gc):PE X (.Call (.Name x p) (e::es) [] pos) (Gy r t):=by
 intro a_ s σ H Q I h
 refine To (mK I hg hm hv ?_ hn oa)
 refine PyProof.Rows.callWith_builtin1 (fi (ha pos a_ s σ H _ I h) λus s1 e_=>?_) he nr
 obtain ⟨vs,H1,I1,r1,q1⟩:=e_
 exact hc a_ s1 σ H1 vs us Q I1 r1 q1
theorem cS (hc:eX X (.type T) r) (hg:Gl X x) (hm:X.mg x=none) (hv:bc x=some (.type T)) (ha:PA X (e::es) t) (hn:autoParam (x ≠ "__name__") L2.jd) (oa:autoParam ((x==("__debug__" : ax))=false) L2.jd)
  (he:autoParam (ao (e::es) X.env=(false,eval e X.env)::ao es X.env) L2.gc) (nr:autoParam ((cb pos (ao es X.env)).any (·.1)=false) L2.gc):PE X (.Call (.Name x p) (e::es) [] pos) (Gy r t):=by
 intro a_ s σ H Q I h
 refine To (mK I hg hm hv ?_ hn oa)
 refine PyProof.Rows.callWith_type1 (fi (ha pos a_ s σ H _ I h) λus s1 e_=>?_) he nr
 obtain ⟨vs,H1,I1,r1,q1⟩:=e_
 exact hc a_ s1 σ H1 vs us Q I1 r1 q1
end
end L2
namespace HT
open PySem PyProof.Rows
section
open PySem.SeqAt
open PySem.AutoSeq1 (wpAny_loadPart')
open PySem.MeetsSeq PySem.MeetsSeq2 PySem.MeetsSeq3
end
theorem Av {b:ae} {vs ws:List aa} (ht:IsTup s.heap t vs.toArray) (hb:IsTup s.heap b ws.toArray) (hv:vs≠[]) (h1:ws = []->Q (.ref t) s) (h2:ws≠[]->Q (.ref s.heap.objs.size) { s with heap:=s.heap.push { cls:=.type "tuple",data:=.seq (vs++ws).toArray } }) (hsz:vs.length+ws.length<=ag):ai (ak prog w) A (binaryOp .Add (.ref t) (.ref b)) Q E s:=by
 obtain ⟨⟨cls,dd,data,sl⟩,ho,hc,n,hd⟩:=id ht
 obtain ⟨⟨Oi,DH,data2,De⟩,zo,yq,n2,hd2⟩:=id hb
 simp only at hc hd yq hd2
 subst hc hd yq hd2
 have e:vs.toArray++ws.toArray=(vs++ws).toArray:=by simp
 by_cases hw:ws = []
 ·exact Mr ⟨_,ho,rfl⟩ ⟨_,zo,rfl⟩ Ir Mj Uz Uw (Uu _ _)
   (tuple_addW1 t b vs.toArray ws.toArray n n2 dd DH sl De (by simpa using hv) (by simp [hw])) ⟨ho,zo,h1 hw⟩
 ·refine Mr ⟨_,ho,rfl⟩ ⟨_,zo,rfl⟩ Ir Mj Uz Uw (Uu _ _)
   (tuple_addW2 t b vs.toArray ws.toArray n n2 dd DH sl De (by simpa using hv) (by simpa using hw) (by rw [Qk,Qk]; exact hsz)) ⟨ho,zo,?_⟩
  rw [e]
  exact h2 hw
noncomputable def gf (n d:Nat):Option Int->Nat
 | none=>d
 | some v=>if v < 0 then (v+(n:Int)).toNat else min v.toNat n
theorem qk (n d:Nat):gf n d none=d:=rfl
theorem uk (n d k:Nat):gf n d (some (k:Int))=min k n:=by
 show (if (k:Int) < 0 then ((k:Int)+(n:Int)).toNat else min (k:Int).toNat n)=min k n
 rw [if_neg (by omega),Yk]
theorem aGV (n d:Nat) (hd:d<=n) (o:Option Int):gf n d o<=n:=by
 cases o with
 | none=>exact hd
 | some v =>
  show (if v < 0 then (v+(n:Int)).toNat else min v.toNat n)<=n
  by_cases hv:v < 0
  ·rw [if_pos hv]; omega
  ·rw [if_neg hv]; exact Nat.min_le_right _ _
theorem VX (v:Int) (n d:Nat):(if v < 0 then max (v+(n:Int)) 0 else min v (n:Int))=((gf n d (some v):Nat):Int):=by
 show (if v < 0 then max (v+(n:Int)) 0 else min v (n:Int))=(((if v < 0 then (v+(n:Int)).toNat else min v.toNat n):Nat):Int)
 by_cases hv:v < 0
 ·simp only [if_pos hv]; omega
 ·simp only [if_neg hv]; omega
theorem aBc (lo hi:Option Int) (n:Nat):aq.Slice.sliceAdjust lo hi 1 (n:Int)=(((gf n 0 lo:Nat):Int),((gf n n hi:Nat):Int)):=by
 have h1:¬ ((1:Int) < 0):=by omega
 unfold aq.Slice.sliceAdjust
 simp only [h1,if_false]
 refine Prod.ext ?_ ?_
 ·cases lo with
  | none=>rfl
  | some v=>exact VX v n 0
 ·cases hi with
  | none=>rfl
  | some v=>exact VX v n n
theorem aBd (i j:Nat):aq.Slice.slicePlaces (i:Int) (j:Int) 1=j - i:=by
 unfold aq.Slice.slicePlaces
 have h1:(1:Int) > 0:=by omega
 simp only [h1,if_true,Wl]
 split <;> omega
theorem gx {v:aa} {o:Option Int} {Q:Option Int->ah->Prop} (p:c9 v o) (h:Q o s):ai (ak prog w) A (aq.Slice.slicePartIndex v) Q E s:=by
 cases p with
 | none=>exact slicePart_none h
 | int i t=>exact slicePart_int h
theorem ij {lo:Option Int} {Q:Int×Int×Nat->ah->Prop} (hs:s.heap.IsSliceOf sl vl vu .none) (pl:c9 vl lo) (pu:c9 vu hi) (h:Q (((gf n 0 lo:Nat):Int),1,gf n n hi - gf n 0 lo) s):ai (ak prog w) A (aq.Slice.sliceApplied (.ref sl) (pure (n:Int))) Q E s:=by
 obtain ⟨os,u3,yp,o6⟩:=id hs
 unfold aq.Slice.sliceApplied aq.Slice.sliceFields
 refine Ra (Ra (Rk u3 o6 (x:=vl) rfl (Ra (Rk u3 o6 (x:=vu) rfl (Ra (Rk u3 o6 (x:=.none) rfl (Rc ?_)))))))
 refine Ra (slicePart_none ?_)
 show ai _ _ (if ((1:Int)==0)=true then _ else _) _ _ s
 rw [if_neg (by decide)]
 refine Ra (gx pl (Ra (gx pu (Ra (Rc ?_)))))
 show ai _ _ (match aq.Slice.sliceAdjust lo hi 1 (n:Int) with | (lo,hi)=>pure (lo,(1:Int),aq.Slice.slicePlaces lo hi 1)) _ _ s
 rw [aBc lo hi n]
 show ai _ _ (pure (((gf n 0 lo:Nat):Int),(1:Int),aq.Slice.slicePlaces ((gf n 0 lo:Nat):Int) ((gf n n hi:Nat):Int) 1)) _ _ s
 rw [aBd]
 exact Rc h
theorem ql (xs:Array aa) (i k:Nat):((List.range k).filterMap λ(m:Nat)=>xs[((i:Int)+(m:Int)*1).toNat]?).toArray=((xs.toList.drop i).take k).toArray:=by
 have e:(λ(m:Nat)=>xs[((i:Int)+(m:Int)*1).toNat]?)=λm=>xs[i+m]?:=by
  funext m
  have:((i:Int)+(m:Int)*1).toNat=i+m:=by omega
  rw [this]
 rw [e]
 have:=pick_run xs i k
 rw [Wj] at this
 have e2:((λx=>xs[x]?) ∘ λx=>i+x)=λm=>xs[i+m]?:=rfl
 rw [e2] at this
 rw [this]
theorem jy {lo:Option Int} (ht:IsTup s.heap t items) (hs:s.heap.IsSliceOf sl vl vu .none) (pl:c9 vl lo) (pu:c9 vu hi) (hw:¬ (gf items.size 0 lo=0/\gf items.size items.size hi=items.size)) (h:Q (.ref s.heap.objs.size) { s with heap:=s.heap.push { cls:=.type "tuple",data:=.seq ((items.toList.drop (gf items.size 0 lo)).take (gf items.size items.size hi - gf items.size 0 lo)).toArray } }) (hsz:items.size<=ag):ai (ak prog w) A (cp (.ref t) (.ref sl)) Q E s:=by
 have js:sizeOk (.seq ((items.toList.drop (gf items.size 0 lo)).take (gf items.size items.size hi - gf items.size 0 lo)).toArray):=by
  show ((items.toList.drop (gf items.size 0 lo)).take (gf items.size items.size hi - gf items.size 0 lo)).toArray.size<=ag
  rw [Qk,Jf,Xt,Array.length_toList]
  omega
 have hj:gf items.size items.size hi<=items.size:=aGV _ _ (Qg _) hi
 obtain ⟨os,u3,yp,o6⟩:=id hs
 have EB:s.TypeIs (.ref sl) "slice" := ⟨os,u3,yp⟩
 unfold cp
 try with_reducible refine Rx ?_
 first | refine Ra (Rc ?_) | skip
 refine Ra (Il ht.typeIs (by decide) ?_)
 refine Ra (Rn (name:=ax.ofString "__getitem__") ht.typeIs PyProof.Rows.slot_tuple_getitem
  (Rz PyProof.Rows.slot_tuple_getitem ht.typeIs Vr ?_ (Ig _ _)))
 show ai _ _ (aq.Tuple.tupleItemsOf (.ref t) >>= _) _ _ s
 refine Ra (Ml ht ?_)
 refine Ra (Vh EB ?_)
 rw [if_pos (by decide)]
 refine Ra (ij hs pl pu ?_)
 have jq:¬ ((((gf items.size 0 lo:Nat):Int)==0 && (1:Int)==1 && (gf items.size items.size hi - gf items.size 0 lo)==items.size)=true):=by
  intro q
  rw [Qz,Qz] at q
  have q1:((gf items.size 0 lo:Nat):Int)=0:=eq_of_beq q.1.1
  have q2:gf items.size items.size hi - gf items.size 0 lo=items.size:=eq_of_beq q.2
  exact hw ⟨by omega,by omega⟩
 show ai _ _ (if (((gf items.size 0 lo:Nat):Int)==0 && (1:Int)==1 && (gf items.size items.size hi - gf items.size 0 lo)==items.size)=true then _ else _) _ _ s
 rw [if_neg jq,ql]
 first
  | exact Ra (m:=aq.Tuple.tupleExact _) (Rq (Rc ⟨_,rfl,Rc h⟩) js)
  | exact Ra (m:=aq.Tuple.tupleExact _) (Rq (Ra (Rc (Rc ⟨_,rfl,Rc h⟩))) js)
  | exact Ra (Ra (m:=aq.Tuple.tupleExact _) (Rq (Rc (Rc ⟨_,rfl,Rc h⟩)) js))
  | exact Ra (Ra (m:=aq.Tuple.tupleExact _) (Rq (Rc ⟨_,rfl,Rc h⟩) js))
end HT
namespace L2
open PySem PySem.Spec PyProof.Rows
abbrev TO:=St->Hp->(Option Int->Hp->Prop)->Prop
def PO (X:Cx) (e:Option ba) (t:TO):Prop :=
 ∀ (a_:List (ae×bz)) (s:ah) (σ:St) (H:Hp) (Q:Option Int->Hp->Prop),Inv X a_ σ H s->t σ H Q ->
  ai (ak X.prog X.w) X.A (evalPart e X.env) (λu s'=>∃ o H',Inv X a_ σ H' s'/\c9 u o/\Q o H') X.xe s
def xW:TO:=λ_ H Q=>Q none H
def L5 (t:TE):TO:=λσ H Q=>t σ H λx H1=>∃ i,x=.int i/\Q (some i) H1
theorem pB:∀ {us:List aa},bI (ns.map V.int) us->IntsAre us ns:=by
 induction ns with
 | nil=>intro us r; rw [Xo] at r; cases r; exact .nil
 | cons n ns ih =>
  intro us r
  rw [Qw] at r
  cases r with
  | cons r1 r2 =>
   obtain ⟨t,e⟩:=r1
   subst e
   exact .cons n t (ih r2)
section
variable {lo hi:Option ba} {tl th:TO}
theorem pT:PO X none xW:=by
 intro a_ s σ H Q I h
 rw [Us]
 exact Rc ⟨none,H,I,.none,h⟩
theorem pU (h:PE X e te):PO X (some e) (L5 te):=by
 intro a_ s σ H Q I hw
 rw [Mm]
 refine fi (h a_ s σ H _ I hw) λu s1 e_=>?_
 obtain ⟨x,H1,I1,r1,q1⟩:=e_
 obtain ⟨i,rfl,q⟩:=q1
 obtain ⟨t,rfl⟩:=r1
 exact ⟨some i,H1,I1,.int i t,q⟩
def Fh (X:Cx) (r:V->Option Int->Option Int->Hp->VK->Prop):Prop :=
 ∀ (a_:List (ae×bz)) (s:ah) (σ:St) (H:Hp) (x:V) (v vl vu:aa) (lo hi:Option Int) (sl:ae) (Q:VK),Inv X a_ σ H s->bR x v->s.heap.IsSliceOf sl vl vu .none->c9 vl lo->c9 vu hi->r x lo hi H Q ->
  ∃ T id,typeLookup (.type T) "__getitem__" = pure (some (.builtin id))/\s.TypeIs v T/\ai (ak X.prog X.w) X.A (cp v (.ref sl)) (EP X a_ σ Q) X.xe s
def JG (r:V->Option Int->Option Int->Hp->VK->Prop) (te:TE) (tl th:TO):TE:=λσ H Q=>te σ H λx H1=>tl σ H1 λl H2=>th σ H2 λu H3=>r x l u H3 Q
theorem mQ {r:V->Option Int->Option Int->Hp->VK->Prop} (hr:Fh X r) (he:PE X e te) (hl:PO X lo tl) (hu:PO X hi th):PE X (.Subscript e (.Slice lo hi none p2) pos) (JG r te tl th):=by
 intro a_ s σ H Q I h
 refine Vi (fi (he a_ s σ H _ I h) λv s1 e_=>?_)
 obtain ⟨x,H1,I1,r1,q1⟩:=e_
 refine Mz (fi (hl a_ s1 σ H1 _ I1 q1) λvl s2 ⟨l,H2,I2,pl,q2⟩=>fi (hu a_ s2 σ H2 _ I2 q2) λvu s3 e_=>?_)
 obtain ⟨u,H3,I3,pu,q3⟩:=e_
 rw [Us]
 refine Rc ?_
 have I4:Inv X a_ σ H3 { s3 with heap:=s3.heap.push { cls:=.type "slice",data:=.fields #[vl,vu,.none] } }:=I3.kept (t':=s3.toks) λb ob q=>af.get?_push_of_some _ q
 obtain ⟨T,id,hT,ht,hg⟩:=hr a_ { s3 with heap:=s3.heap.push { cls:=.type "slice",data:=.fields #[vl,vu,.none] } } σ H3 x v vl vu l u s3.heap.objs.size Q I4 r1 (af.IsSliceOf.new ..) pl pu q3
 show ai (ak X.prog X.w) X.A (subscriptTail e (.Slice lo hi none p2) v (.ref s3.heap.objs.size)) (EP X a_ σ Q) X.xe { s3 with heap:=s3.heap.push { cls:=.type "slice",data:=.fields #[vl,vu,.none] } }
 exact tail_any (ops:=[.ref s3.heap.objs.size,v]) ht hT hg (by with_unfolding_all rfl)
noncomputable def pC (xs:List V) (lo hi:Option Int):List V:=(xs.drop (HT.gf xs.length 0 lo)).take (HT.gf xs.length xs.length hi - HT.gf xs.length 0 lo)
theorem sC (xs:List V) (lo hi:Option Int):(pC xs lo hi).length<=xs.length:=by
 unfold pC
 rw [Jf,Xt]
 exact Qx (Nat.min_le_right _ _) (Nat.sub_le _ _)
def aIC (K:Rb):V->Option Int->Option Int->Hp->VK->Prop:=λx lo hi H Q=>∃ a xs,x=.ref a/\d8 K H a xs /\
 ¬ (HT.gf xs.length 0 lo=0/\HT.gf xs.length xs.length hi=xs.length)/\∀ p,H p=none->Q (.ref p) (upd H p (.tup (pC xs lo hi)))
theorem aGW:Fh X (aIC X.K):=by
 intro a_ s σ H x v vl vu lo hi sl Q I rx hs pl pu h
 obtain ⟨a,xs,rfl,hx,hw,q⟩:=h
 cases rx
 obtain ⟨dj,r,ht,hz⟩:=I.tuple hx
 have hlen:dj.toArray.size=xs.length:=by rw [Qk]; exact r.length.symm
 refine ⟨"tuple",_,PyProof.Rows.slot_tuple_getitem.lookup,ht.typeIs,?_⟩
 refine HT.jy ht hs pl pu (by rw [hlen]; exact hw) ?_ (by rw [hlen]; exact hz)
 rw [hlen]
 refine ⟨.ref s.heap.objs.size,_,I.laid (t':=s.toks) (o:=.tup (pC xs lo hi)) (λb ob q=>af.get?_push_of_some _ q) (Qg _) ?_,rfl,q _ (I.d_.fresh (Qg _))⟩
 exact ⟨Qx (sC xs lo hi) hz,_,0,(r.drop (HT.gf xs.length 0 lo)).take (HT.gf xs.length xs.length hi - HT.gf xs.length 0 lo),af.get?_push_size _ rfl⟩
def aHM (K:Rb):R2:=λx y H Q=>∃ a b xs ys,x=.ref a/\y=.ref b/\d8 K H a xs/\d8 K H b ys/\xs≠[]/\xs.length+ys.length<=ag /\
 (ys = []->Q (.ref a) H)/\(ys≠[]->∀ p,H p=none->Q (.ref p) (upd H p (.tup (xs++ys))))
theorem bI.ow (r:bI xs us):us = []↔xs = []:=by
 cases r with
 | nil=>simp
 | cons _ _=>simp
theorem aFc:iy X (binaryOp .Add) (aHM X.K):=by
 intro a_ s σ H x y v u Q I rx ry h
 obtain ⟨a,b,xs,ys,rfl,rfl,ha,hb,hx,hz,q1,q2⟩:=h
 cases rx
 cases ry
 obtain ⟨dj,r1,p1,_⟩:=I.tuple ha
 obtain ⟨ni,r2,p2,_⟩:=I.tuple hb
 refine HT.Av p1 p2 (λz=>hx (r1.ow.mp z)) (λz=>⟨.ref a,H,I,rfl,q1 (r2.ow.mp z)⟩) (λz=>?_) (by rw [<- r1.length,<- r2.length]; exact hz)
 refine ⟨.ref s.heap.objs.size,_,I.laid (t':=s.toks) (o:=.tup (xs++ys)) (λb ob q=>af.get?_push_of_some _ q) (Qg _) ?_,rfl,q2 (λw=>z (r2.ow.mpr w)) _ (I.d_.fresh (Qg _))⟩
 exact ⟨by rw [Qe]; exact hz,_,0,r1.append r2,af.get?_push_size _ rfl⟩
end
noncomputable def zk (n:Nat) (i:Int):Option Nat:=if 0<=i then (if i < n then some i.toNat else none) else if -(n:Int)<=i then some (i+n).toNat else none
noncomputable def ue (xs:List α) (i:Int):Option α:=(zk xs.length i).bind λj=>xs[j]?
theorem xX {i:Int} (h:zk n i=some j):seqIndex? i n=some j/\j < n/\-(n:Int)<=i/\i < n:=by
 unfold zk at h
 by_cases h0:0<=i
 ·rw [if_pos h0] at h
  by_cases h1:i < n
  ·rw [if_pos h1] at h
   have e:i.toNat=j:=Option.some.inj h
   exact ⟨by rw [Raa h0 h1,e],by omega,by omega,h1⟩
  ·rw [if_neg h1] at h; cases h
 ·rw [if_neg h0] at h
  by_cases h1:-(n:Int)<=i
  ·rw [if_pos h1] at h
   have e:(i+n).toNat=j:=Option.some.inj h
   exact ⟨by rw [Ms (by omega) h1,e],by omega,h1,by omega⟩
  ·rw [if_neg h1] at h; cases h
theorem V9 {xs:List α} {i:Int} {v:α} (h:ue xs i=some v):∃ j,seqIndex? i xs.length=some j/\xs[j]?=some v/\j < xs.length/\-(xs.length:Int)<=i/\i < xs.length:=by
 unfold ue at h
 cases e:zk xs.length i with
 | none=>rw [e] at h; cases h
 | some j =>
  rw [e] at h
  obtain ⟨h1,h2,h3,h4⟩:=xX e
  exact ⟨j,h1,h,h2,h3,h4⟩
theorem gE {xs:List α} {v:α} (h:xs[j]?=some v):ue xs (j:Int)=some v:=by
 have hj:j < xs.length:=(Qa.mp h).1
 have e:zk xs.length (j:Int)=some j:=by
  unfold zk
  rw [if_pos (by omega),if_pos (by omega)]; simp
 unfold ue; rw [e]; exact h
def aFd (b:ba):Prop:=∀ o i,subscripted b false o i=operate [o,i] (cp o i)
def Fw (X:Cx) (r:R2):Prop :=
 ∀ (value slice:ba) (a_:List (ae×bz)) (s:ah) (σ:St) (H:Hp) (x y:V) (v u:aa) (Q:VK),Inv X a_ σ H s->bR x v->bR y u->r x y H Q ->
  subscripted slice false v u=operate [v,u] (cp v u)->ai (ak X.prog X.w) X.A (subscriptTail value slice v u) (EP X a_ σ Q) X.xe s
def Ae (X:Cx) (id:String) (r:V->List V->Hp->VK->Prop):Prop :=
 ∀ (a_:List (ae×bz)) (s:ah) (σ:St) (H:Hp) (x:V) (xs:List V) (v:aa) (us:List aa) (Q:VK),Inv X a_ σ H s->bR x v->bI xs us->r x xs H Q ->
  ai (ak X.prog X.w) X.A (call (.builtin id) (v::us)) (EP X a_ σ Q) X.xe s
section
variable {a b:ba}
theorem bN (hr:Fw X r) (ha:PE X a ta) (hb:PE X b tb) (hs:aFd b):PE X (.Subscript a b pos) (y_ r ta tb):=by
 intro a_ s σ H Q I h
 exact Vi (LR ha hb I h λv u s2 x y H2 I2 rx ry q=>hr a b a_ s2 σ H2 x y v u Q I2 rx ry q (hs _ _))
def TM (K:Rb):R2:=λx y H Q=>∃ p xs i v,x=.ref p/\y=.int i/\d9 K H p xs/\ue xs i=some v/\Q v H
def TL (K:Rb):R2:=λx y H Q=>∃ p xs i v,x=.ref p/\y=.int i/\d8 K H p xs/\ue xs i=some v/\Q v H
theorem cN:Fw X (TM X.K):=by
 intro value slice a_ s σ H x y v u Q I rx ry h hs
 obtain ⟨p,xs,i,z,rfl,rfl,hq,he,q⟩:=h
 cases rx
 obtain ⟨t,rfl⟩:=ry
 obtain ⟨dj,r,pl,hz⟩:=I.list hq
 obtain ⟨j,h1,h2,h3,h4,h5⟩:=V9 he
 obtain ⟨w,ew,i4⟩:=r.get h2
 have hl:=r.length
 have hn:=tQ
 have fin:EP X a_ σ Q w s:=⟨z,H,I,i4,q⟩
 by_cases h0:0<=i
 ·have hj:i.toNat=j:=by
   rw [Raa h0 h5] at h1
   exact Option.some.inj h1
  exact item_listR pl.isList h0 (by omega) (by rw [hj]; simpa using ew) fin hs
 ·have hj:(i+(dj.toArray.size:Int)).toNat=j:=by
   rw [Ms (by omega) h4] at h1
   rw [Qk,<- hl]
   exact Option.some.inj h1
  exact Ul (x:=w) pl.isList.typeIs slot_list_getitem.lookup
   (wpAny_getItem_list_neg (Q:=λr s'=>r=w/\EP X a_ σ Q r s') pl.isList (by omega) (by rw [Qk] <;> omega) (by omega) (by rw [hj]; simpa using ew) ⟨rfl,fin⟩) hs
theorem cD:Fw X (TL X.K):=by
 intro value slice a_ s σ H x y v u Q I rx ry h hs
 obtain ⟨p,xs,i,z,rfl,rfl,hq,he,q⟩:=h
 cases rx
 obtain ⟨t,rfl⟩:=ry
 obtain ⟨dj,r,pl,hz⟩:=I.tuple hq
 obtain ⟨j,h1,h2,h3,h4,h5⟩:=V9 he
 obtain ⟨w,ew,i4⟩:=r.get h2
 have hl:=r.length
 have hn:=tQ
 have fin:EP X a_ σ Q w s:=⟨z,H,I,i4,q⟩
 exact Ul (x:=w) pl.typeIs slot_tuple_getitem.lookup
  (getItem_tuple (j:=j) (Q:=λr s'=>r=w/\EP X a_ σ Q r s') pl (by omega) (by omega) (by rw [Qk,<- hl]; exact h1) (by simpa using ew) ⟨rfl,fin⟩) hs
theorem aBe (dj:List aa) (n j:Nat) (u:aa):bz.mapSeq (·.setIfInBounds j u) { cls:=.type "list",data:=.seq dj.toArray n }={ cls:=.type "list",data:=.seq (dj.set j u).toArray n }:=by
 simp [bz.mapSeq]
theorem Inv.lst {σ:St} (I:Inv X a_ σ H s) (h:H p=some (.lst xs)) :
  ∃ (dj:List aa) (n:Nat),bI xs dj/\s.heap.get? p=some { cls:=.type "list",data:=.seq dj.toArray n }/\xs.length<=ag:=by
 obtain ⟨z,dj,n,r,e⟩:=I.d_ p _ h
 exact ⟨dj,n,r,e,z⟩
theorem Inv.C2 {σ:St} {its':List aa} {n':Nat} {f:bz->bz} (I:Inv X a_ σ H s) (h:H p=some (.lst xs)) (ho:s.heap.get? p=some { cls:=.type "list",data:=.seq dj.toArray n }) (hf:f { cls:=.type "list",data:=.seq dj.toArray n }={ cls:=.type "list",data:=.seq its'.toArray n' }) (r:bI ys its') (hz:ys.length<=ag) (t:Nat) :
  Inv X a_ σ (upd H p (.lst ys)) { s with heap:=s.heap.update p f,toks:=t }:=by
 have e:(s.heap.update p f).get? p=some { cls:=.type "list",data:=.seq its'.toArray n' }:=by
  rw [af.get?_update_self f ho (by rw [hf] <;> rfl),hf]
 refine I.write (x:=p) (e:=p) (by rw [h]; trivial) (.inl rfl) (λb u hb q=>(af.get?_update_other _ _ (Ne.symm hb)).trans q) ⟨_,e⟩ ?_
 exact ⟨hz,its',n',r,e⟩
def aHP:V->V->V->Hp->(Hp->Prop)->Prop:=λo i v H Q=>∃ p xs k j,o=.ref p/\i=.int k/\H p=some (.lst xs)/\zk xs.length k=some j/\Q (upd H p (.lst (xs.set j v)))
theorem pV:TX X aHP:=by
 intro a_ s σ H o i v ov iv u Q I ro ri rv h
 obtain ⟨p,xs,k,j,rfl,rfl,hp,hj,q⟩:=h
 cases ro
 obtain ⟨t,rfl⟩:=ri
 obtain ⟨dj,n,r,ho,hz⟩:=I.lst hp
 obtain ⟨h1,h2,h3,h4⟩:=xX hj
 have hl:=r.length
 have hn:=tQ
 have I':Inv X a_ σ (upd H p (.lst (xs.set j v))) { s with heap:=s.heap.update p (bz.mapSeq (·.setIfInBounds j u)) } :=
  I.C2 hp ho (aBe dj n j u) (r.set rv j) (by rw [Ze]; exact hz) s.toks
 by_cases h0:0<=k
 ·have hk:k.toNat=j:=by
   rw [Raa h0 h4] at h1
   exact Option.some.inj h1
  exact PySem.W.ki_setAt ho h0 (by omega) (by rw [Qk,<- hl]; exact h4) (by rw [hk]; exact ⟨_,I',q⟩)
 ·have hk:(k+(dj.toArray.size:Int)).toNat=j:=by
   rw [Ms (by omega) h3] at h1
   rw [Qk,<- hl]
   exact Option.some.inj h1
  exact PySem.W.ki_setBack ho (by omega) (by rw [Qk,<- hl]; exact h3) (by omega) (by rw [hk]; exact ⟨_,I',q⟩)
theorem xY (lo hi:Option Int) (n:Nat):(sliceBounds lo hi none n).1=((HT.gf n 0 lo:Nat):Int)/\(sliceBounds lo hi none n).2.1=((HT.gf n n hi:Nat):Int)/\(sliceBounds lo hi none n).2.2=1:=by
 refine ⟨?_,?_,rfl⟩
 ·cases lo with
  | none=>simp [sliceBounds,HT.gf]
  | some i =>
   simp only [sliceBounds,HT.gf,Wp,show (1:Int) > 0 by decide,if_true]
   by_cases h:i < 0
   ·simp only [h,if_true] <;> omega
   ·simp only [h,if_false] <;> omega
 ·cases hi with
  | none=>simp [sliceBounds,HT.gf]
  | some i =>
   simp only [sliceBounds,HT.gf,Wp,show (1:Int) > 0 by decide,if_true]
   by_cases h:i < 0
   ·simp only [h,if_true] <;> omega
   ·simp only [h,if_false] <;> omega
theorem wC (dj:List aa) (lo hi:Option Int):slicePick dj.toArray lo hi none=((dj.drop (HT.gf dj.length 0 lo)).take (HT.gf dj.length dj.length hi - HT.gf dj.length 0 lo)).toArray:=by
 obtain ⟨h1,h2,h3⟩:=xY lo hi dj.toArray.size
 unfold slicePick
 rw [h1,h2,h3]
 simp only [sliceRange_one,pick_run,Qk] <;> rfl
def aID (K:Rb):V->Option Int->Option Int->Hp->VK->Prop:=λx lo hi H Q=>∃ a xs,x=.ref a/\d9 K H a xs/\∀ p,H p=none->Q (.ref p) (upd H p (.lst (pC xs lo hi)))
theorem V8:Fh X (aID X.K):=by
 intro a_ s σ H x v vl vu lo hi sl Q I rx hs pl pu h
 obtain ⟨a,xs,rfl,hx,q⟩:=h
 cases rx
 obtain ⟨dj,r,ht,hz⟩:=I.list hx
 have hlen:=r.length
 refine ⟨"list",_,slot_list_getitem.lookup,ht.isList.typeIs,?_⟩
 refine Mn ht.isList hs pl pu .none (by simp) ?_ (by rw [Qk] <;> omega)
 rw [wC,<- hlen]
 refine ⟨.ref s.heap.objs.size,_,I.laid (t':=s.toks) (o:=.lst (pC xs lo hi)) (λb ob q=>af.get?_push_of_some _ q) (Qg _) ?_,rfl,q _ (I.d_.fresh (Qg _))⟩
 exact ⟨Qx (sC xs lo hi) hz,_,0,(r.drop (HT.gf xs.length 0 lo)).take (HT.gf xs.length xs.length hi - HT.gf xs.length 0 lo),af.get?_push_size _ rfl⟩
noncomputable def pW:V->Bool
 | .ft=>true
 | .bl _=>true
 | .int _=>true
 | .str _=>true
 | _=>false
noncomputable def A3:V->V->Bool
 | .ft,.ft=>true
 | .bl a,.bl b=>a==b
 | .bl a,.int b=>(if a then 1 else 0)==b
 | .int a,.bl b=>a==(if b then 1 else 0)
 | .int a,.int b=>a==b
 | .str a,.str b=>a==b
 | _,_=>false
theorem aGX {x:V} {v:aa} (ry:bR y u) (rx:bR x v) (fy:pW y=true) (fx:pW x=true):SeqAt.EqAt A s u v (A3 y x):=by
 cases y with
 | ft =>
  cases ry
  cases x with
  | ft=>cases rx; exact SeqAt.EqAt.same _
  | bl b=>cases rx; exact SeqAt.EqAt.none_bool b
  | int b=>obtain ⟨t,rfl⟩:=rx; exact SeqAt.EqAt.none_int b t
  | str b=>obtain ⟨t,rfl⟩:=rx; exact SeqAt.EqAt.none_str b t
  | _=>exact absurd (show false=true from fx) Qr
 | bl a =>
  cases ry
  cases x with
  | ft=>cases rx; exact SeqAt.EqAt.bool_none a
  | bl b=>cases rx; exact SeqAt.EqAt.bool_bool a b
  | int b=>obtain ⟨t,rfl⟩:=rx; exact SeqAt.EqAt.bool_int a b t
  | str b=>obtain ⟨t,rfl⟩:=rx; exact SeqAt.EqAt.bool_str a b t
  | _=>exact absurd (show false=true from fx) Qr
 | int a =>
  obtain ⟨t',rfl⟩:=ry
  cases x with
  | ft=>cases rx; exact SeqAt.EqAt.int_none a t'
  | bl b=>cases rx; exact SeqAt.EqAt.int_bool a t' b
  | int b=>obtain ⟨t,rfl⟩:=rx; exact SeqAt.EqAt.int_int a t' b t
  | str b=>obtain ⟨t,rfl⟩:=rx; exact SeqAt.EqAt.int_str a t' b t
  | _=>exact absurd (show false=true from fx) Qr
 | str a =>
  obtain ⟨t',rfl⟩:=ry
  cases x with
  | ft=>cases rx; exact SeqAt.EqAt.str_none a t'
  | bl b=>cases rx; exact SeqAt.EqAt.str_bool a t' b
  | int b=>obtain ⟨t,rfl⟩:=rx; exact SeqAt.EqAt.str_int a t' b t
  | str b=>obtain ⟨t,rfl⟩:=rx; exact SeqAt.EqAt.str_str a t' b t
  | _=>exact absurd (show false=true from fx) Qr
 | _=>exact absurd (show false=true from fy) Qr
noncomputable def se (x:V) (u:aa):Bool:=match u with
 | .none=>A3 .ft x
 | .bool b=>A3 (.bl b) x
 | .int i _=>A3 (.int i) x
 | .str z _=>A3 (.str z) x
 | _=>false
theorem U3 {x:V} (r:bR y u) (f:pW y=true):se x u=A3 y x:=by
 cases y with
 | ft=>cases r; rfl
 | bl b=>cases r; rfl
 | int i=>obtain ⟨t,rfl⟩:=r; rfl
 | str z=>obtain ⟨t,rfl⟩:=r; rfl
 | _=>exact absurd (show false=true from f) Qr
theorem sR {x:V}:∀ {xs:List V} {us:List aa},bI xs us->xs.all pW=true->us.any (se x)=xs.any λy=>A3 y x
 := by
 intro xs us h
 induction h with
 | nil=>intro _; rfl
 | cons r t ih =>
  intro f
  rw [List.all_cons,Qz] at f
  rw [Zv,Zv,U3 r f.1,ih f.2]
theorem mR {x:V} {v:aa} (rx:bR x v) (fx:pW x=true):∀ {xs:List V} {us:List aa},bI xs us->xs.all pW=true->∀ u∈us,SeqAt.EqAt A s u v (se x u)
 | _,_,.nil,_=>λu hu=>by cases hu
 | y::xs,u::us,.cons r t,f=>λu' hu=>by
  rw [List.all_cons,Qz] at f
  rcases Qj.mp hu with rfl | hu
  ·rw [U3 r f.1]; exact aGX r rx f.1 fx
  ·exact mR rx fx t f.2 u' hu
noncomputable def wu (x:V) (xs:List V):Bool:=xs.any λy=>A3 y x
def D4 (K:Rb) (neg:Bool):R2:=λx y H Q=>∃ p xs,y=.ref p/\(d9 K H p xs∨d8 K H p xs)/\pW x=true/\xs.all pW=true/\Q (.bl (if neg then !wu x xs else wu x xs)) H
theorem aCK:iy X (bh .In) (D4 X.K false):=by
 intro a_ s σ H x y v u Q I rx ry h
 obtain ⟨p,xs,rfl,hq,fx,fs,q⟩:=h
 cases ry
 rcases hq with hq | hq
 ·obtain ⟨dj,r,pl,hz⟩:=I.list hq
  refine SeqAt.in_listAt (se x) pl.isList (λw hw=>mR rx fx r fs w (by simpa using hw)) ⟨.bl _,H,I,rfl,?_⟩
  rw [show dj.toArray.any (se x)=dj.any (se x) by simp,sR r fs]
  exact q
 ·obtain ⟨dj,r,pl,hz⟩:=I.tuple hq
  refine SeqAt.in_tupleAt (se x) pl (λw hw=>mR rx fx r fs w (by simpa using hw)) ⟨.bl _,H,I,rfl,?_⟩
  rw [show dj.toArray.any (se x)=dj.any (se x) by simp,sR r fs]
  exact q
theorem xZ:iy X (bh .NotIn) (D4 X.K true):=by
 intro a_ s σ H x y v u Q I rx ry h
 obtain ⟨p,xs,rfl,hq,fx,fs,q⟩:=h
 cases ry
 rcases hq with hq | hq
 ·obtain ⟨dj,r,pl,hz⟩:=I.list hq
  refine SeqAt.notIn_listAt (se x) pl.isList (λw hw=>mR rx fx r fs w (by simpa using hw)) ⟨.bl _,H,I,rfl,?_⟩
  rw [show dj.toArray.any (se x)=dj.any (se x) by simp,sR r fs]
  exact q
 ·obtain ⟨dj,r,pl,hz⟩:=I.tuple hq
  refine SeqAt.notIn_tupleAt (se x) pl (λw hw=>mR rx fx r fs w (by simpa using hw)) ⟨.bl _,H,I,rfl,?_⟩
  rw [show dj.toArray.any (se x)=dj.any (se x) by simp,sR r fs]
  exact q
theorem bB:eX X (.builtin "len") (λxs H Q=>∃ p ys,xs = [.ref p]/\(d9 X.K H p ys∨d8 X.K H p ys)/\Q (.int ys.length) H):=by
 intro a_ s σ H xs us Q I r h
 obtain ⟨p,ys,rfl,hq,q⟩:=h
 obtain ⟨u,rfl,rx⟩:=iC r
 cases rx
 have hn:=tQ
 rcases hq with hq | hq
 ·obtain ⟨dj,r',pl,hz⟩:=I.list hq
  have hlen:=r'.length
  exact Calls.call_len_list pl.isList (by simp only [Qk] <;> omega) ⟨.int ys.length,H,I.tok _,⟨s.toks+1,by rw [Qk,hlen]⟩,q⟩
 ·obtain ⟨dj,r',pl,hz⟩:=I.tuple hq
  have hlen:=r'.length
  exact len_tuple pl (by simp only [Qk] <;> omega) ⟨.int ys.length,H,I.tok _,⟨s.toks+1,by rw [Qk,hlen]⟩,q⟩
theorem pX:eX X (.type "list") (λxs H Q=>∃ p ys,xs = [.ref p]/\(d9 X.K H p ys∨d8 X.K H p ys)/\∀ l,H l=none->Q (.ref l) (upd H l (.lst ys))):=by
 intro a_ s σ H xs us Q I r h
 obtain ⟨p,ys,rfl,hq,q⟩:=h
 obtain ⟨u,rfl,rx⟩:=iC r
 cases rx
 have fin:∀ (dj:List aa),bI ys dj->ys.length<=ag->∀ (h':af) (c':Nat),(∀ b o',s.heap.get? b=some o'->h'.get? b=some o') ->
   h'.get? s.heap.objs.size=some { cls:=.type "list",dict:=none,data:=.seq dj.toArray c',slots:=#[] }->EP X a_ σ Q (.ref s.heap.objs.size) { s with heap:=h' }:=λdj r' hz h' c' kp e =>
  ⟨.ref s.heap.objs.size,_,I.laid (t':=s.toks) kp (Qg _) (show bS X.prog X.w _ h' _ (.lst ys) from ⟨hz,dj,c',r',e⟩),rfl,q _ (I.d_.fresh (Qg _))⟩
 rcases hq with hq | hq
 ·obtain ⟨dj,r',pl,hz⟩:=I.list hq
  have hlen:=r'.length
  obtain ⟨o,ho,hc,n,hd⟩:=pl.isList
  exact call_list_seq p (.inl rfl) ho hc hd (λh' c' kp e=>fin dj r' hz h' c' kp e) (by simp only [Qk] <;> omega)
 ·obtain ⟨dj,r',pl,hz⟩:=I.tuple hq
  have hlen:=r'.length
  obtain ⟨o,ho,hc,n,hd⟩:=pl
  exact call_list_seq p (.inr rfl) ho hc hd (λh' c' kp e=>fin dj r' hz h' c' kp e) (by simp only [Qk] <;> omega)
theorem iX:eX X (.type "tuple") (λxs H Q=>∃ p ys,xs = [.ref p]/\((d9 X.K H p ys/\∀ l,H l=none->Q (.ref l) (upd H l (.tup ys)))∨(d8 X.K H p ys/\Q (.ref p) H))):=by
 intro a_ s σ H xs us Q I r h
 obtain ⟨p,ys,rfl,h⟩:=h
 obtain ⟨u,rfl,rx⟩:=iC r
 cases rx
 rcases h with ⟨hq,q⟩ | ⟨hq,q⟩
 ·obtain ⟨dj,r',pl,hz⟩:=I.list hq
  have hlen:=r'.length
  refine call_tuple_list pl.isList (λh' kp=>?_) (by simp only [Qk] <;> omega)
  have I1:Inv X a_ σ H { s with heap:=h' }:=I.kept (t':=s.toks) kp
  have I2:Inv X a_ σ (upd H h'.objs.size (.tup ys)) { s with heap:=h'.push { cls:=.type "tuple",data:=.seq dj.toArray } } :=
   I1.laid (t':=s.toks) (λb o e=>af.get?_push_of_some _ e) (Qg _) (show bS X.prog X.w _ _ _ (.tup ys) from ⟨hz,dj,0,r',af.get?_push_size _ rfl⟩)
  exact ⟨.ref h'.objs.size,_,I2,rfl,q _ (I1.d_.fresh (Qg _))⟩
 ·obtain ⟨dj,r',pl,hz⟩:=I.tuple hq
  exact call_tuple_same pl ⟨.ref p,H,I,rfl,q⟩
def JC (K:Rb) (T:String) (x:V) (H:Hp):Prop:=match x with
 | .str _=>T = "str"
 | .int _=>T = "int"
 | .ref p => (T = "list" /\ ∃ xs, d9 K H p xs) ∨ (T = "tuple" /\ ∃ xs, d8 K H p xs) ∨
     (T = "dict" /\ ((∃ kvs,H p=some (.dK kvs))∨∃ kvs,H p=some (.dT kvs)))∨(T = "set" /\ ∃ S n,H p=some (.set S n))
 | _=>False
theorem U2 {σ:St} {x:V} {v:aa} (I:Inv X a_ σ H s) (r:bR x v) (ty:JC X.K T x H) :
  s.TypeIs v T/\∀ a,v=.ref a->∃ ob,s.heap.get? a=some ob/\ob.dict=none:=by
 cases x with
 | str z =>
  obtain ⟨t,rfl⟩:=r
  cases (show T = "str" from ty)
  exact ⟨typeIs_str s z t,λ_ e=>nomatch e⟩
 | int i =>
  obtain ⟨t,rfl⟩:=r
  cases (show T = "int" from ty)
  exact ⟨Rad s i t,λ_ e=>nomatch e⟩
 | ref p =>
  cases r
  rcases ty with ⟨rfl,xs,hq⟩ | ⟨rfl,xs,hq⟩ | ⟨rfl,hk⟩ | ⟨rfl,S,n,hk⟩
  ·obtain ⟨dj,_,pl,_⟩:=I.list hq
   refine ⟨pl.isList.typeIs,λa e=>?_⟩
   cases e
   obtain ⟨o,n,e,c,hd,_⟩:=pl
   exact ⟨o,e,hd⟩
  ·obtain ⟨o,e,hc,hd⟩:∃ o,s.heap.get? p=some o/\o.cls=.type "tuple" /\ o.dict=none:=by
    rcases hq with hq | ⟨o,_,_,hk,hc,hd,_⟩
    ·obtain ⟨_,dj,n,_,e⟩:=hq.ok I.d_
     exact ⟨_,e,rfl,rfl⟩
    ·exact ⟨o,I.kj p o hk,hc,hd⟩
   refine ⟨⟨o,e,hc⟩,λa e2=>?_⟩
   cases e2
   exact ⟨o,e,hd⟩
  ·have z:∃ o,s.heap.get? p=some o/\o.ExactDict:=by
    rcases hk with ⟨kvs,hk⟩ | ⟨kvs,hk⟩
    ·obtain ⟨_,_,_,_,o,_,_,e,ex,_⟩:=I.d_ p _ hk
     exact ⟨o,e,ex⟩
    ·obtain ⟨_,_,_,_,o,_,_,e,ex,_⟩:=I.d_ p _ hk
     exact ⟨o,e,ex⟩
   obtain ⟨o,e,ex⟩:=z
   refine ⟨⟨o,e,ex.1⟩,λa e2=>?_⟩
   cases e2
   exact ⟨o,e,ex.2.1⟩
  ·obtain ⟨o,_,_,_,e,ex,_⟩:=I.d_ p _ hk
   refine ⟨⟨o,e,ex.1⟩,λa e2=>?_⟩
   cases e2
   exact ⟨o,e,ex.2.1⟩
 | _=>exact False.elim ty
def aIE (K:Rb) (T:String) (r:V->List V->Hp->VK->Prop) (to:TE):TE:=λσ H Q=>to σ H λx H1=>JC K T x H1/\r x [] H1 Q
def Gz (K:Rb) (T:String) (r:V->List V->Hp->VK->Prop) (to:TE) (t:TA):TE:=λσ H Q=>to σ H λx H1=>JC K T x H1/\t σ H1 λxs H2=>r x xs H2 Q
variable {o:ba} {t:TA} {id:String} {r:V->List V->Hp->VK->Prop}
theorem tV (pa:PlainAttrs T) (slot:Slot T name id) (Dk:typeOf (.builtin id)=pure (.type "method_descriptor")) (hm:Ae X id r) (ho:PE X o to)
  (qf:autoParam (attributeBase o name X.env (eval o X.env)=eval o X.env) L2.gc) (qb:autoParam ((apos.endLine==gu.line)=true) L2.gc):PE X (.Call (.Attribute o name apos) [] [] gu) (aIE X.K T r to):=by
 intro a_ s σ H Q I h
 refine wpAny_Call_method0_late qf qb (fi (ho a_ s σ H _ I h) λv s1 e_=>?_)
 obtain ⟨x,H1,I1,r1,ty,q1⟩:=e_
 obtain ⟨h1,h2⟩:=U2 I1 r1 ty
 exact ⟨T,id,pa,slot,Dk,h1,h2,Calls.callWith_builtin rfl (PySem.evalArgs_none (hm a_ s1 σ H1 x [] v [] Q I1 r1 .nil q1))⟩
theorem kI (pa:PlainAttrs T) (slot:Slot T name id) (Dk:typeOf (.builtin id)=pure (.type "method_descriptor")) (hm:Ae X id r) (ho:PE X o to) (ha:PA X (e::es) t)
  (qf:autoParam (attributeBase o name X.env (eval o X.env)=eval o X.env) L2.gc)
  (CO:autoParam (((cb gu (ao (e::es) X.env)).all (λx=>!x.1) && (backToKw gu (cz [] X.env)).all (λx=>x.1.isSome)
   && decide ((e::es).length+([]:List de).length+(if ([]:List de).isEmpty then 0 else 1) < 30))=true) L2.gc)
  (qb:autoParam ((apos.endLine==gu.line)=true) L2.gc) (hs:autoParam (ao (e::es) X.env=(false,eval e X.env)::ao es X.env) L2.gc) (sx:autoParam ((cb gu (ao es X.env)).any (·.1)=false) L2.gc) :
  PE X (.Call (.Attribute o name apos) (e::es) [] gu) (Gz X.K T r to t):=by
 intro a_ s σ H Q I h
 refine wpAny_Call_method_late qf CO qb rfl (fi (ho a_ s σ H _ I h) λv s1 e_=>?_)
 obtain ⟨x,H1,I1,r1,ty,q1⟩:=e_
 obtain ⟨h1,h2⟩:=U2 I1 r1 ty
 refine ⟨T,id,pa,slot,Dk,h1,h2,?_⟩
 have hA:=ha gu a_ s1 σ H1 _ I1 q1
 rw [hs] at hA ⊢
 refine Calls.callWith_builtin (by show (false || (cb gu (ao es X.env)).any (·.1))=false; rw [sx] <;> rfl) (Calls.evalArgs_plain ?_)
 refine fi hA λus s2 e_=>?_
 obtain ⟨vs,H2,I2,r2,q2⟩:=e_
 exact hm a_ s2 σ H2 x vs v us Q I2 r1 r2 q2
end
def XN (X:Cx) (id:String) (r:V->List V->Hp->VK->Prop):Prop :=
 ∀ (a_:List (ae×bz)) (s:ah) (σ:St) (H:Hp) (x:V) (xs:List V) (v:aa) (us:List aa) (Q:VK),Inv X a_ σ H s->bR x v->bI xs us->r x xs H Q ->
  ai (ak X.prog X.w) X.A (call (.builtin id) (v::us)) (EP X a_ σ Q) X.xe s
theorem bI.one {x:V} (r:bI [x] us):∃ u,us = [u]/\bR x u:=iC r
theorem bI.eraseIdx:∀ {xs:List V} {us:List aa} (i:Nat),bI xs us->bI (xs.eraseIdx i) (us.eraseIdx i)
 | _,_,_,.nil=>.nil
 | _,_,0,.cons _ t=>t
 | _,_,i+1,.cons r t=>.cons r (bI.eraseIdx i t)
theorem bI.reverse (h:bI xs us):bI xs.reverse us.reverse:=by
 induction h with
 | nil=>exact .nil
 | cons r t ih=>rw [Zl,Zl]; exact bI.append ih (.cons r .nil)
theorem bI.rep (h:bI xs us):∀ k:Nat,bI (List.replicate k xs).flatten (List.replicate k us).flatten
 | 0=>.nil
 | k+1=>by
  rw [Jx,Jx,Xx,Xx]
  exact bI.append h (bI.rep h k)
theorem pD (l:List α):l.eraseIdx (l.length - 1)=l.dropLast:=by
 induction l with
 | nil=>rfl
 | cons a r ih =>
  cases r with
  | nil=>rfl
  | cons b r =>
   have e:(a::b::r).length - 1=((b::r).length - 1)+1:=by
    have h1:(a::b::r).length=r.length+2:=rfl
    have h2:(b::r).length=r.length+1:=rfl
    omega
   rw [e,Xr,ih]
   all_goals rfl
theorem wT:∀ (l:List α) (i:Nat),(l.eraseIdx i).length<=l.length
 | [],_=>Qg _
 | _::_,0=>Zw _
 | _::r,i+1=>Zr (wT r i)
theorem wU (dj:List aa):∀ (k:Nat) (acc:List aa),
  List.foldl (λx1 x2=>x1++x2) acc.toArray (List.replicate k dj.toArray)=(acc++(List.replicate k dj).flatten).toArray
 | 0,acc=>by simp
 | k+1,acc=>by
  have e:acc.toArray++dj.toArray=(acc++dj).toArray:=by simp
  have e2:(acc++dj)++(List.replicate k dj).flatten=acc++(List.replicate (k+1) dj).flatten:=by
   rw [Jx,Xx,List.append_assoc]
  rw [<- e2,<- wU dj k (acc++dj),<- e,Jx,List.foldl_cons]
section
variable {σ:St} {l b:ae} {zs:List V}
theorem Inv.FL {its':List aa} {f:Array aa->Array aa} (I:Inv X a_ σ H s) (hH:H l=some (.lst xs)) (e:s.heap.get? l=some { cls:=.type "list",data:=.seq dj.toArray n }) (hf:f dj.toArray=its'.toArray) (hv:bI ys its') (hz:ys.length<=ag) :
  Inv X a_ σ (upd H l (.lst ys)) { s with heap:=s.heap.update l (bz.mapSeq f),toks:=t' }:=by
 have q:=PySem.IsL.update e f
 rw [hf] at q
 refine I.write (x:=l) (e:=l) (by rw [hH]; exact trivial) (.inl rfl) (λb' u hb hu=>(af.get?_update_other s.heap (bz.mapSeq f) (Ne.symm hb)).trans hu) ⟨_,q⟩ ?_
 exact ⟨hz,its',_,hv,q⟩
theorem Inv.FN (I:Inv X a_ σ H s) (hv:bI ys dj) (hz:ys.length<=ag) :
  Inv X a_ σ (upd H s.heap.objs.size (.lst ys)) { s with heap:=s.heap.push { cls:=.type "list",data:=.seq dj.toArray },toks:=t' } :=
 I.laid (λ_ _ q=>af.get?_push_of_some _ q) (Qg _) ⟨hz,dj,0,hv,af.get?_push_size _ rfl⟩
theorem Inv.fresh (I:Inv X a_ σ H s):H s.heap.objs.size=none:=I.d_.fresh (Qg _)
theorem Inv.xt (I:Inv X a_ σ H s) (hH:H l=some (.lst xs)):xs.length<=ag/\∃ (dj:List aa) (n:Nat),bI xs dj/\xs.length=dj.length/\s.heap.get? l=some { cls:=.type "list",data:=.seq dj.toArray n }:=by
 obtain ⟨z,dj,n,r,e⟩:=I.d_ l _ hH
 exact ⟨z,dj,n,r,r.length,e⟩
theorem aDA (h:n<=ag):aq.List.listTooLong n=false:=by
 unfold aq.List.listTooLong
 exact decide_eq_false (by omega)
end
def sS:V->List V->Hp->VK->Prop:=λx vs H Q=>∃ l xs y,x=.ref l/\vs = [y]/\H l=some (.lst xs)/\xs.length < ag/\Q .ft (upd H l (.lst (xs++[y])))
theorem fP:XN X "list.append" sS:=by
 intro a_ s σ H x vs v us Q I rx rv h
 obtain ⟨l,xs,y,rfl,rfl,hH,hz,q⟩:=h
 cases rx
 obtain ⟨u,rfl,ru⟩:=rv.one
 obtain ⟨z,dj,n,r,hl,e⟩:=I.xt hH
 refine Uq F.slot_list_append ⟨_,e,rfl⟩ F.entry_list_append (F.args_list_append_2 _ _) (PySem.list_append l dj.toArray n u (by rw [Qk]; omega)) ⟨e,?_⟩
 refine ⟨.ft,_,I.FL (its':=dj++[u]) hH e (by simp) (r.append (.cons ru .nil)) ?_,rfl,q⟩
 rw [Qe,List.length_singleton]
 omega
def aGY:V->List V->Hp->VK->Prop:=λx vs H Q=>∃ l xs i k y,x=.ref l/\vs = [.int i]/\H l=some (.lst xs)/\-(2^63)<=i/\i < 2^63/\seqIndex? i xs.length=some k/\xs[k]?=some y/\Q y (upd H l (.lst (xs.eraseIdx k)))
theorem Wz:XN X "list.pop" aGY:=by
 intro a_ s σ H x vs v us Q I rx rv h
 obtain ⟨l,xs,i,k,y,rfl,rfl,hH,h1,h2,hk,hy,q⟩:=h
 cases rx
 obtain ⟨u,rfl,ru⟩:=rv.one
 obtain ⟨t,rfl⟩:=ru
 obtain ⟨z,dj,n,r,hl,e⟩:=I.xt hH
 obtain ⟨w,hw,i4⟩:=r.get hy
 refine Uq F.slot_list_pop ⟨_,e,rfl⟩ F.entry_list_pop (F.args_list_pop_2 _ _)
  (MeetsSeq.list_pop_at l dj.toArray n i t k w (fitsIndex_both h1 h2) (by rw [Qk,<- hl]; exact hk) (by rw [<- Array.getElem?_toList]; exact hw) (by rw [Qk]; omega)) ⟨e,?_⟩
 refine ⟨y,_,I.FL (its':=dj.eraseIdx k) hH e ?_ (r.eraseIdx k) ?_,i4,q⟩
 ·show dj.toArray.eraseIdxIfInBounds k=(dj.eraseIdx k).toArray
  rw [List.eraseIdxIfInBounds_toArray]
 ·have:=wT xs k
  omega
def TJ:R2:=λx y H Q=>∃ l b xs zs,x=.ref l/\y=.ref b/\H l=some (.lst xs)/\H b=some (.lst zs)/\xs.length+zs.length<=ag/\∀ p,H p=none->Q (.ref p) (upd H p (.lst (xs++zs)))
theorem iD:iy X (binaryOp .Add) TJ:=by
 intro a_ s σ H x y v u Q I rx ry h
 obtain ⟨l,b,xs,zs,rfl,rfl,hH,hB,hz,q⟩:=h
 cases rx
 cases ry
 obtain ⟨z,dj,n,r,hl,e⟩:=I.xt hH
 obtain ⟨z2,ni,n2,r2,pk,e2⟩:=I.xt hB
 refine PySem.P.add_list e e2 ?_ (by rw [Qk,Qk]; omega)
 have ea:dj.toArray++ni.toArray=(dj++ni).toArray:=by simp
 rw [ea]
 exact ⟨.ref _,_,I.FN (t':=s.toks) (r.append r2) (by rw [Qe]; omega),rfl,q _ I.fresh⟩
def aIF:R2:=λx y H Q=>∃ l k xs,x=.ref l/\y=.int k/\H l=some (.lst xs)/\-(2^63)<=k/\k < 2^63/\xs.length*k.toNat<=ag /\
 ∀ p,H p=none->Q (.ref p) (upd H p (.lst (List.replicate k.toNat xs).flatten))
theorem aFe (xs:List α) (k:Nat):(List.replicate k xs).flatten.length=k*xs.length:=by
 induction k with
 | zero=>simp
 | succ k ih=>rw [Jx,Xx,Qe,ih,Nat.succ_mul,Nat.add_comm]
theorem U':iy X (binaryOp .Mult) aIF:=by
 intro a_ s σ H x y v u Q I rx ry h
 obtain ⟨l,k,xs,rfl,rfl,hH,h1,h2,hz,q⟩:=h
 cases rx
 obtain ⟨t,rfl⟩:=ry
 obtain ⟨z,dj,n,r,hl,e⟩:=I.xt hH
 have hlen:dj.toArray.size*k.toNat<=ag:=by rw [Qk,<- hl]; exact hz
 have Oa:¬ dj.toArray.size*k.toNat > (2^63 - 1) / 8:=by
  have:(ag:Nat)<=(2^63 - 1) / 8:=by decide
  omega
 have N1:¬ (!Builtin.List.listFitsIndex k)=true:=by
  rw [fitsIndex_both h1 h2]
  exact Qr
 have Gi:¬ aq.List.listTooLong (dj.toArray.size*k.toNat)=true:=by
  rw [aDA hlen]
  exact Qr
 have oj:List.foldl (λx1 x2=>x1++x2) #[] (List.replicate (if dj.toArray.isEmpty=true then 0 else k.toNat) dj.toArray)=(List.replicate k.toNat dj).flatten.toArray:=by
  have f0:∀ m:Nat,List.foldl (λx1 x2=>x1++x2) #[] (List.replicate m dj.toArray)=(List.replicate m dj).flatten.toArray:=λm=>by
   have:=wU dj m []
   rw [Yx] at this
   exact this
  rw [f0]
  cases dj with
  | nil=>simp
  | cons a r'=>rw [if_neg (by simp)]
 refine wpAny_binaryOp_repeat_ref (T := "list") (U := "int") (by decide) ⟨_,e,rfl⟩ (λs'=>Rad s' k t) noFill_list_mul F.fills_int_mul F.slot_int_rmul repeat_list F.slot_int_index.lookup
  (Uq F.slot_int_rmul (Rad s k t) F.entry_int_rmul (F.args_int_rmul_2 _ _) (int___rmul___int_list k t l dj.toArray n)
   ⟨e,rfl,⟨_,e,rfl⟩,Uq F.slot_list_mul ⟨_,e,rfl⟩ F.entry_list_mul (F.args_list_mul_2 _ _) (AutoListH.list___mul___list_int_3 l dj.toArray n k t N1 Oa Gi) ⟨e,?_⟩⟩)
 rw [oj]
 exact ⟨.ref _,_,I.FN (t':=s.toks) (r.rep k.toNat) (by rw [aFe,Nat.mul_comm]; exact hz),rfl,q _ I.fresh⟩
end L2
namespace X2
open PySem PySem.W PySem.Calls PyProof.Rows
theorem sO {P:Params}:∀ (ns:List Int) (vs:List aa),WellAll P h vs (ns.map WData.int)->IntsAre vs ns:=by
 intro ns
 induction ns with
 | nil =>
  intro vs w
  rw [Xo] at w
  cases w
  exact .nil
 | cons n ns ih =>
  intro vs w
  rw [Qw] at w
  cases w with
  | cons a b =>
   cases a
   exact .cons _ _ (ih _ b)
theorem aCL {l:OpenLaw} (hn:l.most=some n) {P:Params} {args:List WData} {vals:List aa} (Ak:l.row.toRowW.claim.pre args=true) (Kt:WellAll P h vals args) :
  ∃ a vs ns,vals = [aa.ref a]/\args = [WData.list (ns.map WData.int)]/\h.get? a=some { cls:=.type "list",data:=.seq vs.toArray }/\IntsAre vs ns/\ns.length<=n:=by
 have b?:WShape.hasAll [] args [.list .int]=true:=(pre_splitW Ak).1
 have hc:l.pre.holds [] { args:=args }=true:=(pre_splitW Ak).2
 obtain ⟨d,r,rfl,h1,h2⟩:=hasAllW_cons b?
 obtain rfl:=hasAllW_nil h2
 obtain ⟨xs,rfl,h3⟩:=hasW_list h1
 obtain ⟨ns,rfl⟩:=items_int h3
 have hlen:ns.length<=n:=by
  unfold OpenLaw.pre at hc
  have h4:(WTm.not (.lt (.lit (.int (n:Int))) (.len (.arg 0)))).holds [] { args:=[.list (ns.map .int)] }=true:=by
   have h4:=(holds_andW hc).1
   rw [hn] at h4
   exact h4
  have h5:=condW_of h4 (w_not (w_lt w_lit (w_len_list (w_arg rfl))))
  rw [Qc] at h5
  refine Nat.le_of_not_lt λq=>?_
  have q':(n:Int) < ((ns.length:Nat):Int):=by omega
  first
   | (rw [decide_eq_true q'] at h5; exact absurd h5 (by decide))
   | (simp at h5; omega)
 cases Kt with
 | cons w1 w2 =>
  cases w2
  cases w1 with
  | list ho CT=>exact ⟨_,_,ns,rfl,rfl,ho,sO ns _ CT,hlen⟩
theorem aCM (l:OpenLaw) (args:List WData):l.row.toRowW.claim.post args (.bool true) args=true :=
 postW_of (r:=l.row.toRowW) (X:=(true==true))
  (show WShape.has [] (.bool true) .bool=true by first | rfl | decide | simp [WShape.has,WShape.arms,WShape.armsAll])
  (show (WTm.eq .res (.lit (.bool true))).value [] { args:=args,res:=some (.bool true),after:=args }=some (.bool (true==true)) from w_eq_bool (w_res rfl) w_lit) rfl
theorem qo {l:OpenLaw} {q:bo} {d:DefRec} (hn:l.most=some n) (Ex:d.params.defaults = []) (call:∀ (w:bq) (jk f':ah) (mg mb:ax->Option aa) (fa:ae) (o:bz) (pm cd doc:aa) (a:ae) (vs:List aa) (ns:List Int),
   Ground q loose [] XP w jk mg mb f'.heap->YP w f'.heap ->
   f'.heap.get? fa=some o->o.data=.func (docDef d.name d.params d.body d.scope pm cd doc)->f'.heap.CodeRec cd d.name->mg d.name=some (.ref fa) ->
   f'.heap.get? a=some { cls:=.type "list",data:=.seq vs.toArray }->IntsAre vs ns->ns.length<=n->f'.gens = #[] ->
   codeAny (ak l.prog w) callerA (.call (.ref fa) ⟨[.ref a],[]⟩) (λr s'=>r=.ok (.ret (.bool true))/\OldK f'.heap s'.heap/\s'.os=f'.os/\AllBare s'.gens) f') :
  WalkO q loose XP YP l.row.toRowW d [] (λf vs=>Mq f vs):=by
 intro w jk f' mg mb G Y fa o pm cd doc dV kV ho hd mi hD AV hg args vals as Ak aae hrd Kt zq
 obtain rfl:dV=.none:=Dflts.none hD Ex
 obtain rfl:kV=.none:=Dflts.noKw hD
 obtain ⟨a,vs,ns,rfl,rfl,CH,hints,hlen⟩:=aCL hn Ak Kt
 refine enter_call (Uv (call w jk f' mg mb fa o pm cd doc a vs ns G Y ho (fd_plain hd) mi AV CH hints hlen hg) λr s' hq=>?_)
 obtain ⟨rfl,h2,h3,h4⟩:=hq
 exact ⟨.inl ⟨.bool true,.bool true,[],rfl,λ_=>rfl,.bool true,aCM l _,λ_=>⟨List.Pairwise.nil,λ_ hm=>(nomatch hm)⟩⟩,h2,h3,h4⟩
section
variable {K:Frag}
end
end X2
namespace L2
open PySem PySem.Spec PyProof.Rows
theorem wV:∀ {vs:List aa} {ns:List Int},IntsAre vs ns->bI (ns.map V.int) vs
 := by
 intro vs ns h
 induction h with
 | nil=>exact .nil
 | cons n t h ih=>exact .cons ⟨t,rfl⟩ ih
noncomputable def iY (s:bg):Arguments:=match s with
 | .FunctionDef _ a _ _ _ _ _ _ _ _=>a
 | _=>{ posonlyargs:=[],args:=[],vararg:=none,kwonlyargs:=[],kw_defaults:=[],kwarg:=none,defaults:=[] }
noncomputable def eZ (s:bg):List bg:=match s with
 | .FunctionDef _ _ b _ _ _ _ _ _ _=>b
 | _=>[]
noncomputable def aI (s:bg):c8:=match s with
 | .FunctionDef _ _ _ _ _ _ sc _ _ _=>sc
 | _=>{ kind:=.function,names:=[],isGenerator:=false,isCoroutine:=false }
abbrev d7:Bk:=λ_ _ _ _ _ _=>False
abbrev E0:XK:=λ_ _ _=>False
theorem gJ:mP d7 X E0:=λ_ _ _ _ _ _ _ h=>h.elim
structure sg (K:Rb) (x qual:ax) (st:bg) (f:ae) (fd:az):Prop where
 ex:∃ (oc:aa) (od:Option ae) (kV doc pm:aa) (an:Option ae) (fh ct:aa) (uw:Array (Option aa)),
  fd=Tg x qual (iY st) (eZ st) (aI st) .none kV doc pm an fh ct/\K.lookup f=some ⟨oc,od,.func fd,uw⟩/\Uc K fh qual=true
 kp:Tc K (.ref f)=true
theorem sg.ok {x:ax} {k:Nat} (F:sg K x qual st f fd) (S:c_ N ps (aI st)) (len:∀ vs H Q E,sp vs H Q E->vs.length=ps.length) (i8:∀ (fh:aa) (A:bw) (outer:List cy) (s:ah) (H:Hp) (vs:List V) (Q:VK) (E:XK),dz k (A.deeper (envOfC qual (aI st) s.heap.objs.size f fh))->sp vs H Q E ->
   ∃ t,m9 (oG d7 P w K mg base N qual (aI st) f fh A outer s H E).wo (eZ st) t/\t { nx:=λ_ H'=>Q .ft H',rt:=Q } (start N vs) H):b_ P w K mg base d7 (k+1) f fd ps sp:=by
 obtain ⟨oc,od,kV,doc,pm,an,fh,ct,uw,rfl,lk,mi⟩:=F.ex
 refine L6 lk mi S len λA outer s H vs Q E hr t9=>?_
 obtain ⟨t,h,q⟩:=i8 fh A outer s H vs Q E hr t9
 exact ⟨t,h.wo,q⟩
theorem sg.oK {x:ax} {k:Nat} (F:sg K x qual st f fd) (S:c_ N ps (aI st)) (i8:∀ (fh:aa) (A:bw) (outer:List cy) (s:ah) (H:Hp) (vs:List V) (Q:VK) (E:XK),dz k (A.deeper (envOfC qual (aI st) s.heap.objs.size f fh))->sp vs H Q E ->
   ∃ t,m9 (oG d7 P w K mg base N qual (aI st) f fh A outer s H E).wo (eZ st) t/\t { nx:=λ_ H'=>Q .ft H',rt:=Q } (start N vs) H) (len:autoParam (∀ vs H Q E,sp vs H Q E->vs.length=ps.length) L2.Oz):b_ P w K mg base d7 (k+1) f fd ps sp:=F.ok S len i8
theorem sg.binds {x:ax} (F:sg K x qual st f fd) (h:∀ (kV doc pm:aa) (an:Option ae) (fh ct:aa) (us:List aa),us.length=ps.length->c7 (Tg x qual (iY st) (eZ st) (aI st) .none kV doc pm an fh ct) ⟨us,[]⟩=pure (ps.zip us)):jU K fd ps []:=by
 obtain ⟨oc,od,kV,doc,pm,an,fh,ct,uw,rfl,lk,mi⟩:=F.ex
 exact .all (h kV doc pm an fh ct)
theorem MP {x:ax} {kV:aa} (l:K.lookup f=some ⟨oc,od,.func (Tg x qual (iY st) (eZ st) (aI st) .none kV doc pm an fh ct),uw⟩) (c:Uc K fh qual=true) (k:Tc K (.ref f)=true):sg K x qual st f (Tg x qual (iY st) (eZ st) (aI st) .none kV doc pm an fh ct):=⟨⟨oc,od,kV,doc,pm,an,fh,ct,uw,rfl,l,c⟩,k⟩
theorem bV {k:Nat} (hr:dz k A):A.units+1 < cm:=Xk (Nat.add_le_add_left (by decide:1<=64) _) hr.units
theorem wW (h:n<=1000):n < ag:=Xk h (by decide)
theorem pv (i:Nat) {x:ax} (hN:autoParam (X.N[i]?=some x) L2.gc) (hv:IE X.env.scope x:=by first | exact Or.inl rfl | exact Or.inr (Or.inl rfl) | exact Or.inr (Or.inr rfl)) (hd:autoParam ((x==("__debug__" : ax))=false) L2.jd) (mi:autoParam ((x==("__classdict__" : ax))=false) L2.jd):PE X (.Name x pos) (pR i):=U6 hN hv hd mi
theorem oH {A:Prop} (h:B):if false=true then A else B:=by
 rw [if_neg Qr]
 exact h
theorem kN {A:Prop} (h:A):if true=true then A else B:=by
 rw [if_pos rfl]
 exact h
theorem gK {c A:Prop} [Decidable c] (h1:c->A) (h2:¬ c->B):if c then A else B:=by
 by_cases h:c
 ·rw [if_pos h]
  exact h1 h
 ·rw [if_neg h]
  exact h2 h
def aD (H H':Hp):Prop:=∀ b o,H b=some o->H' b=some o
theorem aD.refl (H:Hp):aD H H:=λ_ _ h=>h
theorem aD.trans (a:aD H H1) (b:aD H1 H2):aD H H2:=λc o h=>b c o (a c o h)
theorem aD.free (e:aD H H') {l:ae} (h:H' l=Option.none):H l=Option.none:=by
 cases q:H l with
 | none=>rfl
 | some o =>
  rw [e l o q] at h
  cases h
noncomputable def gI (env:cy):List (ax×bj)->List (ax×ae)->List (ax×ae)
 | [],acc=>acc
 | (n,k)::r,acc=>if k==.free then (match env.cells.lookup n with | some c=>gI env r ((n,c)::acc) | none=>gI env r acc) else gI env r acc
theorem Wy {env:cy}:∀ (names:List (ax×bj)) (acc:List (ax×ae)),(∀ y∈names,y.2=.free->∃ c,env.cells.lookup y.1=some c) ->
  (forIn names acc λ(x:ax×bj) (r:List (ax×ae))=>(match x with
   | (name,kind)=>if (kind==bj.free)=true then (do let a<-cellOf env name; pure (ForInStep.yield ((name,a)::r))) else pure (ForInStep.yield r):Sem (ForInStep (List (ax×ae)))))=(pure (gI env names acc):Sem _)
 | [],acc,_=>rfl
 | (n,k)::r,acc,h=>by
  have ih:=λacc=>Wy r acc λy hy=>h y (Qi _ hy)
  rw [Zf]
  by_cases hk:(k==bj.free)=true
  ·obtain ⟨c,hc⟩:=h (n,k) Qm (by simpa using hk)
   have e1:gI env ((n,k)::r) acc=gI env r ((n,c)::acc):=by
    show (if k==.free then _ else _)=_
    rw [if_pos hk]; simp only at hc; rw [hc]
   simp only at hc
   rw [e1,<- ih]
   simp only [hk,if_true,cellOf,hc]
   rfl
  ·have e1:gI env ((n,k)::r) acc=gI env r acc:=by
    show (if k==.free then _ else _)=_
    rw [if_neg hk]
   rw [e1,<- ih]
   simp only [hk,if_false]
   rfl
theorem U9 {env:cy} (h:∀ y∈scope.names,y.2=.free->∃ c,env.cells.lookup y.1=some c):closureFor scope env=pure (gI env scope.names []):=by
 unfold closureFor
 have e:=Wy scope.names [] h
 show (forIn scope.names [] _ >>= _)=_
 exact (congrArg (λz=>z >>= λr=>pure r) e).trans rfl
theorem mS {env:cy}:∀ (names:List (ax×bj)) (acc:List (ax×ae)) (n:ax) (c:ae),(n,c)∈gI env names acc->(n,c)∈acc∨env.cells.lookup n=some c
 | [],_,_,_,h=>.inl h
 | (m,k)::r,acc,n,c,h=>by
  by_cases hk:(k==bj.free)=true
  ·rw [show gI env ((m,k)::r) acc=(match env.cells.lookup m with | some c=>gI env r ((m,c)::acc) | none=>gI env r acc) from if_pos hk] at h
   cases e:env.cells.lookup m with
   | none=>rw [e] at h; exact mS r acc n c h
   | some d =>
    rw [e] at h
    rcases mS r _ n c h with q | q
    ·rcases Qj.mp q with q | q
     ·cases q; exact .inr e
     ·exact .inl q
    ·exact .inr q
  ·rw [show gI env ((m,k)::r) acc=gI env r acc from if_neg hk] at h
   exact mS r acc n c h
theorem mT {env:cy}:∀ (names:List (ax×bj)) (acc:List (ax×ae)) (n:ax),((∃ c,(n,c)∈acc)∨((n,bj.free)∈names/\∃ c,env.cells.lookup n=some c))->∃ c,(n,c)∈gI env names acc
 | [],_,_,h=>by
  rcases h with h | ⟨h,_⟩
  ·exact h
  ·cases h
 | (m,k)::r,acc,n,h=>by
  by_cases hk:(k==bj.free)=true
  ·rw [show gI env ((m,k)::r) acc=(match env.cells.lookup m with | some c=>gI env r ((m,c)::acc) | none=>gI env r acc) from if_pos hk]
   cases e:env.cells.lookup m with
   | none =>
    refine mT r acc n ?_
    rcases h with h | ⟨h,c,hc⟩
    ·exact .inl h
    ·rcases Qj.mp h with h | h
     ·cases h; rw [e] at hc; cases hc
     ·exact .inr ⟨h,c,hc⟩
   | some d =>
    refine mT r _ n ?_
    rcases h with ⟨c,h⟩ | ⟨h,c,hc⟩
    ·exact .inl ⟨c,Qi _ h⟩
    ·rcases Qj.mp h with h | h
     ·cases h; exact .inl ⟨d,Qm⟩
     ·exact .inr ⟨h,c,hc⟩
  ·rw [show gI env ((m,k)::r) acc=gI env r acc from if_neg hk]
   refine mT r acc n ?_
   rcases h with h | ⟨h,c,hc⟩
   ·exact .inl h
   ·rcases Qj.mp h with h | h
    ·cases h; exact absurd rfl hk
    ·exact .inr ⟨h,c,hc⟩
theorem kJ:∀ {l:List (ax×β)} {a:ax} {b:β},l.lookup a=some b->(a,b)∈l:=PySem.mem_of_lookup_some
theorem mU:∀ {l:List (ax×β)} {a:ax} {b:β},(a,b)∈l->∃ c,l.lookup a=some c
 | (k,v)::l,a,b,h=>by
  rw [Jl]
  by_cases e:(a==k)=true
  ·rw [e]; exact ⟨v,rfl⟩
  ·have e':(a==k)=false:=by simpa using e
   rw [e']
   rcases Qj.mp h with h | h
   ·cases h; simp at e
   ·exact mU h
theorem jV {env:cy} (x:ax):∀ (names:List (ax×bj)),
  (names.map λ(n,k)=>if (k==bj.free && env.scope.kind==.function && env.kindOf n==some .cell) then (n,bj.cell) else (n,k)).lookup x =
   (names.lookup x).map λk=>if (k==bj.free && env.scope.kind==.function && env.kindOf x==some .cell) then bj.cell else k
 | []=>rfl
 | (n,k)::r=>by
  have ih:=jV (env:=env) x r
  rw [Qw]
  by_cases e:(x==n)=true
  ·have en:x=n:=by simpa using e
   subst en
   dsimp only
   by_cases c:(k==bj.free && env.scope.kind==.function && env.kindOf x==some .cell)=true
   ·rw [if_pos c,Jl,Jl,e]
    simp only [Jz,c,if_true]
   ·rw [if_neg c,Jl,Jl,e]
    simp only [Jz,c]
    rfl
  ·have e':(x==n)=false:=by simpa using e
   dsimp only
   by_cases c:(k==bj.free && env.scope.kind==.function && env.kindOf n==some .cell)=true
   ·rw [if_pos c,Jl,Jl,e']; exact ih
   ·rw [if_neg c,Jl,Jl,e']; exact ih
noncomputable def zc (z:Option ax) (C:ae):List (ax×ae):=match z with
 | none=>[]
 | some x=>[(x,C+1)]
section
variable {x:ax}
theorem lQ (h:(zc z C++cl).lookup x=some c):(z=some x/\c=C+1)∨(z≠some x/\cl.lookup x=some c):=by
 cases z with
 | none=>exact .inr ⟨λq=>(by cases q),h⟩
 | some z0 =>
  have h:((z0,C+1)::cl).lookup x=some c:=h
  rw [Jl] at h
  cases e:x==z0 with
  | true=>rw [e] at h; exact .inl ⟨by rw [show x=z0 by simpa using e],(Option.some.inj h).symm⟩
  | false=>rw [e] at h; exact .inr ⟨λq=>(by cases q; simp at e),h⟩
theorem UL (h:z≠some x):(zc z C++cl).lookup x=cl.lookup x:=by
 cases z with
 | none=>rfl
 | some z0 =>
  show ((z0,C+1)::cl).lookup x=_
  rw [Jl,show (x==z0)=false by simpa using λq=>h (by rw [q])]
theorem aHR:(zc (some x) C++cl).lookup x=some (C+1):=by
 show ((x,C+1)::cl).lookup x=_
 rw [Jl,show (x==x)=true by simp]
end
noncomputable def bY (X:Cx) (scope:c8) (z:Option ax) (N:List ax) (C:ae) (s0:ah) (H0:Hp) (fp:List ae):Cx where
 prog:=X.prog
 w:=X.w
 K:=X.K
 mg:=X.mg
 base:=X.base
 A:=X.A
 N:=N
 jk:=s0
 we:=H0
 env:={ compEnvC scope (gI X.env scope.names []) C X.env with cells:=zc z C++gI X.env scope.names [] }
 outer:=X.stack
 stack:=X.stack
 ex:=fp
 fn:=λy=>z==some y
 calm:=X.calm
 pn:=[]
 xe:=λ_ _=>False
noncomputable def nK (sc scope:c8) (z:Option ax) (own:List ax) (fk:List ax):Bool :=
 scope.kind==.function && scope.names.all (λy=>y.2 !=.cell || z==some y.1) && scope.names.all (λy=>y.2 !=.local || scope.names.lookup y.1==some .local) &&
 scope.names.all (λy=>y.2 !=.free || sc.names.lookup y.1==some .cell || sc.names.lookup y.1==some .free) && decide (own++fk).Nodup &&
 fk.all (λx=>scope.names.lookup x==some .free) && scope.names.all (λy=>y.2 !=.free || z !=some y.1)
noncomputable def ia (own:Nat) (fr:List Nat) (σ:St):St:=List.replicate own none++fr.map λj=>(σ[j]?).join
structure fv (X:Cx) (scope:c8) (z:Option ax) (own:List ax) (fr:List Nat) (fk:List ax):Prop where
 ck:nK X.env.scope scope z own fk=true
 ix:∀ (k:Nat) (x:ax),fk[k]?=some x->∃ j:Nat,fr[k]?=some j/\X.N[j]?=some x
 len:fr.length=fk.length
 cf:∀ z0,z=some z0->(∀ (n:Nat) (cl:List (ax×ae)),cellsFrom n scope.names cl=(z0,n)::cl)/\∀ h:af,pushCells h scope.names=h.push { cls:=.type "cell",data:=.cell none }
theorem fv.parts (S:fv X scope z own fr fk):scope.kind=.function/\(∀ y∈scope.names,y.2=.cell->z=some y.1)/\(∀ y∈scope.names,y.2=.local->scope.names.lookup y.1=some .local) /\
  (∀ y∈scope.names,y.2=.free->X.env.scope.names.lookup y.1=some .cell∨X.env.scope.names.lookup y.1=some .free)/\(own++fk).Nodup/\(∀ x∈fk,scope.names.lookup x=some .free)/\∀ y∈scope.names,y.2=.free->z≠some y.1:=by
 have h:=S.ck
 unfold nK at h
 simp only [Qz,Jq,decide_eq_true_eq,Yy,bne_iff_ne,ne_eq,beq_iff_eq] at h
 obtain ⟨⟨⟨⟨⟨⟨h1,h2⟩,h3⟩,h4⟩,h5⟩,h7⟩,h9⟩:=h
 exact ⟨h1,λy hy e=>(h2 y hy).resolve_left λq=>q e,λy hy e=>(h3 y hy).resolve_left λq=>q e,λy hy e=>by
  rcases h4 y hy with (q | q) | q
  ·exact absurd e q
  ·exact .inl q
  ·exact .inr q,h5,h7,λy hy e=>(h9 y hy).resolve_left λq=>q e⟩
theorem fv.env (S:fv X scope z own fr fk) {Q:cy->ah->Prop} (h:∀ nv tk,nv.Ns s.heap.objs.size (λ_=>none)->(∀ b o,s.heap.get? b=some o->nv.get? b=some o)->(z≠none->nv.IsCell (s.heap.objs.size+1) none)->Q (newEnv scope s.heap.objs.size X.env.globals (zc z s.heap.objs.size++gI X.env scope.names []) X.env.qual none .none (some X.env) builtinsNs) { s with heap:=nv,toks:=tk }) :
  ai M A (newFunctionEnv scope X.env.globals (gI X.env scope.names []) [] X.env.qual none .none (some X.env)) Q E s:=by
 obtain ⟨p1,p2,_⟩:=S.parts
 cases z with
 | none=>exact Rab (λy hy e=>by cases p2 y hy e) (by intro y hy; simp at hy) (λnv k7 G3=>h nv _ k7 (λb o e=>G3.extBut b o (Qv (af.lt_size e)) (af.get?_push_of_some _ e)) λq=>absurd rfl q) p1
 | some z0 =>
  obtain ⟨cf,pc⟩:=S.cf z0 rfl
  simp only [newFunctionEnv,Wk,if_true]
  refine Ra (wpAny_alloc ?_)
  refine Ra (wpAny_layCells _ (λname kind cells=>by cases p!:kind==bj.cell <;> simp [p!]) _ _ _ _ ?_)
  rw [cf,pc,show ({ s with heap:=s.heap.push { cls:=.type "dict",data:=.dict #[] } }:ah).heap.objs.size=s.heap.objs.size+1 from af.size_push ..]
  rw [Zm]
  refine Ra (Rc (Rc (h _ s.toks ((af.Ns.new s.heap (.type "dict")).push _) (λb o e=>af.get?_push_of_some _ (af.get?_push_of_some _ e)) λ_=>⟨{ cls:=.type "cell",data:=.cell none },by
   have e:=af.get?_push_size (s.heap.push { cls:=.type "dict",data:=.dict #[] }) (o:={ cls:=.type "cell",data:=.cell none }) rfl
   rw [af.size_push] at e
   exact e,rfl⟩)))
theorem fv.Oj (S:fv X scope z own fr fk) (σ:St):(ia own.length fr σ).length=(own++fk).length:=by
 unfold ia
 rw [Qe,Qe,Jg,Qc,S.len]
theorem aDD {σ:St} {h1:af} {tk:Nat} {D:ae} {oD:bz} {m:ax->Option aa} (I:Inv X a_ σ H s) (S:fv X scope z own fr fk) (rj:∀ b∈fp,sN X a_ H b) (fu:∀ b∈fp,b < s.heap.objs.size) (hC:s.heap.objs.size<=C) (hn:h1.Ns C m) (hk:∀ b o,s.heap.get? b=some o->h1.get? b=some o) (hD:s.heap.objs.size<=D) (Ac:D≠C) (KH:h1.get? D=some oD) (K3:∀ v,oD.data≠.cell v) (xf:z≠none->h1.IsCell (C+1) none) :
  Inv (bY X scope z (own++fk) C s H fp) [(D,oD)] (ia own.length fr σ) H { s with heap:=h1,toks:=tk }:=by
 obtain ⟨p1,p2,p3,p4,p5,p7,p9⟩:=S.parts
 have below:∀ b,b < s.heap.objs.size->b≠C:=λb hb z=>Ji _ (Qn (z ▸ hb) hC)
 have ka:∀ x c,(gI X.env scope.names []).lookup x=some c->X.env.cells.lookup x=some c:=λx c e=>by
  rcases mS _ _ _ _ (kJ e) with q | q
  ·cases q
  ·exact q
 have SN:∀ x c,X.env.cells.lookup x=some c->c < s.heap.objs.size:=λx c e=>by
  obtain ⟨v,q⟩:=I.cell x c e
  exact q.lt
 have Nt:∀ b∈fp,b∉gy X.stack:=λb hb z=>by
  obtain ⟨_,f1,f2,_⟩:=rj b hb
  rcases Qj.mp (I.j6 b z) with e | e
  ·exact f1 e
  ·exact f2 e
 have Dfs:D∉gy X.stack:=λz=>by
  have q:=I.j6 D z
  rcases Qj.mp q with e | e
  ·exact Ji _ (Qn (e ▸ I.lt:D < _) hD)
  ·exact I.Cy hD e
 refine ⟨⟨I.ok.mod,p1,I.ok.glob,I.ok.blt,hC,λx y c e1 e2=>?inj,λx hx=>?has,λx c e e2=>?A9,I.ok.hd,I.ok.frames,.inl rfl,λb hb=>?EN,I.bs,Qx I.ok.Ad I.sz,λb o e hb=>?oh,Nt,I.stack,I.ju⟩,
  rfl,I.bare,Un.kept hk,⟨m,hn,λi x v e1 e2 e3=>?loc⟩,λx c e=>?cell,I.d_.fresh hC,λx c e=>?gj,λp hp=>?pin,I.d_.kept hk,S.Oj σ⟩
 case inj =>
  have EU:(zc z C++gI X.env scope.names []).lookup x=some c:=e1
  have o8:(zc z C++gI X.env scope.names []).lookup y=some c:=e2
  rcases lQ EU with ⟨r1,rfl⟩ | ⟨n1,q1⟩ <;> rcases lQ o8 with ⟨r2,e⟩ | ⟨n2,q2⟩
  ·exact Option.some.inj (r1.symm.trans r2)
  ·exact absurd (SN _ _ (ka _ _ q2)) (Nat.not_lt.mpr (Xl hC))
  ·subst e
   exact absurd (SN _ _ (ka _ _ q1)) (Nat.not_lt.mpr (Xl hC))
  ·exact I.ok.inj x y c (ka x c q1) (ka y c q2)
 case has =>
  have ux:(relabel scope X.env).names.lookup x=some .cell∨(relabel scope X.env).names.lookup x=some .free:=hx
  show ∃ c,(zc z C++gI X.env scope.names []).lookup x=some c
  by_cases hz:z=some x
  ·rw [hz,aHR]
   exact ⟨_,rfl⟩
  ·rw [UL hz]
   have hl:(relabel scope X.env).names.lookup x=_:=jV (env:=X.env) x scope.names
   rw [hl] at ux
   cases e:scope.names.lookup x with
   | none =>
    rw [e] at ux
    rcases ux with z | z <;> cases z
   | some k =>
    have sj:=kJ e
    have o?:k=.free:=by
     rw [e] at ux
     simp only [Jz,Option.some.injEq] at ux
     by_cases c:(k==bj.free && X.env.scope.kind==.function && X.env.kindOf x==some .cell)=true
     ·simp only [Qz,beq_iff_eq] at c
      exact c.1.1
     ·rw [if_neg c] at ux
      rcases ux with z | z
      ·exact absurd (p2 _ sj z) hz
      ·exact z
    subst o?
    obtain ⟨c,hc⟩:=I.ok.has x (p4 _ sj rfl)
    obtain ⟨c',fw⟩:=mT (env:=X.env) scope.names [] x (.inr ⟨sj,c,hc⟩)
    exact mU fw
 case A9 =>
  have e':(z==some x)=true:=e
  have o8:(zc z C++gI X.env scope.names []).lookup x=some c:=e2
  rcases lQ o8 with ⟨_,rfl⟩ | ⟨n1,_⟩
  ·exact Xl hC
  ·exact absurd (by simpa using e') n1
 case EN =>
  refine ⟨below b (fu b hb),λx c e=>?_⟩
  have e':(zc z C++gI X.env scope.names []).lookup x=some c:=e
  rcases lQ e' with ⟨_,rfl⟩ | ⟨_,q⟩
  ·exact λz=>Ji _ (Qn (fu b hb) (by rw [<- z]; exact Xl hC))
  ·exact (rj b hb).2.2.2.2.1 x c (ka x c q)
 case oh =>
  rcases (rj b hb).2.2.2.1 with z | z
  ·exact I.ok.oh b o e z
  ·exact absurd (Qn (af.lt_size (I.ok.bs b o e).1) z) (Ji _)
 case loc =>
  show ∃ u,bR v u/\TC _ _ _ x u
  have EU:(own++fk)[i]?=some x:=e1
  have o8:(ia own.length fr σ)[i]?=some (some v):=e2
  unfold ia at o8
  by_cases hi:i < own.length
  ·rw [Ql (by simpa using hi),Xc] at o8
   rw [if_pos hi] at o8
   cases o8
  ·rw [Qo (by simpa using hi)] at o8
   rw [Qo (by omega)] at EU
   rw [Jg,Qh] at o8
   obtain ⟨j,vt,BQ⟩:=S.ix _ _ EU
   rw [vt] at o8
   simp only [Jz,Option.some.injEq] at o8
   have jo:σ[j]?=some (some v):=by
    cases q:σ[j]? with
    | none=>rw [q] at o8; cases o8
    | some w=>rw [q] at o8; exact congrArg some o8
   have qc:=p7 x (Qd EU)
   have sj:=kJ qc
   have χ:z≠some x:=p9 _ sj rfl
   have kx:=p4 _ sj rfl
   have YM:IE X.env.scope x:=by
    rcases kx with z | z
    ·exact .inr (.inl z)
    ·exact .inr (.inr z)
   obtain ⟨m0,P_,Dr⟩:=I.loc
   obtain ⟨u,ru,lk⟩:=Dr j x v BQ jo YM
   refine ⟨u,ru,.inr ⟨?_,?_⟩⟩
   ·show (relabel scope X.env).names.lookup x=some .cell∨(relabel scope X.env).names.lookup x=some .free
    have hl:(relabel scope X.env).names.lookup x=_:=jV (env:=X.env) x scope.names
    rw [hl,qc]
    simp only [Jz,Option.some.injEq]
    by_cases c:(bj.free==bj.free && X.env.scope.kind==.function && X.env.kindOf x==some .cell)=true
    ·rw [if_pos c]; exact .inl rfl
    ·rw [if_neg c]; exact .inr rfl
   ·rcases lk with ⟨kl,_⟩ | ⟨_,c,hc,iq⟩
    ·have ν:X.env.scope.names.lookup x=some .local:=kl
     rcases kx with z | z <;> (have z':X.env.scope.names.lookup x=_:=z; rw [ν] at z'; cases z')
    ·obtain ⟨c',fw⟩:=mT (env:=X.env) scope.names [] x (.inr ⟨sj,c,hc⟩)
     obtain ⟨c2,yq⟩:=mU fw
     have ec:c2=c:=by
      have:=ka x c2 yq
      rw [hc] at this
      exact (Option.some.inj this).symm
     subst ec
     obtain ⟨oc,ho,hd⟩:=iq
     exact ⟨c2,(UL χ).trans yq,oc,hk _ _ ho,hd⟩
 case cell =>
  have e':(zc z C++gI X.env scope.names []).lookup x=some c:=e
  rcases lQ e' with ⟨_,rfl⟩ | ⟨_,q⟩
  ·exact ⟨none,xf λq=>by simp_all⟩
  ·obtain ⟨v,o,ho,hd⟩:=I.cell x c (ka x c q)
   exact ⟨v,o,hk _ _ ho,hd⟩
 case gj =>
  have e':(zc z C++gI X.env scope.names []).lookup x=some c:=e
  rcases lQ e' with ⟨_,rfl⟩ | ⟨_,q⟩
  ·exact I.d_.fresh (Xl hC)
  ·exact I.gj x c (ka x c q)
 case pin =>
  have G6:p∈([]:List (ae×bz))++[(D,oD)]:=hp
  simp only [Yx,Qu] at G6
  subst G6
  exact ⟨KH,I.d_.fresh hD,Ac,Dfs,K3⟩
structure ja (P:bo) (w:bq) (A:bw) (e:ba) (d:Nat) (tg iter:ba) (ifs:List ba) (bd:cy->ae->Sem Unit):Prop where
 Gv:∀ (it:aa) (D:ae) (env:cy),A.under (.compLoop e d it (.ref D) env)=A/\(ak P w).den (.compLoop e d it (.ref D) env)=(compTurn e d it (.ref D) env).onRaise (λx=>do noteFrame x env; theTreesLotGoes x)
 turn:∀ (it:aa) (D:ae) (env:cy),compTurn e d it (.ref D) env=(do
   standAt iter.pos
   match<-pyNext it with
   | none=>pure (.done .next)
   | some v =>
    letOwnedTupleGo tg it v
    assign tg env v
    let mut ok:=true
    for c in ifs do
     if ok then ok<-isTrue c env (eval c env)
    if ok then bd env D
    again (.compLoop e d it (.ref D) env))
 start:∀ {R:Result->ah->Prop} {s:ah} {it acc:aa} {env:cy},codeAny (ak P w) A (.compLoop e d it acc env) R s->ai (ak P w) A (pyIter it) (λρ s'=>codeAny (ak P w) A (.compLoop e d ρ acc env) R s') (notedBy (ak P w) A env λx s'=>R (.error x) s') s->codeAny (ak P w) A (.compStart e d it acc env) R s
structure jg {α:Type} (P:bo) (w:bq) (A:bw) (na:Sem aa) (a0:α) (Ok:ae->α->af->Prop):Prop where
 new:∃ o0:bz,(∀ v,o0.data≠.cell v)/\o0.isFreed=false/\(∀ (h:af) D,h.get? D=some o0->Ok D a0 h)/\∀ {Q:aa->ah->Prop} {E:aa->ah->Prop} {s:ah},Q (.ref s.heap.objs.size) { s with heap:=s.heap.push o0 }->ai (ak P w) A na Q E s
 keep:∀ {D:ae} {a:α} {h h':af},Ok D a h->(∀ o,h.get? D=some o->h'.get? D=some o)->Ok D a h'
 obj:∀ {D:ae} {a:α} {h:af},Ok D a h->∃ o,h.get? D=some o/\∀ v,o.data≠.cell v
theorem aAi {bd:cy->ae->Sem Unit} {d:Nat} {D:ae} {target:ba} {it:aa} {env:cy} (LO:ja prog w A e d target iter ifs bd) (I:Nat->ah->Prop) (turn:∀ n s,I n s->ai (ak prog w) A (pyNext it) (λr f'=>match r with
   | none=>R (.ok .next) f'
   | some v=>ai (ak prog w) A (letOwnedTupleGo target it v) (λ_ O8=>ai (ak prog w) A (assign target env v) (λ_ kz =>
     ai (ak prog w) A (forIn ifs true λc r=>if r=true then do let ok<-isTrue c env (eval c env); pure (ForInStep.yield ok) else pure (ForInStep.yield r)) (λok AE =>
      if ok=true then ai (ak prog w) A (bd env D) (λ_ O3=>∃ m,m < n/\I m O3) (λ_ _=>False) AE
      else ∃ m,m < n/\I m AE) (λ_ _=>False) kz) (λ_ _=>False) O8) (λ_ _=>False) f') (λ_ _=>False) s) (n:Nat) (h:I n s) :
  codeAny (ak prog w) A (.compLoop e d it (.ref D) env) R s:=by
 refine codeAny_loop rfl I (λn s hI=>?_) n h
 rw [(LO.Gv it D env).1,(LO.Gv it D env).2]
 refine wpAny_noted ?_
 rw [LO.turn]
 refine Ra (Va (Ra (Rj (turn n s hI) (λr f' nv=>?_) λ_ _ h'=>h'.elim)))
 cases r with
 | none=>exact Rc nv
 | some v =>
  refine Ra (Rj nv (λ_ O8 Of=>?_) λ_ _ h'=>h'.elim)
  refine Ra (Rj Of (λ_ kz B1=>Ra (Rj B1 (λok AE Ho=>?_) λ_ _ h'=>h'.elim)) λ_ _ h'=>h'.elim)
  cases ok with
  | false=>exact Rc ⟨rfl,Ho⟩
  | true=>exact Ra (Rj Ho (λ_ O3 K!=>Rc ⟨rfl,K!⟩) λ_ _ h'=>h'.elim)
def PF (X:Cx) (ifs:List ba) (t:TT):Prop :=
 ∀ (a_:List (ae×bz)) (s:ah) (σ:St) (H:Hp) (Q:Bool->Hp->Prop),Inv X a_ σ H s->t σ H Q ->
  ai (ak X.prog X.w) X.A (forIn ifs true λc r=>if r=true then do let ok<-isTrue c X.env (eval c X.env); pure (ForInStep.yield ok) else pure (ForInStep.yield r)) (TP X a_ σ Q) X.xe s
def Ba:TT:=λ_ H Q=>Q true H
theorem eO:PF X [] Ba:=λ_ _ _ H _ I h=>wpAny_tests_nil ⟨H,I,h⟩
theorem yA {c:ba} {t:TT} (h:PT X c t):PF X [c] t:=λa_ s σ H Q I hq=>wpAny_tests_one (h a_ s σ H Q I hq)
def mj (J:It) (a0:α) (Gp:St) (H1:Hp) (q:α->St->Hp->Prop) (g:TG) (tt:TT) (tb:α->St->Hp->(α->St->Hp->Prop)->Prop):Prop:=∃ W:Nat->Nat->α->St->Hp->Prop,(∃ m,W 0 m a0 Gp H1)/\∀ i m a d6 H,W i m a d6 H->(J.stop i H/\q a d6 H) ∨
 (J.go i H/\∃ N:α->St->Hp->Prop,(∀ a' fc H2,N a' fc H2->∃ m',m' < m/\W (i+1) m' a' fc H2)/\∀ x H',J.s_ i H x H'->g x d6 H' λfc H2=>tt fc H2 λb H3=>if b=true then tb a fc H3 N else N a fc H3)
def qy (te:TE) (ys:List V) (σ:St) (H:Hp) (R:List V->St->Hp->Prop):Prop:=te σ H λy H4=>ys.length < ag/\R (ys++[y]) σ H4
def UK (own:Nat) (fr:List Nat) (wi:TI) (g:TG) (tt:TT) (te:TE):TE:=λσ H Q=>wi σ H λJ H1=>mj J [] (ia own fr σ) H1 (λys _ H=>∀ p,H p=none->Q (.ref p) (upd H p (.lst ys))) g tt (qy te)
structure IU (Y:Cx) (D:ae) (ps:List (ae×bz)):Prop where
 L:D≠Y.env.locals
 ex:D∈Y.ex∨Y.jk.heap.objs.size<=D
 c:∀ x c,Y.env.cells.lookup x=some c->c≠D
 pn:∀ p∈Y.pn,p.1≠D
 fs:D∉Y.fs
 ps:∀ p∈ps,p.1≠D
section
variable {Y:Cx} {d:Nat} {gs:List Comprehension} {wi:TI} {na:Sem aa} {bd:cy->ae->Sem Unit} {a0:α} {Ok:ae->α->af->Prop} {tb:α->St->Hp->(α->St->Hp->Prop)->Prop} {ps:List (ae×bz)} {σ:St} {D:ae}
theorem Inv.ye {u:HO} (I:Inv X a_ σ H s) (hn:H D=none) (hL:D≠X.env.locals)
  (h1:X.jk.heap.objs.size<=D) (h2:∀ x c,X.env.cells.lookup x=some c->c≠D) (h3:∀ p∈X.pn++a_,p.1≠D) (hu:bS X.prog X.w (upd H D u) s.heap D u):Inv X a_ σ (upd H D u) s:=by
 have ne:∀ b u,H b=some u->b≠D:=λb u e z=>by rw [z,hn] at e; cases e
 refine I.step (g':=s.gens) (d':=s.drawn) (t':=s.toks) (h':=s.heap) (ch:=[D]) (λb hb=>?_) (λb o _ _ _ e _=>e) (λb o _ _ _ e _=>⟨o.slots,e⟩) (λb o hc _ n=>?_) (λb o _ e=>⟨o,e⟩)
  (λb xs e=>by rw [aF (ne b _ e)]; exact e) (λb o u e=>by rw [aF (ne b _ e)]; exact e) (λb ps e=>⟨#[],by rw [aF (ne b _ e),e]; simp⟩) (λ_ h=>h) (λb u e=>?_) I.bare
 ·have e:b=D:=by simpa using hb
  subst e
  exact ⟨.inr h1,hL,h2,h3⟩
 ·rw [aF (by simpa using hc)]; exact n
 ·by_cases hb:b=D
  ·subst hb
   rw [aB] at e; cases e
   exact hu
  ·rw [aF hb] at e
   exact (I.d_ b u e).ie (λc v _ q=>q) (λc q=>by rw [aF (ne c _ q)]; exact q) λc xs q=>by rw [aF (ne c _ q)]; exact q
theorem IU.put {t:Nat} {a:α} (dn:IU Y D ps) (AO:jg Y.prog Y.w Y.A na a0 Ok) (I:Inv Y ((D,o)::ps) σ H s) (sb:af.SameBut D s.heap h') (ok:Ok D a h'):∃ o',Inv Y ((D,o')::ps) σ H { s with heap:=h',toks:=t }:=by
 have hD:=(I.pin (D,o) (Qy _ (Qm ..))).2.1
 have I':Inv Y [] σ H s:=I.jv λp hp=>by cases hp
 have I11:=I'.turned (t':=t) (it:=D) (λb o hb e=>(sb.2 b hb).trans e) hD dn.L dn.ex dn.c (λp hp=>by rw [Yw] at hp; exact dn.pn p hp)
 obtain ⟨o',e',c'⟩:=AO.obj ok
 refine ⟨o',I11.jv λp hp=>?_⟩
 rcases Qj.mp hp with h | h
 ·subst h
  exact ⟨e',hD,dn.L,dn.fs,c'⟩
 ·obtain ⟨a1,a2,a3,a4,a5⟩:=I.pin p (Qy _ (Qi _ h))
  exact ⟨(sb.2 p.1 (dn.ps p h)).trans a1,a2,a3,a4,a5⟩
def pE (Y:Cx) (bd:cy->ae->Sem Unit) (Ok:ae->α->af->Prop) (tb:α->St->Hp->(α->St->Hp->Prop)->Prop):Prop:=∀ ps s σ H D o a R,IU Y D ps->Inv Y ((D,o)::ps) σ H s->Ok D a s.heap->tb a σ H R->ai (ak Y.prog Y.w) Y.A (bd Y.env D) (λ_ s'=>∃ d6 H' a' o',Inv Y ((D,o')::ps) d6 H' s'/\Ok D a' s'.heap/\R a' d6 H') Y.xe s
theorem jg.ie {a:α} {d6:St} (AO:jg Y.prog Y.w Y.A na a0 Ok) (I:Inv Y ((D,o)::ps) σ H s) (I':Inv Y ((D,o)::ps) d6 H' s') (pl:Ok D a s.heap):Ok D a s'.heap :=
 AO.keep pl λ_ e=>(I'.pin (D,o) (Qy _ (Qm ..))).1.trans ((I.pin (D,o) (Qy _ (Qm ..))).1.symm.trans e)
theorem aCN {tn:Nat->af->Prop} {a:α} {F:α->St->Hp->Prop} (LO:ja Y.prog Y.w Y.A e d tg iter ifs bd) (AO:jg Y.prog Y.w Y.A na a0 Ok) (hx:∀ v s',¬ Y.xe v s') (hc:Y.calm=true) (T:Turn Y.prog Y.w Y.K tg J fp it tn) (hg:PG Y tg g) (ht:PF Y ifs tt) (hb:pE Y bd Ok tb) (dn:IU Y D ps) (I0:Inv Y ((D,o)::ps) σ H s) (ZA:Ok D a s.heap) (OX:tn 0 s.heap) (f0:∀ b∈fp,sN Y ((D,o)::ps) H b) (w:mj J a σ H F g tt tb) (hR:∀ (s':ah) (d6:St) (H':Hp) (a':α) (o':bz),Inv Y ((D,o')::ps) d6 H' s'->Ok D a' s'.heap->F a' d6 H'->R (.ok .next) s') :
  codeAny (ak Y.prog Y.w) Y.A (.compStart e d (.ref it) (.ref D) Y.env) R s:=by
 obtain ⟨W,⟨m0,w0⟩,turn⟩:=w
 have si:∀ {H':Hp} {o':bz},(∀ b∈fp,H' b=none)->∀ b∈fp,sN Y ((D,o')::ps) H' b:=λ{H' o'} hn b hb=>by
  obtain ⟨_,q1,q2,q3,q4,q5⟩:=f0 b hb
  refine ⟨hn b hb,q1,q2,q3,q4,λp hp=>?_⟩
  rcases Jd.mp hp with h | h
  ·exact q5 p (Jn _ h)
  ·rcases Qj.mp h with h | h
   ·rw [h]; exact q5 (D,o) (Qy _ (Qm ..))
   ·exact q5 p (Qy _ (Qi _ h))
 have loop:codeAny (ak Y.prog Y.w) Y.A (.compLoop e d (.ref it) (.ref D) Y.env) R s:=by
  refine aAi LO (λn s'=>∃ i d6 H' a o,Inv Y ((D,o)::ps) d6 H' s'/\Ok D a s'.heap/\tn i s'.heap/\(∀ b∈fp,H' b=none)/\W i n a d6 H') ?_ m0 ⟨0,σ,H,a,o,I0,ZA,OX,λb hb=>(f0 b hb).1,w0⟩
  rintro n s5 ⟨i,DR,H5,ys,o,I5,Pe,C_,Hs,w5⟩
  rcases turn i n ys DR H5 w5 with ⟨stop,qn⟩ | ⟨go,N,hN,step⟩
  ·refine Rj (T.done Y rfl rfl rfl hc i _ s5 DR H5 (λ_ _=>False) I5 (si Hs) C_ stop) (λr s6 e_=>?_) λ_ _ z=>z
   obtain ⟨hr,I6⟩:=e_
   subst hr
   exact hR s6 DR H5 ys o I6 (AO.ie I5 I6 Pe) qn
  ·refine Rj (T.item Y rfl rfl rfl hc i _ s5 DR H5 (λ_ _=>False) I5 (si Hs) C_ go) (λr s6 e_=>?_) λ_ _ z=>z
   obtain ⟨u,hr,h6⟩:=e_
   subst hr
   refine Rj h6 (λ_ s7 e_=>?_) λ_ _ z=>z
   obtain ⟨x,H7,I7,r7,y7,JK,M!⟩:=e_
   have I7':=I7.pinned (si M!) (T.obj _ _ JK)
   refine Rj (hg _ s7 DR H7 x u _ I7' r7 (step x H7 y7)) (λ_ s8 e_=>?_) λv s' z=>hx v s' z
   obtain ⟨IV,H8,I8,q8⟩:=e_
   refine Rj (ht _ s8 IV H8 _ I8 q8) (λb s9 e_=>?_) λv s' z=>hx v s' z
   obtain ⟨H9,I9,q9⟩:=e_
   have Pd:Ok D ys s9.heap:=AO.ie I5 (I9.jw:Inv Y ((D,o)::ps) IV H9 s9) Pe
   have fin:∀ {s':ah} {d6:St} {H':Hp} {o':bz} {a':α},Inv Y ((D,o')::(ps++rC fp s7.heap)) d6 H' s'->Ok D a' s'.heap->N a' d6 H'->∃ m,m < n/\∃ i d6 H' a o,Inv Y ((D,o)::ps) d6 H' s'/\Ok D a s'.heap/\tn i s'.heap/\(∀ b∈fp,H' b=none)/\W i m a d6 H':=λ{s' d6 H' o' a'} I' ok q=>by
    obtain ⟨m',hm,w'⟩:=hN a' d6 H' q
    have pin:=λb (hb:b∈fp) o e=>I'.pin (b,o) (Qy _ (Qi _ (Qy _ (oY hb e))))
    refine ⟨m',hm,i+1,d6,H',a',o',I'.jv λp hp=>I'.pin p (Qy _ ?_),ok,T.keep _ _ _ JK λb hb o e=>(pin b hb o e).1,λb hb=>?_,w'⟩
    ·rcases Qj.mp hp with h | h
     ·exact h ▸ Qm ..
     ·exact Qi _ (Jn _ h)
    ·obtain ⟨o,e,_⟩:=T.obj _ _ JK b hb
     exact (pin b hb o e).2.1
   cases b with
   | false =>
    rw [if_neg Qr] at q9
    rw [if_neg Qr]
    exact fin I9 Pd q9
   | true =>
    rw [if_pos rfl] at q9
    rw [if_pos rfl]
    refine Rj (hb (ps++rC fp s7.heap) s9 IV H9 D o ys _ ⟨dn.L,dn.ex,dn.c,dn.pn,dn.fs,λp hp=>?_⟩ I9 Pd q9) (λ_ s11 e_=>?_) λv s' z=>hx v s' z
    ·rcases Jd.mp hp with h | h
     ·exact dn.ps p h
     ·exact λq=>(f0 p.1 (wM h).1).2.2.2.2.2 (D,_) (Qy _ (Qm ..)) q.symm
    ·obtain ⟨d6,H',a',o',I',ok,q⟩:=e_
     exact fin I' ok q
 exact LO.start loop (T.self Y.A 0 _ _ _ OX loop)
theorem aBg {s2:ah} {tn:Nat->af->Prop} {RR:aa->ae->Result->ah->Prop} {Q:α->Hp->Prop} (S:fv X scope z own fr fk) (LO:ja X.prog X.w X.A e 0 tg iter ifs bd) (AO:jg X.prog X.w X.A na a0 Ok) (hc:X.calm=true) (I2:Inv X a_ σ H2 s2) (T:Turn X.prog X.w X.K tg J fp it tn) (jn:tn 0 s2.heap) (f2:∀ b∈fp,sN X a_ H2 b) (hg:∀ C s0 H0 fp,PG (bY X scope z (own++fk) C s0 H0 fp) tg g) (ht:∀ C s0 H0 fp,PF (bY X scope z (own++fk) C s0 H0 fp) ifs tt) (hb:∀ C s0 H0 fp,pE (bY X scope z (own++fk) C s0 H0 fp) bd Ok tb) (w:mj J a0 (ia own.length fr σ) H2 (λa _ H=>Q a H) g tt tb) (D!:∀ (C D:ae) (s':ah) (H':Hp) (ys:α) (m:ax->Option aa),s2.heap.objs.size<=C->s2.heap.objs.size<=D->D≠C->s'.heap.Ns C m->H' C=none->H' D=none->Ok D ys s'.heap->Inv X a_ σ H' s'->Q ys H'->RR (.ref D) C (.ok .next) s') :
  ai (ak X.prog X.w) X.A na (λacc AE=>ai (ak X.prog X.w) X.A (newFunctionEnv scope X.env.globals (gI X.env scope.names []) [] X.env.qual none .none (some X.env)) (λF_ Y5 =>
   codeAny (ak X.prog X.w) X.A (.compStart e 0 (.ref it) acc { F_ with scope:=relabel scope X.env }) (RR acc F_.locals) Y5) E AE) E s2:=by
 obtain ⟨o0,n0,f0,k0,nw⟩:=AO.new
 refine nw (S.env λnv tk yd ol iq=>?_)
 dsimp only at yd ol iq ⊢
 generalize Li:s2.heap.push o0=HD at yd ol iq ⊢
 have hCs:HD.objs.size=s2.heap.objs.size+1:=by rw [<- Li,af.size_push]
 have Ac:s2.heap.objs.size≠HD.objs.size:=by omega
 have Aq:s2.heap.objs.size<=HD.objs.size:=by omega
 have below:∀ b,b < s2.heap.objs.size->b≠HD.objs.size/\b≠s2.heap.objs.size:=λb hb=>⟨by omega,by omega⟩
 have old:∀ b o,s2.heap.get? b=some o->nv.get? b=some o:=λb o e=>ol b o (Li ▸ af.get?_push_of_some _ e)
 have F4:nv.get? s2.heap.objs.size=some o0:=ol _ _ (Li ▸ af.get?_push_size _ f0)
 have yu:∀ b∈fp,b < s2.heap.objs.size:=λb hb=>by
  obtain ⟨o,e,_⟩:=T.obj _ _ jn b hb
  exact af.lt_size e
 generalize B0:s2.heap.objs.size=D at *
 generalize hCg:HD.objs.size=C at *
 have za:tn 0 nv:=T.keep _ _ _ jn λb _ o e=>old b o e
 have yp:∀ x c,(zc z C++gI X.env scope.names []).lookup x=some c->c=C+1∨X.env.cells.lookup x=some c:=λx c e=>by
  rcases lQ e with ⟨_,e⟩ | ⟨_,e⟩
  ·exact .inl e
  ·rcases mS _ _ _ _ (kJ e) with q | q
   ·cases q
   ·exact .inr q
 have I3:Inv (bY X scope z (own++fk) C s2 H2 fp) [(D,_)] (ia own.length fr σ) H2 { s2 with heap:=nv,toks:=tk } :=
  aDD (m:=λ_=>none) I2 S f2 (by rw [B0]; exact yu) (by rw [B0]; exact Aq) (yd:nv.Ns C _) old (by rw [B0]; exact Qg _) Ac F4 n0 iq
 refine aCN (Y:=bY X scope z (own++fk) C s2 H2 fp) LO AO (λ_ _ z=>z) hc T (hg C s2 H2 fp) (ht C s2 H2 fp) (hb C s2 H2 fp) ⟨Ac,.inr (by show s2.heap.objs.size<=D; rw [B0]; exact Qg _),λx c e q=>?_,λp hp=>(by cases hp),λz=>?_,λp hp=>(by cases hp)⟩ I3 (k0 _ _ F4) za (λb hb=>?_) w (λs6 Ox H6 a o I6 pl qn=>?_)
 ·rcases yp x c e with e | e
  ·exact Ji _ (Qn (Xi C) (Qx (Zn (e.symm.trans q)) Aq))
  obtain ⟨v,u⟩:=I2.cell x c e
  exact Ji _ (Qn u.lt (by rw [B0,q]; exact Qg _))
 ·rcases Qj.mp (I2.j6 D z) with e | e
  ·exact Ji _ (Qn I2.lt (by rw [B0,e]; exact Qg _))
  ·exact I2.Cy (by rw [B0]; exact Qg _) e
 ·refine ⟨(f2 b hb).1,(below b (yu b hb)).1,λz=>?_,.inl hb,λx c e=>(by
   rcases yp x c e with e | e
   ·exact λq=>Ji _ (Qn (yu b hb) (by rw [<- q,e]; exact Xl Aq))
   ·exact (f2 b hb).2.2.2.2.1 x c e),λp hp=>?_⟩
  ·have z':b∈gy X.stack:=z
   rcases Qj.mp (I2.j6 b z') with e | e
   ·exact (f2 b hb).2.1 e
   ·exact (f2 b hb).2.2.1 e
  ·rw [Qu.mp (show p∈[(D,o0)] from hp)]
   exact Ne.symm (below b (yu b hb)).2
 ·obtain ⟨m6,jc,_⟩:=I6.loc
  have p6:=I6.pin (D,o) (Qy _ (Qm ..))
  have IX:Inv X a_ σ H6 s6:=I2.qj (ch:=fp) I6.os I6.base I6.d_ I6.bare λb hb=>⟨(f2 b hb).2.2.2.1,(f2 b hb).2.1,(f2 b hb).2.2.2.2.1,(f2 b hb).2.2.2.2.2⟩
  exact D! C D s6 H6 a m6 Aq (Qg _) Ac jc I6.free p6.2.1 pl IX qn
theorem Wx {R:aa->ah->Prop} {use:Option (aa->Sem Unit)} {q:α->Hp->Prop} (S:fv X scope z own fr fk) (cl:clausesOf e=⟨tg,iter,ifs,0⟩::gs) (LO:ja X.prog X.w X.A e 0 tg iter ifs bd) (AO:jg X.prog X.w X.A na a0 Ok) (hc:X.calm=true) (hi:PI X tg iter wi) (hg:∀ C s0 H0 fp,PG (bY X scope z (own++fk) C s0 H0 fp) tg g) (ht:∀ C s0 H0 fp,PF (bY X scope z (own++fk) C s0 H0 fp) ifs tt)
  (hb:∀ C s0 H0 fp,pE (bY X scope z (own++fk) C s0 H0 fp) bd Ok tb) (hs:∀ x,foldedSetIterable iter X.env x=pure x) (I:Inv X a_ σ H s)
  (h:wi σ H λJ H1=>mj J a0 (ia own.length fr σ) H1 (λa _ H=>q a H) g tt tb)
  (hq:∀ (C D:ae) (s':ah) (H':Hp) (a:α) (m:ax->Option aa),D≠C->s'.heap.Ns C m->H' C=none->H' D=none->Ok D a s'.heap->Inv X a_ σ H' s'->q a H' ->
   (∀ b,b=C∨b=D->b≠X.env.locals/\X.jk.heap.objs.size<=b/\br < b/\(∀ x c,X.env.cells.lookup x=some c->c≠b)/\∀ p∈X.pn++a_,p.1≠b)->compPost (ak X.prog X.w) X.A X.xe use R (.ref D) C (.ok .next) s') :
  ai (ak X.prog X.w) X.A (comprehension e scope X.env pos na false (eval iter X.env) use) R X.xe s:=by
 obtain ⟨p1,p2,p3,p4,p5,p7,p9⟩:=S.parts
 refine wpAny_comprehension_free cl hs (U9 λy hy e=>I.ok.has y.1 (p4 y hy e)) p1 p3 (fi (hi a_ s σ H _ I h) λv s1 h1=>fi h1 λKm s2 h2=>?_)
 obtain ⟨it,fp,tn,J,H2,e,I2,T,jn,f2,hw⟩:=h2
 subst e
 refine aBg (RR:=λacc C=>compPost (ak X.prog X.w) X.A X.xe use R acc C) S LO AO hc I2 T jn f2 hg ht hb hw λC D s' H' a m hC hD Ac k7 EG BY pl IX z=>hq C D s' H' a m Ac k7 EG BY pl IX z λb hb=>?_
 have ic:s2.heap.objs.size<=b:=by rcases hb with rfl | rfl; exact hC; exact hD
 exact ⟨λz=>Ji _ (Qn I2.lt (by rw [<- z]; exact ic)),Qx I2.sz ic,Qn (Ya (by decide) (I2.mod.glob.keeps I2.bk).lt) ic,λx c e z=>by
  obtain ⟨v,w⟩:=I2.cell x c e
  exact Ji _ (Qn w.lt (by rw [z]; exact ic)),λp hp z=>Ji _ (Qn (af.lt_size (I2.pin p hp).1) (by rw [z]; exact ic))⟩
theorem Ww {hq:(V->Hp->Prop)->α->Hp->Prop} (S:fv X scope z own fr fk) (cl:clausesOf e=⟨tg,iter,ifs,0⟩::gs) (LO:ja X.prog X.w X.A e 0 tg iter ifs bd) (AO:jg X.prog X.w X.A na a0 Ok) (hc:X.calm=true) (ev:eval e X.env=comprehension e scope X.env pos na false (eval iter X.env) none) (hi:PI X tg iter wi) (hg:∀ C s0 H0 fp,PG (bY X scope z (own++fk) C s0 H0 fp) tg g) (ht:∀ C s0 H0 fp,PF (bY X scope z (own++fk) C s0 H0 fp) ifs tt)
  (hb:∀ C s0 H0 fp,pE (bY X scope z (own++fk) C s0 H0 fp) bd Ok tb) (hs:∀ x,foldedSetIterable iter X.env x=pure x)
  (tr:∀ {D:ae} {a:α} {H:Hp} {h:af} {Q:V->Hp->Prop},Ok D a h->H D=none->(D==br)=false->hq Q a H->∃ u,bS X.prog X.w (upd H D u) h D u/\Q (.ref D) (upd H D u)) :
  PE X e λσ H Q=>wi σ H λJ H1=>mj J a0 (ia own.length fr σ) H1 (λa _ H=>hq Q a H) g tt tb:=by
 intro a_ s σ H Q I h
 rw [ev]
 refine Wx (use:=none) S cl LO AO hc hi hg ht hb hs I h λC D s' H' a m Ac k7 EG BY pl IX q ne=>?_
 obtain ⟨c1,c2,_,c3,c4⟩:=ne C (.inl rfl)
 obtain ⟨d1,d2,d5,d3,d4⟩:=ne D (.inr rfl)
 obtain ⟨u,ou,qu⟩:=tr pl BY (beq_eq_false_iff_ne.mpr (Ne.symm (Qv d5))) q
 refine ⟨m,k7,λh' g_=>⟨.ref D,upd H' D u,?_,rfl,qu⟩⟩
 exact (IX.ye BY d1 d2 d3 d4 ou).turned (t':=s'.toks) (it:=C) (λb o hb e=>(g_.2 b hb).trans e) (by rw [aF (Ne.symm Ac)]; exact EG) c1 (.inr c2) c3 c4
def Fm (D:ae) (ys:List V) (h:af):Prop:=ys.length<=ag/\∃ dj:Array aa,h.PlainList D dj/\bI ys dj.toList
noncomputable def SO (elt:ba) (env:cy) (D:ae):Sem Unit:=do let _<-call (.builtin "list.append") [.ref D,<- eval elt env]
theorem HH:jg P w A (newList []) [] Fm where
 new:=⟨{ cls:=.type "list",dict:=none,data:=.seq ([]:List aa).toArray },λv z=>(by cases z),rfl,λh D e=>⟨Jo _,#[],⟨_,e⟩,.nil⟩,λh=>Rq h⟩
 keep:=λ⟨hl,dj,⟨k,e⟩,v⟩ f=>⟨hl,dj,⟨k,f _ e⟩,v⟩
 obj:=λ⟨_,dj,⟨k,e⟩,_⟩=>⟨_,e,λv z=>by cases z⟩
theorem UJ:ja P w A (.ListComp elt [⟨tg,iter,ifs,0⟩] scope pos) 0 tg iter ifs (SO elt) where
 Gv:=λ_ _ _=>⟨rfl,rfl⟩
 turn:=λit D env=>compTurn_list elt tg iter ifs scope pos it (.ref D) env
 start:=codeAny_compStart_list
theorem TH (he:PE Y elt te):pE Y (SO elt) Fm (qy te):=by
 intro ps s σ H D o ys R dn I pl h
 refine Ra (fi (he _ s σ H _ I h) λy s1 hx=>?_)
 obtain ⟨yv,H1,I1,r1,lt,q⟩:=hx
 obtain ⟨hl,dj,Y_,v⟩:=HH.ie I I1 pl
 have hlen:=v.length
 refine Ra (wpAny_list_append_plain Y_ (λHq Cw Cu=>Rc ?_) (by rw [<- Array.length_toList,<- hlen]; exact Je lt))
 have ok:Fm D (ys++[yv]) Hq:=⟨by rw [Qe]; exact lt,_,Cw,by rw [Array.toList_push]; exact v.append (.cons r1 .nil)⟩
 obtain ⟨o',I'⟩:=dn.put (t:=s1.toks) HH I1 Cu ok
 exact ⟨σ,H1,_,o',I',ok,q⟩
theorem YS {Q:V->Hp->Prop} {D:ae} (ok:Fm D ys h) (hn:H D=none) (q:∀ p,H p=none->Q (.ref p) (upd H p (.lst ys))):∃ u,bS P w (upd H D u) h D u/\Q (.ref D) (upd H D u) :=
 let ⟨hl,dj,⟨k,e⟩,v⟩:=ok; ⟨.lst ys,⟨hl,dj.toList,k,v,by simpa using e⟩,q _ hn⟩
theorem gF (S:fv X scope z own fr fk) (hc:X.calm=true) (hi:PI X tg iter wi) (hg:∀ C s0 H0 fp,PG (bY X scope z (own++fk) C s0 H0 fp) tg g) (ht:∀ C s0 H0 fp,PF (bY X scope z (own++fk) C s0 H0 fp) ifs tt) (he:∀ C s0 H0 fp,PE (bY X scope z (own++fk) C s0 H0 fp) elt te) (hs:autoParam (∀ x,foldedSetIterable iter X.env x=pure x) L2.y8) :
  PE X (.ListComp elt [⟨tg,iter,ifs,0⟩] scope pos) (UK own.length fr wi g tt te) :=
 Ww S rfl UJ HH hc (eval_ListComp ..) hi hg ht (λC s0 H0 fp=>TH (he C s0 H0 fp)) hs λok hn _ q=>YS ok hn q
theorem aAm {tb:List V->St->Hp->(List V->St->Hp->Prop)->Prop} {y:ax} {py xr:Pos} (S:fv X scope z own fr fk) (LO:ja X.prog X.w X.A (.ListComp elt (⟨tg,iter,ifs,0⟩::gs) scope pos) 0 tg iter ifs bd) (hc:X.calm=true) (hN:X.N.Nodup) (Kq:X.N[i]?=some y) (hx:X.env.scope.names.lookup y=some .local) (Kx:cq (.ListComp elt (⟨tg,iter,ifs,0⟩::gs) scope pos) (some (.Name y py)) xr.line X.env=pure true) (hi:PI X tg iter wi) (hg:∀ C s0 H0 fp,PG (bY X scope z (own++fk) C s0 H0 fp) tg g) (ht:∀ C s0 H0 fp,PF (bY X scope z (own++fk) C s0 H0 fp) ifs tt) (hb:∀ C s0 H0 fp,pE (bY X scope z (own++fk) C s0 H0 fp) bd Fm tb) (hs:∀ x,foldedSetIterable iter X.env x=pure x) :
  PS X (.Assign [.Name y py] (.ListComp elt (⟨tg,iter,ifs,0⟩::gs) scope pos) xr) (Cb (λσ H Q=>wi σ H λJ H1=>mj J [] (ia own.length fr σ) H1 (λys _ H=>∀ p,H p=none->Q (.ref p) (upd H p (.lst ys))) g tt tb) (bO i)):=by
 intro a_ s σ H D I h
 rw [exec_Assign_Name_used _ _ _ _ Kx]
 refine Ra (Va (Ra ?_))
 show ai _ X.A (do let _<-comprehension (.ListComp elt (⟨tg,iter,ifs,0⟩::gs) scope pos) scope X.env _ (newList []) false (eval iter X.env) (some (assign (.Name y py) X.env))) _ _ s
 refine Ra (Rj (Wx (use:=some (assign (.Name y py) X.env)) (R:=λ_ s'=>SP X a_ D .next s') S rfl LO HH hc hi hg ht hb hs I h λC L s' H' ys m H? k7 EG RM pl IX q ne=>?_) (λ_ s' hq=>Rc (Rc hq)) λ_ _ e=>e)
 obtain ⟨c1,c2,_,c3,c4⟩:=ne C (.inl rfl)
 obtain ⟨d1,d2,_,d3,d4⟩:=ne L (.inr rfl)
 obtain ⟨hl,dj,⟨k,e⟩,v⟩:=pl
 have IT:Inv X a_ σ (upd H' L (.lst ys)) s':=IX.ye RM d1 d2 d3 d4 ⟨hl,dj.toList,k,v,by simpa using e⟩
 show ai _ _ (assign (.Name y py) X.env (.ref L)) _ _ s'
 refine Rae (rA IT hN Kq (.inl hx) (v:=.ref L) rfl (λBx Cp wa=>?_) (.inr hx))
 obtain ⟨a,sb,ha⟩:=wa
 have J?:C≠a:=by
  rcases ha with e | e
  ·rw [e]; exact c1
  ·exact Ne.symm (c3 y a e)
 refine ⟨m,k7.sameBut sb J?,λh' g_=>⟨σ.set i (some (.ref L)),upd H' L (.lst ys),?_,q L RM⟩⟩
 exact Cp.turned (t':=Bx.toks) (it:=C) (λb o hb e=>(g_.2 b hb).trans e) (by rw [aF (Ne.symm H?)]; exact EG) c1 (.inr c2) c3 c4
theorem lR {y:ax} {py xr:Pos} (S:fv X scope z own fr fk) (hc:X.calm=true) (hN:X.N.Nodup) (Kq:X.N[i]?=some y) (hx:X.env.scope.names.lookup y=some .local) (Kx:cq (.ListComp elt [⟨tg,iter,ifs,0⟩] scope pos) (some (.Name y py)) xr.line X.env=pure true) (hi:PI X tg iter wi) (hg:∀ C s0 H0 fp,PG (bY X scope z (own++fk) C s0 H0 fp) tg g) (ht:∀ C s0 H0 fp,PF (bY X scope z (own++fk) C s0 H0 fp) ifs tt) (he:∀ C s0 H0 fp,PE (bY X scope z (own++fk) C s0 H0 fp) elt te) (hs:autoParam (∀ x,foldedSetIterable iter X.env x=pure x) L2.y8) :
  PS X (.Assign [.Name y py] (.ListComp elt [⟨tg,iter,ifs,0⟩] scope pos) xr) (Cb (UK own.length fr wi g tt te) (bO i)) :=
 aAm S UJ hc hN Kq hx Kx hi hg ht (λC s0 H0 fp=>TH (he C s0 H0 fp)) hs
end
inductive Kd where
 | int | bl | ft | str | tup | lst | SF
 deriving DecidableEq
def Cn (K:Rb) (H:Hp):V->Kd->Prop
 | .int _,k=>k=.int
 | .bl _,k=>k=.bl
 | .ft,k=>k=.ft
 | .str _,k=>k=.str
 | .ref p,k=>(k=.lst/\∃ xs,d9 K H p xs)∨(k=.tup/\∃ xs,d8 K H p xs)∨(k=.SF/\∃ kvs,H p=some (.dK kvs))
 | _,_=>False
theorem yB {σ:St} (I:Inv X a_ σ H s) (h:H p=some (.dK kvs)):∃ o,s.heap.get? p=some o/\o.cls=.type "dict" := by
 obtain ⟨_,_,vs,_,o,es,ep,e,ex,_⟩:=I.d_ p _ h
 exact ⟨o,e,ex.1⟩
theorem pY:eX X (.builtin "isinstance") (λxs H Q=>∃ x k,xs = [x,.ty "int"]/\Cn X.K H x k/\Q (.bl (decide (k=.int∨k=.bl))) H):=by
 intro a_ s σ H xs us Q I r h
 obtain ⟨x,k,rfl,hk,q⟩:=h
 obtain ⟨u,t,rfl,rx,rt⟩:=rZ r
 cases rt
 cases x with
 | int i=>cases hk; obtain ⟨t,rfl⟩:=rx; exact IsiPair.int_int ⟨.bl true,H,I,rfl,q⟩
 | bl b=>cases hk; cases rx; exact IsiPair.bool_int ⟨.bl true,H,I,rfl,q⟩
 | ft=>cases hk; cases rx; exact IsiPair.NoneType_int ⟨.bl false,H,I.tok _,rfl,q⟩
 | str y=>cases hk; obtain ⟨t,rfl⟩:=rx; exact IsiPair.str_int ⟨.bl false,H,I.tok _,rfl,q⟩
 | ref p =>
  cases rx
  rcases hk with ⟨rfl,xs,hx⟩ | ⟨rfl,xs,hx⟩ | ⟨rfl,kvs,hx⟩
  ·obtain ⟨dj,r',pl,hz⟩:=I.list hx; exact IsiPair.isList_int pl.isList (λ_ _ e=>e) ⟨.bl false,H,I.tok _,rfl,q⟩
  ·obtain ⟨dj,r',pl,hz⟩:=I.tuple hx; exact IsiPair.isTuple_int pl (λ_ _ e=>e) ⟨.bl false,H,I.tok _,rfl,q⟩
  ·obtain ⟨o,e,c⟩:=yB I hx; exact IsiPair.dict_int e c ⟨.bl false,H,I.tok _,rfl,q⟩
 | _=>exact hk.elim
theorem oM:eX X (.builtin "isinstance") (λxs H Q=>∃ x k,xs = [x,.ty "bool"]/\Cn X.K H x k/\Q (.bl (decide (k=.bl))) H):=by
 intro a_ s σ H xs us Q I r h
 obtain ⟨x,k,rfl,hk,q⟩:=h
 obtain ⟨u,t,rfl,rx,rt⟩:=rZ r
 cases rt
 cases x with
 | int i=>cases hk; obtain ⟨t,rfl⟩:=rx; exact IsiPair.int_bool ⟨.bl false,H,I.tok _,rfl,q⟩
 | bl b=>cases hk; cases rx; exact IsiPair.bool_bool ⟨.bl true,H,I,rfl,q⟩
 | ft=>cases hk; cases rx; exact IsiPair.NoneType_bool ⟨.bl false,H,I.tok _,rfl,q⟩
 | str y=>cases hk; obtain ⟨t,rfl⟩:=rx; exact IsiPair.str_bool ⟨.bl false,H,I.tok _,rfl,q⟩
 | ref p =>
  cases rx
  rcases hk with ⟨rfl,xs,hx⟩ | ⟨rfl,xs,hx⟩ | ⟨rfl,kvs,hx⟩
  ·obtain ⟨dj,r',pl,hz⟩:=I.list hx; exact IsiPair.isList_bool pl.isList (λ_ _ e=>e) ⟨.bl false,H,I.tok _,rfl,q⟩
  ·obtain ⟨dj,r',pl,hz⟩:=I.tuple hx; exact IsiPair.isTuple_bool pl (λ_ _ e=>e) ⟨.bl false,H,I.tok _,rfl,q⟩
  ·obtain ⟨o,e,c⟩:=yB I hx; exact IsiPair.dict_bool e c ⟨.bl false,H,I.tok _,rfl,q⟩
 | _=>exact hk.elim
theorem cX:eX X (.builtin "isinstance") (λxs H Q=>∃ x k,xs = [x,.ty "tuple"]/\Cn X.K H x k/\Q (.bl (decide (k=.tup))) H):=by
 intro a_ s σ H xs us Q I r h
 obtain ⟨x,k,rfl,hk,q⟩:=h
 obtain ⟨u,t,rfl,rx,rt⟩:=rZ r
 cases rt
 cases x with
 | int i=>cases hk; obtain ⟨t,rfl⟩:=rx; exact IsiPair.int_tuple ⟨.bl false,H,I.tok _,rfl,q⟩
 | bl b=>cases hk; cases rx; exact IsiPair.bool_tuple ⟨.bl false,H,I.tok _,rfl,q⟩
 | ft=>cases hk; cases rx; exact IsiPair.NoneType_tuple ⟨.bl false,H,I.tok _,rfl,q⟩
 | str y=>cases hk; obtain ⟨t,rfl⟩:=rx; exact IsiPair.str_tuple ⟨.bl false,H,I.tok _,rfl,q⟩
 | ref p =>
  cases rx
  rcases hk with ⟨rfl,xs,hx⟩ | ⟨rfl,xs,hx⟩ | ⟨rfl,kvs,hx⟩
  ·obtain ⟨dj,r',pl,hz⟩:=I.list hx; exact IsiPair.isList_tuple pl.isList (λ_ _ e=>e) ⟨.bl false,H,I.tok _,rfl,q⟩
  ·obtain ⟨dj,r',pl,hz⟩:=I.tuple hx; exact IsiPair.isTuple_tuple pl (λ_ _ e=>e) ⟨.bl true,H,I,rfl,q⟩
  ·obtain ⟨o,e,c⟩:=yB I hx; exact IsiPair.dict_tuple e c ⟨.bl false,H,I.tok _,rfl,q⟩
 | _=>exact hk.elim
theorem aCO (bs:List Bool) (tr:Nat->Bool) (h:∀ i b,bs[i]?=some b->tr i=b):(List.range bs.length).all tr=bs.all id:=by
 rw [Xg,Jq,Jq]
 constructor
 ·intro q b hb
  obtain ⟨i,hi⟩:=Wa hb
  have:=q i (Xz.mpr (Qa.mp hi).1)
  rw [h i b hi] at this
  exact this
 ·intro q i hi
  have yn:=Xz.mp hi
  have e:bs[i]?=some bs[i]:=Qb yn
  rw [h i _ e]
  exact q _ (Ys yn)
theorem kU (hc:X.calm=true):eX X (.builtin "all") (λxs H Q=>∃ (p:ae) (bs:List Bool),xs = [.ref p]/\d9 X.K H p (bs.map V.bl)/\Q (.bl (bs.all id)) H):=by
 intro a_ s σ H xs us Q I r h
 obtain ⟨p,bs,rfl,hx,q⟩:=h
 obtain ⟨u,rfl,rx⟩:=iC r
 cases rx
 obtain ⟨dj,rv,pl,hz⟩:=I.list hx
 have hl:=rv.length
 rw [Qc] at hl
 have fu:p < s.heap.objs.size:=by obtain ⟨o,n,e,_⟩:=pl; exact af.lt_size e
 refine call_all_walk (Uk pl.isList ?_)
 refine ⟨s.heap.objs.size,_,_,_,_,_,λi=>(bs[i]?).getD false,rfl,Walks.list (A:=X.A.in1) (I.ok.hd hc) s.heap.objs.size p (Qv fu) dj.toArray,⟨⟨_,af.get?_push_size _ rfl,rfl,rfl⟩,pl.isList.push _⟩,?_,λh' tk hk=>?_⟩
 ·intro i v s' Q' E' hP EC
  have u7:dj[i]?=some v:=by simpa using hP
  have hi:i < bs.length:=by rw [hl]; exact (Qa.mp u7).1
  obtain ⟨w,hw,i4⟩:=rv.get (i:=i) (x:=.bl bs[i]) (by rw [Qh,Qb hi]; rfl)
  rw [hw] at u7
  cases u7
  cases i4
  have e:(bs[i]?).getD false=bs[i]:=by rw [Qb hi]; rfl
  rw [<- e]
  exact Td EC
 ·have e:(List.range dj.toArray.size).all (λi=>(bs[i]?).getD false)=bs.all id:=by
   rw [Qk,<- hl]
   exact aCO bs _ λi b hb=>by rw [hb]; rfl
  rw [e]
  refine ⟨.bl _,H,I.kept (h':=h') λb o e=>hk b o ?_ (af.get?_push_of_some _ e),rfl,q⟩
  intro z
  have z':b=s.heap.objs.size:=by simpa using z
  exact Ji _ (z' ▸ af.lt_size e)
mutual
def Den (K:Rb) (H:Hp):au->V->Prop
 | .none,v=>v=.ft
 | .bool b,v=>v=.bl b
 | .int i,v=>v=.int i
 | .str x,v=>v=.str x
 | .list ds,v=>∃ a xs,v=.ref a/\d9 K H a xs/\bQ K H ds xs
 | .tuple ds,v=>∃ a xs,v=.ref a/\d8 K H a xs/\bQ K H ds xs
 | .dict kvs,v=>kvs = []/\∃ a,v=.ref a/\H a=some (.dK [])
def bQ (K:Rb) (H:Hp):List au->List V->Prop
 | [],xs=>xs = []
 | d::ds,xs=>∃ x r,xs=x::r/\Den K H d x/\bQ K H ds r
end
theorem aD.rd {a:ae} {u:HO} (e:aD H H') (h:Rd H a u):Rd H' a u:=by
 rcases h with h | ⟨o,h⟩
 ·exact .inl (e a u h)
 ·exact .inr ⟨o,e a _ h⟩
theorem aD.lj {a:ae} (e:aD H H') (h:d9 K H a xs):d9 K H' a xs:=by
 rcases h with h | h
 ·exact .inl (e.rd h)
 ·exact .inr h
theorem aD.dk {a:ae} (e:aD H H') (h:d8 K H a xs):d8 K H' a xs:=by
 rcases h with h | h
 ·exact .inl (e.rd h)
 ·exact .inr h
theorem aD.new {o:HO} (h:H p=none):aD H (upd H p o):=λb u e=>by rw [aF (iO e h)]; exact e
mutual
theorem aD.den (e:aD H H'):∀ (d:au) (v:V),Den K H d v->Den K H' d v
 | .none,v,h=>by unfold Den at h ⊢; exact h
 | .bool b,v,h=>by unfold Den at h ⊢; exact h
 | .int i,v,h=>by unfold Den at h ⊢; exact h
 | .str x,v,h=>by unfold Den at h ⊢; exact h
 | .list ds,v,h=>by unfold Den at h ⊢; obtain ⟨a,xs,h1,h2,h3⟩:=h; exact ⟨a,xs,h1,e.lj h2,aD.gh e ds xs h3⟩
 | .tuple ds,v,h=>by unfold Den at h ⊢; obtain ⟨a,xs,h1,h2,h3⟩:=h; exact ⟨a,xs,h1,e.dk h2,aD.gh e ds xs h3⟩
 | .dict kvs,v,h=>by unfold Den at h ⊢; obtain ⟨h1,a,h2,h3⟩:=h; exact ⟨h1,a,h2,e a _ h3⟩
theorem aD.gh (e:aD H H'):∀ (ds:List au) (xs:List V),bQ K H ds xs->bQ K H' ds xs
 | [],xs,h=>by unfold bQ at h ⊢; exact h
 | d::ds,xs,h=>by unfold bQ at h ⊢; obtain ⟨x,r,h1,h2,h3⟩:=h; exact ⟨x,r,h1,aD.den e d x h2,aD.gh e ds r h3⟩
end
theorem cG {i:Int}:Den K H (.int i) v↔v=.int i:=by unfold Den; exact Iff.rfl
theorem tW {b:Bool}:Den K H (.bool b) v↔v=.bl b:=by unfold Den; exact Iff.rfl
theorem tX:Den K H .none v↔v=.ft:=by unfold Den; exact Iff.rfl
theorem sT {x:ax}:Den K H (.str x) v↔v=.str x:=by unfold Den; exact Iff.rfl
theorem kW:Den K H (.list ds) v↔∃ a xs,v=.ref a/\d9 K H a xs/\bQ K H ds xs:=by
 constructor
 ·intro h; unfold Den at h; exact h
 ·intro h; unfold Den; exact h
theorem bC:Den K H (.tuple ds) v↔∃ a xs,v=.ref a/\d8 K H a xs/\bQ K H ds xs:=by
 constructor
 ·intro h; unfold Den at h; exact h
 ·intro h; unfold Den; exact h
theorem Wv {kvs:List (au×au)}:Den K H (.dict kvs) v↔kvs = []/\∃ a,v=.ref a/\H a=some (.dK []):=by
 constructor
 ·intro h; unfold Den at h; exact h
 ·intro h; unfold Den; exact h
theorem bZ:bQ K H [] xs↔xs = []:=by unfold bQ; exact Iff.rfl
theorem bH:bQ K H (d::ds) xs↔∃ x r,xs=x::r/\Den K H d x/\bQ K H ds r:=by
 constructor
 ·intro h; unfold bQ at h; exact h
 ·intro h; unfold bQ; exact h
theorem cA:∀ {ds:List au} {xs:List V},bQ K H ds xs->xs.length=ds.length
 | [],xs,h=>by rw [bZ.mp h]; rfl
 | d::ds,xs,h=>by
  obtain ⟨x,r,rfl,_,h3⟩:=bH.mp h
  rw [Jk,Jk,cA h3]
theorem tY:∀ {ds:List au} {xs:List V} {i:Nat} {d:au},bQ K H ds xs->ds[i]?=some d->∃ x,xs[i]?=some x/\Den K H d x
 | [],_,_,_,_,e=>by simp at e
 | d::ds,xs,0,d',h,e=>by
  obtain ⟨x,r,rfl,h2,_⟩:=bH.mp h
  simp at e; subst e
  exact ⟨x,rfl,h2⟩
 | d::ds,xs,i+1,d',h,e=>by
  obtain ⟨x,r,rfl,_,h3⟩:=bH.mp h
  obtain ⟨y,h4,h5⟩:=tY (i:=i) (d:=d') h3 (by simpa using e)
  exact ⟨y,by simpa using h4,h5⟩
theorem kX {x:V} (h:bQ K H ds xs) (e:xs[i]?=some x):∃ d,ds[i]?=some d/\Den K H d x:=by
 have hl:=cA h
 have hi:i < ds.length:=by rw [<- hl]; exact (Qa.mp e).1
 obtain ⟨y,h1,h2⟩:=tY h (Qb hi)
 rw [e] at h1; cases h1
 exact ⟨_,Qb hi,h2⟩
theorem kO:∀ {ds es:List au} {xs ys:List V},bQ K H ds xs->bQ K H es ys->bQ K H (ds++es) (xs++ys)
 | [],es,xs,ys,h,h'=>by rw [bZ.mp h]; exact h'
 | d::ds,es,xs,ys,h,h'=>by
  obtain ⟨x,r,rfl,h2,h3⟩:=bH.mp h
  exact bH.mpr ⟨x,r++ys,rfl,h2,kO h3 h'⟩
theorem sD:∀ {ds:List au} {xs:List V} (n:Nat),bQ K H ds xs->bQ K H (ds.take n) (xs.take n)
 | _,_,0,_=>by rw [Yg,Yg]; exact bZ.mpr rfl
 | [],xs,n+1,h=>by rw [bZ.mp h]; exact bZ.mpr rfl
 | d::ds,xs,n+1,h=>by
  obtain ⟨x,r,rfl,h2,h3⟩:=bH.mp h
  exact bH.mpr ⟨x,r.take n,rfl,h2,sD n h3⟩
theorem sE:∀ {ds:List au} {xs:List V} (n:Nat),bQ K H ds xs->bQ K H (ds.drop n) (xs.drop n)
 | _,_,0,h=>h
 | [],xs,n+1,h=>by rw [bZ.mp h]; exact bZ.mpr rfl
 | d::ds,xs,n+1,h=>by
  obtain ⟨x,r,rfl,h2,h3⟩:=bH.mp h
  exact sE n h3
theorem cJ:∀ {ns:List Int} {xs:List V},bQ K H (ns.map au.int) xs↔xs=ns.map V.int
 | [],xs=>bZ
 | n::ns,xs=>by
  rw [Qw,bH]
  constructor
  ·rintro ⟨x,r,rfl,h2,h3⟩
   rw [cG.mp h2,cJ.mp h3]
   rfl
  ·intro e
   exact ⟨_,_,e,cG.mpr rfl,cJ.mpr rfl⟩
theorem cV:Den K H (.tuple (ns.map .int)) v↔∃ a,v=.ref a/\d8 K H a (ns.map V.int):=by
 rw [bC]
 constructor
 ·rintro ⟨a,xs,rfl,h1,h2⟩
  rw [cJ.mp h2] at h1
  exact ⟨a,rfl,h1⟩
 ·rintro ⟨a,rfl,h⟩
  exact ⟨a,_,rfl,h,cJ.mpr rfl⟩
theorem nM:Den K H (.list (ns.map .int)) v↔∃ a,v=.ref a/\d9 K H a (ns.map V.int):=by
 rw [kW]
 constructor
 ·rintro ⟨a,xs,rfl,h1,h2⟩
  rw [cJ.mp h2] at h1
  exact ⟨a,rfl,h1⟩
 ·rintro ⟨a,rfl,h⟩
  exact ⟨a,_,rfl,h,cJ.mpr rfl⟩
def mJ:au->Kd
 | .none=>.ft | .bool _=>.bl | .int _=>.int | .str _=>.str | .list _=>.lst | .tuple _=>.tup | .dict _=>.SF
theorem Den.kd (h:Den K H d v):Cn K H v (mJ d):=by
 cases d with
 | none=>rw [tX.mp h]; rfl
 | bool b=>rw [tW.mp h]; rfl
 | int i=>rw [cG.mp h]; rfl
 | str x=>rw [sT.mp h]; rfl
 | list ds=>obtain ⟨a,xs,rfl,h1,_⟩:=kW.mp h; exact .inl ⟨rfl,xs,h1⟩
 | tuple ds=>obtain ⟨a,xs,rfl,h1,_⟩:=bC.mp h; exact .inr (.inl ⟨rfl,xs,h1⟩)
 | dict kvs=>obtain ⟨_,a,rfl,h1⟩:=Wv.mp h; exact .inr (.inr ⟨rfl,[],h1⟩)
section
variable {σ:St}
mutual
def eP:au->Bool
 | .dict _=>false
 | .list ds=>jL ds
 | .tuple ds=>jL ds
 | _=>true
def jL:List au->Bool
 | []=>true
 | d::ds=>eP d && jL ds
end
mutual
theorem Den.reads (I:Inv X a_ σ H s):∀ (d:au) (v:V) (u:aa),eP d=true->Den X.K H d v->bR v u->∃ as,Reads s.heap u d as
 | .none,v,u,_,h,r=>by rw [tX.mp h] at r; cases r; exact ⟨_,.none⟩
 | .bool b,v,u,_,h,r=>by rw [tW.mp h] at r; cases r; exact ⟨_,.bool b⟩
 | .int i,v,u,_,h,r=>by rw [cG.mp h] at r; obtain ⟨t,rfl⟩:=r; exact ⟨_,.int i t⟩
 | .str x,v,u,_,h,r=>by rw [sT.mp h] at r; obtain ⟨t,rfl⟩:=r; exact ⟨_,.str x t⟩
 | .list ds,v,u,hn,h,r=>by
  obtain ⟨a,xs,rfl,h1,h2⟩:=kW.mp h
  cases r
  obtain ⟨dj,rv,⟨o,n,e,c,_,d⟩,_⟩:=I.list h1
  obtain ⟨as,ra⟩:=bQ.reads I ds xs dj (by unfold eP at hn; exact hn) h2 rv
  exact ⟨_,.list e c d (by simpa using ra)⟩
 | .tuple ds,v,u,hn,h,r=>by
  obtain ⟨a,xs,rfl,h1,h2⟩:=bC.mp h
  cases r
  obtain ⟨dj,rv,⟨o,e,c,n,d⟩,_⟩:=I.tuple h1
  obtain ⟨as,ra⟩:=bQ.reads I ds xs dj (by unfold eP at hn; exact hn) h2 rv
  exact ⟨_,.tuple e c d (by simpa using ra)⟩
 | .dict kvs,v,u,hn,_,_=>by unfold eP at hn; cases hn
theorem bQ.reads (I:Inv X a_ σ H s):∀ (ds:List au) (xs:List V) (us:List aa),jL ds=true->bQ X.K H ds xs->bI xs us->∃ as,ReadsAll s.heap us ds as
 | [],xs,us,_,h,r=>by rw [bZ.mp h] at r; cases r; exact ⟨_,.nil⟩
 | d::ds,xs,us,hn,h,r=>by
  obtain ⟨x,rr,rfl,h2,h3⟩:=bH.mp h
  unfold jL at hn
  rw [Qz] at hn
  cases r with
  | cons r1 r2 =>
   obtain ⟨as,ra⟩:=Den.reads I d x _ hn.1 h2 r1
   obtain ⟨bs,rb⟩:=bQ.reads I ds rr _ hn.2 h3 r2
   exact ⟨_,.cons ra rb⟩
end
theorem aGZ (hu:X.A.units+64 < cm):iy X (bh .Eq) (λx y H Q=>∃ d e,Den X.K H d x/\Den X.K H e y/\eP d=true/\eP e=true/\SeqAt.shaped d=true/\SeqAt.shaped e=true/\Q (.bl (au.eqv d e)) H):=by
 intro a_ s σ H x y v u Q I rx ry h
 obtain ⟨d,e,hd,he,n1,n2,s1,s2,q⟩:=h
 obtain ⟨as,ra⟩:=Den.reads I d x v n1 hd rx
 obtain ⟨bs,rb⟩:=Den.reads I e y u n2 he ry
 exact eq_dataH ra rb s1 s2 hu ⟨.bl _,H,I,rfl,q⟩
theorem MO (hu:X.A.units+64 < cm):iy X (bh .NotEq) (λx y H Q=>∃ d e,Den X.K H d x/\Den X.K H e y/\eP d=true/\eP e=true/\SeqAt.shaped d=true/\SeqAt.shaped e=true/\Q (.bl (!PyData.eqv d e)) H):=by
 intro a_ s σ H x y v u Q I rx ry h
 obtain ⟨d,e,hd,he,n1,n2,s1,s2,q⟩:=h
 obtain ⟨as,ra⟩:=Den.reads I d x v n1 hd rx
 obtain ⟨bs,rb⟩:=Den.reads I e y u n2 he ry
 exact ne_dataH ra rb s1 s2 hu ⟨.bl _,H,I,rfl,q⟩
theorem aCP:Ae X "tuple.count" (λx vs H Q=>∃ (a:ae) (ns:List Int) (n:Int),x=.ref a/\vs = [.int n]/\d8 X.K H a (ns.map V.int)/\Q (.int (ns.count n:Nat)) H):=by
 intro a_ s σ H x v vs us Q I rx r h
 obtain ⟨a,ns,n,rfl,rfl,ha,q⟩:=h
 obtain ⟨u,rfl,t,rfl⟩:=iC r
 cases rx
 obtain ⟨dj,rv,⟨⟨cls,dd,data,sl⟩,ho,hc,k,hd⟩,wx⟩:=I.tuple ha
 simp only at hc hd
 subst hc hd
 have hi:IntsAre dj ns:=pB rv
 refine Uq Im ⟨_,ho,rfl⟩ PySem.F.entry_tuple_count (PySem.F.args_tuple_count_2 _ _) (SeqAt.tuple_countAt a dj.toArray k dd sl (.int n t) (isInt n)) ⟨ho,λy hy=>(eq_isInt n t hi y (by simpa using hy)).at _ _,?_⟩
 have e:(dj.toArray.toList.countP (isInt n))=ns.count n:=by
  simp only [Wg]
  clear q r ha rv ho wx
  induction hi with
  | nil=>rfl
  | cons m t' _ ih =>
   rw [List.countP_cons,Xa,ih]
   rfl
 rw [e]
 exact ⟨.int _,H,I.tok _,⟨_,rfl⟩,q⟩
end
theorem aCQ {x:aa} (Se:ns.length < 64) (hc:∀ Q':List aa->ah->Prop,(∀ h' tk vs,(∀ b o,s.heap.get? b=some o->h'.get? b=some o)->IntsAre vs ns->Q' vs { s with heap:=h',toks:=tk })->ai (ak prog w) A.in1 (collect x) Q' E s) (h:∀ (h1 h':af) tk out AJ,(∀ b o,s.heap.get? b=some o->h1.get? b=some o)->(∀ b o,h1.get? b=some o->h'.get? b=some o)->h'.PlainList h1.objs.size out->IntsAre out.toList AJ->AJ.Perm ns->AJ.Pairwise (·<=·)->Q (.ref h1.objs.size) { s with heap:=h',toks:=tk }) :
  ai (ak prog w) A (call (.builtin "sorted") [x]) Q E s:=by
 refine Calls.call_function_entry kind_sorted plain_sorted entry_sorted (args_sorted1 _) ?_
 unfold aq.«sorted»
 refine Ra (m:=checkCount "sorted" 1 1 _) (Rc ?_)
 refine Ra (hc _ λh1 tk vs kp hi=>?_)
 have hlen:=hi.length
 refine Ra (wpAny_newList ?_ (by rw [Rf]; omega))
 have xa:(h1.push (seqObj "list" vs.toArray 0)).get? h1.objs.size=some (seqObj "list" vs.toArray 0):=af.get?_push_size _ rfl
 refine Ra (Rx (Rz slot_list_sort ⟨_,xa,rfl⟩ entry_list_sort (list_sort_tree xa hi (by omega) λout AJ a1 a2 a3=>⟨_,rfl,?_⟩) (args_list_sort _)))
 refine Rc ⟨_,rfl,?_⟩
 obtain ⟨e,he⟩:=sortedHeap_at (out:=out) xa
 refine h h1 _ tk out AJ kp (λb o q=>?_) ⟨e,he⟩ a1 a2 a3
 rw [sortedHeap_old (Qv (af.lt_size q)) (by rw [size_push']; exact Xd (af.lt_size q))]
 exact af.get?_push_of_some _ q
noncomputable def DN (n:Nat):List Int:=(List.range n).map λ(i:Nat)=>(i:Int)
noncomputable def tab (L:Bool) (ns:List Nat):SetTable:={ mask:=7,place:=ns.toArray,dummies:=#[],finger:=0,led:=L,moves:=0,plain:=true }
noncomputable def aIG (l:List (Nat×Tok)):Array (Int×aa):=(l.map λp=>((p.1:Int),aa.int (p.1:Int) p.2)).toArray
def SX (L:Bool) (h:af) (a:ae) (l:List (Nat×Tok)):Prop:=∃ o ep,h.get? a=some o/\o.ExactSet/\o.data=.set (aIG l) ep (tab L (l.map (·.1)))
section
variable {a:ae}
end
noncomputable abbrev Led (w:bq):Bool:=!(w.params.followText "set-order")
noncomputable def two (a b:Nat) (t u:Tok):List (Nat×Tok):=if a=b then [(a,t)] else if a < b then [(a,t),(b,u)] else [(b,u),(a,t)]
section
variable {S:ae} {l:List (Nat×Tok)}
end
noncomputable def aIH (w:bq) (p:ae) (a b:Nat):HO:=.ext λh=>∃ t u,SX (Led w) h p (two a b t u)
structure Sub (prog:bo) (w:bq) (i l:ae) (n:Nat) (P:Nat->aa->Prop) (st:Nat->af->Prop):Prop where
 keep:∀ k h h',st k h->(∀ b,b=i∨b=l->∀ o,h.get? b=some o->h'.get? b=some o)->st k h'
 obj:∀ k h,st k h->(∃ o,h.get? i=some o/\∀ v,o.data≠.cell v)/\∃ o,h.get? l=some o
 item:∀ (A:bw) k (s:ah) (Q:aa->ah->Prop) (E:aa->ah->Prop),k < n->st k s.heap->(∀ v h',P k v->st (k+1) h'->af.SameBut i s.heap h'->Q v { s with heap:=h' })->ai (ak prog w) A (aq.SmallTypes.nextOf (.ref i)) Q E s
 done:∀ (A:bw) (s:ah) (Q:aa->ah->Prop) (E:aa->ah->Prop),A.handled=none->st n s.heap->(∀ h' e,af.ExtBut i s.heap h'->(∃ o,h'.get? e=some o/\o.cls=.type "StopIteration")->E (.ref e) { s with heap:=h' }) ->
  ai (ak prog w) A (aq.SmallTypes.nextOf (.ref i)) Q E s
theorem aDE (prog:bo) (w:bq) (i l:ae) (items:Array aa) (il:l≠i):Sub prog w i l items.size (λk v=>items[k]?=some v) (λk h=>h.IsListIter i l k/\h.IsList l items) where
 keep:=λk h h' st kp=>⟨st.1.at λo e=>kp i (.inl rfl) o e,st.2.at λo e=>kp l (.inr rfl) o e⟩
 obj:=λk h st=>by
  obtain ⟨⟨o,e,_,d⟩,⟨o2,e2,_⟩⟩:=st
  exact ⟨⟨o,e,λv z=>by rw [d] at z; cases z⟩,o2,e2⟩
 item:=λA k s Q E hk st hQ=>wpAny_nextOf_list_item st.1 st.2 (Array.getElem?_eq_getElem hk) λh' a b=>hQ _ h' (Array.getElem?_eq_getElem hk) ⟨a,st.2.at λo e=>b.extBut l o il e⟩ b
 done:=λA s Q E hh st hE=>wpAny_nextOf_list_end hh st.1 st.2 (Array.getElem?_eq_none (Qg _)) hE
theorem pZ {x:aa} (hit:s.heap.IsTupleIter it t i) (ht:s.heap.IsTuple t items) (hx:items[i]?=some x) (hQ:∀ h',h'.IsTupleIter it t (i+1)->af.SameBut it s.heap h'->Q x { s with heap:=h' }):ai (ak prog w) A (aq.SmallTypes.nextOf (.ref it)) Q E s:=by
 obtain ⟨o,ho,hc,hd⟩:=id hit
 obtain ⟨ol,KG,_,nl,mw⟩:=ht
 have hT:=hit.typeIs
 unfold aq.SmallTypes.nextOf
 refine Ra (Rn (name:=ax.ofString "__next__") hT Tn (Rz Tn hT Vl ?_ (Vj _)))
 refine Ra (m:=field (.ref it) 0) (Rk ho hd (x:=.ref t) rfl ?_)
 have jq:¬ ((aa.ref t==aa.none)=true):=Qr
 show ai _ _ (if (aa.ref t==aa.none)=true then _ else _) _ _ s
 rw [if_neg jq]
 refine Ra (m:=field (.ref it) 1) (Rk ho hd (x:=.int i 0) rfl ?_)
 refine Ra (m:=seqItems? (.ref t)) (Tf KG mw ?_)
 simp only [Yk,hx]
 refine Ra (wpAny_setField ho hd (by simp) (Rc ⟨x,rfl,Rc (hQ _ ?_ (af.SameBut.update ..))⟩))
 refine ⟨_,af.get?_update_self _ ho (bz.isFreed_of_fields (bz.data_mapFields hd _)),(bz.cls_mapFields ..).trans hc,?_⟩
 rw [bz.data_mapFields hd]
 simp [rawInt]
theorem rE (hh:A.handled=none) (hit:s.heap.IsTupleIter it t i) (ht:s.heap.IsTuple t items) (hx:items[i]?=none) (hE:∀ h' e,af.ExtBut it s.heap h'->(∃ o,h'.get? e=some o/\o.cls=.type "StopIteration")->E (.ref e) { s with heap:=h' }):ai (ak prog w) A (aq.SmallTypes.nextOf (.ref it)) Q E s:=by
 obtain ⟨o,ho,hc,hd⟩:=id hit
 obtain ⟨ol,KG,_,nl,mw⟩:=ht
 have hT:=hit.typeIs
 unfold aq.SmallTypes.nextOf
 refine Ra (Rn (name:=ax.ofString "__next__") hT Tn (Rz Tn hT Vl ?_ (Vj _)))
 refine Ra (m:=field (.ref it) 0) (Rk ho hd (x:=.ref t) rfl ?_)
 have jq:¬ ((aa.ref t==aa.none)=true):=Qr
 show ai _ _ (if (aa.ref t==aa.none)=true then _ else _) _ _ s
 rw [if_neg jq]
 refine Ra (m:=field (.ref it) 1) (Rk ho hd (x:=.int i 0) rfl ?_)
 refine Ra (m:=seqItems? (.ref t)) (Tf KG mw ?_)
 simp only [Yk,hx]
 refine Ra (Ih (Ra (wpAny_setField ho hd (by simp) ?_)))
 refine Ra (m:=newExc (.type "StopIteration") []) ?_
 simp only [newExc,newTuple]
 refine Ra (Rq ?_ (by size_fits))
 refine Ra (m:=firstArgMember _ _) (wpAny_of_eq (a:=aa.none) (by first | rfl | (simp only [firstArgMember]; rfl)) ?_)
 refine Rq ?_ (by size_fits)
 simp only [raiseNew]
 refine Ra (wpAny_handled ?_)
 first | rw [show A.in1.handled=none from hh] | rw [hh]
 refine Ra (Rc (wpAny_throw ?_))
 exact hE _ _ (((af.SameBut.update ..).extBut.push _).push _) ⟨_,af.get?_push_size _ rfl,rfl⟩
theorem aCS (prog:bo) (w:bq) (i l:ae) (items:Array aa) (il:l≠i):Sub prog w i l items.size (λk v=>items[k]?=some v) (λk h=>h.IsTupleIter i l k/\h.IsTuple l items) where
 keep:=λk h h' st kp=>⟨st.1.at λo e=>kp i (.inl rfl) o e,by obtain ⟨o,e,r⟩:=st.2; exact ⟨o,kp l (.inr rfl) o e,r⟩⟩
 obj:=λk h st=>by
  obtain ⟨⟨o,e,_,d⟩,⟨o2,e2,_⟩⟩:=st
  exact ⟨⟨o,e,λv z=>by rw [d] at z; cases z⟩,o2,e2⟩
 item:=λA k s Q E hk st hQ=>pZ st.1 st.2 (Array.getElem?_eq_getElem hk) λh' a b=>hQ _ h' (Array.getElem?_eq_getElem hk) ⟨a,by obtain ⟨o,e,r⟩:=st.2; exact ⟨o,b.extBut l o il e,r⟩⟩ b
 done:=λA s Q E hh st hE=>rE hh st.1 st.2 (Array.getElem?_eq_none (Qg _)) hE
abbrev iE (h:af) (z TI TO:ae) (f0:aa) (f1:Bool):Prop :=
 h.get? z=some { cls:=.type "zip",dict:=none,data:=.fields #[f0,.bool f1,.bool false,.ref TI,.ref TO],slots:=#[] }
def F0 (f:aa):Prop:=f=.none∨∃ a t,f=.int a t
theorem aAo {a:ae} {Q:Option bz->ah->Prop} (h:Q (s.heap.get? a) s):ai M A (loadIfAlive a) Q E s:=λΓ p _=>by
 show Sem.wp M Γ (.loadIfAlive a .pure) _ _ p s
 rw [Sem.wp_loadIfAlive]
 exact (Sem.wp_pure ..).mpr h
section
variable {z TI TO i1:ae} {n1:Nat}
theorem U8 {Q:Bool->ah->Prop} (hz:iE s.heap z TI TO f0 f1) (hf:F0 f0) (h1:Q true s) (h2:∀ h' b,f0≠.none->iE h' z TI TO f0 b->af.SameBut z s.heap h'->Q false { s with heap:=h' }) :
  ai (ak prog w) A (aq.SmallTypes.ownedTupleIsFree (.ref z)) Q E s:=by
 unfold aq.SmallTypes.ownedTupleIsFree
 rcases hf with rfl | ⟨a,t,rfl⟩
 ·exact Ra (Rk hz rfl (x:=.none) rfl (Rc h1))
 ·refine Ra (Rk hz rfl (x:=.int a t) rfl ?_)
  show ai (ak prog w) A (loadIfAlive a.toNat >>= _) Q E s
  refine Ra (aAo ?_)
  cases hq:s.heap.get? a.toNat with
  | none=>exact Rc h1
  | some o =>
   show ai (ak prog w) A (field (.ref z) 1 >>= _) Q E s
   refine Ra (Rk hz rfl (x:=.bool f1) rfl ?_)
   cases f1 with
   | true=>exact Rc (h2 s.heap true (by simp) hz (af.SameBut.refl _ _))
   | false =>
    show ai (ak prog w) A (setField (.ref z) 1 (.bool true) >>= _) Q E s
    refine Ra (Ry hz (by simp) λg hg b=>Rc (h2 g true (by simp) hg b))
theorem Wu {k:Nat} {a b:aa} (D:di z TI TO i1 i2 l1 l2) (S1:Sub prog w i1 l1 n1 P1 n9) (S2:Sub prog w i2 l2 n2 P2 jn) (hz:iE s.heap z TI TO f0 f1) (hf:F0 f0) (km:bx s.heap TI (.ref i1) (.ref i2)) (k9:bx s.heap TO a b) (h1:n9 k s.heap) (h2:jn k s.heap) (k1:k < n1) (k2:k < n2) (hQ:∀ h' x y Hw Ls,(f0=.none->Hw=rawInt s.heap.objs.size/\Ls=false)->P1 k x->P2 k y->F0 Hw->iE h' z TI TO Hw Ls->(∃ a b,bx h' TO a b)->n9 (k+1) h'->jn (k+1) h'->bx h' s.heap.objs.size x y->h'.objs.size=s.heap.objs.size+1 ->
   (∀ c o,c≠z->c≠TO->c≠i1->c≠i2->s.heap.get? c=some o->h'.get? c=some o)->Q (.ref s.heap.objs.size) { s with heap:=h' }) :
  ai (ak prog w) A (aq.«zip.__next__» ⟨[.ref z],[]⟩) (λfin s'=>∃ v,fin=.done (.ret v)/\Q v s') E s:=by
 refine Ra (m:=field (.ref z) 2) (Rk hz rfl (x:=.bool false) rfl ?_)
 refine Ra (m:=field (.ref z) 3) (Rk hz rfl (x:=.ref TI) rfl ?_)
 refine Ra (Tf km rfl ?_)
 refine Ra (m:=aq.SmallTypes.ownedTupleIsFree (.ref z)) (U8 hz hf ?_ λh0 fb nf PK b0=>?_)
 ·simp only [if_true]
  refine Ra (Ih ?_)
  refine Ra (Rk hz rfl (x:=.ref TO) rfl ?_)
  refine Ra (Ry hz (by simp) λg1 Kp b1=>?_)
  have Ai:iE g1 z TI TO .ellipsis f1:=Kp
  refine Ra ?_
  simp only [List.zipIdx_cons,List.zipIdx_nil,Zf,Zm]
  have s1:n9 k g1:=S1.keep _ _ _ h1 λc hc o e=>b1.extBut c o (by rcases hc with r | r <;> rw [r]; exact D.i1z; exact D.l1z) e
  refine Ra (Ra (Vx ?_))
  refine Ra (m:=aq.SmallTypes.nextOf (.ref i1)) (S1.item _ k _ _ _ k1 s1 λx g2 px t1 b2=>Rc ?_)
  have o2:bx g2 TO a b:=b2.extBut _ _ D.TOi1 (b1.extBut _ _ D.TOz k9)
  refine Ra (Tf o2 rfl ?_)
  refine Ra (Vo o2 λg3 o3 b3=>?_)
  have ZF:bx g3 TO x b:=o3
  refine Ra (Uj (Rc ?_))
  have s2:jn k g3:=S2.keep _ _ _ h2 λc hc o e=>by
   rcases hc with r | r
   ·rw [r] at e ⊢; exact b3.extBut _ _ D.TOi2.symm (b2.extBut _ _ D.i12.symm (b1.extBut _ _ D.i2z e))
   ·rw [r] at e ⊢; exact b3.extBut _ _ D.l2TO (b2.extBut _ _ D.l2i1 (b1.extBut _ _ D.l2z e))
  refine Ra (Ra (Vx ?_))
  refine Ra (m:=aq.SmallTypes.nextOf (.ref i2)) (S2.item _ k _ _ _ k2 s2 λy g4 py t2 b4=>Rc ?_)
  have o4:bx g4 TO x b:=b4.extBut _ _ D.TOi2 ZF
  refine Ra (Tf o4 rfl ?_)
  refine Ra (Vo o4 λg5 o5 b5=>?_)
  have Pg:bx g5 TO x y:=o5
  refine Ra (Uj (Rc (Rc ?_)))
  refine Ra (Tf Pg rfl ?_)
  refine Ra (Mg ?_)
  have sz:g5.objs.size=s.heap.objs.size:=by rw [b5.1,b4.1,b3.1,b2.1,b1.1]
  have z5:iE g5 z TI TO .ellipsis f1:=b5.extBut _ _ D.TOz.symm (b4.extBut _ _ D.i2z.symm (b3.extBut _ _ D.TOz.symm (b2.extBut _ _ D.i1z.symm Ai)))
  have μ:∀ c o,c≠z->c≠TO->c≠i1->c≠i2->s.heap.get? c=some o->g5.get? c=some o:=λc o c1 c2 c3 c4 e =>
   b5.extBut _ _ c2 (b4.extBut _ _ c4 (b3.extBut _ _ c2 (b2.extBut _ _ c3 (b1.extBut _ _ c1 e))))
  have JI:n9 (k+1) g5:=S1.keep _ _ _ t1 λc hc o e=>by
   rcases hc with r | r
   ·rw [r] at e ⊢; exact b5.extBut _ _ D.TOi1.symm (b4.extBut _ _ D.i12 (b3.extBut _ _ D.TOi1.symm e))
   ·rw [r] at e ⊢; exact b5.extBut _ _ D.l1TO (b4.extBut _ _ D.l1i2 (b3.extBut _ _ D.l1TO e))
  have YZ:jn (k+1) g5:=S2.keep _ _ _ t2 λc hc o e=>by
   rcases hc with r | r
   ·rw [r] at e ⊢; exact b5.extBut _ _ D.TOi2.symm e
   ·rw [r] at e ⊢; exact b5.extBut _ _ D.l2TO e
  have OA:g5.objs.size≠z:=Zd (af.lt_size z5)
  refine Ra (m:=aq.SmallTypes.ownedTupleHandOut (.ref z) (.ref g5.objs.size)) ?_
  unfold aq.SmallTypes.ownedTupleHandOut
  have z6:iE (g5.push { cls:=.type "tuple",data:=.seq #[x,y] }) z TI TO .ellipsis f1:=af.get?_push_of_some _ z5
  refine Ra (Ry z6 (by simp) λg7 z7 b7=>?_)
  have X7:iE g7 z TI TO (rawInt g5.objs.size) f1:=z7
  refine Ry X7 (by simp) λg8 z8 b8=>?_
  have OE:iE g8 z TI TO (rawInt g5.objs.size) false:=z8
  have up:∀ c o,c≠z->g5.get? c=some o->g8.get? c=some o:=λc o c1 e=>b8.extBut _ _ c1 (b7.extBut _ _ c1 (af.get?_push_of_some _ e))
  have T8:bx g8 g5.objs.size x y:=b8.extBut _ _ OA (b7.extBut _ _ OA (af.get?_push_size _ rfl))
  have Y0:g8.objs.size=s.heap.objs.size+1:=by rw [b8.1,b7.1,af.size_push,sz]
  rw [sz] at OE T8
  refine Rc ⟨_,rfl,?_⟩
  show Q (.ref g5.objs.size) _
  rw [sz]
  refine hQ g8 x y _ _ (λ_=>⟨rfl,rfl⟩) px py (.inr ⟨_,_,rfl⟩) OE ⟨_,_,up _ _ D.TOz Pg⟩ (S1.keep _ _ _ JI λc hc o e=>up c o (by rcases hc with r | r <;> rw [r]; exact D.i1z; exact D.l1z) e) (S2.keep _ _ _ YZ λc hc o e=>up c o (by rcases hc with r | r <;> rw [r]; exact D.i2z; exact D.l2z) e) T8 Y0 λc o c1 c2 c3 c4 e=>up c o c1 (μ c o c1 c2 c3 c4 e)
 ·simp only [Zg,if_false]
  have s1:n9 k h0:=S1.keep _ _ _ h1 λc hc o e=>b0.extBut c o (by rcases hc with r | r <;> rw [r]; exact D.i1z; exact D.l1z) e
  rw [<- Array.forIn_toList]
  simp only [Zf,Zm]
  refine Ra (Ra (Ra (Rx ?_)))
  refine Ra (m:=aq.SmallTypes.nextOf (.ref i1)) (S1.item _ k _ _ _ k1 s1 λx g2 px t1 b2=>Rc ?_)
  refine Rc ?_
  have s2:jn k g2:=S2.keep _ _ _ h2 λc hc o e=>by
   rcases hc with r | r
   ·rw [r] at e ⊢; exact b2.extBut _ _ D.i12.symm (b0.extBut _ _ D.i2z e)
   ·rw [r] at e ⊢; exact b2.extBut _ _ D.l2i1 (b0.extBut _ _ D.l2z e)
  refine Ra (Ra (Rx ?_))
  refine Ra (m:=aq.SmallTypes.nextOf (.ref i2)) (S2.item _ k _ _ _ k2 s2 λy g4 py t2 b4=>Rc ?_)
  refine Rc (Rc ?_)
  refine Ra (Mg ?_ (by show 2<=ag; rw [Rf]; decide))
  have sz:g4.objs.size=s.heap.objs.size:=by rw [b4.1,b2.1,b0.1]
  have z4:iE g4 z TI TO f0 fb:=b4.extBut _ _ D.i2z.symm (b2.extBut _ _ D.i1z.symm PK)
  have PJ:∀ c o,c≠z->c≠i1->c≠i2->s.heap.get? c=some o->g4.get? c=some o:=λc o c1 c3 c4 e=>b4.extBut _ _ c4 (b2.extBut _ _ c3 (b0.extBut _ _ c1 e))
  have JI:n9 (k+1) g4:=S1.keep _ _ _ t1 λc hc o e=>by
   rcases hc with r | r
   ·rw [r] at e ⊢; exact b4.extBut _ _ D.i12 e
   ·rw [r] at e ⊢; exact b4.extBut _ _ D.l1i2 e
  refine Rc ⟨_,rfl,?_⟩
  show Q (.ref g4.objs.size) _
  have T8:bx (g4.push { cls:=.type "tuple",data:=.seq #[x,y] }) g4.objs.size x y:=af.get?_push_size _ rfl
  rw [sz] at T8 ⊢
  refine hQ _ x y _ _ (λq=>absurd q nf) px py hf (af.get?_push_of_some _ z4) ⟨_,_,af.get?_push_of_some _ (PJ _ _ D.TOz D.TOi1 D.TOi2 k9)⟩ (S1.keep _ _ _ JI λc hc o e=>af.get?_push_of_some _ e) (S2.keep _ _ _ t2 λc hc o e=>af.get?_push_of_some _ e) T8 (by rw [af.size_push,sz]) λc o c1 c2 c3 c4 e=>af.get?_push_of_some _ (PJ c o c1 c3 c4 e)
theorem V7 {k:Nat} {a b:aa} {Q:Fin->ah->Prop} (hh:A.handled=none) (D:di z TI TO i1 i2 l1 l2) (S1:Sub prog w i1 l1 n1 P1 n9) (S2:Sub prog w i2 l2 n2 P2 jn) (hz:iE s.heap z TI TO f0 f1) (hf:F0 f0) (km:bx s.heap TI (.ref i1) (.ref i2)) (k9:bx s.heap TO a b) (h1:n9 k s.heap) (h2:jn k s.heap) (p8:k=n1/\k<=n2∨k=n2/\k < n1) (hE:∀ h' e,(∀ c o,c≠z->c≠TO->c≠i1->c≠i2->s.heap.get? c=some o->h'.get? c=some o)->(∃ o,h'.get? e=some o/\o.cls=.type "StopIteration")->E (.ref e) { s with heap:=h' }) :
  ai (ak prog w) A (aq.«zip.__next__» ⟨[.ref z],[]⟩) Q E s:=by
 refine Ra (m:=field (.ref z) 2) (Rk hz rfl (x:=.bool false) rfl ?_)
 refine Ra (m:=field (.ref z) 3) (Rk hz rfl (x:=.ref TI) rfl ?_)
 refine Ra (Tf km rfl ?_)
 refine Ra (m:=aq.SmallTypes.ownedTupleIsFree (.ref z)) (U8 hz hf ?_ λh0 fb nf PK b0=>?_)
 ·simp only [if_true]
  refine Ra (Ih ?_)
  refine Ra (Rk hz rfl (x:=.ref TO) rfl ?_)
  refine Ra (Ry hz (by simp) λg1 Kp b1=>?_)
  have Ai:iE g1 z TI TO .ellipsis f1:=Kp
  refine Ra ?_
  simp only [List.zipIdx_cons,List.zipIdx_nil,Zf,Zm]
  have s1:n9 k g1:=S1.keep _ _ _ h1 λc hc o e=>b1.extBut c o (by rcases hc with r | r <;> rw [r]; exact D.i1z; exact D.l1z) e
  refine Ra (Ra (Vx ?_))
  have fin:∀ (g:af) (e:ae) (g0:af),(∃ o,g.get? e=some o/\o.cls=.type "StopIteration")->iE g z TI TO .ellipsis f1->(∀ c o,c≠z->c≠TO->c≠i1->c≠i2->s.heap.get? c=some o->g.get? c=some o) ->
    ai (ak prog w) A (setField (.ref z) 0 .none) (λ_ s'=>E (.ref e) s') E { s with heap:=g }:=λg e g0 ⟨oe,BK,Dx⟩ wx kp=>by
   have u?:e≠z:=λq=>by rw [q,wx] at BK; cases BK; simp at Dx
   exact Ry wx (by simp) λg' _ b'=>hE g' e (λc o c1 c2 c3 c4 q=>b'.extBut _ _ c1 (kp c o c1 c2 c3 c4 q)) ⟨oe,b'.extBut _ _ u? BK,Dx⟩
  rcases p8 with ⟨e1,_⟩ | ⟨e2,k1⟩
  ·rw [e1] at s1
   refine Ra (m:=aq.SmallTypes.nextOf (.ref i1)) (S1.done _ _ _ _ hh s1 λg2 e b2 he=>?_)
   exact fin g2 e g1 he (b2 _ _ D.i1z.symm Ai) λc o c1 _ c3 _ q=>b2 _ _ c3 (b1.extBut _ _ c1 q)
  ·refine Ra (m:=aq.SmallTypes.nextOf (.ref i1)) (S1.item _ k _ _ _ k1 s1 λx g2 px t1 b2=>Rc ?_)
   have o2:bx g2 TO a b:=b2.extBut _ _ D.TOi1 (b1.extBut _ _ D.TOz k9)
   refine Ra (Tf o2 rfl ?_)
   refine Ra (Vo o2 λg3 o3 b3=>?_)
   refine Ra (Uj (Rc ?_))
   have s2:jn n2 g3:=by
    rw [<- e2]
    exact S2.keep _ _ _ h2 λc hc o e=>by
     rcases hc with r | r
     ·rw [r] at e ⊢; exact b3.extBut _ _ D.TOi2.symm (b2.extBut _ _ D.i12.symm (b1.extBut _ _ D.i2z e))
     ·rw [r] at e ⊢; exact b3.extBut _ _ D.l2TO (b2.extBut _ _ D.l2i1 (b1.extBut _ _ D.l2z e))
   refine Ra (Ra (Vx ?_))
   refine Ra (m:=aq.SmallTypes.nextOf (.ref i2)) (S2.done _ _ _ _ hh s2 λg4 e b4 he=>?_)
   exact fin g4 e g3 he (b4 _ _ D.i2z.symm (b3.extBut _ _ D.TOz.symm (b2.extBut _ _ D.i1z.symm Ai))) λc o c1 c2 c3 c4 q=>b4 _ _ c4 (b3.extBut _ _ c2 (b2.extBut _ _ c3 (b1.extBut _ _ c1 q)))
 ·simp only [Zg,if_false]
  have s1:n9 k h0:=S1.keep _ _ _ h1 λc hc o e=>b0.extBut c o (by rcases hc with r | r <;> rw [r]; exact D.i1z; exact D.l1z) e
  rw [<- Array.forIn_toList]
  simp only [Zf,Zm]
  refine Ra (Ra (Ra (Rx ?_)))
  rcases p8 with ⟨e1,_⟩ | ⟨e2,k1⟩
  ·rw [e1] at s1
   refine Ra (m:=aq.SmallTypes.nextOf (.ref i1)) (S1.done _ _ _ _ hh s1 λg2 e b2 he=>?_)
   exact hE g2 e (λc o c1 _ c3 _ q=>b2 _ _ c3 (b0.extBut _ _ c1 q)) he
  ·refine Ra (m:=aq.SmallTypes.nextOf (.ref i1)) (S1.item _ k _ _ _ k1 s1 λx g2 px t1 b2=>Rc ?_)
   refine Rc ?_
   have s2:jn n2 g2:=by
    rw [<- e2]
    exact S2.keep _ _ _ h2 λc hc o e=>by
     rcases hc with r | r
     ·rw [r] at e ⊢; exact b2.extBut _ _ D.i12.symm (b0.extBut _ _ D.i2z e)
     ·rw [r] at e ⊢; exact b2.extBut _ _ D.l2i1 (b0.extBut _ _ D.l2z e)
   refine Ra (Ra (Rx ?_))
   refine Ra (m:=aq.SmallTypes.nextOf (.ref i2)) (S2.done _ _ _ _ hh s2 λg4 e b4 he=>?_)
   exact hE g4 e (λc o c1 c2 c3 c4 q=>b4 _ _ c4 (b2.extBut _ _ c3 (b0.extBut _ _ c1 q))) he
end
inductive Sk where
 | l | t
def kr (k:Sk) (K:Rb) (H:Hp) (a:ae) (xs:List V):Prop:=match k with | .l=>d9 K H a xs | .t=>d8 K H a xs
def xq (k:Sk) (h:af) (a:ae) (dj:Array aa):Prop:=match k with | .l=>h.IsList a dj | .t=>h.IsTuple a dj
def ny (k:Sk) (h:af) (i a:ae) (n:Nat):Prop:=match k with | .l=>h.IsListIter i a n | .t=>h.IsTupleIter i a n
noncomputable def Ed (k:Sk) (a:ae):bz:=match k with | .l=>{ cls:=.type "list_iterator",data:=.fields #[.ref a,.int 0 0] } | .t=>{ cls:=.type "tuple_iterator",data:=.fields #[.ref a,.int 0 0] }
theorem ny.new (k:Sk) (h:af) (a:ae):ny k (h.push (Ed k a)) h.objs.size a 0:=by
 cases k
 ·exact ⟨_,af.get?_push_size _ rfl,rfl,rfl⟩
 ·exact ⟨_,af.get?_push_size _ rfl,rfl,rfl⟩
theorem ny.obj {k:Sk} {i a:ae} (x:ny k h i a n):∃ o,h.get? i=some o/\∀ v,o.data≠.cell v:=by
 cases k
 ·obtain ⟨o,e,_,d⟩:=x; exact ⟨o,e,λv z=>by rw [d] at z; cases z⟩
 ·obtain ⟨o,e,_,d⟩:=x; exact ⟨o,e,λv z=>by rw [d] at z; cases z⟩
theorem ny.at {k:Sk} {i a:ae} (x:ny k h i a n) (kp:∀ o,h.get? i=some o->h'.get? i=some o):ny k h' i a n:=by
 cases k
 ·exact af.IsListIter.at x kp
 ·exact af.IsTupleIter.at x kp
theorem xq.at {k:Sk} {a:ae} {dj:Array aa} (x:xq k h a dj) (kp:∀ o,h.get? a=some o->h'.get? a=some o):xq k h' a dj:=by
 cases k
 ·exact af.IsList.at x kp
 ·obtain ⟨o,e,r⟩:=x; exact ⟨o,kp o e,r⟩
theorem A_ (k:Sk) (prog:bo) (w:bq) (i l:ae) (items:Array aa) (il:l≠i):Sub prog w i l items.size (λj v=>items[j]?=some v) (λj h=>ny k h i l j/\xq k h l items):=by
 cases k
 ·exact aDE prog w i l items il
 ·exact aCS prog w i l items il
theorem UI {k:Sk} {a:ae} {dj:Array aa} (h:xq k s.heap a dj) (hQ:Q (.ref s.heap.objs.size) { s with heap:=s.heap.push (Ed k a) }):ai (ak prog w) A (pyIter (.ref a)) Q E s:=by
 cases k
 ·exact Uk h hQ
 ·exact Ie h hQ
section
variable {σ:St}
theorem Inv.ke (I:Inv X a_ σ H s) {k:Sk} {a:ae} (h:kr k X.K H a xs):∃ dj:List aa,bI xs dj/\xq k s.heap a dj.toArray:=by
 cases k
 ·obtain ⟨dj,r,p,_⟩:=I.list h; exact ⟨dj,r,p.isList⟩
 ·obtain ⟨dj,r,p,_⟩:=I.tuple h; exact ⟨dj,r,p⟩
theorem Inv.jx (I:Inv X a_ σ H s) {k:Sk} {a:ae} (h:kr k X.K H a xs) (h':kr k X.K H a ys):xs=ys:=by
 cases k
 ·exact I.qm h h'
 ·exact I.n8 h h'
theorem Inv.i_ (I:Inv X a_ σ H s) {k:Sk} {a b:ae} (h:kr k X.K H a xs) (f:sN X a_ H b):a≠b:=by
 have rd:∀ {u:HO},Rd H a u->a≠b:=λ{u} r z=>by
  rcases r with r | ⟨o,r⟩ <;> (rw [z,f.1] at r; cases r)
 have kk:∀ {o:bz},X.K.lookup a=some o->a≠b:=λ{o} e z=>by
  have e1:=I.ok.mod.zj a o e
  rcases f.2.2.2.1 with q | q
  ·exact I.ok.oh a o e1 (z ▸ q)
  ·exact Ji _ (Qn (af.lt_size (I.ok.bs a o e1).1) (z ▸ q))
 cases k
 ·rcases h with h | ⟨o,_,_,e,_⟩
  ·exact rd h
  ·exact kk e
 ·rcases h with h | ⟨o,_,_,e,_⟩
  ·exact rd h
  ·exact kk e
theorem Inv.ky (ch:List ae) (I:Inv X a_ σ H s) (k:∀ b o,b∉ch->s.heap.get? b=some o->h'.get? b=some o) (f:∀ b∈ch,sN X a_ H b):Inv X a_ σ H { s with heap:=h',toks:=t' }:=by
 have D9:∀ b u,H b=some u->b∉ch:=λb u e z=>by rw [(f b z).1] at e; cases e
 have nL:X.env.locals∉ch:=λz=>(f _ z).2.1 rfl
 refine I.step (g':=s.gens) (d':=s.drawn) (ch:=ch) (λb hb=>⟨(f b hb).2.2.2.1,(f b hb).2.1,(f b hb).2.2.2.2.1,(f b hb).2.2.2.2.2⟩) (λb o _ _ hc e _=>k b o hc e) (λb o _ _ hc e _=>⟨o.slots,k b o hc e⟩) (λ_ _ _ _ n=>n)
  (λb o hc e=>⟨o,k b o hc e⟩) (λ_ _ e=>e) (λ_ _ _ e=>e) (λb ps e=>⟨#[],by rw [e]; simp⟩) (λm hm=>?_) (λb u e=>?_) I.bare
 ·obtain ⟨o,es,ep,ho,r⟩:=hm
  exact ⟨o,es,ep,k _ o nL ho,r⟩
 ·refine (I.d_ b u e).ie (λc v hc q=>k c v ?_ q) (λ_ q=>q) λ_ _ q=>q
  rcases hc with z | z
  ·rw [z]; exact D9 b u e
  ·exact D9 c _ z
theorem Inv.sv {D:ae} {u:HO} (I:Inv X a_ σ H s) (new:bS X.prog X.w (upd H D u) s.heap D u) (hn:H D=none) (hL:D≠X.env.locals)
  (h1:X.jk.heap.objs.size<=D) (h2:∀ x c,X.env.cells.lookup x=some c->c≠D) (h3:∀ p∈X.pn++a_,p.1≠D):Inv X a_ σ (upd H D u) s:=by
 have ne:∀ b v,H b=some v->b≠D:=λb v e z=>by rw [z,hn] at e; cases e
 refine I.step (g':=s.gens) (d':=s.drawn) (t':=s.toks) (h':=s.heap) (ch:=[D]) (λb hb=>?_) (λb o _ _ _ e _=>e) (λb o _ _ _ e _=>⟨o.slots,e⟩) (λb o hc _ n=>?_) (λb o _ e=>⟨o,e⟩)
  (λb xs e=>by rw [aF (ne b _ e)]; exact e) (λb o v e=>by rw [aF (ne b _ e)]; exact e) (λb ps e=>⟨#[],by rw [aF (ne b _ e),e]; simp⟩) (λ_ h=>h) (λb v e=>?_) I.bare
 ·have e:b=D:=by simpa using hb
  subst e
  exact ⟨.inr h1,hL,h2,h3⟩
 ·rw [aF (by simpa using hc)]; exact n
 ·by_cases hb:b=D
  ·subst hb
   rw [aB] at e; cases e
   exact new
  ·rw [aF hb] at e
   exact (I.d_ b v e).ie (λc v _ q=>q) (λc q=>by rw [aF (ne c _ q)]; exact q) λc xs q=>by rw [aF (ne c _ q)]; exact q
end
noncomputable def Ni (K:Rb) (k1 k2:Sk) (a b:ae):It :=
 ⟨λi H => ∃ xs ys x y, kr k1 K H a xs /\ kr k2 K H b ys /\ xs[i]? = some x /\ ys[i]? = some y,
  λi H v H'=>∃ p,H p=none/\v=.ref p/\∀ xs ys,kr k1 K H a xs->kr k2 K H b ys->∃ x y,xs[i]?=some x/\ys[i]?=some y/\H'=upd H p (.tup [x,y]),
  λi H=>∃ xs ys,kr k1 K H a xs/\kr k2 K H b ys/\min xs.length ys.length=i⟩
theorem aDG {x1} (k1 k2:Sk) (a b z TI TO i1 i2:ae) (D:∀ l1 l2:ae,(∀ c∈[z,TI,TO,i1,i2],l1≠c)->(∀ c∈[z,TI,TO,i1,i2],l2≠c)->di z TI TO i1 i2 l1 l2) :
  Turn P w K (.Tuple es x1 pos) (Ni K k1 k2 a b) [z,TI,TO,i1,i2] z (λi h=>IsZip h z TI TO .none/\bx h TI (.ref i1) (.ref i2)/\(∃ x y,bx h TO x y)/\ny k1 h i1 a i/\ny k2 h i2 b i) where
 mem:=by simp
 obj:=λi h st c hc=>by
  obtain ⟨hz,km,⟨x,y,k9⟩,h1,h2⟩:=st
  simp only [Qj,Qq,or_false] at hc
  rcases hc with rfl | rfl | rfl | rfl | rfl
  ·exact ⟨_,hz,λv q=>by cases q⟩
  ·exact ⟨_,km,λv q=>by cases q⟩
  ·exact ⟨_,k9,λv q=>by cases q⟩
  ·exact h1.obj
  ·exact h2.obj
 keep:=λi h h' st k=>by
  obtain ⟨hz,km,⟨x,y,k9⟩,h1,h2⟩:=st
  exact ⟨k z (by simp) _ hz,k TI (by simp) _ km,⟨x,y,k TO (by simp) _ k9⟩,h1.at λo e=>k i1 (by simp) o e,h2.at λo e=>k i2 (by simp) o e⟩
 item:=by
  intro X hP hw hK hc i a_ s σ H E I hf st hg
  subst hP hw hK
  obtain ⟨hz,km,⟨x0,y0,k9⟩,h1,h2⟩:=st
  obtain ⟨xs,ys,x,y,ha,hb,hx,hy⟩:=hg
  obtain ⟨dj,rv,pa⟩:=I.ke ha
  obtain ⟨q_,i4,pb⟩:=I.ke hb
  obtain ⟨u,hu,ru⟩:=rv.get hx
  obtain ⟨v,hv,By⟩:=i4.get hy
  have na:∀ c∈[z,TI,TO,i1,i2],a≠c:=λc fw=>I.i_ ha (hf c fw)
  have nb:∀ c∈[z,TI,TO,i1,i2],b≠c:=λc fw=>I.i_ hb (hf c fw)
  have DD:=D a b na nb
  have hT:s.TypeIs (.ref z) "zip" := ⟨_,hz,rfl⟩
  have BS:i < dj.toArray.size:=by rw [Qk]; exact (Qa.mp hu).1
  have KR:i < q_.toArray.size:=by rw [Qk]; exact (Qa.mp hv).1
  unfold pyNext
  refine Ra (Vy (Rn (name:=ax.ofString "__next__") hT Tb (Rz Tb hT Ud
   (Wu DD (A_ k1 X.prog X.w i1 a dj.toArray (na i1 (by simp))) (A_ k2 X.prog X.w i2 b q_.toArray (nb i2 (by simp))) hz (.inl rfl) km k9 ⟨h1,pa⟩ ⟨h2,pb⟩ BS KR λh' u' v' f0 f1 nf pu pv _ Ef om s1 s2 Hg _ kp=>Rc ?_) (Ua _))))
  obtain ⟨rfl,rfl⟩:=nf rfl
  obtain ⟨_,_,om⟩:=om
  have eu:u'=u:=by
   have q:dj[i]?=some u':=by simpa using pu
   rw [hu] at q
   exact (Option.some.inj q).symm
  have ev:v'=v:=by
   have q:q_[i]?=some v':=by simpa using pv
   rw [hv] at q
   exact (Option.some.inj q).symm
  subst eu ev
  refine ⟨_,rfl,wpAny_letOwnedTupleGo_zip Ef λh2 Ko qz=>?_⟩
  have Tz:s.heap.objs.size≠z:=Zd (af.lt_size hz)
  have Lb:bx h2 s.heap.objs.size u' v':=qz.extBut _ _ Tz Hg
  have zu:=I.d_.fresh (Qg s.heap.objs.size)
  have fz:=I.nj (Qg s.heap.objs.size) zu
  have I2:Inv X a_ σ H { s with heap:=h2 }:=by
   refine I.ky (t':=s.toks) [z,TO,i1,i2] (λc o fw e=>?_) (λc fw=>hf c ?_)
   ·simp only [Qj,Qq,or_false,not_or] at fw
    exact qz.extBut _ _ fw.1 (kp c o fw.1 fw.2.1 fw.2.2.1 fw.2.2.2 e)
   ·simp only [Qj,Qq,or_false] at fw ⊢
    rcases fw with r | r | r | r
    ·exact .inl r
    ·exact .inr (.inr (.inl r))
    ·exact .inr (.inr (.inr (.inl r)))
    ·exact .inr (.inr (.inr (.inr r)))
  have I3:Inv X a_ σ (upd H s.heap.objs.size (.tup [x,y])) { s with heap:=h2 }:=by
   refine I2.sv (show bS X.prog X.w _ _ _ (.tup [x,y]) from ⟨by show 2<=ag; rw [Rf]; decide,[u',v'],0,.cons ru (.cons By .nil),Lb⟩) zu fz.2.1 I.sz fz.2.2.2.2.1 fz.2.2.2.2.2
  refine ⟨.ref s.heap.objs.size,_,I3,rfl,⟨s.heap.objs.size,zu,rfl,λGs uq K' ic=>?_⟩,⟨Ko,qz.extBut _ _ DD.TIz (kp _ _ DD.TIz DD.TITO DD.TIi1 DD.TIi2 km),⟨_,_,qz.extBut _ _ DD.TOz om⟩,s1.1.at λo e=>qz.extBut _ _ DD.i1z e,s2.1.at λo e=>qz.extBut _ _ DD.i2z e⟩,λc fw=>?_⟩
  ·rw [I.jx K' ha,I.jx ic hb]
   exact ⟨x,y,hx,hy,rfl⟩
  ·have cl:c≠s.heap.objs.size:=by
    obtain ⟨o,e⟩:∃ o,s.heap.get? c=some o:=by
     simp only [Qj,Qq,or_false] at fw
     rcases fw with rfl | rfl | rfl | rfl | rfl
     ·exact ⟨_,hz⟩
     ·exact ⟨_,km⟩
     ·exact ⟨_,k9⟩
     ·obtain ⟨o,e,_⟩:=h1.obj; exact ⟨o,e⟩
     ·obtain ⟨o,e,_⟩:=h2.obj; exact ⟨o,e⟩
    exact Qv (af.lt_size e)
   rw [aF cl]
   exact (hf c fw).1
 done:=by
  intro X hP hw hK hc i a_ s σ H E I hf st hg
  subst hP hw hK
  obtain ⟨hz,km,⟨x0,y0,k9⟩,h1,h2⟩:=st
  obtain ⟨xs,ys,ha,hb,pz⟩:=hg
  obtain ⟨dj,rv,pa⟩:=I.ke ha
  obtain ⟨q_,i4,pb⟩:=I.ke hb
  have la:=rv.length
  have lb:=i4.length
  have na:∀ c∈[z,TI,TO,i1,i2],a≠c:=λc fw=>I.i_ ha (hf c fw)
  have nb:∀ c∈[z,TI,TO,i1,i2],b≠c:=λc fw=>I.i_ hb (hf c fw)
  have DD:=D a b na nb
  have hT:s.TypeIs (.ref z) "zip" := ⟨_,hz,rfl⟩
  unfold pyNext
  refine Ra (Vy (Rn (name:=ax.ofString "__next__") hT Tb (Rz Tb hT Ud
   (V7 (I.ok.hd hc) DD (A_ k1 X.prog X.w i1 a dj.toArray (na i1 (by simp))) (A_ k2 X.prog X.w i2 b q_.toArray (nb i2 (by simp))) hz (.inl rfl) km k9 ⟨h1,pa⟩ ⟨h2,pb⟩ (by rw [Qk,Qk]; omega) λh' e kp he=>?_) (Ua _))))
  obtain ⟨oe,BK,Dx⟩:=he
  refine Ra (Rah (T := "StopIteration") (b:=true) ⟨oe,BK,Dx⟩ isSubtype_stop (Rc ⟨rfl,?_⟩))
  refine I.ky (t':=s.toks) [z,TO,i1,i2] (λc o fw e=>?_) (λc fw=>hf c ?_)
  ·simp only [Qj,Qq,or_false,not_or] at fw
   exact kp c o fw.1 fw.2.1 fw.2.2.1 fw.2.2.2 e
  ·simp only [Qj,Qq,or_false] at fw ⊢
   rcases fw with r | r | r | r
   ·exact .inl r
   ·exact .inr (.inr (.inl r))
   ·exact .inr (.inr (.inr (.inl r)))
   ·exact .inr (.inr (.inr (.inr r)))
 self:=λ_ _ _ _ _ st h=>Ur st.1 h
noncomputable abbrev yi (k1:Sk) (h:af) (a:ae):af:=h.push (Ed k1 a)
noncomputable abbrev Ax (k1 k2:Sk) (h:af) (a b:ae):af:=(yi k1 h a).push (Ed k2 b)
noncomputable abbrev Aw (k1 k2:Sk) (h:af) (a b:ae):af:=(Ax k1 k2 h a b).push { cls:=.type "tuple",data:=.seq #[.ref h.objs.size,.ref (yi k1 h a).objs.size] }
noncomputable abbrev C8 (k1 k2:Sk) (h:af) (a b:ae):af:=(Aw k1 k2 h a b).push { cls:=.type "tuple",data:=.seq #[.none,.none] }
noncomputable abbrev qp (k1 k2:Sk) (h:af) (a b:ae):af:=(C8 k1 k2 h a b).push { cls:=.type "zip",data:=.fields #[.none,.bool false,.bool false,.ref (Ax k1 k2 h a b).objs.size,.ref (Aw k1 k2 h a b).objs.size] }
theorem Wt (k1 k2:Sk) (a b:ae) (xs ys:Array aa) :
  Meets (aq.«zip.__new__» ⟨[.type "zip",.ref a,.ref b],[]⟩) (λ_ R s=>xq k1 s.heap a xs/\xq k2 s.heap b ys/\R (.ok (.ret (.ref (C8 k1 k2 s.heap a b).objs.size))) { s with heap:=qp k1 k2 s.heap a b }) :=
 .of_wp λprog w A R s h=>by
  obtain ⟨hp,g,d,tk,os⟩:=s
  obtain ⟨zt,pk,h⟩:=h
  have FQ:=sub_zip
  have hA:xq k1 (ah.heap ⟨hp,g,d,tk,os⟩) a xs:=zt
  have hB:xq k2 (ah.heap ⟨hp.push (Ed k1 a),g,d,tk,os⟩) b ys:=xq.at pk λo e=>af.get?_push_of_some _ e
  wp_walk using UI hA,UI hB
  exact ⟨_,rfl,h⟩
def aII (K:Rb) (k1 k2:Sk) (ta:TA):TI:=λσ H R=>ta σ H λvs H1=>∃ a b xs ys,vs = [.ref a,.ref b]/\kr k1 K H1 a xs/\kr k2 K H1 b ys/\R (Ni K k1 k2 a b) H1
theorem aG0 (k1 k2:Sk) {a b:ba} {ta:TA} {p:Pos} (hg:Gl X "zip") (hm:X.mg "zip" = none) (ha:PA X [a,b] ta) (hs:autoParam (ao [a,b] X.env = [(false,eval a X.env),(false,eval b X.env)]) L2.gc) (AN:autoParam (ao [b] X.env = [(false,eval b X.env)]) L2.gc) :
  PI X (.Tuple es x1 Cs) (.Call (.Name "zip" p) [a,b] [] pos) (aII X.K k1 k2 ta):=by
 intro a_ s σ H R I h
 refine Call_ (mK (u:=.type "zip") I hg hm (by decide +kernel) (PyProof.Rows.callWith_type1 (fi (ha pos a_ s σ H _ I h) λus s1 e_=>?_) (by rw [hs,AN]) (by rw [AN]; rfl)))
 obtain ⟨vs,H1,I1,r1,q1⟩:=e_
 obtain ⟨l1,l2,xs,ys,rfl,hA,hB,q⟩:=q1
 obtain ⟨u1,u2,rfl,JR,ze⟩:=rZ r1
 cases JR
 cases ze
 obtain ⟨dj,rv,pa⟩:=I1.ke hA
 obtain ⟨q_,i4,pb⟩:=I1.ke hB
 refine Mu Mh (by decide) (Iv _ _) (Iy _ _) (λobj=>Ii obj _ _) Iz (Wt k1 k2 l1 l2 dj.toArray q_.toArray) ⟨pa,pb,?_⟩
 have n1:(yi k1 s1.heap l1).objs.size=s1.heap.objs.size+1:=af.size_push ..
 have n2:(Ax k1 k2 s1.heap l1 l2).objs.size=s1.heap.objs.size+2:=by rw [af.size_push,n1]
 have n3:(Aw k1 k2 s1.heap l1 l2).objs.size=s1.heap.objs.size+3:=by rw [af.size_push,n2]
 have n4:(C8 k1 k2 s1.heap l1 l2).objs.size=s1.heap.objs.size+4:=by rw [af.size_push,n3]
 have g5:IsZip (qp k1 k2 s1.heap l1 l2) (C8 k1 k2 s1.heap l1 l2).objs.size (Ax k1 k2 s1.heap l1 l2).objs.size (Aw k1 k2 s1.heap l1 l2).objs.size .none:=af.get?_push_size _ rfl
 have g4:bx (qp k1 k2 s1.heap l1 l2) (Aw k1 k2 s1.heap l1 l2).objs.size .none .none:=af.get?_push_of_some _ (af.get?_push_size _ rfl)
 have g3:bx (qp k1 k2 s1.heap l1 l2) (Ax k1 k2 s1.heap l1 l2).objs.size (.ref s1.heap.objs.size) (.ref (yi k1 s1.heap l1).objs.size):=af.get?_push_of_some _ (af.get?_push_of_some _ (af.get?_push_size _ rfl))
 have g2:ny k2 (qp k1 k2 s1.heap l1 l2) (yi k1 s1.heap l1).objs.size l2 0:=(ny.new k2 (yi k1 s1.heap l1) l2).at λo e=>af.get?_push_of_some _ (af.get?_push_of_some _ (af.get?_push_of_some _ e))
 have g1:ny k1 (qp k1 k2 s1.heap l1 l2) s1.heap.objs.size l1 0:=(ny.new k1 s1.heap l1).at λo e=>af.get?_push_of_some _ (af.get?_push_of_some _ (af.get?_push_of_some _ (af.get?_push_of_some _ e)))
 have kp:∀ c o,s1.heap.get? c=some o->(qp k1 k2 s1.heap l1 l2).get? c=some o:=λc o e=>af.get?_push_of_some _ (af.get?_push_of_some _ (af.get?_push_of_some _ (af.get?_push_of_some _ (af.get?_push_of_some _ e))))
 refine ⟨⟨_,g5,rfl⟩,Ur (f0:=.none) g5 ?_⟩
 rw [n1,n2,n3,n4] at *
 have I2:Inv X a_ σ H1 { s1 with heap:=qp k1 k2 s1.heap l1 l2 }:=I1.kept (t':=s1.toks) kp
 refine ⟨s1.heap.objs.size+4,[s1.heap.objs.size+4,s1.heap.objs.size+2,s1.heap.objs.size+3,s1.heap.objs.size,s1.heap.objs.size+1],_,_,H1,rfl,I2,aDG k1 k2 l1 l2 _ _ _ _ _ ?_,⟨g5,g3,⟨_,_,g4⟩,g1,g2⟩,λc hc=>?_,q⟩
 ·intro m1 m2 h1 h2
  have d:∀ i j:Nat,i≠j->s1.heap.objs.size+i≠s1.heap.objs.size+j:=λi j h=>by omega
  exact ⟨d 2 4 (by decide),d 3 4 (by decide),d 0 4 (by decide),d 1 4 (by decide),d 2 3 (by decide),d 2 0 (by decide),d 2 1 (by decide),d 3 0 (by decide),d 3 1 (by decide),d 0 1 (by decide),
   h1 _ (by simp),h1 _ (by simp),h1 _ (by simp),h1 _ (by simp),h2 _ (by simp),h2 _ (by simp),h2 _ (by simp),h2 _ (by simp)⟩
 ·have fw:s1.heap.objs.size<=c:=by
   simp only [Qj,Qq,or_false] at hc
   rcases hc with r | r | r | r | r
   ·rw [r]; exact Xj _ _
   ·rw [r]; exact Xj _ _
   ·rw [r]; exact Xj _ _
   ·rw [r]; exact Qg _
   ·rw [r]; exact Xj _ _
  exact I1.nj fw (I1.d_.fresh fw)
open PySem.AutoSeq1 (wpAny_loadPart')
theorem wD (l b:ae) (items C3:Array aa) (n n2:Nat) (dd DH:Option ae) (sl De:Array (Option aa)) (K7:items.isEmpty=true) :
  Meets (aq.«tuple.__add__» ⟨[.ref l,.ref b],[]⟩) (λ_ R s=>s.heap.get? l=some { cls:=.type "tuple",dict:=dd,data:=.seq items n,slots:=sl }/\s.heap.get? b=some { cls:=.type "tuple",dict:=DH,data:=.seq C3 n2,slots:=De }/\R (.ok (.ret (aa.ref b))) s) :=
 .of_wp λprog w A R s h=>by
  obtain ⟨hp,g,d,tk,os⟩:=s
  obtain ⟨hl,hb,h⟩:=h
  have f1:=AutoSeq1.idx_int
  have f2:=AutoSeq1.sub_tuple_tuple
  wp_walk using Tu hl,Tu hb
  exact ⟨_,rfl,h⟩
theorem aFg:iy X (binaryOp .Add) (λx y H Q=>∃ a b xs ys,x=.ref a/\y=.ref b/\d8 X.K H a xs/\d8 X.K H b ys/\xs.length+ys.length<=ag/\∀ p H',aD H H'->d8 X.K H' p (xs++ys)->Q (.ref p) H'):=by
 intro a_ s σ H x y v u Q I rx ry h
 obtain ⟨a,b,xs,ys,rfl,rfl,ha,hb,hz,q⟩:=h
 by_cases hx:xs = []
 ·subst hx
  cases rx
  cases ry
  obtain ⟨dj,r1,⟨⟨cls,dd,data,sl⟩,ho,hc,n,hd⟩,_⟩:=I.tuple ha
  obtain ⟨ni,r2,⟨⟨Oi,DH,data2,De⟩,zo,yq,n2,hd2⟩,_⟩:=I.tuple hb
  simp only at hc hd yq hd2
  subst hc hd yq hd2
  cases r1
  exact Mr ⟨_,ho,rfl⟩ ⟨_,zo,rfl⟩ Ir Mj Uz Uw (Uu _ _)
   (wD a b _ _ n n2 dd DH sl De rfl) ⟨ho,zo,⟨.ref b,H,I,rfl,q b H (aD.refl H) hb⟩⟩
 ·refine aFc a_ s σ H _ _ v u Q I rx ry ⟨a,b,xs,ys,rfl,rfl,ha,hb,hx,hz,λe=>?_,λe p hp=>?_⟩
  ·subst e
   exact q a H (aD.refl H) (by rw [Yw]; exact ha)
  ·exact q p _ (aD.new hp) (d8.of aB)
theorem oI {lo:Option Int} (ht:IsTup s.heap t items) (hs:s.heap.IsSliceOf sl vl vu .none) (pl:c9 vl lo) (pu:c9 vu hi) (hw:HT.gf items.size 0 lo=0/\HT.gf items.size items.size hi=items.size) (h:Q (.ref t) s):ai (ak prog w) A (cp (.ref t) (.ref sl)) Q E s:=by
 obtain ⟨os,u3,yp,o6⟩:=id hs
 have EB:s.TypeIs (.ref sl) "slice" := ⟨os,u3,yp⟩
 unfold cp
 try with_reducible refine Rx ?_
 first | refine Ra (Rc ?_) | skip
 refine Ra (Il ht.typeIs (by decide) ?_)
 refine Ra (Rn (name:=ax.ofString "__getitem__") ht.typeIs PyProof.Rows.slot_tuple_getitem
  (Rz PyProof.Rows.slot_tuple_getitem ht.typeIs Vr ?_ (Ig _ _)))
 refine Ra (m:=aq.Tuple.tupleItemsOf (.ref t)) (Ml ht ?_)
 refine Ra (Vh EB ?_)
 rw [if_pos (by decide)]
 refine Ra (HT.ij hs pl pu ?_)
 have xu:(((HT.gf items.size 0 lo:Nat):Int)==0 && (1:Int)==1 && (HT.gf items.size items.size hi - HT.gf items.size 0 lo)==items.size)=true:=by
  rw [hw.1,hw.2]; simp
 show ai _ _ (if (((HT.gf items.size 0 lo:Nat):Int)==0 && (1:Int)==1 && (HT.gf items.size items.size hi - HT.gf items.size 0 lo)==items.size)=true then _ else _) _ _ s
 rw [if_pos xu]
 unfold aq.Tuple.tupleIsExact
 refine Ra (Ra (Vh ht.typeIs (Rc ?_)))
 refine wpAny_ite_split (λ_=>Ra (Ih (Rc ⟨_,rfl,Rc h⟩))) (λA?=>absurd (by rfl) A?)
theorem aFh:Fh X (λx lo hi H Q=>∃ a xs,x=.ref a/\d8 X.K H a xs/\∀ p H',aD H H'->d8 X.K H' p (pC xs lo hi)->Q (.ref p) H'):=by
 intro a_ s σ H x v vl vu lo hi sl Q I rx hs pl pu h
 obtain ⟨a,xs,rfl,hx,q⟩:=h
 by_cases hw:HT.gf xs.length 0 lo=0/\HT.gf xs.length xs.length hi=xs.length
 ·cases rx
  obtain ⟨dj,r,ht,hz⟩:=I.tuple hx
  have hlen:dj.toArray.size=xs.length:=by rw [Qk]; exact r.length.symm
  refine ⟨"tuple",_,PyProof.Rows.slot_tuple_getitem.lookup,ht.typeIs,?_⟩
  refine oI ht hs pl pu (by rw [hlen]; exact hw) ⟨.ref a,H,I,rfl,q a H (aD.refl H) ?_⟩
  have e:pC xs lo hi=xs:=by
   unfold pC
   rw [hw.1,hw.2,Wc,Nat.sub_zero,Jm]
  rw [e]; exact hx
 ·exact aGW a_ s σ H _ v vl vu lo hi sl Q I rx hs pl pu ⟨a,xs,rfl,hx,hw,λp hp=>q p _ (aD.new hp) (d8.of aB)⟩
theorem V6 (xs:List V) (k:Nat):pC xs none (some (k:Int))=xs.take k:=by
 unfold pC
 rw [HT.qk,HT.uk,Wc,Nat.sub_zero]
 by_cases h:k<=xs.length
 ·rw [Nat.min_eq_left h]
 ·rw [Nat.min_eq_right (by omega),Jj (Qg _),Jj (by omega)]
theorem wX (xs:List V) (k:Nat):pC xs (some (k:Int)) none=xs.drop k:=by
 unfold pC
 rw [HT.qk,HT.uk]
 by_cases h:k<=xs.length
 ·rw [Nat.min_eq_left h,Jj (by rw [Xt]; exact Qg _)]
 ·rw [Nat.min_eq_right (by omega),Yu (Qg _),Yu (by omega),List.take_nil]
noncomputable def yC (N fk:List ax) (fr:List Nat):Bool:=fk.length==fr.length && (fk.zip fr).all λy=>N[y.2]?==some y.1
theorem aDH (h1:X.env.scope=sc) (h2:X.N=N) (cf:∀ z0,z=some z0->(∀ (n:Nat) (cl:List (ax×ae)),cellsFrom n scope.names cl=(z0,n)::cl)/\∀ h:af,pushCells h scope.names=h.push { cls:=.type "cell",data:=.cell none }) (h:(nK sc scope z own fk && yC N fk fr)=true):fv X scope z own fr fk:=by
 rw [Qz] at h
 obtain ⟨ha,hb⟩:=h
 unfold yC at hb
 simp only [Qz,beq_iff_eq,Jq] at hb
 refine ⟨by rw [h1]; exact ha,λk x hk=>?_,hb.1.symm,cf⟩
 have fu:k < fr.length:=by rw [<- hb.1]; exact (Qa.mp hk).1
 refine ⟨fr[k],Qb fu,?_⟩
 have hm:(x,fr[k])∈fk.zip fr:=by
  refine Qd (i:=k) ?_
  rw [Jb]
  exact ⟨hk,Qb fu⟩
 rw [h2]
 exact hb.2 _ hm
theorem bL (sc:c8) (N:List ax) (h1:X.env.scope=sc) (h2:X.N=N) (h:(nK sc scope none own fk && yC N fk fr)=true):fv X scope none own fr fk:=aDH h1 h2 (λ_ q=>by cases q) h
section
variable {own:Nat} {σ:St} {Q:Hp->List V->Prop}
theorem V5 {a0:α} {Gp:St} {Q:Hp->α->Prop} {tb:α->St->Hp->(α->St->Hp->Prop)->Prop} (n:Nat) (SH:St->Prop) (Pv:Nat->α->Hp->Prop) (jo:SH Gp) (h0:Pv 0 a0 H) (p_:∀ a H,Pv n a H->J.stop n H) (AY:∀ i a H,i < n->Pv i a H->J.go i H) (hs:∀ i a σ x H H',i < n->SH σ->Pv i a H->J.s_ i H x H'->g x σ H' λfc H2=>tt fc H2 λb H3=>if b=true then tb a fc H3 λa' uo H4=>SH uo/\Pv (i+1) a' H4 else SH fc/\Pv (i+1) a H3) (hd:∀ a H,Pv n a H->Q H a):mj J a0 Gp H (λa _ H=>Q H a) g tt tb:=by
 refine ⟨λi m ys d6 H=>m=n - i/\i<=n/\SH d6/\Pv i ys H,⟨n,by simp,Jo _,jo,h0⟩,?_⟩
 rintro i m ys d6 H ⟨rfl,hi,sh,p⟩
 by_cases fu:i < n
 ·refine .inr ⟨AY i ys H fu p,λuq fc H2=>SH fc/\Pv (i+1) uq H2,λuq fc H2 ⟨e,q⟩=>⟨n - (i+1),by omega,rfl,fu,e,q⟩,λx H' y=>?_⟩
  exact hs i ys d6 x H H' fu sh p y
 ·have e:i=n:=by omega
  subst e
  exact .inl ⟨p_ ys H p,hd ys H p⟩
theorem lS (n:Nat) (hn:n<=ag) (SH:St->Prop) (Pv:Nat->List V->Hp->Prop) (jo:SH (ia own fr σ)) (h0:Pv 0 [] H) (hlen:∀ i ys H,Pv i ys H->ys.length<=i)
  (p_:∀ ys H,Pv n ys H->J.stop n H) (AY:∀ i ys H,i < n->Pv i ys H->J.go i H)
  (hs:∀ i ys σ x H H',i < n->SH σ->Pv i ys H->J.s_ i H x H'->ys.length < ag->g x σ H' λfc H2=>tt fc H2 λb H3=>if b=true then te fc H3 λy H4=>ys.length < ag/\SH fc/\Pv (i+1) (ys++[y]) H4 else SH fc/\Pv (i+1) ys H3)
  (hd:∀ ys H,Pv n ys H->Q H ys) :
  mj J [] (ia own fr σ) H (λys _ H=>Q H ys) g tt (qy te) :=
 V5 n SH Pv jo h0 p_ AY (λi ys σ x H H' hi sh p y=>hs i ys σ x H H' hi sh p y (by have:=hlen i ys H p; omega)) hd
theorem aDI {a:ae} (SH:St->Prop) (Pv:Nat->List V->Hp->Prop) (hn:xs.length<=ag) (jo:SH (ia own fr σ)) (h0:Pv 0 [] H) (hlen:∀ i ys H,Pv i ys H->ys.length<=i) (hl:∀ i ys H,Pv i ys H->d8 K H a xs) (hs:∀ i ys σ x H,xs[i]?=some x->SH σ->Pv i ys H->ys.length < ag->g x σ H λfc H2=>tt fc H2 λb H3=>if b=true then te fc H3 λy H4=>ys.length < ag/\SH fc/\Pv (i+1) (ys++[y]) H4 else SH fc/\Pv (i+1) ys H3) (hd:∀ ys H,Pv xs.length ys H->Q H ys) :
  mj (Bg K a) [] (ia own fr σ) H (λys _ H=>Q H ys) g tt (qy te):=by
 refine lS xs.length hn SH Pv jo h0 hlen (λys H p=>⟨xs,hl _ _ _ p,Qg _⟩) (λi ys H hi p=>⟨xs,xs[i],hl _ _ _ p,Qb hi⟩) (λi ys σ x H H' hi sh p y hz=>?_) hd
 obtain ⟨e,y⟩:=y
 subst e
 exact hs i ys σ x _ (y xs (hl _ _ _ p)) sh p hz
theorem nN {a:ae} (SH:St->Prop) (Pv:Nat->List V->Hp->Prop) (hn:xs.length<=ag) (jo:SH (ia own fr σ)) (h0:Pv 0 [] H) (hlen:∀ i ys H,Pv i ys H->ys.length<=i) (hl:∀ i ys H,Pv i ys H->d9 K H a xs) (hs:∀ i ys σ x H,xs[i]?=some x->SH σ->Pv i ys H->ys.length < ag->g x σ H λfc H2=>tt fc H2 λb H3=>if b=true then te fc H3 λy H4=>ys.length < ag/\SH fc/\Pv (i+1) (ys++[y]) H4 else SH fc/\Pv (i+1) ys H3) (hd:∀ ys H,Pv xs.length ys H->Q H ys) :
  mj (y4 K a) [] (ia own fr σ) H (λys _ H=>Q H ys) g tt (qy te):=by
 refine lS xs.length hn SH Pv jo h0 hlen (λys H p=>⟨xs,hl _ _ _ p,Qg _⟩) (λi ys H hi p=>⟨xs,xs[i],hl _ _ _ p,Qb hi⟩) (λi ys σ x H H' hi sh p y hz=>?_) hd
 obtain ⟨e,y⟩:=y
 subst e
 exact hs i ys σ x _ (y xs (hl _ _ _ p)) sh p hz
theorem jW (SH:St->Prop) (Pv:Nat->List V->Hp->Prop) (hn:n<=ag) (jo:SH (ia own fr σ)) (h0:Pv 0 [] H) (hlen:∀ i ys H,Pv i ys H->ys.length<=i) (hs:∀ i ys σ H,i < n->SH σ->Pv i ys H->ys.length < ag->g (.int (lo+i)) σ H λfc H2=>tt fc H2 λb H3=>if b=true then te fc H3 λy H4=>ys.length < ag/\SH fc/\Pv (i+1) (ys++[y]) H4 else SH fc/\Pv (i+1) ys H3) (hd:∀ ys H,Pv n ys H->Q H ys) :
  mj (Bh lo n) [] (ia own fr σ) H (λys _ H=>Q H ys) g tt (qy te):=by
 refine lS n hn SH Pv jo h0 hlen (λys H p=>Qg _) (λi ys H hi p=>hi) (λi ys σ x H H' hi sh p y hz=>?_) hd
 obtain ⟨e,y⟩:=y
 subst e y
 exact hs i ys σ _ hi sh p hz
theorem aDJ {k1 k2:Sk} {a b:ae} (SH:St->Prop) (Pv:Nat->List V->Hp->Prop) (hn:xs.length<=ag) (heq:xs.length=ys.length) (jo:SH (ia own fr σ)) (h0:Pv 0 [] H) (hlen:∀ i zs H,Pv i zs H->zs.length<=i) (hl:∀ i zs H,Pv i zs H->kr k1 K H a xs/\kr k2 K H b ys) (hs:∀ i zs σ x y p H,xs[i]?=some x->ys[i]?=some y->SH σ->Pv i zs H->H p=none->zs.length < ag->g (.ref p) σ (upd H p (.tup [x,y])) λfc H2=>tt fc H2 λc H3=>if c=true then te fc H3 λy H4=>zs.length < ag/\SH fc/\Pv (i+1) (zs++[y]) H4 else SH fc/\Pv (i+1) zs H3) (hd:∀ zs H,Pv xs.length zs H->Q H zs) :
  mj (Ni K k1 k2 a b) [] (ia own fr σ) H (λys _ H=>Q H ys) g tt (qy te):=by
 refine lS xs.length hn SH Pv jo h0 hlen (λzs H p=>⟨xs,ys,(hl _ _ _ p).1,(hl _ _ _ p).2,by rw [<- heq,Zo]⟩) (λi zs H hi p=>⟨xs,ys,xs[i],ys[i]'(by omega),(hl _ _ _ p).1,(hl _ _ _ p).2,Qb hi,Qb (by omega)⟩) (λi zs σ v H H' hi sh p y hz=>?_) hd
 obtain ⟨q,hq,rfl,hy⟩:=y
 obtain ⟨x,y,h1,h2,rfl⟩:=hy xs ys (hl _ _ _ p).1 (hl _ _ _ p).2
 exact hs i zs σ x y q H h1 h2 sh p hq hz
end
theorem yD:∀ {xs:List V} {us:List aa},xs.length=us.length->(∀ (j:Nat) (x:V) (u:aa),xs[j]?=some x->us[j]?=some u->bR x u)->bI xs us
 | [],[],_,_=>.nil
 | [],_::_,h,_=>by cases h
 | _::_,[],h,_=>by cases h
 | x::xs,u::us,h,k=>.cons (k 0 x u rfl rfl) (yD (by simpa using h) λj y v hy hv=>k (j+1) y v hy hv)
theorem rF {tk:Tok} {Q:Int×Int×Nat->ah->Prop} (hs:s.heap.IsSliceOf sl .none .none (.int (-1) tk)) (h:Q ((n:Int) - 1,-1,n) s):ai (ak prog w) A (aq.Slice.sliceApplied (.ref sl) (pure (n:Int))) Q E s:=by
 obtain ⟨os,u3,yp,o6⟩:=id hs
 unfold aq.Slice.sliceApplied aq.Slice.sliceFields
 refine Ra (Ra (Rk u3 o6 (x:=.none) rfl (Ra (Rk u3 o6 (x:=.none) rfl (Ra (Rk u3 o6 (x:=.int (-1) tk) rfl (Rc ?_)))))))
 refine Ra (HT.gx (.int (-1) tk) ?_)
 show ai _ _ (if ((-1:Int)==0)=true then _ else _) _ _ s
 rw [if_neg (by decide)]
 refine Ra (HT.gx .none (Ra (HT.gx .none (Ra (Rc ?_)))))
 show ai _ _ (match aq.Slice.sliceAdjust none none (-1) (n:Int) with | (lo,hi)=>pure (lo,(-1:Int),aq.Slice.slicePlaces lo hi (-1))) _ _ s
 have e:aq.Slice.sliceAdjust none none (-1) (n:Int)=((n:Int) - 1,-1):=by simp [aq.Slice.sliceAdjust]
 rw [e]
 have e2:aq.Slice.slicePlaces ((n:Int) - 1) (-1) (-1)=n:=by
  unfold aq.Slice.slicePlaces
  rw [if_neg (by decide)]
  by_cases h0:n=0
  ·subst h0; decide
  ·rw [if_pos (by omega)]
   have:((n:Int) - 1 - -1 - 1) / (- -1)+1=n:=by rw [show (- -1:Int)=1 from rfl,Wl]; omega
   rw [this]; simp
 show ai _ _ (pure ((n:Int) - 1,(-1:Int),aq.Slice.slicePlaces ((n:Int) - 1) (-1) (-1))) _ _ s
 rw [e2]
 exact Rc h
theorem Ws {f g:α->Option β}:∀ {l:List α},(∀ x∈l,f x=g x)->l.filterMap f=l.filterMap g
 | [],_=>rfl
 | x::r,h=>by rw [Js,Js,h x (Qm ..),Ws λy hy=>h y (Qi _ hy)]
theorem Wr (xs:Array aa):((List.range xs.size).filterMap λ(k:Nat)=>xs[((xs.size:Int) - 1+(k:Int)*(-1)).toNat]?).toArray=xs.toList.reverse.toArray:=by
 have h:=HT.ql xs.toList.reverse.toArray 0 xs.size
 have e:(List.range xs.size).filterMap (λ(k:Nat)=>xs[((xs.size:Int) - 1+(k:Int)*(-1)).toNat]?)=(List.range xs.size).filterMap (λ(m:Nat)=>xs.toList.reverse.toArray[(((0:Nat):Int)+(m:Int)*1).toNat]?):=by
  refine Ws λk hk=>?_
  have ub:=Xz.mp hk
  have h1:((xs.size:Int) - 1+(k:Int)*(-1)).toNat=xs.size - 1 - k:=by omega
  have h2:(((0:Nat):Int)+(k:Int)*1).toNat=k:=by omega
  rw [h1,h2]
  simp only [List.getElem?_toArray]
  rw [List.getElem?_reverse (by simpa using ub)]
  simp
 rw [e,h]
 congr 1
 rw [Wc,Jj (by simp)]
theorem qA {tk:Tok} (ht:IsTup s.heap t items) (hs:s.heap.IsSliceOf sl .none .none (.int (-1) tk)) (h:Q (.ref s.heap.objs.size) { s with heap:=s.heap.push { cls:=.type "tuple",data:=.seq items.toList.reverse.toArray } }) (hsz:items.size<=ag):ai (ak prog w) A (cp (.ref t) (.ref sl)) Q E s:=by
 have js:sizeOk (.seq items.toList.reverse.toArray):=by
  show items.toList.reverse.toArray.size<=ag
  rw [Qk,Zy,Array.length_toList]
  exact hsz
 obtain ⟨os,u3,yp,o6⟩:=id hs
 have EB:s.TypeIs (.ref sl) "slice" := ⟨os,u3,yp⟩
 unfold cp
 try with_reducible refine Rx ?_
 first | refine Ra (Rc ?_) | skip
 refine Ra (Il ht.typeIs (by decide) ?_)
 refine Ra (Rn (name:=ax.ofString "__getitem__") ht.typeIs PyProof.Rows.slot_tuple_getitem
  (Rz PyProof.Rows.slot_tuple_getitem ht.typeIs Vr ?_ (Ig _ _)))
 refine Ra (m:=aq.Tuple.tupleItemsOf (.ref t)) (Ml ht ?_)
 refine Ra (Vh EB ?_)
 rw [if_pos (by decide)]
 refine Ra (rF hs ?_)
 have jq:¬ ((((items.size:Int) - 1)==0 && (-1:Int)==1 && items.size==items.size)=true):=by simp
 show ai _ _ (if (((items.size:Int) - 1)==0 && (-1:Int)==1 && items.size==items.size)=true then _ else _) _ _ s
 rw [if_neg jq,Wr]
 first
  | exact Ra (m:=aq.Tuple.tupleExact _) (Rq (Rc ⟨_,rfl,Rc h⟩) js)
  | exact Ra (m:=aq.Tuple.tupleExact _) (Rq (Ra (Rc (Rc ⟨_,rfl,Rc h⟩))) js)
  | exact Ra (Ra (m:=aq.Tuple.tupleExact _) (Rq (Rc (Rc ⟨_,rfl,Rc h⟩)) js))
  | exact Ra (Ra (m:=aq.Tuple.tupleExact _) (Rq (Rc ⟨_,rfl,Rc h⟩) js))
def HG (K:Rb) (te ts:TE):TE:=λσ H Q=>te σ H λx H1=>ts σ H1 λy H2=>y=.int (-1)/\∃ a xs,x=.ref a/\d8 K H2 a xs/\∀ p,H2 p=none->Q (.ref p) (upd H2 p (.tup xs.reverse))
theorem aG1 {st:ba} (he:PE X e te) (j0:PE X st ts):PE X (.Subscript e (.Slice none none (some st) p2) pos) (HG X.K te ts):=by
 intro a_ s σ H Q I h
 refine Vi (fi (he a_ s σ H _ I h) λv s1 e_=>?_)
 obtain ⟨x,H1,I1,r1,q1⟩:=e_
 refine Mz ?_
 rw [Us]
 refine Rc ?_
 show ai _ _ (evalPart none X.env) _ _ s1
 rw [Us]
 refine Rc ?_
 show ai _ _ (evalPart (some st) X.env) _ _ s1
 rw [Mm]
 refine fi (j0 a_ s1 σ H1 _ I1 q1) λYK s3 e_=>?_
 obtain ⟨y,H3,I3,r3,q3⟩:=e_
 obtain ⟨rfl,a,xs,rfl,hx,q⟩:=q3
 obtain ⟨tk,rfl⟩:=r3
 cases r1
 have I4:Inv X a_ σ H3 { s3 with heap:=s3.heap.push { cls:=.type "slice",data:=.fields #[.none,.none,.int (-1) tk] } }:=I3.kept (t':=s3.toks) λb ob q=>af.get?_push_of_some _ q
 obtain ⟨dj,r,ht,hz⟩:=I4.tuple hx
 have hlen:=r.length
 have hg:ai (ak X.prog X.w) X.A (cp (.ref a) (.ref s3.heap.objs.size)) (EP X a_ σ Q) X.xe { s3 with heap:=s3.heap.push { cls:=.type "slice",data:=.fields #[.none,.none,.int (-1) tk] } }:=by
  refine qA ht (af.IsSliceOf.new ..) ?_ (by rw [Qk]; omega)
  refine ⟨.ref _,_,I4.laid (t':=s3.toks) (o:=.tup xs.reverse) (λb ob q=>af.get?_push_of_some _ q) (Qg _) ?_,rfl,q _ (I4.d_.fresh (Qg _))⟩
  exact ⟨by rw [Zy]; exact hz,dj.reverse,0,r.reverse,af.get?_push_size _ rfl⟩
 show ai (ak X.prog X.w) X.A (subscriptTail e (.Slice none none (some st) p2) (.ref a) (.ref s3.heap.objs.size)) (EP X a_ σ Q) X.xe { s3 with heap:=s3.heap.push { cls:=.type "slice",data:=.fields #[.none,.none,.int (-1) tk] } }
 exact tail_any (ops:=[.ref a,.ref s3.heap.objs.size]) ht.typeIs PyProof.Rows.slot_tuple_getitem.lookup hg (by with_unfolding_all rfl)
noncomputable def Vw (S:List ae) (H:Hp):Hp:=λb=>if b∈S then none else H b
theorem Vw.out {S:List ae} {b:ae} (n:b∉S):Vw S H b=H b:=by unfold Vw; rw [if_neg n]
theorem Vw.sub {S:List ae}:aD (Vw S H) H:=λb o h=>by
 by_cases z:b∈S
 ·unfold Vw at h; rw [if_pos z] at h; cases h
 ·rw [Vw.out z] at h; exact h
theorem Vw.keep {S:List ae} (e:∀ b o,b∉S->H b=some o->H' b=some o):aD (Vw S H) (Vw S H'):=λb o h=>by
 by_cases z:b∈S
 ·unfold Vw at h; rw [if_pos z] at h; cases h
 ·rw [Vw.out z] at h ⊢; exact e b o z h
theorem Vw.same {S:List ae} (e:aD H H'):aD (Vw S H) (Vw S H'):=Vw.keep λb o _ h=>e b o h
def Fx (S:List ae) (H:Hp):Prop:=∀ b∈S,∃ xs,H b=some (.lst xs)
theorem Fx.same {S:List ae} (f:Fx S H) (e:aD H H'):Fx S H':=λb hb=>let ⟨xs,h⟩:=f b hb; ⟨xs,e b _ h⟩
theorem Fx.new {S:List ae} (f:Fx S H) (h:H p=none):p∉S:=λz=>by
 obtain ⟨xs,q⟩:=f p z
 rw [q] at h; cases h
section
variable {S:List ae}
theorem Fx.dk {a:ae} (f:Fx S H) (h:d8 K H a xs):d8 K (Vw S H) a xs:=by
 rcases h with (h | ⟨o,h⟩) | h
 ·exact .inl (.inl (by rw [Vw.out λz=>by obtain ⟨ys,q⟩:=f a z; rw [q] at h; cases h]; exact h))
 ·exact .inl (.inr ⟨o,by rw [Vw.out λz=>by obtain ⟨ys,q⟩:=f a z; rw [q] at h; cases h]; exact h⟩)
 ·exact .inr h
theorem Vw.at {o:HO} (f:Fx S H) (h:H p=none):Vw S (upd H p o) p=some o:=by rw [Vw.out (f.new h)]; exact aB
def Dn (K:Rb) (S:List ae) (H:Hp) (x:V):Prop:=∃ d,Den K (Vw S H) d x
def DT (K:Rb) (S:List ae) (n:Nat) (H:Hp) (x:V):Prop:=∃ a xs,x=.ref a/\d8 K (Vw S H) a xs/\xs.length<=n/\∀ y∈xs,Dn K S H y
def II (_:Hp) (x:V):Prop:=∃ i,x=.int i
class Mo (R:Hp->V->Prop):Prop where
 mo:∀ {H H':Hp} {v:V},aD H H'->R H v->R H' v
theorem Dn.keep {x:V} (h:Dn K S H x) (e:aD (Vw S H) (Vw S H')):Dn K S H' x:=let ⟨d,h⟩:=h; ⟨d,e.den _ _ h⟩
theorem Dn.same {x:V} (h:Dn K S H x) (e:aD H H'):Dn K S H' x:=h.keep (Vw.same e)
theorem DT.keep {x:V} (h:DT K S n H x) (e:aD (Vw S H) (Vw S H')):DT K S n H' x:=let ⟨a,xs,h1,h2,h3,h4⟩:=h; ⟨a,xs,h1,e.dk h2,h3,λy hy=>(h4 y hy).keep e⟩
theorem DT.same {x:V} (h:DT K S n H x) (e:aD H H'):DT K S n H' x:=h.keep (Vw.same e)
instance:Mo (Dn K S):=⟨λe h=>Dn.same h e⟩
instance {n:Nat}:Mo (DT K S n):=⟨λe h=>DT.same h e⟩
instance:Mo II:=⟨λ_ h=>h⟩
def Al (H0:Hp) (S:List ae) (te:TE) (σ:St) (R:Hp->V->Prop):Prop:=∀ H,aD H0 H->Fx S H->∀ Q:VK,(∀ v H',aD H H'->R H' v->Q v H')->te σ H Q
variable {σ:St} {R R':Hp->V->Prop} {t:TA} {tl th:TO}
theorem rG [m:Mo R] (h:σ[i]?=some (some v)) (r:R H0 v):Al H0 S (pR i) σ R:=λH s _ Q k=>⟨v,h,k v H (aD.refl H) (m.mo s r)⟩
theorem E7 [m:Mo R] (r:R H0 v):Al H0 S (tC v) σ R:=λH s _ Q k=>k v H (aD.refl H) (m.mo s r)
theorem Al.mono (h:Al H0 S te σ R) (m:∀ H v,R H v->R' H v):Al H0 S te σ R':=λH s f Q k=>h H s f Q λv H' s' r=>k v H' s' (m H' v r)
def UH (K:Rb):R2:=λx y H Q=>∃ a b xs ys,x=.ref a/\y=.ref b/\d8 K H a xs/\d8 K H b ys/\xs.length+ys.length<=ag/\∀ p H',aD H H'->d8 K H' p (xs++ys)->Q (.ref p) H'
theorem mV (hK:X.K=K):iy X (binaryOp .Add) (UH K):=by subst hK; exact aFg
def LX (K:Rb):V->Option Int->Option Int->Hp->VK->Prop:=λx lo hi H Q=>∃ a xs,x=.ref a/\d8 K H a xs/\∀ p H',aD H H'->d8 K H' p (pC xs lo hi)->Q (.ref p) H'
theorem tZ (hK:X.K=K):Fh X (LX K):=by subst hK; exact aFh
def V4 (K:Rb):List V->Hp->VK->Prop:=λxs H Q=>∃ p ys,xs = [.ref p]/\(d9 K H p ys∨d8 K H p ys)/\∀ l,H l=none->Q (.ref l) (upd H l (.lst ys))
theorem wE (hK:X.K=K):eX X (.type "list") (V4 K):=by subst hK; exact pX
instance {a:ae} {xs:List V}:Mo (λH v=>v=.ref a/\d8 K H a xs):=⟨λe h=>⟨h.1,e.dk h.2⟩⟩
instance {x:V}:Mo (λ_ v=>v=x):=⟨λ_ h=>h⟩
theorem IC {Q:VK} (f:Fx S H) (h:Al H S te σ R) (k:∀ v H',aD H H'->R H' v->Q v H'):te σ H Q:=h H (aD.refl H) f Q k
end
open PySem.AutoSeq1 (wpAny_loadPart')
theorem nf {b:Bool} (h:b=false):decide (b=true)=false:=by rw [h]; rfl
theorem nt {b:Bool} (h:b=true):decide (b=true)=true:=by rw [h]; rfl
section
variable {σ:St}
end
section
variable {S:List ae} {E E':Hp->V->Prop}
def DTe (K:Rb) (S:List ae) (E:Hp->V->Prop) (n:Nat) (H:Hp) (x:V):Prop:=∃ a xs,x=.ref a/\d8 K (Vw S H) a xs/\xs.length<=n/\∀ y∈xs,E H y
def LTe (S:List ae) (E:Hp->V->Prop) (n:Nat) (H:Hp) (x:V):Prop:=∃ a xs,x=.ref a/\Vw S H a=some (.lst xs)/\xs.length<=n/\∀ y∈xs,E H y
instance {n:Nat} [m:Mo E]:Mo (DTe K S E n):=⟨λe ⟨a,xs,h1,h2,h3,h4⟩=>⟨a,xs,h1,(Vw.same e).dk h2,h3,λy hy=>m.mo e (h4 y hy)⟩⟩
instance {n:Nat} [m:Mo E]:Mo (LTe S E n):=⟨λe ⟨a,xs,h1,h2,h3,h4⟩=>⟨a,xs,h1,Vw.same e _ _ h2,h3,λy hy=>m.mo e (h4 y hy)⟩⟩
variable {σ:St} {t:TA} {tl th:TO}
end
section
variable {env:cy} {bP:List ba} {k:Nat} {a b c:ba}
theorem eG:ao (.Tuple es k pos::bP) env=(false,eval (.Tuple es k pos) env)::ao bP env:=rfl
theorem yE:ao (.List es pos::bP) env=(false,eval (.List es pos) env)::ao bP env:=rfl
theorem V3 {ks:List (Option ba)}:ao (.Dict ks es pos::bP) env=(false,eval (.Dict ks es pos) env)::ao bP env:=rfl
theorem jI {op:Operator}:ao (.BinOp a op b pos::bP) env=(false,eval (.BinOp a op b pos) env)::ao bP env:=rfl
theorem MC {op:UnaryOp}:ao (.UnaryOp op a pos::bP) env=(false,eval (.UnaryOp op a pos) env)::ao bP env:=rfl
theorem aO {v:Const}:ao (.Constant v k pos::bP) env=(false,eval (.Constant v k pos) env)::ao bP env:=rfl
theorem yF {x:ax}:ao (.Name x pos::bP) env=(false,eval (.Name x pos) env)::ao bP env:=rfl
theorem MN:ao (.Subscript a b pos::bP) env=(false,eval (.Subscript a b pos) env)::ao bP env:=rfl
theorem aFj {kw:List de}:ao (.Call a es kw pos::bP) env=(false,eval (.Call a es kw pos) env)::ao bP env:=rfl
end
noncomputable def aIJ (scope sc:c8):c8:={ scope with names:=scope.names.map λ(n,k)=>if (k==bj.free && sc.kind==.function && sc.names.lookup n==some .cell) then (n,bj.cell) else (n,k) }
theorem aCT:Ae X "list.index" (λx vs H Q=>∃ (a:ae) (ns:List Int) (n:Int) (j:Nat),x=.ref a/\vs = [.int n]/\d9 X.K H a (ns.map V.int)/\ns[j]?=some n/\(∀ m,m < j->ns[m]?≠some n)/\Q (.int (j:Nat)) H):=by
 intro a_ s σ H x xs v us Q I rx r h
 obtain ⟨a,ns,n,j,rfl,rfl,ha,hj,jq,q⟩:=h
 obtain ⟨u,rfl,t,rfl⟩:=iC r
 cases rx
 obtain ⟨dj,rv,⟨⟨cls,dd,data,sl⟩,k,ho,hc,QG,hd⟩,wx⟩:=I.list ha
 simp only at hc hd
 subst hc hd
 have hi:IntsAre dj ns:=pB rv
 have hl:=hi.length
 have uc:j < ns.length:=(Qa.mp hj).1
 have Kn:ns.length<=ag:=by rw [Qc] at wx; exact wx
 have val:∀ m (hm:m < dj.toArray.size),isInt n dj.toArray[m]=decide (ns[m]?=some n):=λm hm=>by
  have l!:m < dj.length:=by simpa using hm
  have BM:m < ns.length:=by omega
  obtain ⟨w,hw,i4⟩:=rv.get (i:=m) (x:=.int ns[m]) (by rw [Qh,Qb BM]; rfl)
  obtain ⟨t',rfl⟩:=i4
  have e:dj.toArray[m]=.int ns[m] t':=by
   have:=Qb l!
   rw [hw] at this
   simpa using (Option.some.inj this).symm
  rw [e,Qb BM]
  unfold isInt
  by_cases z:ns[m]=n
  ·simp [z]
  ·simp [z]
 refine Uq Ub ⟨_,ho,rfl⟩ Io (Ik _ _) (SeqAt.list_indexAt a dj.toArray k dd sl (.int n t) (isInt n) j (by simp; omega) (by rw [Rf] at Kn; omega) ?_ ?_) ⟨ho,λy hy=>(eq_isInt n t hi y (by simpa using hy)).at _ _,?_⟩
 ·rw [val,hj]; simp
 ·intro m hm fu
  rw [val]
  exact decide_eq_false (jq m fu)
 ·exact ⟨.int _,H,I.tok _,⟨_,rfl⟩,q⟩
theorem bS.ox {a:ae} {o:HO} (x:bS P w H h a o):∃ ob,h.get? a=some ob:=by
 cases o with
 | lst xs=>obtain ⟨_,_,_,_,e⟩:=x; exact ⟨_,e⟩
 | tup xs=>obtain ⟨_,_,_,_,e⟩:=x; exact ⟨_,e⟩
 | dK kvs=>obtain ⟨_,_,_,_,o,_,_,e,_⟩:=x; exact ⟨_,e⟩
 | dT kvs=>obtain ⟨_,_,_,_,o,_,_,e,_⟩:=x; exact ⟨_,e⟩
 | set S n=>obtain ⟨o,_,_,_,e,_⟩:=x; exact ⟨_,e⟩
 | ins C dx fs=>obtain ⟨_,_,_,e,_⟩:=x; exact ⟨_,e⟩
 | own y=>obtain ⟨_,e⟩:=x; exact ⟨_,e⟩
 | xd fs=>obtain ⟨_,⟨_,_,_,e,_⟩,_⟩:=x; exact ⟨_,e⟩
 | vo lo hi=>obtain ⟨_,_,_,e⟩:=x; exact ⟨_,e⟩
 | fm ob u=>obtain ⟨e,_⟩:=x; exact ⟨_,e⟩
 | Ay ps=>exact ⟨_,(show h.get? a=some _ from x)⟩
 | tab q=>obtain ⟨_,e,_⟩:=x; exact ⟨_,e⟩
 | met f y=>exact ⟨_,(show h.get? a=some _ from x)⟩
 | ext φ=>obtain ⟨_,⟨_,e⟩,_⟩:=x; exact ⟨_,e⟩
def IB (h:af) (a:ae) (cls:aa) (T:ae):Prop :=
 ∃ oe vs oT ts,h.get? a=some oe/\oe.cls=cls/\oe.data=.fields vs/\vs[1]?=some (.ref T)/\T≠a/\h.get? T=some oT/\oT.data=.fields ts/\ts[3]?=some .none
def ir (P:bo) (w:bq):Bk:=λouter H s E e s'=>∃ (a T C:ae) (H':Hp),e=.ref a/\s'.os=s.os/\AllBare s'.gens/\Un (gy outer) [] H H' s.heap s'.heap/\je P w H' s'.heap/\IB s'.heap a (.ref C) T /\
 s.heap.get? a=none/\s.heap.get? T=none/\H' a=none/\H' T=none/\E (.ref C) none H'
theorem gX {b1 b2:af}:∀ {l:List cy},h.FunFrames b1 l->(∀ L∈gy l,b2.get? L=none)->h.FunFrames b2 l
 | [],_,_=>trivial
 | env::bP,⟨hk,⟨L,o,hf,hn,ho,hd⟩,hr⟩,hb=>⟨hk,⟨L,o,hf,hb L (by unfold gy; rw [Js,hf]; exact Qm ..),ho,hd⟩,gX hr λM hM=>hb M (by
   unfold gy at hM ⊢
   rw [Js,hf]
   exact Qi _ hM)⟩
theorem uA {l:List cy} {a:ae} {cls:aa} {vy:List ae} (hb:base=Rw h vy) (hl:h.FunFrames base l) (x:af.Left base l a cls h h') (ha:a∈vy) :
  (∀ b o,b∉vy->h.get? b=some o->h'.get? b=some o)/\(∀ b o,b∈gy l->h.get? b=some o->∃ sl,h'.get? b=some { o with slots:=sl })/\∃ T,IB h' a cls T/\T∉gy l/\(T∈vy∨h.get? T=none):=by
 obtain ⟨x1,x2,⟨oe,vs,T,oT,ts,e1,e2,e3,e4,e5,e6,e7,e8,e9⟩,x4⟩:=x
 refine ⟨λb o nb e=>x1 b o (by rw [hb]; exact Vd _ e nb),λb o zv e=>?_,T,⟨oe,vs,oT,ts,e1,e2,e3,e4,e6,e7,e8,e9⟩,λz=>?_,?_⟩
 ·obtain ⟨_,o',n_,BV⟩:=hl.mem zv
  have eo:o'=o:=Option.some.inj (n_.symm.trans e)
  subst eo
  exact x4 b o' n_ BV
 ·obtain ⟨_,o',n_,BV⟩:=x2.mem z
  have eo:o'=oT:=Option.some.inj (n_.symm.trans e7)
  subst eo
  exact BV ts e8
 ·by_cases hT:T∈vy
  ·exact .inl hT
  ·refine .inr ?_
   cases q:h.get? T with
   | none=>rfl
   | some o =>
    have:=Vd vy q hT
    rw [<- hb,e5] at this
    cases this
section
variable {cd:aa} {s0:ah} {E:XK}
theorem V2 {σ:St} {a:ae} {vy:List ae} {bs:af} (I:Inv (oG (ir P w) P w K mg base N qual scope f cd A outer s0 H0 E) a_ σ H s) (hb:bs=Rw s.heap vy) (hl:s.heap.FunFrames bs (envOfC qual scope s0.heap.objs.size f cd::outer)) (x:af.Left bs (envOfC qual scope s0.heap.objs.size f cd::outer) a (.ref C) s.heap h') (ha:a∈vy) (hh:∀ b∈vy,b∈gy (envOfC qual scope s0.heap.objs.size f cd::outer)∨(s0.heap.get? b=none/\H b=none)) (hE:E (.ref C) none H) (B!:s0.heap.get? a=none) (mz:H a=none) :
  ir P w outer H0 s0 E (.ref a) { s with heap:=h' }:=by
 obtain ⟨k1,k2,T,fl,nT,hT⟩:=uA hb hl x ha
 have Lne:∀ b o,s0.heap.get? b=some o->b≠s0.heap.objs.size:=λb o e z=>Ji _ (z ▸ af.lt_size e)
 have fs:∀ b,b∈gy (envOfC qual scope s0.heap.objs.size f cd::outer)↔b=s0.heap.objs.size∨b∈gy outer:=λb=>by
  unfold gy
  rw [Js]
  exact Qj
 have un:Un (gy outer) [] H0 H s0.heap s.heap:=I.base
 have nh:∀ b o,s0.heap.get? b=some o->b∉gy outer->b∉vy:=λb o e nb z=>by
  rcases hh b z with q | q
  ·rcases (fs b).mp q with q | q
   ·exact Lne b o e q
   ·exact nb q
  ·rw [q.1] at e; cases e
 have yj:∀ b u,H b=some u->b∉vy:=λb u e z=>by
  rcases hh b z with q | q
  ·rw [I.ju b q] at e; cases e
  ·rw [q.2] at e; cases e
 have T0:s0.heap.get? T=none/\H T=none:=by
  rcases hT with z | z
  ·rcases hh T z with q | q
   ·exact absurd q nT
   ·exact q
  ·refine ⟨?_,?_⟩
   ·cases q:s0.heap.get? T with
    | none=>rfl
    | some o =>
     obtain ⟨o',e⟩:=un.there T o q (by simp)
     rw [z] at e; cases e
   ·cases q:H T with
    | none=>rfl
    | some u =>
     obtain ⟨o',e⟩:=(I.d_ T u q).ox
     rw [show s.heap.get? T=none from z] at e; cases e
 refine ⟨a,T,C,H,rfl,I.os,I.bare,⟨λb o e n nb _=>?_,λb o e n ic _=>?_,un.free,λb o e _=>?_,un.j3,un.jh,un.j4⟩,λb u e=>?_,fl,B!,T0.1,mz,T0.2,hE⟩
 ·exact k1 b o (nh b o e nb) (un.keep b o e n nb (by simp))
 ·obtain ⟨sl,q⟩:=un.slot b o e n ic (by simp)
  obtain ⟨Bv,q'⟩:=k2 b _ ((fs b).mpr (.inr ic)) q
  exact ⟨Bv,q'⟩
 ·obtain ⟨o',q⟩:=un.there b o e (by simp)
  by_cases ic:b∈gy outer
  ·obtain ⟨sl,q'⟩:=k2 b _ ((fs b).mpr (.inr ic)) q
   exact ⟨_,q'⟩
  ·exact ⟨o',k1 b o' (nh b o e ic) q⟩
 ·refine (I.d_ b u e).ie (λc v hc q=>k1 c v ?_ q) (λ_ q=>q) λ_ _ q=>q
  rcases hc with z | z
  ·rw [z]; exact yj b u e
  ·exact yj c _ z
theorem HY:mP (ir P w) (oG (ir P w) P w K mg base N qual scope f cd A outer s0 H0 E) E:=by
 intro a_ σ H s e s' I h
 obtain ⟨a,T,C,H',rfl,os,bare,un,d_,fl,na,nT,mz,Aa,hE⟩:=h
 have I3:Inv (oG (ir P w) P w K mg base N qual scope f cd A outer s0 H0 E) a_ σ H' s':=I.qj (ch:=[]) os un d_ bare (λb z=>absurd z (by simp))
 have JB:Un (gy outer) [] H0 H s0.heap s.heap:=I.base
 have n0:∀ b,s.heap.get? b=none->s0.heap.get? b=none:=λb z=>by
  cases q:s0.heap.get? b with
  | none=>rfl
  | some o =>
   obtain ⟨o',e⟩:=JB.there b o q (by simp)
   rw [z] at e; cases e
 have hl:s'.heap.FunFrames (Rw s'.heap (a::T::gy (envOfC qual scope s0.heap.objs.size f cd::outer))) (envOfC qual scope s0.heap.objs.size f cd::outer) :=
  gX I3.stack λL hL=>Ru _ (Qi _ (Qi _ hL))
 obtain ⟨oe,vs,oT,ts,e1,e2,e3,e4,e6,e7,e8,e9⟩:=fl
 show ai (ak P w) (A.deeper (envOfC qual scope s0.heap.objs.size f cd)) (leaving (envOfC qual scope s0.heap.objs.size f cd) (.ref a)) _ _ s'
 refine wpAny_leaving_next (base:=Rw s'.heap (a::T::gy (envOfC qual scope s0.heap.objs.size f cd::outer))) (cls:=.ref C) I3.ok.frames hl rfl
  ⟨oe,vs,T,oT,ts,e1,e2,e3,e4,Ru _ (by simp),e6,e7,e8,e9⟩ (λb o q=>Tw _ q) (Ru _ (by simp)) λh' lf=>?_
 refine V2 I3 rfl hl lf (by simp) (λb hb=>?_) hE (n0 a na) mz
 rcases Qj.mp hb with z | hb
 ·rw [z]; exact .inr ⟨n0 a na,mz⟩
 rcases Qj.mp hb with z | hb
 ·rw [z]; exact .inr ⟨n0 T nT,Aa⟩
 ·exact .inl hb
theorem nO {σ:St} {a:ae} {vs:List aa} (I:Inv (oG (ir P w) P w K mg base N qual scope f cd A outer s0 H0 E) a_ σ H s) (m:af.MadeExcOf s.heap h' a (.ref C) vs) (hE:E (.ref C) none H) :
  (oG (ir P w) P w K mg base N qual scope f cd A outer s0 H0 E).xe (.ref a) { s with heap:=h' }:=by
 obtain ⟨t,e1,_,_⟩:=m.there
 have I3:Inv (oG (ir P w) P w K mg base N qual scope f cd A outer s0 H0 E) a_ σ H { s with heap:=h' }:=I.kept (t':=s.toks) m.keeps
 have JB:Un (gy outer) [] H0 H s0.heap s.heap:=I.base
 have a0:s0.heap.get? a=none:=by
  cases q:s0.heap.get? a with
  | none=>rfl
  | some o =>
   obtain ⟨o',e⟩:=JB.there a o q (by simp)
   rw [m.new] at e; cases e
 have mz:H a=none:=by
  cases q:H a with
  | none=>rfl
  | some u =>
   obtain ⟨o',e⟩:=(I.d_ a u q).ox
   rw [m.new] at e; cases e
 have hl:h'.FunFrames (Rw h' (a::gy (envOfC qual scope s0.heap.objs.size f cd::outer))) (envOfC qual scope s0.heap.objs.size f cd::outer) :=
  gX I3.stack λL hL=>Ru _ (Qi _ hL)
 show ai (ak P w) (A.deeper (envOfC qual scope s0.heap.objs.size f cd)) (leaving (envOfC qual scope s0.heap.objs.size f cd) (.ref a)) _ _ { s with heap:=h' }
 refine wpAny_leaving_first (base:=Rw h' (a::gy (envOfC qual scope s0.heap.objs.size f cd::outer))) I3.ok.frames hl rfl e1 (λb o q=>Tw _ q) (Ru _ (by simp)) rfl rfl λh2 lf=>?_
 refine V2 (s:={ s with heap:=h' }) I3 rfl hl lf (by simp) (λb hb=>?_) hE a0 mz
 rcases Qj.mp hb with z | hb
 ·rw [z]; exact .inr ⟨a0,mz⟩
 ·exact .inl hb
theorem sg.ZD {x:ax} {k:Nat} (F:sg K x qual st f fd) (S:c_ N ps (aI st)) (len:∀ vs H Q E,sp vs H Q E->vs.length=ps.length) (i8:∀ (fh:aa) (A:bw) (outer:List cy) (s:ah) (H:Hp) (vs:List V) (Q:VK) (E:XK),dz k (A.deeper (envOfC qual (aI st) s.heap.objs.size f fh))->sp vs H Q E ->
   ∃ t,m9 (oG (ir P w) P w K mg base N qual (aI st) f fh A outer s H E) (eZ st) t/\t { nx:=λ_ H'=>Q .ft H',rt:=Q } (start N vs) H):b_ P w K mg base (ir P w) (k+1) f fd ps sp:=by
 obtain ⟨oc,od,kV,doc,pm,an,fh,ct,uw,rfl,lk,mi⟩:=F.ex
 exact L6 lk mi S len λA outer s H vs Q E hr t9=>i8 fh A outer s H vs Q E hr t9
theorem sg.AH {x:ax} {k:Nat} (F:sg K x qual st f fd) (S:c_ N ps (aI st)) (i8:∀ (fh:aa) (A:bw) (outer:List cy) (s:ah) (H:Hp) (vs:List V) (Q:VK) (E:XK),dz k (A.deeper (envOfC qual (aI st) s.heap.objs.size f fh))->sp vs H Q E ->
   ∃ t,m9 (oG (ir P w) P w K mg base N qual (aI st) f fh A outer s H E) (eZ st) t/\t { nx:=λ_ H'=>Q .ft H',rt:=Q } (start N vs) H) (len:autoParam (∀ vs H Q E,sp vs H Q E->vs.length=ps.length) L2.Oz):b_ P w K mg base (ir P w) (k+1) f fd ps sp:=F.ZD S len i8
end
noncomputable abbrev kh:List aa:=[.type "ValueError",.type "Exception",.type "BaseException",.type "object"]
noncomputable def zf:List ax:=["__init__", "__getattribute__", "__getattr__", "__class__"]
inductive l_ (h:af) (yw:List aa):List aa->Prop
 | base:l_ h yw yw
 | own {A:ae} {c0:aa} {dd:Option ae} {cd:ClassData} {sl:Array (Option aa)} {mA:ax->Option aa} {tl:List aa} :
   h.get? A=some { cls:=c0,dict:=dd,data:=.cls cd,slots:=sl }->h.Ns cd.ns mA->(∀ n∈zf,mA n=none)->l_ h yw tl->l_ h yw (.ref A::tl)
theorem l_.tail {yw tl:List aa} (T:l_ h yw tl):OwnTail h yw tl:=by
 induction T with
 | base=>exact .base
 | own hA hN hq _ ih=>exact .own hA hN (hq _ (.head _)) ih
def mq (h:af) (C:ae) (bm:List aa):Prop:=∃ N nm q bs hdct sn sub ab col dd k0 k1 k2 k3 k5 mN,h.get? C=some (excClassObj nm q C N bs bm hdct sn sub ab col dd k0 k1 k2 k3 k5 "ValueError.__new__")/\h.Ns N mN/\(∀ n∈zf,mN n=none)/\l_ h kh bm
section
variable {g:Array GenState} {d:Drawn} {t:Nat} {a:ae}
theorem aFk {yw tl:List aa} {n:ax} {y:Option aa} {Q:Option aa->ah->Prop} (hn:n∈zf) (T:l_ h yw tl) (yc:lookupAlong yw n=pure y) (hq:Q y ⟨h,g,d,t,os⟩) :
  ai M A (lookupAlong tl n) Q E ⟨h,g,d,t,os⟩:=by
 induction T with
 | base=>rw [yc]; exact Rc hq
 | own hA hN j! _ ih =>
  rw [Rai]
  refine Ra (wpAny_classOwn_cls hA hN ?_)
  rw [j! n hn]
  exact ih
theorem MM {n:ax} {y:Option aa} {Q:Option aa->ah->Prop} (hn:n∈zf) (x:mq h C bm) (hB:typeLookup (.type "ValueError") n=pure y) (hq:Q y ⟨h,g,d,t,os⟩):ai M A (typeLookup (.ref C) n) Q E ⟨h,g,d,t,os⟩:=by
 obtain ⟨N,nm,q,bs,hdct,sn,sub,ab,col,dd,k0,k1,k2,k3,k5,mN,hC,hN,KO,T⟩:=x
 have yc:lookupAlong kh n=pure y:=by rw [typeLookup_eq,PySem.F.excBase_ValueError.mroIs] at hB; exact hB
 rw [typeLookup_eq]
 refine Ra (wpAny_mroOf_exc hC ?_)
 rw [Rai]
 refine Ra (wpAny_classOwn_exc hC hN ?_)
 rw [KO n hn]
 exact aFk hn T yc hq
theorem aAu:typeLookup (.type "ValueError") "__class__" = pure (some (.builtin "object.__class__")):=by rw [typeLookup_type,builtinLookup_eq_fast]; kernel_rfl
theorem uB {base:aa} {Q:Bool->ah->Prop} (x:mq h C bm) (hq:Q ((aa.ref C::bm).contains base) ⟨h,g,d,t,os⟩):ai M A (isSubtype (.ref C) base) Q E ⟨h,g,d,t,os⟩:=by
 obtain ⟨N,nm,q,bs,hdct,sn,sub,ab,col,dd,k0,k1,k2,k3,k5,mN,hC,hN,KO,T⟩:=x
 exact wpAny_isSubtype_exc hC hq
theorem mq.has (x:mq h C bm) (hb:kh.contains (.type T)=true):(aa.ref C::bm).contains (.type T)=true:=by
 obtain ⟨N,nm,q,bs,hdct,sn,sub,ab,col,dd,k0,k1,k2,k3,k5,mN,hC,hN,KO,TT⟩:=x
 rw [Yb,TT.tail.hasType hb,Bool.or_true]
theorem aAv (x:mq h C bm) (hx:h.get? a=some o) (hc:o.cls=.ref C) (hq:R (.ok (.ret (.ref C))) ⟨h,g,d,t,os⟩) :
  codeAny (ak prog w) A (.call (.builtin "getset_descriptor.__get__") ⟨[.builtin "object.__class__",.ref a,.ref C],[]⟩) R ⟨h,g,d,t,os⟩:=by
 have QS:(⟨h,g,d,t,os⟩:ah).TypeIs (.builtin "object.__class__") "getset_descriptor" := Uo
 have Ez:(aa.ref C::bm).contains (.type (".".intercalate ("object.__class__".cutAt '.').dropLast))=true:=by
  rw [PySem.F.owner_object_class]; exact x.has (by decide +kernel)
 refine Vp PySem.F.slot_gs_get.plain PySem.F.entry_gs_get (PySem.F.slot_gs_get.check _ _ _ _ _ _ _ _ QS (PySem.F.args_gs_get _ _ _) ?_)
 repeat (any_goals (first | assumption | (with_reducible refine Rt hx ?_; rw [hc]) | (with_reducible refine uB x ?_; rw [Ez]) | wp_step))
 refine ⟨Code.quiet_builtin _ (by decide +kernel),Vk PySem.F.entry_object_class ?_⟩
 repeat (any_goals (first | assumption | (with_reducible refine Rt hx ?_; rw [hc]) | wp_step))
theorem wF {tk:Tok} {Q:PySem.Fin->ah->Prop} (x:mq h C bm) (hx:h.get? a=some o) (hc:o.cls=.ref C) (hq:Q (.done (.ret (.ref C))) ⟨h,g,d,t,os⟩) :
  ai (ak prog w) A (aq.«object.__getattribute__» ⟨[.ref a,.str "__class__" tk],[]⟩) Q E ⟨h,g,d,t,os⟩:=by
 have QS:(⟨h,g,d,t,os⟩:ah).TypeIs (.builtin "object.__class__") "getset_descriptor" := Uo
 have f5:=Uo
 have f6:=PySem.F.slot_gs_get.lookup
 have f7:=PySem.F.slot_gs_set.lookup
 have hm:("__class__" : ax)∈zf:=.tail _ (.tail _ (.tail _ (.head _)))
 repeat (any_goals (first | assumption | (with_reducible refine Rt hx ?_; rw [hc]) | with_reducible refine MM hm x aAu ?_ | wp_step))
 refine aAv x hx hc ?_
 repeat (any_goals (first | assumption | wp_step))
theorem aBk {Bo:aa} {Q:Unit->ah->Prop} (x:mq h C bm) (hx:h.get? a=some o) (hc:o.cls=.ref C) (hq:Q () ⟨h,g,d,t,os⟩):ai M A (checkBuiltinCall "BaseException.__getattribute__" ⟨[.ref a,Bo],[]⟩) Q E ⟨h,g,d,t,os⟩:=by
 have hk:builtinKind "BaseException.__getattribute__" = some .slot:=by decide +kernel
 have C4:splitId "BaseException.__getattribute__" = some ("BaseException", "__getattribute__"):=by decide +kernel
 have Ez:(aa.ref C::bm).contains (.type "BaseException")=true:=x.has (by decide +kernel)
 have ha:=PySem.F.args_bexc_ga (.ref a) Bo
 simp only [checkBuiltinCall,hk,C4]
 refine Ra ?_
 ·unfold isInstance
  repeat (first | (with_reducible refine Rt hx ?_; rw [hc]) | (with_reducible refine uB x ?_; rw [Ez]) | wp_step)
  exact hq
theorem aBl {tk:Tok} (x:mq h C bm) (hx:h.get? a=some o) (hc:o.cls=.ref C) (hq:Q (.ref C) ⟨h,g,d,t,os⟩):ai (ak prog w) A (getAttrBy (.ref a) (.str "__class__" tk) false) Q E ⟨h,g,d,t,os⟩:=by
 have FB:=PySem.F.attrBase_ValueError
 have f3:=FB.ga.bind (.ref a)
 have ψ:(aa.builtin "BaseException.__getattribute__" == aa.builtin "object.__getattribute__")=false:=by decide +kernel
 have PR:(onTheHeap (aa.ref C) && aa.builtin "BaseException.__getattribute__" == aa.builtin "object.__getattribute__")=false:=by rw [ψ]; rfl
 have ua:("__getattribute__" : ax)∈zf:=.tail _ (.head _)
 have vq:("__getattr__" : ax)∈zf:=.tail _ (.tail _ (.head _))
 repeat (any_goals (first | assumption | (with_reducible refine Rt hx ?_; rw [hc]) | with_reducible refine MM ua x FB.ga.lookup ?_ | with_reducible refine MM vq x FB.noGetattr ?_ | wp_step))
 refine Vp FB.ga.plain PySem.F.entry_bexc_ga (aBk x hx hc (wF x hx hc ?_))
 repeat (any_goals (first | assumption | wp_step))
theorem yG {Q:Option aa->ah->Prop} (x:mq h C bm) (hx:h.get? a=some o) (hc:o.cls=.ref C) (hq:Q (some (.ref C)) ⟨h,g,d,t+1,os⟩):ai (ak prog w) A (getAttr? (.ref a) "__class__") Q E ⟨h,g,d,t,os⟩:=by
 unfold getAttr? getAttrBy?
 repeat (any_goals (first | assumption | with_reducible apply aBl x hx hc | wp_step))
theorem aFl {o9:Option ae} {cd':ClassData} {Bv:Array (Option aa)} (x:mq h C bm) (hx:h.get? a=some o) (hc:o.cls=.ref C) (xg:h.get? C'=some { cls:=.type "type",dict:=o9,data:=.cls cd',slots:=Bv }) (hq:∀ t',Q (.bool ((aa.ref C::bm).contains (.ref C'))) ⟨h,g,d,t',os⟩):ai (ak prog w) A (call (.builtin "isinstance") [.ref a,.ref C']) Q E ⟨h,g,d,t,os⟩:=by
 have f3:=tc_sub
 have Hg:(⟨h,g,d,t,os⟩:ah).TypeIs (.ref C') "type" := ⟨_,xg,rfl⟩
 obtain ⟨N,nm,q,bs,hdct,sn,sub,ab,col,dd,k0,k1,k2,k3,k5,mN,hC,_⟩:=id x
 refine PyProof.Rows.call_isinstance_of ?_ (by intro e; cases e)
 by_cases e:C=C'
 ·subst e
  have hb:(aa.ref C::bm).contains (.ref C)=true:=by simp
  rw [hb] at hq
  unfold aq.«isinstance.nested»
  repeat (any_goals (first | assumption | (with_reducible refine Rt hx ?_; rw [hc]) | wp_step))
  exact hq _
 ·have il:(aa.ref C==aa.ref C')=false:=by simp [e]
  cases hb:(aa.ref C::bm).contains (.ref C') with
  | true =>
   rw [hb] at hq
   unfold aq.«isinstance.nested»
   repeat (any_goals (first | assumption | (with_reducible refine Rt hx ?_; rw [hc]) | (with_reducible refine Rt xg ?_) | (with_reducible refine uB x ?_; rw [hb]) | wp_step))
   exact hq _
  | false =>
   rw [hb] at hq
   have hTC:∀ t',(⟨h,g,d,t',os⟩:ah).TypeIs (.ref C) "type" := λ_=>⟨_,hC,rfl⟩
   unfold aq.«isinstance.nested»
   repeat (any_goals (first | assumption | (with_reducible refine Rt hx ?_; rw [hc]) | (with_reducible refine Rt xg ?_) | (with_reducible refine uB x ?_; rw [hb]) | with_reducible refine yG x hx hc ?_ | (with_reducible refine Rt hC ?_) | wp_step))
   exact hq _
theorem aG3 (x:mq h C bm) (hx:h.get? a=some o) (hc:o.cls=.ref C) (hq:∀ t',Q (.bool true) ⟨h,g,d,t',os⟩):ai (ak prog w) A (call (.builtin "isinstance") [.ref a,.type "ValueError"]) Q E ⟨h,g,d,t,os⟩:=by
 have f3:=tc_sub
 have Dk:typeOf (.type "ValueError")=pure (.type "type"):=by kernel_rfl
 have il:(aa.ref C==aa.type "ValueError")=false:=by rfl
 have hb:(aa.ref C::bm).contains (.type "ValueError")=true:=x.has (by decide +kernel)
 refine PyProof.Rows.call_isinstance_of ?_ (by intro e; cases e)
 unfold aq.«isinstance.nested»
 repeat (any_goals (first | assumption | (with_reducible refine Rt hx ?_; rw [hc]) | (with_reducible refine uB x ?_; rw [hb]) | wp_step))
 exact hq _
end
noncomputable def Bj (C a:ae):HO:=.ext λh=>∃ o,h.get? a=some o/\o.cls=.ref C
theorem Inv.Sr {σ:St} {a:ae} (I:Inv X a_ σ H s) (h:H a=some (Bj C a)):∃ o,s.heap.get? a=some o/\o.cls=.ref C:=(I.d_ a _ h).1
theorem yH (hK:X.K=K) (xg:∀ h:af,K.In h->∃ dd cd sl,h.get? C'=some { cls:=.type "type",dict:=dd,data:=.cls cd,slots:=sl }) :
  eX X (.builtin "isinstance") (λxs H Q=>∃ a C bm,xs = [.ref a,.ref C']/\H a=some (Bj C a)/\(∀ h:af,K.In h->mq h C bm)/\Q (.bl ((aa.ref C::bm).contains (.ref C'))) H):=by
 subst hK
 intro a_ s σ H xs us Q I r h
 obtain ⟨a,C,bm,rfl,hH,hE,q⟩:=h
 obtain ⟨u,t,rfl,rx,rt⟩:=rZ r
 cases rx
 cases rt
 obtain ⟨o,ho,hc⟩:=I.Sr hH
 obtain ⟨dd,cd,sl,h2⟩:=xg _ I.kj
 obtain ⟨hh,g,d,tk,os⟩:=s
 exact aFl (hE _ I.kj) ho hc h2 λt'=>⟨.bl _,H,I.tok _,rfl,q⟩
theorem aAw (hK:X.K=K) :
  eX X (.builtin "isinstance") (λxs H Q=>∃ a C bm,xs = [.ref a,.ty "ValueError"]/\H a=some (Bj C a)/\(∀ h:af,K.In h->mq h C bm)/\Q (.bl true) H):=by
 subst hK
 intro a_ s σ H xs us Q I r h
 obtain ⟨a,C,bm,rfl,hH,hE,q⟩:=h
 obtain ⟨u,t,rfl,rx,rt⟩:=rZ r
 cases rx
 cases rt
 obtain ⟨o,ho,hc⟩:=I.Sr hH
 obtain ⟨hh,g,d,tk,os⟩:=s
 exact aG3 (hE _ I.kj) ho hc λt'=>⟨.bl _,H,I.tok _,rfl,q⟩
def aG4 (C:ae) (E:XK):TS:=λ_ _ H=>E (.ref C) none H
theorem kY {x txt:ax} {np:Pos} {k:Nat} {E:XK} (Hl:∀ h:af,X.K.In h->mq h C bm) (hg:Gl X x) (hm:X.mg x=some (.ref C)) (hc:X.calm=true) (hR:∀ (a_:List (ae×bz)) (σ:St) (H:Hp) (s:ah) (h':af) (a:ae) (vs:List aa),Inv X a_ σ H s->af.MadeExcOf s.heap h' a (.ref C) vs->E (.ref C) none H->X.xe (.ref a) { s with heap:=h' }) (oa:autoParam ((x==("__debug__" : ax))=false) L2.jd) :
  PS X (.Raise (some (.Call (.Name x np) [.Constant (.str txt) k p2] [] gu)) none pos) (aG4 C E):=by
 intro a_ s σ H D I h
 obtain ⟨N,nm,q,bs,hdct,sn,sub,ab,col,dd,k0,k1,k2,k3,k5,mN,hC,hN,hq,T⟩:=Hl _ I.ok.mod.zj
 refine wpAny_Raise_call_subU (C:=C) (nm:=nm) (q:=q) (N:=N) (bs:=bs) (bm:=bm) (hdct:=hdct) (sn:=sn) (sub:=sub) (ab:=ab) (col:=col) (dd:=dd) (k0:=k0) (k1:=k1) (k2:=k2) (k3:=k3) (k5:=k5) (mN:=mN)
  PySem.F.excBase_ValueError (by decide +kernel) PySem.F.excBase_ValueError (T.tail.hasType (by decide +kernel)) (I.ok.hd hc) rfl (hq _ (.head _)) ?_
 refine lL I hg hm ⟨rfl,?_⟩ oa
 have ha:PA X [.Constant (.str txt) k p2] (iM (tC (.str txt)) oF):=aA aK aC
 refine Calls.evalArgs_plain (Rj (ha gu a_ s σ H (λxs H1=>xs.length=1/\E (.ref C) none H1) I ⟨rfl,h⟩) (λvs kz e_=>?_) λ_ _ y=>y)
 obtain ⟨xs,H1,I1,r,z1,z⟩:=e_
 have Eo:∀ b o,X.base.get? b=some o->kz.heap.get? b=some o:=I1.bk
 have hl:=r.length
 refine ⟨rfl,?_,Eo _ _ hC,hN.keeps Eo,T.tail.keeps Eo,λh' a' m=>hR a_ σ H1 kz h' a' _ I1 m z⟩
 show vs.length<=_
 rw [Rf]
 omega
section
variable {l:List cy} {E:XK} {a T:ae}
theorem Wq {bs:af} (un:Un (gy l) [] H H' s.heap s'.heap) (os:s'.os=s.os) (bare:AllBare s'.gens) (d_:je P w H' s'.heap) (na:s.heap.get? a=none) (nT:s.heap.get? T=none) (mz:H' a=none) (Aa:H' T=none) (hE:E (.ref C) none H') (hb:bs=Rw s'.heap (a::T::gy l)) (hl:s'.heap.FunFrames bs l) (yt:∀ b∈gy l,H' b=none) (x:af.Left bs l a (.ref C) s'.heap h'):ir P w l H s E (.ref a) { s' with heap:=h' }:=by
 obtain ⟨k1,k2,T',fl,ZU,Hg⟩:=uA hb hl x (by simp)
 have nh:∀ b o,s.heap.get? b=some o->b∉gy l->b∉a::T::gy l:=λb o e nb z=>by
  rcases Qj.mp z with q | z
  ·rw [q,na] at e; cases e
  rcases Qj.mp z with q | z
  ·rw [q,nT] at e; cases e
  ·exact nb z
 have yj:∀ b u,H' b=some u->b∉a::T::gy l:=λb u e z=>by
  rcases Qj.mp z with q | z
  ·rw [q,mz] at e; cases e
  rcases Qj.mp z with q | z
  ·rw [q,Aa] at e; cases e
  ·rw [yt b z] at e; cases e
 have T0:s.heap.get? T'=none/\H' T'=none:=by
  rcases Hg with z | z
  ·rcases Qj.mp z with q | z
   ·rw [q]; exact ⟨na,mz⟩
   rcases Qj.mp z with q | z
   ·rw [q]; exact ⟨nT,Aa⟩
   ·exact absurd z ZU
  ·refine ⟨?_,?_⟩
   ·cases q:s.heap.get? T' with
    | none=>rfl
    | some o =>
     obtain ⟨o',e⟩:=un.there T' o q (by simp)
     rw [z] at e; cases e
   ·cases q:H' T' with
    | none=>rfl
    | some u =>
     obtain ⟨o',e⟩:=(d_ T' u q).ox
     rw [show s'.heap.get? T'=none from z] at e; cases e
 refine ⟨a,T',C,H',rfl,os,bare,⟨λb o e n nb _=>?_,λb o e n ic _=>?_,un.free,λb o e _=>?_,un.j3,un.jh,un.j4⟩,λb u e=>?_,fl,na,T0.1,mz,T0.2,hE⟩
 ·exact k1 b o (nh b o e nb) (un.keep b o e n nb (by simp))
 ·obtain ⟨sl,q⟩:=un.slot b o e n ic (by simp)
  obtain ⟨Bv,q'⟩:=k2 b _ ic q
  exact ⟨Bv,q'⟩
 ·obtain ⟨o',q⟩:=un.there b o e (by simp)
  by_cases ic:b∈gy l
  ·obtain ⟨sl,q'⟩:=k2 b _ ic q
   exact ⟨_,q'⟩
  ·exact ⟨o',k1 b o' (nh b o e ic) q⟩
 ·refine (d_ b u e).ie (λc v hc q=>k1 c v ?_ q) (λ_ q=>q) λ_ _ q=>q
  rcases hc with z | z
  ·rw [z]; exact yj b u e
  ·exact yj c _ z
theorem IB.yf {bs:af} {cls:aa} (fl:IB h a cls T) (hT:bs.get? T=none):∃ a0,h.TracedW bs a cls a0:=by
 obtain ⟨oe,vs,oT,ts,e1,e2,e3,e4,e6,e7,e8,e9⟩:=fl
 have hs:1 < vs.size:=(Array.getElem?_eq_some_iff.mp e4).1
 exact ⟨vs[0]'(by omega),oe,vs,T,oT,ts,e1,⟨e2,Array.getElem?_eq_getElem _⟩,e3,e4,hT,e6,e7,e8,e9⟩
end
section
variable {σ:St} {E:XK} {e:aa} {F:aa->ah->Prop} {L:ae}
theorem Inv.sy (I:Inv X a_ σ H s) (h:ir X.prog X.w X.stack H s E e s'):∃ (a C:ae) (H':Hp),e=.ref a/\Inv X a_ σ H' s'/\s.heap.get? a=none/\H' a=none/\E (.ref C) none H'/\∃ o,s'.heap.get? a=some o/\o.cls=.ref C:=by
 obtain ⟨a,T,C,H',rfl,os,bare,un,d_,⟨oe,vs,oT,ts,e1,e2,_⟩,na,nT,mz,Aa,hE⟩:=h
 exact ⟨a,C,H',rfl,I.qj (ch:=[]) os un d_ bare (λb z=>absurd z (by simp)),na,mz,hE,oe,e1,e2⟩
theorem aDM (j0:X.stack=X.env::X.outer) (hf:X.env.frame=some L) (KY:A.frames=some X.stack) (I:Inv X a_ σ H s) (h:ir X.prog X.w X.stack H s E e s') :
  ai M A (noteFrame e X.env) (λ_ s2=>ai M A (setFlight e none) (λ_ s3=>ir X.prog X.w X.stack H s E e s3) F s2) F s':=by
 obtain ⟨a,T,C,H',rfl,os,bare,un,d_,fl,na,nT,mz,Aa,hE⟩:=h
 have I3:Inv X a_ σ H' s':=I.qj (ch:=[]) os un d_ bare (λb z=>absurd z (by simp))
 have hl:s'.heap.FunFrames (Rw s'.heap (a::T::gy X.stack)) X.stack :=
  gX I3.stack λL hL=>Ru _ (Qi _ (Qi _ hL))
 obtain ⟨a0,tr⟩:=fl.yf (bs:=Rw s'.heap (a::T::gy X.stack)) (Ru _ (by simp))
 have fin:=λ(h':af)=>Wq (P:=X.prog) (w:=X.w) (h':=h') un os bare d_ na nT mz Aa hE rfl hl I3.ju
 generalize Hc:Rw s'.heap (a::T::gy X.stack)=bs at *
 have kb:bs.StaysIn s'.heap:=λb o q=>by rw [<- Hc] at q; exact Tw _ q
 have en:bs.get? a=none:=by rw [<- Hc]; exact Ru _ (by simp)
 have pk:=hl
 rw [j0] at pk
 refine wpAny_looks_onW (base:=bs) (outer:=X.outer) (by rw [<- j0]; exact KY) hf ⟨kb,en,pk,tr⟩ λh1 held up1=>?_
 refine wpAny_landsW held λh2 M? YQ=>?_
 obtain ⟨f1,f2,f3,f4⟩:=M?.flying
 exact fin h2 ⟨f1,by rw [j0]; exact f3,f4,up1.trans YQ⟩
theorem aFm (I:Inv X a_ σ H s) (h:ir X.prog X.w X.stack H s E e s'):ai M A (setFlight e none) (λ_ s3=>ir X.prog X.w X.stack H s E e s3) F s':=by
 obtain ⟨a,T,C,H',rfl,os,bare,un,d_,fl,na,nT,mz,Aa,hE⟩:=h
 have I3:Inv X a_ σ H' s':=I.qj (ch:=[]) os un d_ bare (λb z=>absurd z (by simp))
 have hl:s'.heap.FunFrames (Rw s'.heap (a::T::gy X.stack)) X.stack :=
  gX I3.stack λL hL=>Ru _ (Qi _ (Qi _ hL))
 obtain ⟨a0,tr⟩:=fl.yf (bs:=Rw s'.heap (a::T::gy X.stack)) (Ru _ (by simp))
 have fin:=λ(h':af)=>Wq (P:=X.prog) (w:=X.w) (h':=h') un os bare d_ na nT mz Aa hE rfl hl I3.ju
 generalize Hc:Rw s'.heap (a::T::gy X.stack)=bs at *
 have kb:bs.StaysIn s'.heap:=λb o q=>by rw [<- Hc] at q; exact Tw _ q
 refine wpAny_setFlight_noneW kb hl tr.at λh1 k1 k2 k3 k4=>fin h1 ⟨k1,k2,?_,λb o q n=>⟨o.slots,k4 b o q n⟩⟩
 obtain ⟨oe,vs,T,oT,ts,he,hc,r⟩:=k3
 exact ⟨oe,vs,T,oT,ts,he,hc.1,r⟩
theorem Inv.CZ {D:ae} {u:HO} (I:Inv X a_ σ H s) (new:bS X.prog X.w (upd H D u) s.heap D u) (hn:H D=none) (hL:D≠X.env.locals)
  (h1:X.jk.heap.get? D=none) (h2:∀ x c,X.env.cells.lookup x=some c->c≠D) (h3:∀ p∈X.pn++a_,p.1≠D):Inv X a_ σ (upd H D u) s:=by
 have ne:∀ b v,H b=some v->b≠D:=λb v e z=>by rw [z,hn] at e; cases e
 refine ⟨I.ok,I.os,I.bare,⟨I.base.keep,I.base.slot,λb o q n hx=>?_,I.base.there,λb xs q=>?_,λb o v q=>?_,λb ps q=>?_⟩,I.loc,I.cell,?_,λx c q=>?_,λp hp=>?_,λb v q=>?_,I.len⟩
 ·rw [aF (λz=>by rw [z,h1] at q; cases q)]; exact I.base.free b o q n hx
 ·have:=I.base.j3 b xs q
  rw [aF (ne b _ this)]; exact this
 ·have:=I.base.jh b o v q
  rw [aF (ne b _ this)]; exact this
 ·obtain ⟨more,this⟩:=I.base.j4 b ps q
  exact ⟨more,by rw [aF (ne b _ this)]; exact this⟩
 ·rw [aF (Ne.symm hL)]; exact I.free
 ·rw [aF (h2 x c q)]; exact I.gj x c q
 ·obtain ⟨p1,p2,p3⟩:=I.pin p hp
  exact ⟨p1,by rw [aF (h3 p hp)]; exact p2,p3⟩
 ·by_cases hb:b=D
  ·subst hb
   rw [aB] at q; cases q
   exact new
  ·rw [aF hb] at q
   exact (I.d_ b v q).ie (λc v _ q=>q) (λc q=>by rw [aF (ne c _ q)]; exact q) λc xs q=>by rw [aF (ne c _ q)]; exact q
theorem aFn {x:ax} {Q:Unit->ah->Prop} (I:Inv X a_ σ H s) (hN:X.N.Nodup) (hi:X.N[i]?=some x) (hk:X.env.scope.names.lookup x=some .local) (h:∀ s',Inv X a_ (σ.set i none) H s'->Q () s'):ai M A (do bindName X.env x .none; unbindBehindTheSuite X.env x pos) Q F s:=by
 obtain ⟨m,hn,hl⟩:=id I.loc
 have CQ:(X.env.scope.kind==.class || (X.env.scope.kind==.module && X.env.locals !=X.env.globals))=false:=by rw [I.ok.kind]; rfl
 have An:i < σ.length:=by rw [I.len]; exact (Qa.mp hi).1
 have xo:=I.xo
 obtain ⟨oL,_,_,xa,_⟩:=id hn
 refine wpAny_nameGoes_keeps hk hn CQ λh' v KL hs=>?_
 refine h _ ⟨I.ok,I.os,I.bare,⟨λb o e n hb hx=>?_,λb o e n hb hx=>?_,I.base.free,λb o e hx=>?_,I.base.j3,I.base.jh,I.base.j4⟩,⟨_,KL,λj y v' e1 e2 e3=>?_⟩,λy c e=>?_,I.free,I.gj,λp hp=>?_,λb ob e=>?_,by simpa using I.len⟩
 ·exact (hs.2 b (Qv (Qn (af.lt_size e) I.ok.above))).trans (I.base.keep b o e n hb hx)
 ·obtain ⟨sl,e1⟩:=I.base.slot b o e n hb hx
  exact ⟨sl,(hs.2 b (Qv (Qn (af.lt_size e) I.ok.above))).trans e1⟩
 ·obtain ⟨o',e1⟩:=I.base.there b o e hx
  exact ⟨o',(hs.2 b (Qv (Qn (af.lt_size e) I.ok.above))).trans e1⟩
 ·by_cases hj:j=i
  ·subst hj
   rw [Xu An] at e2
   cases e2
  ·rw [Zt (Ne.symm hj)] at e2
   obtain ⟨u',r',q⟩:=hl j y v' e1 e2 e3
   refine ⟨u',r',?_⟩
   rcases q with ⟨k,e⟩ | ⟨k,c,e,z⟩
   ·refine .inl ⟨k,?_⟩
    have:y≠x:=λe=>hj (tM hN e1 (e ▸ hi))
    simp [this,e]
   ·exact .inr ⟨k,c,e,z.sameBut hs (xo _ _ e)⟩
 ·obtain ⟨v',z⟩:=I.cell y c e
  exact ⟨v',z.sameBut hs (xo _ _ e)⟩
 ·obtain ⟨p1,p2,p3,p4⟩:=I.pin p hp
  exact ⟨(hs.2 _ p3).trans p1,p2,p3,p4⟩
 ·refine (I.d_ b ob e).ie (λc w' hc q=>(hs.2 c ?_).trans q) (λ_ q=>q) λ_ _ q=>q
  rintro rfl
  rcases hc with z | hc
  ·rw [<- z,I.free] at e; cases e
  ·rw [I.free] at hc; cases hc
end
section
variable {g:Array GenState} {d:Drawn} {t:Nat} {a:ae} {oe:bz} {HF:List aa}
theorem aHT {Q:Bool->ah->Prop} (x:mq h C bm) (x':mq h C' HF) (he:h.get? a=some oe) (hc:oe.cls=.ref C) (hb:(aa.ref C::bm).contains (.ref C')=true)
  (hq:Q true ⟨h,g,d,t,os⟩):ai M A (excMatches (.ref a) (.ref C')) Q E ⟨h,g,d,t,os⟩:=by
 have Ez:(aa.ref C'::HF).contains (.type "BaseException")=true:=x'.has (by decide +kernel)
 have f:=tc_notTuple
 obtain ⟨N,nm,q,bs,hdct,sn,sub,ab,col,dd,k0,k1,k2,k3,k5,mN,xg,_⟩:=id x'
 unfold excMatches
 repeat (first | (with_reducible refine Rt he ?_; rw [hc]) | with_reducible refine Rt xg ?_ | (with_reducible refine uB x' ?_; rw [Ez]) | (with_reducible refine uB x ?_; rw [hb]) | wp_step)
 exact hq
end
abbrev TB:=Ends->XK->St->Hp->Prop
def FX (X:Cx) (a_:List (ae×bz)) (σ:St) (EX:XK) (e:aa) (s':ah):Prop:=∃ (H0:Hp) (s1:ah),Inv X a_ σ H0 s1/\ir X.prog X.w X.stack H0 s1 EX e s'
def PB (X:Cx) (st:List bg) (t:TB):Prop :=
 ∀ (a_:List (ae×bz)) (s:ah) (σ:St) (H:Hp) (D:Ends) (EX:XK),Inv X a_ σ H s->t D EX σ H->ai (ak X.prog X.w) X.A (execs st X.env) (SP X a_ D) (FX X a_ σ EX) s
section
variable {k:Nat} {ds:List aa} {x:ax} {p:Pos} {t:TA}
theorem aFo {σ:St} {Q:VK} {EX:XK} (F:b_ X.prog X.w X.K X.mg X.base (ir X.prog X.w) k f fd ps sp) (hr:dz k X.A) (hg:Gl X x) (hm:X.mg x=some (.ref f)) (hk:Tc X.K (.ref f)=true) (hb:jU X.K fd ps ds) (hd:bI iw ds) (ha:PA X.wo (e::es) t) (oa:(x==("__debug__" : ax))=false) (he:ao (e::es) X.env=(false,eval e X.env)::ao es X.env) (nr:(cb pos (ao es X.env)).any (·.1)=false) (I:Inv X a_ σ H s) (h:H_ sp iw EX t σ H Q):ai (ak X.prog X.w) X.A (eval (.Call (.Name x p) (e::es) [] pos) X.env) (EP X a_ σ Q) (FX X a_ σ EX) s:=by
 refine To (lL I hg hm ?_ oa)
 refine Tx (h₀:=X.base) I.ok.mod.zj hk (Rj (ha pos a_ s σ H _ (I.j2 _) h) (λus s1 ⟨vs,H1,Co,r,q⟩=>⟨Co.kj,?_⟩) λ_ _ z=>False.elim z) he nr
 have I1:Inv X a_ σ H1 s1:=Co.gw
 have r2:bI (vs++iw) (us++ds):=r.append hd
 have hl:(us++ds).length=ps.length:=by rw [<- r2.length]; exact F.len _ _ _ _ q
 refine Vg (Uv (F.run X.A X.stack s1 H1 ⟨us,[]⟩ (us++ds) (vs++iw) Q EX hr I1.Ar (hb s1 us I1.kj hl) r2 q) λr s' hq=>?_)
 cases r with
 | error e=>exact ⟨H1,s1,I1,hq⟩
 | ok fl =>
  cases fl with
  | ret u=>exact I1.after hq
  | next=>exact False.elim hq
  | brk=>exact False.elim hq
  | cont=>exact False.elim hq
def aG5 (sp:Sp) (iw:List V) (t:TA):TB:=λD EX σ H=>H_ sp iw EX t σ H λ_ H2=>D.nx σ H2
def aIK (tt:TT) (a b:TB):TB:=λD EX σ H=>tt σ H λc H1=>if c=true then a D EX σ H1 else b D EX σ H1
theorem aFp (F:b_ X.prog X.w X.K X.mg X.base (ir X.prog X.w) k f fd ps sp) (hr:dz k X.A) (hg:Gl X x) (hm:X.mg x=some (.ref f)) (hk:Tc X.K (.ref f)=true) (hb:jU X.K fd ps ds) (hd:bI iw ds) (ha:PA X.wo (e::es) t) (oa:autoParam ((x==("__debug__" : ax))=false) L2.jd) (he:autoParam (ao (e::es) X.env=(false,eval e X.env)::ao es X.env) L2.gc) (nr:autoParam ((cb pos (ao es X.env)).any (·.1)=false) L2.gc) (hs:autoParam (cq (.Call (.Name x p) (e::es) [] pos) none pos'.line X.env=pure false) L2.gc):PB X [.Expr (.Call (.Name x p) (e::es) [] pos) pos'] (aG5 sp iw t):=by
 intro a_ s σ H D EX I h
 refine Up (Mf (fi (aFo F hr hg hm hk hb hd ha oa he nr I h) λv s1 e_=>?_) I.quiet hs)
 obtain ⟨x,H1,I1,r1,q1⟩:=e_
 exact Tr ⟨σ,H1,I1,q1⟩
theorem aHU {c:ba} {a b:List bg} {ta tb:TB} (hc:PT X.wo c tt) (ha:PB X a ta) (hb:PB X b tb):PB X [.If c a b pos] (aIK tt ta tb):=by
 intro a_ s σ H D EX I h
 refine Up (wpAny_If (Rj (hc a_ s σ H _ (I.j2 _) h) (λd s1 e_=>?_) λ_ _ z=>False.elim z))
 obtain ⟨H1,Co,q1⟩:=e_
 have I1:Inv X a_ σ H1 s1:=Co.gw
 have fin:∀ (l:List bg),(ai (ak X.prog X.w) X.A (execs l X.env) (SP X a_ D) (FX X a_ σ EX) s1)->ai (ak X.prog X.w) X.A (execs l X.env) (λf f'=>match f with | .next=>ai (ak X.prog X.w) X.A (execs [] X.env) (SP X a_ D) (FX X a_ σ EX) f' | f=>SP X a_ D f f') (FX X a_ σ EX) s1:=λl z =>
  fi z λf s2 q=>by
   cases f with
   | next=>exact Tr q
   | ret v=>exact q
   | brk=>exact q
   | cont=>exact q
 cases d with
 | true=>exact fin a (ha a_ s1 σ H1 D EX I1 q1)
 | false=>exact fin b (hb a_ s1 σ H1 D EX I1 q1)
def aIL (X:Cx) (C':ae) (i j:Nat) (tb:TB):TS:=λD σ H=>tb D (λcls _ H2=>∃ C bm,cls=.ref C/\(∀ h:af,X.K.In h->mq h C bm)/\(aa.ref C::bm).contains (.ref C')=true/\∀ a,H2 a=none->D.nx ((σ.set i (some (.ref a))).set j none) (upd H2 a (Bj C a))) σ H
theorem aG6 {st:List bg} {tb:TB} {dn en cn:ax} {p4 p5 p6:Pos} {L:ae} {HF:List aa} (hb:PB X st tb) (j0:X.stack=X.env::X.outer) (hf:X.env.frame=some L) (hex:X.ex = []) (hg:Gl X dn) (hm:X.mg dn=some (.ref C')) (xg:∀ h:af,X.K.In h->mq h C' HF) (hN:X.N.Nodup) (hi:X.N[i]?=some cn) (hj:X.N[j]?=some en) (BR:i≠j) (QA:X.env.scope.names.lookup cn=some .local) (hle:X.env.scope.names.lookup en=some .local) (oa:autoParam ((dn==("__debug__" : ax))=false) L2.jd) (hd2:autoParam ((en==("__debug__" : ax))=false) L2.jd) (mi:autoParam ((en==("__classdict__" : ax))=false) L2.jd) (hs:autoParam (cq (.Name en p3) (some (.Name cn p2)) p4.line X.env=pure false) L2.gc) :
  PS X (.Try st [.ExceptHandler (some (.Name dn p1)) (some en) [.Assign [.Name cn p2] (.Name en p3) p4] p5] [] [] p6) (aIL X C' i j tb):=by
 intro a_ s σ H D I h
 refine wpAny_Try_except (Rj (hb a_ s σ H D _ I h) (λf s1 q=>?_) λe s1 q=>?_)
 ·cases f with
  | next=>exact Tr q
  | ret v=>exact q
  | brk=>exact q
  | cont=>exact q
 obtain ⟨H0,s0,I0,q⟩:=q
 refine Rj (aDM (F:=X.xe) j0 hf I.ok.frames I0 q) (λ_ s2 q2=>Rj q2 (λ_ s3 q3=>?_) λ_ _ z=>z) λ_ _ z=>z
 obtain ⟨a,_,_,rfl,_⟩:=I0.sy q3
 -- the clause is looked at with the exception held
 have AH:({ X with A:=X.A.mark (some (.ref a)),calm:=false,xe:=λ_ _=>False }:Cx).Ok :=
  ⟨I.ok.mod,I.ok.kind,I.ok.glob,I.ok.blt,I.ok.above,I.ok.inj,I.ok.has,I.ok.A9,λz=>Bool.noConfusion (show false=true from z),I.ok.frames,I.ok.DY,I.ok.EN,I.ok.bs,I.ok.Ad,I.ok.oh,I.ok.ya,I.ok.j5,I.ok.yt⟩
 have OQ:∀ {d6:St} {H':Hp} {s':ah},Inv X a_ d6 H' s'->Inv { X with A:=X.A.mark (some (.ref a)),calm:=false,xe:=λ_ _=>False } a_ d6 H' s':=λJ=>⟨AH,J.os,J.bare,J.base,J.loc,J.cell,J.free,J.gj,J.pin,J.d_,J.len⟩
 have ZE:∀ {d6:St} {H':Hp} {s':ah},Inv { X with A:=X.A.mark (some (.ref a)),calm:=false,xe:=λ_ _=>False } a_ d6 H' s'->Inv X a_ d6 H' s':=λJ=>⟨I.ok,J.os,J.bare,J.base,J.loc,J.cell,J.free,J.gj,J.pin,J.d_,J.len⟩
 refine wpAny_handleBy_cons (codeAny_handlers_test ?_) (by intro q; cases q)
 obtain ⟨a',C,H3,ea,I3,na,mz,⟨C1,bm,eC,Hl,F2,_⟩,o,ho,hc⟩:=I0.sy q3
 cases ea
 cases eC
 refine lL (X:={ X with A:=X.A.mark (some (.ref a)),calm:=false,xe:=λ_ _=>False }) (OQ I3) hg hm ?_ oa
 obtain ⟨hh,gg,dd,tt,oo⟩:=s3
 refine aHT (Hl _ I3.kj) (xg _ I3.kj) ho hc F2 ?_
 show codeAny _ _ _ _ _
 refine codeAny_handlers_suite_as ?_
 refine Rj (aFm (F:=λ_ _=>False) I0 q3) (λ_ s4 q4=>?_) λ_ _ z=>False.elim z
 obtain ⟨a',C,H4,ea,I4,na,mz,⟨C1,bm,eC,Hl,F2,i?⟩,o,ho,hc⟩:=I0.sy q4
 cases ea
 cases eC
 have old:∀ b o,s0.heap.get? b=some o->b≠a:=λb o e z=>by rw [z,na] at e; cases e
 have I5:Inv X a_ σ (upd H4 a (Bj C a)) s4:=by
  refine I4.CZ ⟨⟨o,ho,hc⟩,⟨o,ho⟩,λh1 h2 ⟨o1,e1,c1⟩ k=>⟨o1,k o1 e1,c1⟩⟩ mz ?_ ?_ (λy c e=>?_) λp hp=>?_
  ·obtain ⟨m,⟨oL,_,_,xa,_⟩,_⟩:=I0.loc
   exact Ne.symm (old _ _ xa)
  ·cases z:X.jk.heap.get? a with
   | none=>rfl
   | some o' =>
    obtain ⟨o2,e⟩:=I0.base.there a o' z (by rw [hex]; simp)
    exact absurd rfl (old _ _ e)
  ·obtain ⟨v,oc,t_,_⟩:=I0.cell y c e
   exact old _ _ t_
  ·exact old _ _ (I0.pin p hp).1
 refine rA (i:=j) (v:=.ref a) I5 hN hj (.inl hle) rfl (λs5 I6 _=>?_) (.inr hle)
 have P1:m9 { X with A:=X.A.mark (some (.ref a)),calm:=false,xe:=λ_ _=>False } [.Assign [.Name cn p2] (.Name en p3) p4] (Cb (pR j) (bO i)):=aJ (aX hN hi (.inl QA) (U6 hj (.inl hle) hd2 mi) hs (.inr QA))
 have jl:j < σ.length:=by rw [I4.len]; exact (Qa.mp hj).1
 refine Rj (P1 a_ s5 _ _ { nx:=λd6 H'=>d6=(σ.set j (some (.ref a))).set i (some (.ref a))/\H'=upd H4 a (Bj C a),rt:=λ_ _=>False } (OQ I6) ⟨.ref a,Xu jl,rfl,rfl⟩) (λfl s6 q6=>?_) λ_ _ z=>False.elim z
 cases fl with
 | next =>
  obtain ⟨d6,H',I7,rfl,rfl⟩:=q6
  refine aFn (ZE I7) hN hj hle λs8 I8=>⟨_,_,I8,?_⟩
  have:=i? a mz
  rw [List.set_comm _ _ BR.symm,List.set_set]
  exact this
 | ret v=>obtain ⟨_,_,_,_,_,z⟩:=q6; exact z.elim
 | brk=>obtain ⟨_,_,_,z⟩:=q6; exact z.elim
 | cont=>obtain ⟨_,_,_,z⟩:=q6; exact z.elim
end
theorem wY {bs:List Bool}:∀ {us:List aa},bI (bs.map V.bl) us->us=bs.map aa.bool:=by
 induction bs with
 | nil=>intro us r; rw [Xo] at r; cases r; rfl
 | cons b bs ih =>
  intro us r
  rw [Qw] at r
  cases r with
  | cons r1 r2 =>
   have e:_=aa.bool b:=r1
   rw [Qw,<- ih r2,e]
theorem V_ {bs:List Bool} {k:Bool} {y:aa} (hy:y∈bs.map aa.bool) (A:bw) (s:ah):SeqAt.EqAt A s y (.bool k) (isBoolOf k y):=by
 obtain ⟨b,_,rfl⟩:=Xp.mp hy
 exact SeqAt.EqAt.bool_bool b k
theorem aBm (hK:X.K=K):Ae X "list.count" (λx vs H Q=>∃ (a:ae) (bs:List Bool) (k:Bool),x=.ref a/\vs = [.bl k]/\d9 K H a (bs.map V.bl)/\Q (.int (bs.count k:Nat)) H):=by
 subst hK
 intro a_ s σ H x xs v us Q I rx r h
 obtain ⟨a,bs,k,rfl,rfl,ha,q⟩:=h
 obtain ⟨u,rfl,e⟩:=iC r
 cases e
 cases rx
 obtain ⟨dj,rv,⟨⟨cls,dd,data,sl⟩,n,ho,hc,QG,hd⟩,wx⟩:=I.list ha
 simp only at hc hd
 subst hc hd
 obtain rfl:=wY rv
 refine Uq Ip ⟨_,ho,rfl⟩ PySem.F.entry_list_count (PySem.F.args_list_count_2 _ _) (SeqAt.list_countAt a (bs.map aa.bool).toArray n dd sl (.bool k) (isBoolOf k)) ⟨ho,λy hy=>V_ (by simpa using hy) _ _,?_⟩
 have e:((bs.map aa.bool).toArray.toList.countP (isBoolOf k))=bs.count k:=by
  rw [Wg,List.countP_map]
  rfl
 rw [e]
 exact ⟨.int _,H,I.tok _,⟨_,rfl⟩,q⟩
theorem aBn (hK:X.K=K):Ae X "list.index" (λx vs H Q=>∃ (a:ae) (bs:List Bool) (k:Bool) (j:Nat),x=.ref a/\vs = [.bl k]/\d9 K H a (bs.map V.bl)/\bs[j]?=some k/\(∀ m,m < j->bs[m]?≠some k)/\Q (.int (j:Nat)) H):=by
 subst hK
 intro a_ s σ H x xs v us Q I rx r h
 obtain ⟨a,bs,k,j,rfl,rfl,ha,hj,jq,q⟩:=h
 obtain ⟨u,rfl,e⟩:=iC r
 cases e
 cases rx
 obtain ⟨dj,rv,⟨⟨cls,dd,data,sl⟩,n,ho,hc,QG,hd⟩,wx⟩:=I.list ha
 simp only at hc hd
 subst hc hd
 obtain rfl:=wY rv
 have uc:j < bs.length:=(Qa.mp hj).1
 have Kn:bs.length<=ag:=by rw [Qc] at wx; exact wx
 have val:∀ m (hm:m < (bs.map aa.bool).toArray.size),isBoolOf k (bs.map aa.bool).toArray[m]=decide (bs[m]?=some k):=λm hm=>by
  have BM:m < bs.length:=by simpa using hm
  have e:(bs.map aa.bool).toArray[m]=aa.bool bs[m]:=by simp
  rw [e,Qb BM]
  unfold isBoolOf
  by_cases z:bs[m]=k
  ·simp [z]
  ·simp [z]
 refine Uq Ub ⟨_,ho,rfl⟩ Io (Ik _ _) (SeqAt.list_indexAt a (bs.map aa.bool).toArray n dd sl (.bool k) (isBoolOf k) j (by simp; omega) (by rw [Rf] at Kn; omega) ?_ ?_) ⟨ho,λy hy=>V_ (by simpa using hy) _ _,?_⟩
 ·rw [val,hj]; simp
 ·intro m hm fu
  rw [val]
  exact decide_eq_false (jq m fu)
 ·exact ⟨.int _,H,I.tok _,⟨_,rfl⟩,q⟩
structure vi (X:Cx) (e:ba) (t:TE):Prop where
 go:PE X e t
structure Fl (X:Cx) (es:List ba) (t:TA):Prop where
 go:PA X es t
structure Cg (X:Cx) (st:bg) (t:TS):Prop where
 go:PS X st t
structure ji (X:Cx) (C9:List bg) (t:TS):Prop where
 go:m9 X C9 t
section
variable {a b:ba} {t:TA} {bP:List bg} {ts us:TS}
theorem bD:Fl X [] oF:=⟨aC⟩
theorem aG (h:vi X e te) (r:Fl X es t) (hs:ao (e::es) X.env=(false,eval e X.env)::ao es X.env):Fl X (e::es) (iM te t):=⟨aA h.go r.go hs⟩
theorem dF {i j}:vi X (.Constant (.int i) j pos) (tC (.int i)):=⟨aH⟩
theorem fF {i j}:vi X (.Constant (.bool i) j pos) (tC (.bl i)):=⟨gA⟩
theorem sU {j}:vi X (.Constant .none j pos) (tC .ft):=⟨oS⟩
theorem cH {x j}:vi X (.Constant (.str x) j pos) (tC (.str x)):=⟨aK⟩
theorem cO {k} (h:Fl X es t):vi X (.Tuple es k pos) (Bb t):=⟨cC h.go⟩
theorem eK (h:Fl X es t):vi X (.List es pos) (E2 t):=⟨gW h.go⟩
theorem mW {op:Operator} (ho:iy X (binaryOp op) r) (ha:vi X a ta) (hb:vi X b tb):vi X (.BinOp a op b pos) (y_ r ta tb):=⟨aY ho ha.go hb.go⟩
theorem bE (h:Cg X st ts):ji X [st] ts:=⟨aJ h.go⟩
theorem aM (h:Cg X st ts) (r:ji X bP us):ji X (st::bP) (Bc ts us):=⟨aE h.go r.go⟩
theorem cP {x:ax} (hN:X.N.Nodup) (hi:X.N[i]?=some x) (hx:Loc X.env.scope x) (he:vi X e te) (hs:autoParam (cq e (some (.Name x pos')) pos.line X.env=pure false) L2.gc) (hf:autoParam (X.fn x=true∨X.env.scope.names.lookup x=some .local) L2.DU) :
  Cg X (.Assign [.Name x pos'] e pos) (Cb te (bO i)):=⟨aX hN hi hx he.go hs hf⟩
end
section
variable {Z:List ae} {S:St->Prop} {a b:ba}
theorem ji.ex {C9:List bg} {t:TS} {R:TS->Prop} (h:ji X C9 t) (r:R t):∃ t,m9 X C9 t/\R t:=⟨t,h.go,r⟩
theorem gR (h:vi X e te):Cg X (.Return (some e) pos) (TY te):=⟨aR h.go⟩
end
section
variable {l:ba} {tb:TS}
theorem mX (hp:ay (ak X.prog X.w) X.A X.env X.xe) (hc:X.calm=true) (hl:vi X l tl) (hg:PG X tg g) (hb:ji X body tb) (hs:∀ x,foldedSetIterable l X.env x=pure x) :
  Cg X (.For tg l body [] pos) (HN (L8 X.K tl) g tb):=⟨iA hp hc (hX hl.go) hg hb.go hs⟩
end
noncomputable def V' (e:cu):Bool:=match e.key with
 | .str _ _=>true
 | _=>false
noncomputable def pw (K:Rb) (C:ae) (bm:List aa):Bool:=match K.lookup C with
 | some ⟨.type "type", _, .cls cd, sl⟩ => (match sl.toList with
   | [_, _, _, _, some (.builtin n), _] => n == "ValueError.__new__" && cd.mro == .ref C :: bm && !cd.hasDel && (match K.lookup cd.ns with
     | some ⟨_,_,.dict es _,_⟩=>es.toList.all V' && zf.all (λn=>(es.toList.find? (·.key.isStr n)).isNone)
     | _=>false)
   | _=>false)
 | _=>false
theorem MB (X:K.In h) (q:pw K C bm=true):∃ N nm qn bs hdct sn sub ab col dd k0 k1 k2 k3 k5 mN,
  h.get? C=some (excClassObj nm qn C N bs bm hdct sn sub ab col dd k0 k1 k2 k3 k5 "ValueError.__new__")/\h.Ns N mN/\∀ n∈zf,mN n=none:=by
 unfold pw at q
 split at q
 ·rename_i dd cd sl ho
  split at q
  ·rename_i k0 k1 k2 k3 n k5 hs
   split at q
   ·rename_i c1 d1 es ep s1 hN
    simp only [Qz,beq_iff_eq,Bool.not_eq_true',Jq,Option.isNone_iff_eq_none] at q
    obtain ⟨⟨⟨rfl,hm⟩,FZ⟩,hk,hq⟩:=q
    obtain ⟨nm,bs,mro,ns,qn,hd,sn,sub,ab,col,del⟩:=cd
    dsimp only at hm FZ hN
    subst hm FZ
    have b!:sl = #[k0,k1,k2,k3,some (.builtin "ValueError.__new__"),k5]:=by
     obtain ⟨l⟩:=sl
     simp only at hs
     rw [hs]
    subst b!
    refine ⟨ns,nm,qn,bs,hd,sn,sub,ab,col,dd,k0,k1,k2,k3,k5,nsFind es,X _ _ ho,⟨_,es,ep,X _ _ hN,rfl,λe he=>?_,λ_=>rfl⟩,λn hn=>?_⟩
    ·have:=hk e (Array.mem_toList_iff.mpr he)
     unfold V' at this
     split at this
     ·rename_i a b e; exact ⟨a,b,e⟩
     ·cases this
    ·have:=hq n hn
     unfold nsFind findBy
     rw [<- Array.find?_toList,this]
     rfl
   ·simp at q
  ·cases q
 ·cases q
theorem aDO (q:pw K C kh=true) (h:af) (X:K.In h):mq h C kh:=by
 obtain ⟨N,nm,qn,bs,hdct,sn,sub,ab,col,dd,k0,k1,k2,k3,k5,mN,h1,h2,h3⟩:=MB X q
 exact ⟨N,nm,qn,bs,hdct,sn,sub,ab,col,dd,k0,k1,k2,k3,k5,mN,h1,h2,h3,.base⟩
theorem iF {D:ae} (qD:pw K D kh=true) (q:pw K C (.ref D::kh)=true) (h:af) (X:K.In h):mq h C (.ref D::kh):=by
 obtain ⟨N,nm,qn,bs,hdct,sn,sub,ab,col,dd,k0,k1,k2,k3,k5,mN,h1,h2,h3⟩:=MB X q
 obtain ⟨_,_,_,_,_,_,_,_,_,_,_,_,_,_,_,mD,e1,e2,e3⟩:=MB X qD
 exact ⟨N,nm,qn,bs,hdct,sn,sub,ab,col,dd,k0,k1,k2,k3,k5,mN,h1,h2,h3,.own e1 e2 e3 .base⟩
section
variable {e l:ae} {P:Nat->aa->Prop} {st:Nat->af->Prop}
end
theorem aG7 (h:n<=1000):n<=ag:=by rw [Rf]; omega
section
variable {own:Nat} {σ:St}
theorem aFq (h:vs[i]?=some v):vs.take (i+1)=vs.take i++[v]:=by rw [Jr,h]; rfl
theorem yI (SH:St->Prop) (hn:n<=1000) (hl:vs.length=n) (jo:SH (ia own fr σ)) (p_:∀ H',aD H H'->J.stop n H') (AY:∀ i H',i < n->aD H H'->J.go i H') (hs:∀ i v x σ H1 H2,i < n->vs[i]?=some v->SH σ->aD H H1->J.s_ i H1 x H2->∀ Q:V->St->Hp->Prop,(∀ fc H4,SH fc->aD H1 H4->Q v fc H4)->g x σ H2 λfc H3=>te fc H3 λy H4=>Q y fc H4) (hd:∀ H',aD H H'->Qf H' vs) :
  mj J [] (ia own fr σ) H (λys _ H=>Qf H ys) g Ba (qy te):=by
 refine lS n (aG7 hn) SH (λi ys H'=>ys=vs.take i/\aD H H') jo ⟨rfl,aD.refl H⟩ (λi ys H' p=>by rw [p.1,Jf]; omega) (λys H' p=>p_ H' p.2) (λi ys H' hi p=>AY i H' hi p.2) ?_ (λys H' p=>?_)
 ·rintro i ys d6 x H1 H2 hi sh ⟨rfl,s1⟩ hy hz
  have hv:vs[i]?=some vs[i]:=Qb (by omega)
  have h:=hs i vs[i] x d6 H1 H2 hi hv sh s1 hy (λy fc H4=>(vs.take i).length < ag/\SH fc/\(vs.take i++[y]=vs.take (i+1)/\aD H H4)) λfc H4 Y3 s4=>⟨hz,Y3,(aFq hv).symm,s1.trans s4⟩
  exact h
 ·obtain ⟨rfl,s1⟩:=p
  rw [Jj (by omega)]
  exact hd H' s1
theorem aDP {a:ae} (SH:St->Prop) (hn:xs.length<=1000) (hl:vs.length=xs.length) (ha:d9 K H a xs) (jo:SH (ia own fr σ)) (hs:∀ (i:Nat) x v σ H1,xs[i]?=some x->vs[i]?=some v->SH σ->aD H H1->∀ Q:V->St->Hp->Prop,(∀ fc H4,SH fc->aD H1 H4->Q v fc H4)->g x σ H1 λfc H2=>te fc H2 λy H4=>Q y fc H4) (hd:∀ H',aD H H'->Qf H' vs) :
  mj (y4 K a) [] (ia own fr σ) H (λys _ H=>Qf H ys) g Ba (qy te):=by
 refine yI SH hn hl jo (λH' s=>⟨xs,s.lj ha,Qg _⟩) (λi H' hi s=>⟨xs,xs[i],s.lj ha,Qb hi⟩) (λi v x σ H1 H2 hi hv sh s y Q k=>?_) hd
 obtain ⟨e,y⟩:=y
 subst e
 exact hs i x v σ _ (y xs (s.lj ha)) hv sh s Q k
theorem uC {a:ae} (SH:St->Prop) (hn:xs.length<=1000) (hl:vs.length=xs.length) (ha:d8 K H a xs) (jo:SH (ia own fr σ)) (hs:∀ (i:Nat) x v σ H1,xs[i]?=some x->vs[i]?=some v->SH σ->aD H H1->∀ Q:V->St->Hp->Prop,(∀ fc H4,SH fc->aD H1 H4->Q v fc H4)->g x σ H1 λfc H2=>te fc H2 λy H4=>Q y fc H4) (hd:∀ H',aD H H'->Qf H' vs) :
  mj (Bg K a) [] (ia own fr σ) H (λys _ H=>Qf H ys) g Ba (qy te):=by
 refine yI SH hn hl jo (λH' s=>⟨xs,s.dk ha,Qg _⟩) (λi H' hi s=>⟨xs,xs[i],s.dk ha,Qb hi⟩) (λi v x σ H1 H2 hi hv sh s y Q k=>?_) hd
 obtain ⟨e,y⟩:=y
 subst e
 exact hs i x v σ _ (y xs (s.dk ha)) hv sh s Q k
theorem aDQ (SH:St->Prop) (hn:n<=1000) (hl:vs.length=n) (jo:SH (ia own fr σ)) (hs:∀ i v σ H1,i < n->vs[i]?=some v->SH σ->aD H H1->∀ Q:V->St->Hp->Prop,(∀ fc H4,SH fc->aD H1 H4->Q v fc H4)->g (.int (lo+i)) σ H1 λfc H2=>te fc H2 λy H4=>Q y fc H4) (hd:∀ H',aD H H'->Qf H' vs) :
  mj (Bh lo n) [] (ia own fr σ) H (λys _ H=>Qf H ys) g Ba (qy te):=by
 refine yI SH hn hl jo (λH' s=>Qg _) (λi H' hi s=>hi) (λi v x σ H1 H2 hi hv sh s y Q k=>?_) hd
 obtain ⟨e,y⟩:=y
 subst e y
 exact hs i v σ _ hi hv sh s Q k
end
section
variable {bP:List bg} {t u:TS}
end
theorem aDR (hK:X.K=K):Fw X (TM K):=by subst hK; exact cN
theorem wG (hK:X.K=K):iy X (bh .NotIn) (D4 K true):=by subst hK; exact xZ
theorem wH (xs:Array aa):slicePick xs none none (some (-1))=xs.toList.reverse.toArray:=by
 unfold slicePick
 have e1:sliceBounds none none (some (-1)) xs.size=((xs.size:Int) - 1,-1,-1):=by simp [sliceBounds]
 rw [e1,<- Wr xs]
 congr 1
 show List.filterMap (λx=>xs[x]?) (sliceRange ((xs.size:Int) - 1) (-1) (-1))=_
 have e2:sliceRange ((xs.size:Int) - 1) (-1) (-1)=(List.range xs.size).map λ(k:Nat)=>((xs.size:Int) - 1+(k:Int)*(-1)).toNat:=by
  unfold sliceRange
  rw [if_neg (by decide)]
  have e3:(if (xs.size:Int) - 1 > -1 then ((xs.size:Int) - 1 - -1 - -1 - 1) / (- -1) else 0).toNat=xs.size:=by
   by_cases h0:xs.size=0
   ·rw [h0]; decide
   ·rw [if_pos (by omega),show (- -1:Int)=1 from rfl,Wl]; omega
  show (List.range (if (xs.size:Int) - 1 > -1 then ((xs.size:Int) - 1 - -1 - -1 - 1) / (- -1) else 0).toNat).map _=_
  rw [e3]
  refine List.map_congr_left λk _=>?_
  congr 1
  omega
 rw [e2,Wj]
 rfl
def aHV (K:Rb) (te ts:TE):TE:=λσ H Q=>te σ H λx H1=>ts σ H1 λy H2=>y=.int (-1)/\∃ a xs,x=.ref a/\d9 K H2 a xs/\∀ p,H2 p=none->Q (.ref p) (upd H2 p (.lst xs.reverse))
theorem aFr {st:ba} (he:PE X e te) (j0:PE X st ts):PE X (.Subscript e (.Slice none none (some st) p2) pos) (aHV X.K te ts):=by
 intro a_ s σ H Q I h
 refine Vi (fi (he a_ s σ H _ I h) λv s1 e_=>?_)
 obtain ⟨x,H1,I1,r1,q1⟩:=e_
 refine Mz ?_
 rw [Us]
 refine Rc ?_
 show ai _ _ (evalPart none X.env) _ _ s1
 rw [Us]
 refine Rc ?_
 show ai _ _ (evalPart (some st) X.env) _ _ s1
 rw [Mm]
 refine fi (j0 a_ s1 σ H1 _ I1 q1) λYK s3 e_=>?_
 obtain ⟨y,H3,I3,r3,q3⟩:=e_
 obtain ⟨rfl,a,xs,rfl,hx,q⟩:=q3
 obtain ⟨tk,rfl⟩:=r3
 cases r1
 have I4:Inv X a_ σ H3 { s3 with heap:=s3.heap.push { cls:=.type "slice",data:=.fields #[.none,.none,.int (-1) tk] } }:=I3.kept (t':=s3.toks) λb ob q=>af.get?_push_of_some _ q
 obtain ⟨dj,r,ht,hz⟩:=I4.list hx
 have hlen:=r.length
 have hg:ai (ak X.prog X.w) X.A (cp (.ref a) (.ref s3.heap.objs.size)) (EP X a_ σ Q) X.xe { s3 with heap:=s3.heap.push { cls:=.type "slice",data:=.fields #[.none,.none,.int (-1) tk] } }:=by
  refine Mn ht.isList (af.IsSliceOf.new ..) .none .none (.int (-1) tk) (by decide) ?_ (by rw [Qk]; omega)
  rw [wH]
  refine ⟨.ref _,_,I4.laid (t':=s3.toks) (o:=.lst xs.reverse) (λb ob q=>af.get?_push_of_some _ q) (Qg _) ?_,rfl,q _ (I4.d_.fresh (Qg _))⟩
  exact ⟨by rw [Zy]; exact hz,dj.reverse,0,r.reverse,af.get?_push_size _ rfl⟩
 show ai (ak X.prog X.w) X.A (subscriptTail e (.Slice none none (some st) p2) (.ref a) (.ref s3.heap.objs.size)) (EP X a_ σ Q) X.xe { s3 with heap:=s3.heap.push { cls:=.type "slice",data:=.fields #[.none,.none,.int (-1) tk] } }
 exact tail_any (ops:=[.ref a,.ref s3.heap.objs.size]) ht.isList.typeIs slot_list_getitem.lookup hg (by with_unfolding_all rfl)
section
variable {S:List ae} {E E':Hp->V->Prop} {σ:St} {t:TA} {tl th:TO}
instance {a:ae} {xs:List V}:Mo (λH v=>v=.ref a/\d8 K (Vw S H) a xs):=⟨λe h=>⟨h.1,(Vw.same e).dk h.2⟩⟩
end
section
variable {YX Gf:ba} {it acc:aa} {env:cy}
end
section
variable {YX Gf:ba} {wi YG:TI} {g2:TG}
end
section
variable {own:Nat} {g2:TG} {YG:TI} {σ:St}
end
theorem aCU (bs:List Bool) (tr:Nat->Bool) (h:∀ i b,bs[i]?=some b->tr i=b):(List.range bs.length).any tr=bs.any id:=by
 rw [Xg,Xb,Xb]
 constructor
 ·rintro ⟨i,hi,q⟩
  have yn:=Xz.mp hi
  rw [h i _ (Qb yn)] at q
  exact ⟨_,Ys yn,q⟩
 ·rintro ⟨b,hb,q⟩
  obtain ⟨i,hi⟩:=Wa hb
  exact ⟨i,Xz.mpr (Qa.mp hi).1,by rw [h i b hi]; exact q⟩
theorem kZ (hc:X.calm=true):eX X (.builtin "any") (λxs H Q=>∃ (p:ae) (bs:List Bool),xs = [.ref p]/\d9 X.K H p (bs.map V.bl)/\Q (.bl (bs.any id)) H):=by
 intro a_ s σ H xs us Q I r h
 obtain ⟨p,bs,rfl,hx,q⟩:=h
 obtain ⟨u,rfl,rx⟩:=iC r
 cases rx
 obtain ⟨dj,rv,pl,hz⟩:=I.list hx
 have hl:=rv.length
 rw [Qc] at hl
 have fu:p < s.heap.objs.size:=by obtain ⟨o,n,e,_⟩:=pl; exact af.lt_size e
 refine call_any_walk (Uk pl.isList ?_)
 refine ⟨s.heap.objs.size,_,_,_,_,_,λi=>(bs[i]?).getD false,rfl,Walks.list (A:=X.A.in1) (I.ok.hd hc) s.heap.objs.size p (Qv fu) dj.toArray,⟨⟨_,af.get?_push_size _ rfl,rfl,rfl⟩,pl.isList.push _⟩,?_,λh' tk hk=>?_⟩
 ·intro i v s' Q' E' hP EC
  have u7:dj[i]?=some v:=by simpa using hP
  have hi:i < bs.length:=by rw [hl]; exact (Qa.mp u7).1
  obtain ⟨w,hw,i4⟩:=rv.get (i:=i) (x:=.bl bs[i]) (by rw [Qh,Qb hi]; rfl)
  rw [hw] at u7
  cases u7
  cases i4
  have e:(bs[i]?).getD false=bs[i]:=by rw [Qb hi]; rfl
  rw [<- e]
  exact Td EC
 ·have e:(List.range dj.toArray.size).any (λi=>(bs[i]?).getD false)=bs.any id:=by
   rw [Qk,<- hl]
   exact aCU bs _ λi b hb=>by rw [hb]; rfl
  rw [e]
  refine ⟨.bl _,H,I.kept (h':=h') λb o e=>hk b o ?_ (af.get?_push_of_some _ e),rfl,q⟩
  intro z
  have z':b=s.heap.objs.size:=by simpa using z
  exact Ji _ (z' ▸ af.lt_size e)
section
variable [DecidableEq κ]
noncomputable def bX (kvs:List (κ×V)) (k:κ):Option V:=(kvs.find? λkv=>decide (kv.1=k)).map (·.2)
noncomputable def eR (kvs:List (κ×V)) (k:κ) (v:V):List (κ×V) :=
 if (kvs.any λkv=>decide (kv.1=k))=true then kvs.map (λkv=>if kv.1=k then (kv.1,v) else kv) else kvs++[(k,v)]
noncomputable def qB (kvs:List (κ×V)) (k:κ):List (κ×V):=kvs.filter λkv=>decide (kv.1≠k)
theorem aDS {k:κ}:bX ([]:List (κ×V)) k=none:=rfl
theorem dQ {p:κ×V} {r:List (κ×V)} {k:κ} (e:p.1=k):bX (p::r) k=some p.2:=by simp [bX,Xv,e]
theorem cQ {p:κ×V} {r:List (κ×V)} {k:κ} (e:¬ p.1=k):bX (p::r) k=bX r k:=by simp [bX,Xv,e]
theorem iG (k:κ):∀ kvs:List (κ×V),(kvs.any λkv=>decide (kv.1=k))=(bX kvs k).isSome
 | []=>rfl
 | p::r=>by
  rw [Zv]
  by_cases e:p.1=k
  ·simp only [dQ e,decide_eq_true e,Bool.true_or,Wk]
  ·rw [cQ e,decide_eq_false e,Bool.false_or]; exact iG k r
theorem WV (k j:κ) (y:V):∀ kvs:List (κ×V),bX (kvs.map λkv=>if kv.1=k then (kv.1,y) else kv) j=(bX kvs j).map λx=>if j=k then y else x
 | []=>rfl
 | p::r=>by
  have ih:=WV k j y r
  rw [Qw]
  by_cases h:p.1=k
  ·rw [if_pos h]
   by_cases e:p.1=j
   ·rw [dQ (p:=(p.1,y)) e,dQ e,Jz,if_pos (e.symm.trans h)]
   ·rw [cQ (p:=(p.1,y)) e,cQ e,ih]
  ·rw [if_neg h]
   by_cases e:p.1=j
   ·rw [dQ (p:=p) e,dQ e,Jz,if_neg (λz=>h (e.trans z))]
   ·rw [cQ (p:=p) e,cQ e,ih]
theorem rH (k j:κ) (y:V):∀ kvs:List (κ×V),bX kvs k=none->bX (kvs++[(k,y)]) j=if j=k then some y else bX kvs j
 | [],_=>by
  by_cases e:k=j
  ·rw [if_pos e.symm]; exact dQ (p:=(k,y)) e
  ·rw [if_neg (λz=>e z.symm)]; exact cQ (p:=(k,y)) e
 | p::r,hn=>by
  rw [List.cons_append]
  have hk:¬ p.1=k:=λz=>by rw [dQ z] at hn; cases hn
  rw [cQ hk] at hn
  have ih:=rH k j y r hn
  by_cases e:p.1=j
  ·rw [dQ e,dQ e,if_neg (λz=>hk (e.trans z))]
  ·rw [cQ e,cQ e,ih]
theorem uD (kvs:List (κ×V)) (k j:κ) (y:V):bX (eR kvs k y) j=if j=k then some y else bX kvs j:=by
 unfold eR
 by_cases a:(kvs.any λkv=>decide (kv.1=k))=true
 ·rw [if_pos a,WV]
  rw [iG] at a
  by_cases e:j=k
  ·obtain ⟨x,hx⟩:=Yj.mp a
   rw [if_pos e,e,hx,Jz,if_pos rfl]
  ·rw [if_neg e]
   cases bX kvs j with
   | none=>rfl
   | some x=>rw [Jz,if_neg e]
 ·rw [if_neg a]
  refine rH k j y kvs ?_
  rw [iG] at a
  cases q:bX kvs k with
  | none=>rfl
  | some x=>rw [q] at a; exact (a rfl).elim
theorem gL (kvs:List (κ×V)) (k:κ) (v:V):(eR kvs k v).length<=kvs.length+1:=by
 unfold eR
 split
 ·rw [Qc]; omega
 ·rw [Qe,Jk,List.length_nil]; omega
theorem jX {kvs:List (κ×V)} {k:κ} (v:V) (h:bX kvs k=none):eR kvs k v=kvs++[(k,v)]:=by
 unfold eR
 rw [iG,h]
 exact if_neg (by decide)
theorem mI.ig {o:Option V} {u:Option aa} (r:mI o u):o.isSome=u.isSome:=by
 cases o with
 | none => cases u with
   | none=>rfl
   | some _=>exact (show False from r).elim
 | some _ => cases u with
   | none=>exact (show False from r).elim
   | some _=>rfl
theorem KV.val {kvs:List (κ×V)} {vs:List (κ×aa)} (r:KV kvs vs) (k:κ):mI (bX kvs k) (valueAt vs k):=by
 unfold KV at r
 induction r with
 | nil=>exact True.intro
 | @cons p q ps qs h t ih =>
  obtain ⟨h1,h2⟩:=h
  by_cases e:p.1=k
  ·have e':q.1=k:=h1.symm.trans e
   have b:valueAt (q::qs) k=some q.2:=by simp [valueAt,Xv,e']
   rw [dQ e,b]; exact h2
  ·have e':¬ q.1=k:=λz=>e (h1.trans z)
   have b:valueAt (q::qs) k=valueAt qs k:=by simp [valueAt,Xv,e']
   rw [cQ e,b]; exact ih
theorem KV.any {kvs:List (κ×V)} {vs:List (κ×aa)} (r:KV kvs vs) (k:κ):(kvs.any λkv=>decide (kv.1=k))=vs.any λkv=>decide (kv.1=k):=by
 unfold KV at r
 induction r with
 | nil=>rfl
 | cons h t ih=>rw [Zv,Zv,ih,h.1]
theorem KV.Cv {kvs:List (κ×V)} {vs:List (κ×aa)} (r:KV kvs vs) (k:κ) (ry:bR y u) :
  KV (kvs.map λkv=>if kv.1=k then (kv.1,y) else kv) (vs.map λkv=>if kv.1=k then (kv.1,u) else kv):=by
 unfold KV at r ⊢
 induction r with
 | nil=>exact .nil
 | @cons p q ps qs h t ih =>
  rw [Qw,Qw]
  refine .cons ?_ ih
  obtain ⟨h1,h2⟩:=h
  by_cases e:p.1=k
  ·rw [if_pos e,if_pos (h1.symm.trans e)]; exact ⟨h1,ry⟩
  ·rw [if_neg e,if_neg (λz=>e (h1.trans z))]; exact ⟨h1,h2⟩
theorem KV.put {kvs:List (κ×V)} {vs:List (κ×aa)} (r:KV kvs vs) (k:κ) (ry:bR y u):KV (eR kvs k y) (stored vs k u):=by
 unfold eR stored
 rw [r.any k]
 by_cases e:(vs.any λkv=>decide (kv.1=k))=true
 ·rw [if_pos e,if_pos e]; exact r.Cv k ry
 ·rw [if_neg e,if_neg e]; exact cx.snoc r ⟨rfl,ry⟩
theorem KV.drop {kvs:List (κ×V)} {vs:List (κ×aa)} (r:KV kvs vs) (k:κ):KV (qB kvs k) (without vs k):=by
 unfold KV at r ⊢
 unfold qB without
 induction r with
 | nil=>exact .nil
 | @cons p q ps qs h t ih =>
  obtain ⟨h1,h2⟩:=h
  rw [Zs,Zs]
  by_cases e:p.1=k
  ·have a:¬ decide (p.1≠k)=true:=by simp [e]
   have b:¬ decide (q.1≠k)=true:=by simp [h1.symm.trans e]
   rw [if_neg a,if_neg b]; exact ih
  ·have e':¬ q.1=k:=λz=>e (h1.trans z)
   have a:decide (p.1≠k)=true:=by simp [e]
   have b:decide (q.1≠k)=true:=by simp [e']
   rw [if_pos a,if_pos b]; exact .cons ⟨h1,h2⟩ ih
theorem KV.keys {kvs:List (κ×V)} {vs:List (κ×aa)} (r:KV kvs vs):kvs.map (·.1)=vs.map (·.1):=by
 unfold KV at r
 induction r with
 | nil=>rfl
 | cons h t ih=>rw [Qw,Qw,ih,h.1]
theorem KV.length {kvs:List (κ×V)} {vs:List (κ×aa)} (r:KV kvs vs):kvs.length=vs.length:=cx.length r
theorem aDT (kvs:List (κ×V)) (k:κ):(qB kvs k).length<=kvs.length:=Xw _ _
end
theorem qC {k:Key} (r:bR (kV k) u):(bF P w).is k u=true:=by
 cases k with
 | inl i=>obtain ⟨t,e⟩:=(show ∃ t,u=aa.int i t from r); subst e; exact zX P w i t
 | inr x=>obtain ⟨t,e⟩:=(show ∃ t,u=aa.str x t from r); subst e; exact zY P w x t
theorem wZ:∀ {ks:List Key} {us:List aa},bI (ks.map kV) us->ItemsAre (bF P w) ks us
 | [],_,r=>by rw [Xo] at r; cases r; exact .nil
 | k::ks,_,r=>by
  rw [Qw] at r
  cases r with
  | cons h t=>exact .cons (qC h) (wZ t)
abbrev KT (H:Hp):List (List Key×V)->List (List Key×ae×aa)->Prop:=cx λp q=>p.1=q.1/\H q.2.1=some (.tup (p.1.map kV))/\bR p.2 q.2.2
theorem KT.val {kvs:List (List Key×V)} {xs:List (List Key×ae×aa)} (r:KT H kvs xs) (k:List Key):mI (bX kvs k) ((atKey xs k).map (·.2)):=by
 induction r with
 | nil=>exact True.intro
 | @cons p q ps qs h t ih =>
  obtain ⟨h1,_,h2⟩:=h
  by_cases e:p.1=k
  ·have e':q.1=k:=h1.symm.trans e
   have b:atKey (q::qs) k=some q.2:=by simp [atKey,Xv,e']
   rw [dQ e,b]; exact h2
  ·have e':¬ q.1=k:=λz=>e (h1.trans z)
   have b:atKey (q::qs) k=atKey qs k:=by simp [atKey,Xv,e']
   rw [cQ e,b]; exact ih
theorem KT.Cv {kvs:List (List Key×V)} {xs:List (List Key×ae×aa)} (r:KT H kvs xs) (k:List Key) (ry:bR y u) :
  KT H (kvs.map λkv=>if kv.1=k then (kv.1,y) else kv) (xs.map (putAt k u)):=by
 induction r with
 | nil=>exact .nil
 | @cons p q ps qs h t ih =>
  rw [Qw,Qw]
  refine .cons ?_ ih
  obtain ⟨h1,h2,h3⟩:=h
  unfold putAt
  by_cases e:p.1=k
  ·rw [if_pos e,if_pos (h1.symm.trans e)]; exact ⟨h1,h2,ry⟩
  ·rw [if_neg e,if_neg (λz=>e (h1.trans z))]; exact ⟨h1,h2,h3⟩
theorem KT.put {kvs:List (List Key×V)} {xs:List (List Key×ae×aa)} (r:KT H kvs xs) (k:List Key) {b:ae} (hb:H b=some (.tup (k.map kV))) (ry:bR y u) :
  KT H (eR kvs k y) (storedH xs k b u):=by
 have e:(kvs.any λkv=>decide (kv.1=k))=(atKey xs k).isSome:=by
  rw [iG,(r.val k).ig,Yl]
 unfold eR storedH
 rw [e]
 by_cases q:(atKey xs k).isSome=true
 ·rw [if_pos q,if_pos q]; exact r.Cv k ry
 ·rw [if_neg q,if_neg q]; exact cx.snoc r ⟨rfl,hb,ry⟩
theorem KT.keeps {kvs:List (List Key×V)} {xs:List (List Key×ae×aa)} (r:KT H kvs xs) (ht:∀ b ys,H b=some (.tup ys)->H' b=some (.tup ys)):KT H' kvs xs :=
 cx.FK r λ_ _ z=>⟨z.1,ht _ _ z.2.1,z.2.2⟩
section
variable {a:ae}
theorem UG {u:HO} (ok:je P w H h) (e:Rd H a u):bS P w H h a u:=e.ok ok
theorem jD (ok:je P w H h) (e:Rd H a (.dK kvs)):kvs.length<=ag/\(a==br)=false/\∃ vs,KV kvs vs/\h.DictOf (bF P w) a vs :=
 show bS P w H h a (.dK kvs) from UG ok e
theorem MA (ok:je P w H h) (e:H a=some (.dK kvs)):kvs.length<=ag/\(a==br)=false/\∃ vs,KV kvs vs/\h.DictOf (bF P w) a vs:=jD ok (.inl e)
theorem uE {ks:List Key} (ok:je P w H h) (e:H a=some (.tup (ks.map kV))):(tupleKind (bF P w)).is h ks a:=by
 obtain ⟨_,dj,n,r,e1⟩:=(show bS P w H h a (.tup (ks.map kV)) from ok a _ e)
 exact ⟨_,dj.toArray,n,e1,rfl,rfl,by simpa using wZ r⟩
theorem xA {kvs:List (List Key×V)} (ok:je P w H h) (e:Rd H a (.dT kvs)):kvs.length<=ag/\(a==br)=false /\
  ∃ xs,KT H kvs xs/\h.DictOfH (tupleKind (bF P w)) a xs:=by
 obtain ⟨z,y,xs,r,o,es,ep,h1,h2,h3,h4,h5⟩:=(show bS P w H h a (.dT kvs) from UG ok e)
 refine ⟨z,y,xs,r,o,es,ep,h1,h2,h3,h4,λx hx=>?_,h5⟩
 have all:∀ {l:List (List Key×V)} {m:List (List Key×ae×aa)},KT H l m->∀ x∈m,(tupleKind (bF P w)).is h x.1 x.2.1:=by
  intro l m q
  induction q with
  | nil=>intro x hx; exact nomatch hx
  | @cons p q ps qs hq t ih =>
   intro x hx
   rcases Qj.mp hx with e | hx
   ·subst e
    exact uE ok (by rw [<- hq.1]; exact hq.2.1)
   ·exact ih x hx
 exact all r x hx
theorem aHW {kvs:List (List Key×V)} (ok:je P w H h) (e:H a=some (.dT kvs)):kvs.length<=ag/\(a==br)=false /\
  ∃ xs,KT H kvs xs/\h.DictOfH (tupleKind (bF P w)) a xs:=xA ok (.inl e)
end
def kF (H:Hp) (a:ae) (y:V) (r:Option V):Prop :=
 (∃ kvs k,Rd H a (.dK kvs)/\y=kV k/\r=bX kvs k)∨∃ kvs k b,Rd H a (.dT kvs)/\y=.ref b/\H b=some (.tup (k.map kV))/\r=bX kvs k
def qF (H:Hp) (a:ae) (y v:V) (H':Hp):Prop :=
 (∃ kvs k,H a=some (.dK kvs)/\y=kV k/\kvs.length < ag/\H'=upd H a (.dK (eR kvs k v))) ∨
 ∃ kvs k b,H a=some (.dT kvs)/\y=.ref b/\H b=some (.tup (k.map kV))/\kvs.length < ag/\H'=upd H a (.dT (eR kvs k v))
theorem kF.k {a:ae} {k:Key} (e:H a=some (.dK kvs)):kF H a (kV k) (bX kvs k):=.inl ⟨kvs,k,.inl e,rfl,rfl⟩
theorem qF.k {a:ae} {k:Key} (e:H a=some (.dK kvs)) (hl:kvs.length < ag):qF H a (kV k) v (upd H a (.dK (eR kvs k v))):=.inl ⟨kvs,k,e,rfl,hl,rfl⟩
section
variable {σ:St} {a:ae} {r:aa} {o:Option V}
theorem Inv.big (I:Inv X a_ σ H s):br < s.heap.objs.size:=by
 have h:aj < s.heap.objs.size:=(I.mod.glob.keeps I.bk).lt
 exact Ya (by decide) h
theorem aCV (hu:A.units+1 < cm) (I:Inv X a_ σ H s) (g:kF H a y (some v)) (ry:bR y u) (h:∀ w' s',Inv X a_ σ H s'->bR v w'->Q w' s') :
  ai (ak X.prog X.w) A (cp (.ref a) u) Q E s:=by
 rcases g with ⟨kvs,k,e,ey,l⟩ | ⟨kvs,k,b,e,ey,eb,l⟩
 ·subst ey
  obtain ⟨z,hd,vs,rel,dd⟩:=jD I.d_ e
  obtain ⟨w',hw,i4⟩:=mI.some_of (v:=v) (o:=valueAt vs k) (by rw [l]; exact rel.val k)
  exact wpAny_getItem_of (qC ry) dd.mapOf hw (h w' _ (I.tok _) i4)
 ·subst ey
  cases (show u=aa.ref b from ry)
  obtain ⟨z,hd,xs,rel,dd⟩:=xA I.d_ e
  obtain ⟨w',hw,i4⟩:=mI.some_of (v:=v) (o:=(atKey xs k).map (·.2)) (by rw [l]; exact rel.val k)
  obtain ⟨p,hp,rh⟩:=Qp.mp hw
  refine wpAny_getItem_heap (Ux hu) (uE I.d_ eb) dd hp ?_
  rw [rh]
  exact h w' _ (I.tok _) i4
theorem aIM (hu:A.units+1 < cm) (I:Inv X a_ σ H s) (g:kF H a y o) (ry:bR y u) (h:∀ s',Inv X a_ σ H s'->Q (.bool o.isSome) s') :
  ai (ak X.prog X.w) A (bh .In u (.ref a)) Q E s:=by
 rcases g with ⟨kvs,k,e,ey,l⟩ | ⟨kvs,k,b,e,ey,eb,l⟩
 ·subst ey
  obtain ⟨z,hd,vs,rel,dd⟩:=jD I.d_ e
  refine wpAny_in_of (qC ry) hd dd.mapOf ?_
  rw [<- (rel.val k).ig,<- l]
  exact h _ (I.tok _)
 ·subst ey
  cases (show u=aa.ref b from ry)
  obtain ⟨z,hd,xs,rel,dd⟩:=xA I.d_ e
  refine wpAny_in_heap (Ux hu) (uE I.d_ eb) hd dd ?_
  have q:=(rel.val k).ig
  rw [Yl] at q
  rw [<- q,<- l]
  exact h _ (I.tok _)
theorem aFs (hu:A.units+1 < cm) (I:Inv X a_ σ H s) (g:kF H a y o) (ry:bR y u) (h:∀ s',Inv X a_ σ H s'->Q (.bool (!o.isSome)) s') :
  ai (ak X.prog X.w) A (bh .NotIn u (.ref a)) Q E s:=by
 rcases g with ⟨kvs,k,e,ey,l⟩ | ⟨kvs,k,b,e,ey,eb,l⟩
 ·subst ey
  obtain ⟨z,hd,vs,rel,dd⟩:=jD I.d_ e
  refine wpAny_notIn_of (qC ry) hd dd.mapOf ?_
  rw [<- (rel.val k).ig,<- l]
  exact h _ (I.tok _)
 ·subst ey
  cases (show u=aa.ref b from ry)
  obtain ⟨z,hd,xs,rel,dd⟩:=xA I.d_ e
  refine wpAny_notIn_heap (Ux hu) (uE I.d_ eb) hd dd ?_
  have q:=(rel.val k).ig
  rw [Yl] at q
  rw [<- q,<- l]
  exact h _ (I.tok _)
theorem qG {ob:HO} (I:Inv X a_ σ H s) (mu:Cm (H a)) (hs:af.SameBut a s.heap h') (he:∃ q,h'.get? a=some q) (new:bS X.prog X.w (upd H a ob) h' a ob) :
  Inv X a_ σ (upd H a ob) { s with heap:=h',toks:=t' } :=
 I.write (x:=a) (e:=a) mu (.inl rfl) (λb q hb z=>(hs.2 b hb).trans z) he new
theorem uF {vs:List (Key×aa)} (z:kvs.length<=ag) (hd:(a==br)=false) (rel:KV kvs vs) (dd:h'.DictOf (bF P w) a vs) :
  bS P w H' h' a (.dK kvs):=⟨z,hd,vs,rel,dd⟩
theorem aCW {Q:Unit->ah->Prop} (hu:A.units+1 < cm) (I:Inv X a_ σ H s) (g:qF H a y v H') (ry:bR y u) (rv:bR v r) (h:∀ s',Inv X a_ σ H' s'->Q () s') :
  ai (ak X.prog X.w) A (setItem (.ref a) u r) Q E s:=by
 rcases g with ⟨kvs,k,e,ey,l,eH⟩ | ⟨kvs,k,b,e,ey,eb,l,eH⟩
 ·subst ey eH
  obtain ⟨z,hd,vs,rel,dd⟩:=MA I.d_ e
  have hz:vs.length<=ag:=by rw [<- rel.length]; exact z
  have hl:(eR kvs k v).length<=ag:=by have:=gL kvs k v; omega
  refine wpAny_setItem_pairs (hsz:=hz) (qC ry) dd λh' o9 hs=>h _ ?_
  have he:∃ q,h'.get? a=some q:=let ⟨q,_,_,hq,_⟩:=o9; ⟨q,hq⟩
  exact qG I (by rw [e]; exact True.intro) hs he (uF hl hd (rel.put k rv) o9)
 ·subst ey eH
  cases (show u=aa.ref b from ry)
  obtain ⟨z,hd,xs,rel,dd⟩:=aHW I.d_ e
  have hz:xs.length<=ag:=by rw [<- cx.length rel]; exact z
  have hl:(eR kvs k v).length<=ag:=by have:=gL kvs k v; omega
  refine wpAny_setItem_heap (hsz:=hz) (Ux hu) (uE I.d_ eb) dd λh' o9 hs=>h _ ?_
  obtain ⟨q,es,ep,hq,h2,h3,h4,_,h5⟩:=o9
  refine qG I (by rw [e]; exact True.intro) hs ⟨q,hq⟩ ⟨hl,hd,_,(rel.put k eb rv).keeps λc ys ec=>?_,q,es,ep,hq,h2,h3,h4,h5⟩
  rw [aF (aHw ec e (λz=>nomatch z))]
  exact ec
end
section
variable {σ:St} {a:ae} {k:Key}
theorem aHX {more:List aa} (I:Inv X a_ σ H s) (e:H a=some (.dK kvs)) (ry:bR (kV k) u) (l:bX kvs k=some v) (hm:more = []∨∃ x,more = [x]) (h:∀ w' s',Inv X a_ σ (upd H a (.dK (qB kvs k))) s'->bR v w'->Q w' s'):ai (ak X.prog X.w) A (call (.builtin "dict.pop") (.ref a::u::more)) Q E s:=by
 obtain ⟨z,hd,vs,rel,dd⟩:=MA I.d_ e
 obtain ⟨w',hw,i4⟩:=mI.some_of (v:=v) (o:=valueAt vs k) (by rw [<- l]; exact rel.val k)
 have hp:(keyPart u).isSome=true:=by
  cases k with
  | inl i=>obtain ⟨t,q⟩:=(show ∃ t,u=aa.int i t from ry); subst q; rfl
  | inr x=>obtain ⟨t,q⟩:=(show ∃ t,u=aa.str x t from ry); subst q; rfl
 have ha:argsOk "dict.pop" ⟨.ref a::u::more,[]⟩:=by
  rcases hm with q | ⟨x,q⟩
  ·subst q; exact PySem.F.args_dict_pop_2 _ _
  ·subst q; exact PySem.F.args_dict_pop_3 _ _ _
 refine call_meetsIn Ma dd.typeIs PySem.F.entry_dict_pop ha (meets_dict_pop_there (bF X.prog X.w) a (qC ry) more hm hp)
  ⟨vs,w',dd,by rw [<- rel.length]; exact z,hw,λh' o9 hs=>h w' _ ?_ i4⟩
 have he:∃ q,h'.get? a=some q:=let ⟨q,_,_,hq,_⟩:=o9; ⟨q,hq⟩
 exact qG I (by rw [e]; exact True.intro) hs he (uF (Qx (aDT kvs k) z) hd (rel.drop k) o9)
theorem aHY (I:Inv X a_ σ H s) (e:Rd H a (.dK kvs)) (h:∀ t s',Inv X a_ σ H s'->Q (.int kvs.length t) s'):ai (ak X.prog X.w) A (call (.builtin "len") [.ref a]) Q E s:=by
 obtain ⟨z,hd,vs,rel,dd⟩:=jD I.d_ e
 refine call_len_dict hd dd (by rw [<- rel.length]; rw [Rf] at z; omega) ?_
 rw [<- rel.length]
 exact h _ _ (I.tok _)
end
def TF (i:ba):Prop:=∀ ov iv,subscripted i false ov iv=operate [ov,iv] (cp ov iv)
theorem aFt {env:cy} {slice:ba} {id:String} (hl:typeLookup (.type T) "__getitem__" = pure (some (.builtin id))) (hs:TF slice) (h:ai (ak prog w) A (eval value env) (λo f'=>ai (ak prog w) A (eval slice env) (λi kz=>kz.TypeIs o T/\ai (ak prog w) A (cp o i) Q E kz) E f') E s) :
  ai (ak prog w) A (eval (.Subscript value slice pos) env) Q E s:=by
 refine Vi (Rj h (λo f' nv=>Rj nv (λi kz B1=>?_) λ_ _ x=>x) λ_ _ x=>x)
 obtain ⟨hT,B1⟩:=B1
 unfold subscriptTail
 refine Ra ?_
 rw [getitemInPython_of_ne hT.not_modules]
 refine Ra (wpAny_specialOf hT hl ?_)
 have fin:ai (ak prog w) A (subscripted slice false o i) (λr AE=>ai (ak prog w) A (letTemporaryGo value o r >>= λ_=>pure r) Q E AE) E kz:=by
  rw [hs o i]
  exact wpAny_operating (Rj B1 (λr AE Ho=>Ra (wpAny_letTemporaryGo (Rc Ho))) λ_ _ x=>x)
 first
  | exact Rc (Ra fin)
  | exact Ra (Rc (Ra fin))
  | exact Ra fin
theorem aAB {σ:St} {a:ae} {o:Option V} (I:Inv X a_ σ H s) (g:kF H a y o):s.TypeIs (.ref a) "dict" := by
 rcases g with ⟨kvs,k,e,_,_⟩ | ⟨kvs,k,b,e,_,_,_⟩
 ·obtain ⟨_,_,vs,_,dd⟩:=jD I.d_ e
  exact dd.typeIs
 ·obtain ⟨_,_,xs,_,dd⟩:=xA I.d_ e
  exact dd.typeIs
def Ff (td ty:TE):TE:=λσ H Q=>td σ H λx H1=>ty σ H1 λy H2=>∃ a v,x=.ref a/\kF H2 a y (some v)/\Q v H2
def aIN (ty td:TE):TE:=λσ H Q=>ty σ H λy H1=>td σ H1 λx H2=>∃ a o,x=.ref a/\kF H2 a y o/\Q (.bl o.isSome) H2
def aFu (ty td:TE):TE:=λσ H Q=>ty σ H λy H1=>td σ H1 λx H2=>∃ a o,x=.ref a/\kF H2 a y o/\Q (.bl (!o.isSome)) H2
def aH0 (td ty tv:TE):TS:=λD σ H=>tv σ H λv H1=>td σ H1 λx H2=>ty σ H2 λy H3=>∃ a H4,x=.ref a/\qF H3 a y v H4/\D.nx σ H4
section
variable {o i:ba} {ty:TE}
theorem aQ (hu:X.A.units+1 < cm) (ho:PE X o td) (hi:PE X i ty) (hs:TF i):PE X (.Subscript o i pos) (Ff td ty):=by
 intro a_ s σ H Q I h
 refine aFt PySem.F.slot_dict_getitem.lookup hs (fi (ho a_ s σ H _ I h) λu s1 ⟨x,H1,I1,rx,q1⟩=>fi (hi a_ s1 σ H1 _ I1 q1) λiv s2 e_=>?_)
 obtain ⟨y,H2,I2,ry,a,v,ex,g,q2⟩:=e_
 subst ex
 obtain rfl:u=aa.ref a:=rx
 exact ⟨aAB I2 g,aCV hu I2 g ry λw' s3 I3 i4=>⟨v,H2,I3,i4,q2⟩⟩
theorem aG8 (hu:X.A.units+1 < cm) (hi:PE X i ty) (ho:PE X o td):PC X .In i o (aIN ty td):=by
 intro a_ s σ H Q I h
 refine fi (hi a_ s σ H _ I h) λiv s1 ⟨y,H1,I1,ry,q1⟩=>fi (ho a_ s1 σ H1 _ I1 q1) λu s2 e_=>?_
 obtain ⟨x,H2,I2,rx,a,ov,ex,g,q2⟩:=e_
 subst ex
 obtain rfl:u=aa.ref a:=rx
 exact aIM hu I2 g ry λs3 I3=>⟨.bl ov.isSome,H2,I3,rfl,q2⟩
theorem nQ (hu:X.A.units+1 < cm) (hi:PE X i ty) (ho:PE X o td):PC X .NotIn i o (aFu ty td):=by
 intro a_ s σ H Q I h
 refine fi (hi a_ s σ H _ I h) λiv s1 ⟨y,H1,I1,ry,q1⟩=>fi (ho a_ s1 σ H1 _ I1 q1) λu s2 e_=>?_
 obtain ⟨x,H2,I2,rx,a,ov,ex,g,q2⟩:=e_
 subst ex
 obtain rfl:u=aa.ref a:=rx
 exact aFs hu I2 g ry λs3 I3=>⟨.bl (!ov.isSome),H2,I3,rfl,q2⟩
theorem iZ (hu:X.A.units+1 < cm) (ho:PE X o td) (hi:PE X i ty) (hv:PE X value tv) (hs:cq value (some (.Subscript o i pos')) pos.line X.env=pure false) :
  PS X (.Assign [.Subscript o i pos'] value pos) (aH0 td ty tv):=by
 intro a_ s σ H D I h
 refine wpAny_Assign_Subscript (fi (hv a_ s σ H _ I h) λr s1 ⟨v,H1,I1,rv,q1⟩=>fi (ho a_ s1 σ H1 _ I1 q1) λu s2 ⟨x,H2,I2,rx,q2⟩=>fi (hi a_ s2 σ H2 _ I2 q2) λiv s3 e_=>?_) hs
 obtain ⟨y,H3,I3,ry,a,H4,ex,g,q3⟩:=e_
 subst ex
 obtain rfl:u=aa.ref a:=rx
 exact aCW hu I3 g ry rv λs4 I4=>⟨σ,H4,I4,q3⟩
end
theorem uG (h:af) (hb:br < h.objs.size):bS P w H (h.push { cls:=.type "dict",data:=.dict #[] }) h.objs.size (.dK []) :=
 ⟨Jo _,beq_eq_false_iff_ne.mpr (Ne.symm (Qv hb)),[],.nil,af.DictOf.new h⟩
def U7:TE:=λ_ H Q=>∀ p,H p=none->Q (.ref p) (upd H p (.dK []))
theorem jY:PE X (.Dict [] [] pos) U7:=λa_ s σ H Q I h =>
 wpAny_Dict_empty ⟨.ref s.heap.objs.size,_,I.laid (a:=s.heap.objs.size) (o:=.dK []) (t':=s.toks) (λ_ _ q=>af.get?_push_of_some _ q) (Qg _) (uG s.heap I.big),rfl,h _ (I.d_.fresh (Qg _))⟩
def NF (H0:Hp) (a:ae):Prop:=∀ o u,H0 a≠some (.fm o u)
section
variable {σ:St} {a:ae}
theorem Inv.freeze (I:Inv X a_ σ H s) (e:H a=some (.dK kvs)) (ho:s.heap.get? a=some o):Inv X a_ σ (upd H a (.fm o (.dK kvs))) s:=by
 have m:Cm (H a):=by rw [e]; trivial
 have q:bS X.prog X.w H s.heap a (.dK kvs):=I.d_ a _ e
 exact I.write (x:=a) (e:=a) (t':=s.toks) m (.inl rfl) (λb u _ z=>z) ⟨o,ho⟩ ⟨ho,q⟩
theorem Inv.nf (I:Inv X a_ σ H s) (e:H a=some (.dK kvs)):NF X.we a:=λo u z=>by
 have:=I.base.jh a o u z
 rw [e] at this; cases this
theorem Inv.FI (I:Inv X a_ σ H s) (e:H a=some (.fm o (.dK kvs))) (nf:NF X.we a):Inv X a_ σ (upd H a (.dK kvs)) s:=by
 have ne:∀ b,H b=none->b≠a:=λb n z=>by rw [z,e] at n; cases n
 have nt:∀ b xs,H b=some (.tup xs)->b≠a:=λb xs n z=>by rw [z,e] at n; cases n
 have no:∀ b x,H b=some (.own x)->b≠a:=λb xs n z=>by rw [z,e] at n; cases n
 obtain ⟨ho,q⟩:s.heap.get? a=some o/\bS X.prog X.w H s.heap a (.dK kvs):=I.d_ a _ e
 have un:Un X.fs X.ex X.we (upd H a (.dK kvs)) X.jk.heap s.heap:=by
  refine ⟨I.base.keep,I.base.slot,λb ob q n hx=>?_,I.base.there,λb xs q=>?_,λb ob u q=>?_,λb ps q=>?_⟩
  ·have z:=I.base.free b ob q n hx
   rw [aF (ne b z)]; exact z
  ·have z:=I.base.j3 b xs q
   rw [aF (nt b xs z)]; exact z
  ·have z:=I.base.jh b ob u q
   have n:b≠a:=λy=>nf ob u (y ▸ q)
   rw [aF n]; exact z
  ·obtain ⟨m,z⟩:=I.base.j4 b ps q
   have n:b≠a:=λy=>by rw [y,e] at z; cases z
   exact ⟨m,by rw [aF n]; exact z⟩
 refine ⟨I.ok,I.os,I.bare,un,I.loc,I.cell,?_,λx c h=>?_,λp hp=>?_,λb u h=>?_,I.len⟩
 ·rw [aF (ne _ I.free)]; exact I.free
 ·have z:=I.gj x c h
  rw [aF (ne _ z)]; exact z
 ·obtain ⟨p1,p2,p3⟩:=I.pin p hp
  exact ⟨p1,by rw [aF (ne _ p2)]; exact p2,p3⟩
 ·by_cases hb:b=a
  ·subst hb
   rw [aB] at h
   cases h
   exact bS.ie q (λ_ _ _ z=>z) (λc z=>by rw [aF (no c _ z)]; exact z) (λc xs z=>by rw [aF (nt c xs z)]; exact z)
  ·rw [aF hb] at h
   exact bS.ie (I.d_ b u h) (λ_ _ _ z=>z) (λc z=>by rw [aF (no c _ z)]; exact z) (λc xs z=>by rw [aF (nt c xs z)]; exact z)
end
noncomputable def vj (a:ae) (o:bz) (kvs:List (Key×V)):It :=
 ⟨λi H=>H a=some (.fm o (.dK kvs))/\i < kvs.length,λi H x H'=>H'=H/\∃ p,kvs[i]?=some p/\x=kV p.1,λi H=>H a=some (.fm o (.dK kvs))/\i=kvs.length⟩
theorem uH {k:Key} (h:(bF P w).is k u=true):bR (kV k) u:=by
 rcases dX h with ⟨i,t,rfl,rfl⟩ | ⟨x,t,rfl,rfl⟩
 ·exact ⟨t,rfl⟩
 ·exact ⟨t,rfl⟩
theorem jQ {a:ae} {es:Array cu} {vs:List (Key×aa)} (ho:h.get? a=some o) (hd:o.data=.dict es ep) (d:h.DictOf (bF P w) a vs):h.DictAt (bF P w) a vs ep:=by
 obtain ⟨o',ES,ET,q1,q2,q3,r⟩:=d
 rw [ho] at q1; cases q1
 rw [hd] at q3; cases q3
 exact ⟨o,es,ho,q2,hd,r⟩
theorem aCX (a it:ae) (o:bz) (es:Array cu) (ep:Nat) (hd:o.data=.dict es ep) (kvs:List (Key×V)) :
  Turn P w K tg (vj a o kvs) [it] it (λi h=>h.IsKeyIter it a i kvs.length ep) where
 mem:=by simp
 obj:=λi h st b hb=>by
  have e:b=it:=by simpa using hb
  subst e
  obtain ⟨o,e,c,d⟩:=st
  exact ⟨o,e,λv z=>by rw [d] at z; cases z⟩
 keep:=λi h h' st k=>st.at λo e=>k it (by simp) o e
 item:=by
  intro X hP hw hK hc i a_ s σ H E I hf st hg
  subst hP hw hK
  obtain ⟨hA,hi⟩:=hg
  obtain ⟨ho,hz,hs,vs,kv,dd⟩:s.heap.get? a=some o/\bS X.prog X.w H s.heap a (.dK kvs):=I.d_ a _ hA
  have da:=jQ ho hd dd
  have hl:kvs.length=vs.length:=kv.length
  obtain ⟨f0,f1,f2,f3,f4,f5⟩:=hf it (by simp)
  obtain ⟨⟨k,x⟩,hx⟩:∃ p,vs[i]?=some p:=⟨vs[i]'(by omega),by simp⟩
  rw [hl] at st
  refine wpAny_pyNext_dict_item st da hx λkey h' i6 qq sb=>?_
  have I1:Inv X a_ σ H { s with heap:=h' }:=I.turned (t':=s.toks) (λb o hb e=>(sb.2 b hb).trans e) f0 f1 f3 f4 f5
  obtain ⟨o',e',c',d'⟩:=id qq
  have hk:kvs[i]?=some (kvs[i]):=Qb hi
  have Eo:(kvs[i]).1=k:=by
   have e:=kv.keys
   have e1:(kvs.map (·.1))[i]?=some (kvs[i]).1:=by rw [Qh,hk]; rfl
   have e2:(vs.map (·.1))[i]?=some k:=by rw [Qh,hx]; rfl
   rw [e,e2] at e1
   exact (Option.some.inj e1).symm
  rw [<- hl] at qq
  exact ⟨key,rfl,E9 (s:={ s with heap:=h' }) e' c' d' (by decide) ⟨kV k,H,I1,uH i6,⟨rfl,_,hk,by rw [Eo]⟩,qq,λb hb=>(hf b hb).1⟩⟩
 done:=by
  intro X hP hw hK hc i a_ s σ H E I hf st hg
  subst hP hw hK
  obtain ⟨hA,hi⟩:=hg
  obtain ⟨ho,hz,hs,vs,kv,dd⟩:s.heap.get? a=some o/\bS X.prog X.w H s.heap a (.dK kvs):=I.d_ a _ hA
  have da:=jQ ho hd dd
  have hl:kvs.length=vs.length:=kv.length
  obtain ⟨f0,f1,f2,f3,f4,f5⟩:=hf it (by simp)
  rw [hl] at st
  exact wpAny_pyNext_dict_end (I.ok.hd hc) st da (by simp; omega) λh' eb=>⟨rfl,I.turned (t':=s.toks) (λb o hb e=>eb b o hb e) f0 f1 f3 f4 f5⟩
 self:=λ_ _ _ _ _ st h=>wpAny_pyIter_keyiter st h
def aH1 (H0:Hp) (td:TE):TI:=λσ H R=>td σ H λx H1=>∃ a kvs,x=.ref a/\H1 a=some (.dK kvs)/\∀ o,NF H0 a->R (vj a o kvs) (upd H1 a (.fm o (.dK kvs)))
theorem qH {d:ba} (hl:PE X d td):PI X tg d (aH1 X.we td):=by
 intro a_ s σ H R I h
 refine fi (hl a_ s σ H _ I h) λv s1 e_=>?_
 obtain ⟨x,H1,I1,r1,q1⟩:=e_
 obtain ⟨a,kvs,e,hq,q⟩:=q1
 subst e
 cases r1
 obtain ⟨hz,hs,vs,kv,dd⟩:bS X.prog X.w H1 s1.heap a (.dK kvs):=I1.d_ a _ hq
 obtain ⟨o,es,ep,ho,oe,hd,r⟩:=id dd
 have da:=jQ ho hd dd
 refine Raf hs da ?_
 have I2:=(I1.freeze hq ho).kept (h':=s1.heap.push { cls:=.type "dict_keyiterator",data:=.fields #[.ref a,.int 0 0,.int vs.length 0,.int ep 0] }) (t':=s1.toks) λb o e=>af.get?_push_of_some _ e
 have nA:a≠s1.heap.objs.size:=Qv (af.lt_size ho)
 refine ⟨s1.heap.objs.size,[s1.heap.objs.size],_,_,_,rfl,I2,aCX a _ o es ep hd kvs,?_,λb hb=>?_,q o (I1.nf hq)⟩
 ·refine ⟨_,af.get?_push_size _ rfl,rfl,?_⟩
  rw [kv.length]; rfl
 ·have e:b=s1.heap.objs.size:=by simpa using hb
  subst e
  exact I1.nj (Qg _) (by rw [aF (Ne.symm nA)]; exact I1.d_.fresh (Qg _))
def aH2 (H0:Hp) (t:TS):TS:=λD σ H=>t { D with nx:=λd6 H'=>∃ a o kvs,H' a=some (.fm o (.dK kvs))/\NF H0 a/\D.nx d6 (upd H' a (.dK kvs)) } σ H
theorem yJ {t:TS} (h:PS X st t):PS X st (aH2 X.we t):=by
 intro a_ s σ H D I q
 refine fi (h a_ s σ H _ I q) λf s1 z=>?_
 cases f with
 | next =>
  obtain ⟨d6,H',I',a,o,kvs,e,nf,k⟩:=z
  exact ⟨d6,_,I'.FI e nf,k⟩
 | brk=>exact z
 | cont=>exact z
 | ret u=>exact z
theorem uI {a:ae} {tb:TS} {D:Ends} {σ:St} (Pv:Nat->St->Hp->Prop) (h0:Pv 0 σ H) (hl:∀ i σ H,i<=kvs.length->Pv i σ H->H a=some (.fm o (.dK kvs))) (hs:∀ i p σ H,kvs[i]?=some p->Pv i σ H->g (kV p.1) σ H λfc H2=>tb { D with nx:=Pv (i+1),ct:=Pv (i+1),bk:=D.nx } fc H2) (hd:∀ σ H,Pv kvs.length σ H->D.nx σ H) :
  ∃ W:Nat->Nat->St->Hp->Prop,(∃ m,W 0 m σ H)/\∀ i m σ H,W i m σ H ->
   ((vj a o kvs).stop i H/\D.nx σ H)∨((vj a o kvs).go i H/\∃ N:St->Hp->Prop,(∀ d6 H',N d6 H'->∃ m',m' < m/\W (i+1) m' d6 H')/\∀ x H',(vj a o kvs).s_ i H x H'->g x σ H' λfc H2=>tb { D with nx:=N,ct:=N,bk:=D.nx } fc H2):=by
 refine ⟨λi m σ H=>m=kvs.length - i/\i<=kvs.length/\Pv i σ H,⟨kvs.length,by simp,Jo _,h0⟩,?_⟩
 rintro i m σ H ⟨rfl,hi,p⟩
 have q:=hl i σ H hi p
 by_cases fu:i < kvs.length
 ·refine .inr ⟨⟨q,fu⟩,Pv (i+1),λd6 H' p'=>⟨kvs.length - (i+1),by omega,rfl,fu,p'⟩,λx H' y=>?_⟩
  obtain ⟨rfl,v,hv,rfl⟩:=y
  exact hs i v σ H' hv p
 ·have e:i=kvs.length:=by omega
  subst e
  exact .inl ⟨⟨q,rfl⟩,hd σ H p⟩
def aG9 (tk tv:TE):TE:=λσ H Q=>∀ p,H p=none->tk σ (upd H p (.dK [])) λx H1=>tv σ H1 λy H2=>∃ k,x=kV k/\H2 p=some (.dK [])/\Q (.ref p) (upd H2 p (.dK [(k,y)]))
section
variable {ek ev:ba}
theorem aDW (hk:PE X ek tk) (hv:PE X ev tv) (he:autoParam (evalEachOpt [some ek] X.env = [some (eval ek X.env)]) L2.gc) (K1:autoParam (evalEach [ev] X.env = [eval ev X.env]) L2.gc):PE X (.Dict [some ek] [ev] pos) (aG9 tk tv):=by
 intro a_ s σ H Q I h
 have I0:Inv X a_ σ (upd H s.heap.objs.size (.dK [])) { s with heap:=s.heap.push { cls:=.type "dict",data:=.dict #[] } }:=I.laid (a:=s.heap.objs.size) (o:=.dK []) (t':=s.toks) (λ_ _ q=>af.get?_push_of_some _ q) (Qg _) (uG s.heap I.big)
 have h0:=h s.heap.objs.size (I.d_.fresh (Qg _))
 refine wpAny_Dict_pairs (knd:=bF X.prog X.w) (pairs:=[(eval ek X.env,do let x<-eval ev X.env; standAt pos; pure x)]) (by rw [he,K1]; rfl) (by simp) (by simp) ?_
 refine evalPairs_cons (fi (hk a_ _ σ _ _ I0 h0) λkv s1 e_=>?_)
 obtain ⟨x,H1,I1,r1,q1⟩:=e_
 refine Ra (fi (hv a_ _ σ _ _ I1 q1) λvv s2 e_=>?_)
 obtain ⟨y,H2,I2,r2,q2⟩:=e_
 refine Ra (Va (Rc (evalPairs_nil ?_)))
 obtain ⟨k,rfl,hp,q⟩:=q2
 obtain ⟨hz,hs,vs,Z_,dd⟩:bS X.prog X.w H2 s2.heap s.heap.objs.size (.dK []):=I2.d_ _ _ hp
 have U!:vs = []:=by
  have:=Z_.length
  exact Zh.mp this.symm
 subst U!
 refine ⟨[(k,vv)],⟨qC r1,rfl,trivial⟩,dd,λh' o9 sb=>?_⟩
 have em:merged ([]:List (Key×aa)) [(k,vv)] = [(k,vv)]:=by simp [merged,stored]
 rw [em] at o9
 obtain ⟨o',ES,ET,n_,_⟩:=id o9
 have mu:Cm (H2 s.heap.objs.size):=by rw [hp]; trivial
 refine ⟨.ref s.heap.objs.size,_,qG (t':=s2.toks+1) I2 mu sb ⟨_,n_⟩ (uF (kvs:=[(k,y)]) (by simp [Rf]) hs (.cons ⟨rfl,r2⟩ .nil) o9),rfl,q⟩
end
def kP (h:af) (u:aa) (i:Int) (v:aa):Prop:=∃ p,u=.ref p/\((∃ dj:Array aa,h.IsTuple p dj/\0<=i/\i < 1000/\dj[i.toNat]?=some v)∨∃ dj:Array aa,h.IsList p dj/\0<=i/\i < 1000/\dj[i.toNat]?=some v)
theorem kP.keeps {i:Int} {v:aa} (x:kP h u i v) (k:∀ b o,h.get? b=some o->h'.get? b=some o):kP h' u i v:=by
 obtain ⟨p,rfl,⟨dj,⟨o,ho,r⟩,q⟩ | ⟨dj,⟨o,ho,r⟩,q⟩⟩:=x
 ·exact ⟨p,rfl,.inl ⟨dj,⟨o,k _ _ ho,r⟩,q⟩⟩
 ·exact ⟨p,rfl,.inr ⟨dj,⟨o,k _ _ ho,r⟩,q⟩⟩
theorem qI {i:Int} (h0:0<=i) (h1:i.toNat < n):seqIndex? i n=some i.toNat:=by
 unfold seqIndex?
 have e:¬ (i < 0):=by omega
 simp only [e,if_false]
 have e2:(decide (0<=i) && decide (i < (n:Int)))=true:=by simp; omega
 rw [if_pos e2]
theorem aFv {env:cy} {m:ax->Option aa} {v:aa} {i:Int} {t:Tok} (hk:env.scope.kind=.function) (hv:env.kindOf vn=some .free) (hx:env.kindOf xn=some .local) (hc:env.cells.lookup vn=some c) (hC:s.heap.IsCell c (some u)) (hn:s.heap.Ns env.locals m) (hm:m xn=some (.int i t)) (hI:kP s.heap u i v) (h:Q v s) (d1:(vn==("__debug__" : ax))=false) (d2:(vn==("__classdict__" : ax))=false) (d3:(xn==("__debug__" : ax))=false) :
  ai (ak prog w) A (eval (.Subscript (.Name vn p1) (.Name xn p2) p3) env) Q E s:=by
 refine Vi (Ic (Rac hk hv hc hC ?_ d2) d1)
 refine Ic (My hk hx hn hm ?_) d3
 obtain ⟨p,rfl,⟨dj,hp,i0,i1,e⟩ | ⟨dj,hp,i0,i1,e⟩⟩:=hI
 ·have fu:i.toNat < dj.size:=(Array.getElem?_eq_some_iff.mp e).1
  exact Ul (x:=v) hp.typeIs slot_tuple_getitem.lookup
   (getItem_tuple (j:=i.toNat) (Q:=λr s'=>r=v/\Q r s') hp (by omega) (by omega) (qI i0 fu) e ⟨rfl,h⟩)
 ·have fu:i.toNat < dj.size:=(Array.getElem?_eq_some_iff.mp e).1
  exact Ul (x:=v) hp.typeIs slot_list_getitem.lookup
   (wpAny_getItem_list (Q:=λr s'=>r=v/\Q r s') hp (by omega) (by omega) e ⟨rfl,h⟩)
theorem aDX {c':ae} {nm:ax} {ud v:aa} {i:Int} {t:Tok} (Gh:A.depth < recursionLimit) (x_:s.heap.NoLimit) (hf:s.heap.get? f=some { cls:=.type "function",data:=.func (Ue nm q params (.Subscript (.Name vn p1) (.Name xn p2) p3) scope cl pm (.ref c') ud) }) (mi:s.heap.CodeRec (.ref c') q) (qe:c7 (Ue nm q params (.Subscript (.Name vn p1) (.Name xn p2) p3) scope cl pm (.ref c') ud) ⟨[.int i t],[]⟩=pure [(xn,.int i t)]) (hx:scope.names.lookup xn=some .local) (hv:scope.names.lookup vn=some .free) (K5:scope.isCoroutine=false) (CN:scope.isGenerator=false) (hk:scope.kind=.function) (iq:∀ x∈scope.names,x.2≠.cell) (hc:cl.lookup vn=some c) (hC:s.heap.IsCell c (some u)) (hI:kP s.heap u i v) (h:∀ h' tk,(∀ b o,s.heap.get? b=some o->h'.get? b=some o)->Q v { s with heap:=h',toks:=tk }) (d1:(vn==("__debug__" : ax))=false) (d2:(vn==("__classdict__" : ax))=false) (d3:(xn==("__debug__" : ax))=false) :
  ai (ak prog w) A (call (.ref f) [.int i t]) Q E s:=by
 refine Vg (PySem.W.kla_callFunE Gh hf rfl K5 CN rfl mi ?_)
 rw [qe]
 refine Rc (Rab iq (λy hy=>by rw [Qu.mp hy]; exact hx) (λnv k7 G3=>⟨x_.fresh _ G3,?_⟩) hk)
 have CM:∀ b o,s.heap.get? b=some o->nv.get? b=some o:=λb o e=>G3.extBut b o (Qv (af.lt_size e)) (af.get?_push_of_some _ e)
 obtain ⟨oc,t_,Ey⟩:=hC
 refine PySem.W.kla_codeExpr (aFv (env:=newEnv scope s.heap.objs.size aj cl (q ++ ".<locals>.") (some f) (.ref c') none builtinsNs) (m:=λx=>[(xn,aa.int i t)].reverse.lookup x) (t:=t) hk hv hx hc ⟨oc,CM _ _ t_,Ey⟩ k7 ?_ (hI.keeps CM) (h nv _ CM) d1 d2 d3)
 simp [List.lookup]
section
variable {I:ae} {wr:List ae} {Pv:Nat->aa->Prop} {St:Nat->af->Prop} {kf:Nat->Int} {L:List (ae×bz)}
def L_ (prog:bo) (w:bq) (A:bw) (f:ae) (L:List (ae×bz)) (n:Nat) (Pv:Nat->aa->Prop) (kf:Nat->Int):Prop :=
 ∀ i v (s:ah) (Q:aa->ah->Prop) (E:aa->ah->Prop),i < n->Pv i v->(∀ p∈L,s.heap.get? p.1=some p.2) ->
  (∀ h' tk t,(∀ b o,s.heap.get? b=some o->h'.get? b=some o)->Q (.int (kf i) t) { s with heap:=h',toks:=tk })->ai (ak prog w) A (call (.ref f) [v]) Q E s
noncomputable abbrev m8 (kf:Nat->Int):Nat->Nat->Bool:=λi j=>decide (kf i < kf j)
theorem yK (W:Walks prog w A.in1 I fp wr n Pv St) (i6:L_ prog w A.in1 f L n Pv kf) (S:ae) (AZ:S∉fp) (hL:∀ p∈L,p.1∉wr/\p.1≠S) :
  ∀ (k j:Nat) (s:ah) (vb:aa) (t:Tok) (c:Nat),n - (j+1)=k->j+1<=n->St (j+1) s.heap->Pv (argBest (m8 kf) j) vb ->
  s.heap.get? S=some { cls:=.type "list",dict:=none,data:=.seq #[vb,.int (kf (argBest (m8 kf) j)) t] c,slots:=#[] }->(∀ p∈L,s.heap.get? p.1=some p.2) ->
  (∀ v h' tk,Pv (argBest (m8 kf) (n - 1)) v->(∀ b o,b∉wr->b≠S->s.heap.get? b=some o->h'.get? b=some o)->R (.ok (.ret v)) { s with heap:=h',toks:=tk }) ->
  codeAny (ak prog w) A (.builtin "min.loop" ⟨[.ref I,.ref f,.ref S],[]⟩) R s:=by
 have Hh:S∉wr:=λh=>AZ (W.sub _ h)
 have nz:(toString "min" ++ toString ".loop" : String) = "min.loop" := by decide
 intro k
 induction k with
 | zero =>
  intro j s vb t c hk hj j0 Lf hS yr hR
  have u4:j+1=n:=by omega
  refine Vk F.entry_min_loop ?_
  rw [bw.under_plainId F.plain_min_loop _]
  show ai _ A.in1 (seqItems? (.ref S) >>= _) _ _ s
  refine Ra (Tf hS rfl ?_)
  show ai _ A.in1 (tryCatch (pyNext (.ref I)) _ >>= _) _ _ s
  refine Ra (Um (W.done s _ _ (u4 ▸ j0) λh' tk kk=>?_))
  have z_:=kk S _ Hh hS
  show ai _ A.in1 (updateSeq S (λ_=>#[]) >>= _) _ _ _
  refine Ra ?_
  refine Me z_ rfl (Ra (Uj (Rc ?_)))
  exact hR vb _ _ (by rw [<- u4]; exact Lf) λb o hb zw e=>(af.get?_update_other _ _ (Ne.symm zw)).trans (kk b o hb e)
 | succ k ih =>
  intro j s vb t c hk hj j0 Lf hS yr hR
  have fu:j+1 < n:=by omega
  refine Vk F.entry_min_loop ?_
  rw [bw.under_plainId F.plain_min_loop _]
  show ai _ A.in1 (seqItems? (.ref S) >>= _) _ _ s
  refine Ra (Tf hS rfl ?_)
  show ai _ A.in1 (tryCatch (pyNext (.ref I)) _ >>= _) _ _ s
  refine Ra (Um (W.item (j+1) s _ _ fu j0 λv h1 YV hP CC BF=>?_))
  have zz:=BF S _ Hh hS
  show ai _ A.in1 (tryCatch (holding [v] (call (.ref f) [v])) _ >>= _) _ _ _
  refine Ra (Um (Rx (i6 (j+1) v _ _ _ fu hP (λp hp=>BF _ _ (hL p hp).1 (yr p hp)) λh2 YU t2 BD=>?_)))
  have qw:=BD S _ zz
  have Aj:St (j+1+1) h2:=W.frame _ _ _ CC λb _ o e=>BD b o e
  show ai _ A.in1 (tryCatch (holding [v,.int (kf (j+1)) t2] (richCompare .Lt (.int (kf (j+1)) t2) (.int (kf (argBest (m8 kf) j)) t) >>= _)) _ >>= _) _ _ _
  have N9:CmpOf prog w A.in1 .Lt (λi u=>∃ t,u=.int (kf i) t) (m8 kf):=CmpOf.ints_lt kf λi v h=>h
  refine Ra (Um (Rx (Ra (N9 (j+1) (argBest (m8 kf) j) _ _ _ _ _ ⟨_,rfl⟩ ⟨_,rfl⟩ ?_))))
  refine Ra (Rx (Td ?_))
  refine Ra (Uj (Rc ?_))
  have kk:∀ b o,b∉wr->s.heap.get? b=some o->h2.get? b=some o:=λb o hb e=>BD b o (BF b o hb e)
  cases hb:m8 kf (j+1) (argBest (m8 kf) j) with
  | true =>
   simp only [if_true]
   refine Ra ?_
   refine Me qw rfl (Ra (Uj ?_))
   rw [nz]
   have eb:argBest (m8 kf) (j+1)=j+1:=by simp only [argBest,hb,if_true]
   refine Rc ⟨Vz F.plain_min_loop _,ih (j+1) _ v t2 _ (by omega) fu (W.frame _ _ _ Aj λb zv o e=>?_) (by rw [eb]; exact hP) (by rw [eb]; exact af.get?_update_self _ qw rfl) (λp hp=>?_) λv' h' tk u7 BG=>?_⟩
   ·exact (af.get?_update_other _ _ (λh:S=b=>AZ (by rw [h]; exact zv))).trans e
   ·exact (af.get?_update_other _ _ (Ne.symm (hL p hp).2)).trans (kk _ _ (hL p hp).1 (yr p hp))
   ·exact hR v' h' tk u7 λb o hb zw e=>BG b o hb zw ((af.get?_update_other _ _ (Ne.symm zw)).trans (kk b o hb e))
  | false =>
   simp only [Zg,if_false]
   refine Ra (Uj ?_)
   rw [nz]
   have eb:argBest (m8 kf) (j+1)=argBest (m8 kf) j:=by simp only [argBest,hb,Zg,if_false]
   refine Rc ⟨Vz F.plain_min_loop _,ih (j+1) _ vb t c (by omega) fu Aj (by rw [eb]; exact Lf) (by rw [eb]; exact qw) (λp hp=>kk _ _ (hL p hp).1 (yr p hp)) λv' h' tk u7 BG=>?_⟩
   exact hR v' h' tk u7 λb o hb zw e=>BG b o hb zw (kk b o hb e)
theorem wI (W:Walks prog w A.in1 I fp wr n Pv St) (i6:L_ prog w A.in1 f L n Pv kf) (S:ae) (AZ:S∉fp) (hL:∀ p∈L,p.1∉wr/\p.1≠S) (hn:0 < n) {c:Nat} (j0:St 0 s.heap) (hS:s.heap.get? S=some { cls:=.type "list",dict:=none,data:=.seq #[] c,slots:=#[] }) (yr:∀ p∈L,s.heap.get? p.1=some p.2) (hR:∀ v h' tk,Pv (argBest (m8 kf) (n - 1)) v->(∀ b o,b∉wr->b≠S->s.heap.get? b=some o->h'.get? b=some o)->R (.ok (.ret v)) { s with heap:=h',toks:=tk }) :
  codeAny (ak prog w) A (.builtin "min.loop" ⟨[.ref I,.ref f,.ref S],[]⟩) R s:=by
 have Hh:S∉wr:=λh=>AZ (W.sub _ h)
 have nz:(toString "min" ++ toString ".loop" : String) = "min.loop" := by decide
 refine Vk F.entry_min_loop ?_
 rw [bw.under_plainId F.plain_min_loop _]
 show ai _ A.in1 (seqItems? (.ref S) >>= _) _ _ s
 refine Ra (Tf hS rfl ?_)
 show ai _ A.in1 (tryCatch (pyNext (.ref I)) _ >>= _) _ _ s
 refine Ra (Um (W.item 0 s _ _ hn j0 λv h1 YV hP CC BF=>?_))
 have zz:=BF S _ Hh hS
 show ai _ A.in1 (tryCatch (holding [v] (call (.ref f) [v])) _ >>= _) _ _ _
 refine Ra (Um (Rx (i6 0 v _ _ _ hn hP (λp hp=>BF _ _ (hL p hp).1 (yr p hp)) λh2 YU t2 BD=>?_)))
 have qw:=BD S _ zz
 have Aj:St (0+1) h2:=W.frame _ _ _ CC λb _ o e=>BD b o e
 show ai _ A.in1 (updateSeq S (λ_=>#[v,.int (kf 0) t2]) >>= _) _ _ _
 refine Ra ?_
 refine Me qw rfl ?_
 rw [nz]
 have kk:∀ b o,b∉wr->s.heap.get? b=some o->h2.get? b=some o:=λb o hb e=>BD b o (BF b o hb e)
 refine Rc ⟨Vz F.plain_min_loop _,yK W i6 S AZ hL _ 0 _ v t2 _ rfl hn (W.frame _ _ _ Aj λb zv o e=>?_) hP (af.get?_update_self _ qw rfl) (λp hp=>?_) λv' h' tk u7 BG=>?_⟩
 ·exact (af.get?_update_other _ _ (λh:S=b=>AZ (by rw [h]; exact zv))).trans e
 ·exact (af.get?_update_other _ _ (Ne.symm (hL p hp).2)).trans (kk _ _ (hL p hp).1 (yr p hp))
 ·exact hR v' h' tk u7 λb o hb zw e=>BG b o hb zw ((af.get?_update_other _ _ (Ne.symm zw)).trans (kk b o hb e))
theorem yL (a k:aa):argsOk "min" ⟨[a],[(ax.ofString "key",k)]⟩:=by unfold argsOk; kernel_rfl
theorem yM {id:String} {b:aq} {args:List aa} (hk:builtinKind id=none) (hp:plainId id=true) (hb:entryFor table id=some b) (ha:argsOk id ⟨args,kw⟩) (hc:ai (ak prog w) A.in1 (b ⟨args,kw⟩) (λfin s'=>match fin with
   | .done f=>(match (Except.ok f:Result) with | .ok (.ret v)=>Q v s' | .ok _=>False | .error e=>E e s')
   | .again c'=>c'.quiet=true/\codeAny (ak prog w) A c' (λr s'=>match r with | .ok (.ret v)=>Q v s' | .ok _=>False | .error e=>E e s') s') E s) :
  ai (ak prog w) A (call (.builtin id) args kw) Q E s:=by
 refine Vg (Vp hp hb ?_)
 simp only [checkBuiltinCall,hk]
 cases NL:Manifest.signature? id with
 | none=>exact Rc hc
 | some sig =>
  simp only [argsOk,NL] at ha
  have h2:Bind.checkArgs id sig ⟨args,kw⟩=pure ():=ha
  show ai _ A.in1 (Bind.checkArgs id sig ⟨args,kw⟩) _ _ s
  rw [h2]; exact Rc hc
theorem yN {x:aa} (h:ai (ak prog w) A.in1 (pyIter x) (λit kz=>∃ I fp wr n Pv St kf L,it=.ref I/\Walks prog w A.in1 I fp wr n Pv St/\St 0 kz.heap/\(∀ b∈fp,b < kz.heap.objs.size)/\0 < n/\L_ prog w A.in1 f L n Pv kf /\
   (∀ p∈L,p.1∉wr)/\(∀ p∈L,kz.heap.get? p.1=some p.2) /\
   ∀ v h' tk,Pv (argBest (m8 kf) (n - 1)) v->(∀ b o,b∉wr->kz.heap.get? b=some o->h'.get? b=some o)->Q v { kz with heap:=h',toks:=tk }) E s) :
  ai (ak prog w) A (call (.builtin "min") [x] [(ax.ofString "key",.ref f)]) Q E s:=by
 have nz:(toString "min" ++ toString ".loop" : String) = "min.loop" := by decide
 refine yM F.kind_min F.plain_min F.entry_min (yL _ _) ?_
 show ai _ A.in1 (aq.Builtins.bindParams "min" ["key", "default"] 0 ⟨[],[(ax.ofString "key",.ref f)]⟩ >>= _) _ _ s
 refine Ra (wpAny_of_eq (show aq.Builtins.bindParams "min" ["key", "default"] 0 ⟨[],[(ax.ofString "key",.ref f)]⟩=pure [some (.ref f),none] from rfl) ?_)
 refine Ra (Rc ?_)
 refine Ra (Rj h (λit kz B1=>?_) λ_ _ e=>e)
 obtain ⟨I,fp,wr,n,Pv,St,kf,L,rfl,W,j0,rj,hn,i6,G?,yr,hQ⟩:=B1
 refine Ra (Rq ?_)
 have AZ:kz.heap.objs.size∉fp:=λhm=>Ji _ (rj _ hm)
 rw [nz]
 refine Rc ⟨Vz F.plain_min_loop _,wI W i6 kz.heap.objs.size AZ (λp hp=>⟨G? p hp,Qv (af.lt_size (yr p hp))⟩) hn (W.frame _ _ _ j0 λb _ o e=>af.get?_push_of_some _ e) (af.get?_push_size _ rfl) (λp hp=>af.get?_push_of_some _ (yr p hp)) λv h' tk hP hk=>?_⟩
 exact hQ v h' tk hP λb o y? e=>hk b o y? (Qv (af.lt_size e)) (af.get?_push_of_some _ e)
end
structure Lm (K:Rb) (mg:ax->Option aa) (base:af) (c P:ae):Prop where
 hd:Ui K c P=true
 gP:aj≠P
 bu:base.BuiltinsAt mg P
theorem oN {p0:Pos} {c cv:aa}:∀ {l:List aa},TriplesOk l->codeAmong pos (l++[rawInt p0.line,rawInt p0.col,c])=some cv->codeAmong pos l=some cv∨cv=c
 | [],_,e=>by
  simp only [Yx,rawInt,codeAmong] at e
  split at e
  ·exact .inr (Option.some.inj e).symm
  ·cases e
 | .int a t::.int b u::x::r,h,e=>by
  simp only [List.cons_append,codeAmong] at e ⊢
  split
  ·rename_i hc
   rw [if_pos hc] at e
   exact .inl e
  ·rename_i hc
   rw [if_neg hc] at e
   exact oN (show TriplesOk r from h) e
section
variable {σ:St} {P c':ae} {ps:Array aa}
theorem Inv.grown {p0:Pos} (I:Inv X a_ σ H s) (hT:H P=some (.tab q)) (hx:af.ExtBut P s.heap h') (BU:s.heap.objs.size<=c') (Dw:h'.CodeRec (.ref c') q) (F!:s.heap.get? P=some (Ta ps)) (Hi:h'.get? P=some (Ta (ps++#[rawInt p0.line,rawInt p0.col,.ref c']))) :
  Inv X a_ σ (upd H c' (.own P)) { s with heap:=h',toks:=t' }:=by
 have hf:H c'=none:=I.d_.fresh BU
 have hn:∀ b,H b=none->b≠P:=λb n z=>by rw [z,hT] at n; cases n
 have hc:∀ b u,H b=some u->b≠c':=λb u n z=>by rw [z,hf] at n; cases n
 have fu:∀ b o,s.heap.get? b=some o->b≠c':=λb o e=>Qv (Qn (af.lt_size e) BU)
 obtain ⟨c2,oc,vs,tq,ec,t_,Ey,hv⟩:=Dw
 cases ec
 refine I.un ⟨λb o e n _ _=>hx b o (hn b n) e,λb o e n _ _=>⟨o.slots,hx b o (hn b n) e⟩,λb o e n _=>by rw [aF (fu b o e)]; exact n,λb o e _=>?_,λb xs e=>by rw [aF (hc b _ e)]; exact e,λb o u e=>by rw [aF (hc b _ e)]; exact e,λb ps e=>⟨#[],by rw [aF (hc b _ e),e]; simp⟩⟩ ?_
 ·by_cases hb:b=P
  ·subst hb; exact ⟨_,Hi⟩
  ·exact ⟨o,hx b o hb e⟩
 ·intro b u e
  by_cases hb:b=c'
  ·subst hb
   rw [aB] at e; cases e
   exact ⟨oc,t_⟩
  ·rw [aF hb] at e
   by_cases Hd:b=P
   ·subst Hd
    rw [hT] at e; cases e
    obtain ⟨ps0,e0,tr,r⟩:∃ ps:Array aa,s.heap.get? b=some { cls:=.none,data:=.fields ps }/\TriplesOk ps.toList/\∀ (pos:Pos) (cv:aa),codeAmong pos ps.toList=some cv->∃ (c:ae) (o:bz) (vs:Array aa) (t:Tok),cv=.ref c/\H c=some (.own b)/\s.heap.get? c=some o/\o.data=.fields vs/\(vs[1]?:Option aa)=some (.str q t):=I.d_ b _ hT
    rw [F!] at e0
    cases e0
    have el:(ps++#[rawInt p0.line,rawInt p0.col,aa.ref c']).toList=ps.toList++[rawInt p0.line,rawInt p0.col,.ref c']:=by simp
    refine ⟨_,Hi,by rw [el]; exact TriplesOk_snoc _ _ _ _ tr,λpos cv z=>?_⟩
    rw [el] at z
    rcases oN tr z with z | rfl
    ·obtain ⟨c3,o3,YL,t3,r1,r2,r3,r4⟩:=r pos cv z
     have n3:c3≠b:=λy=>by rw [y,hT] at r2; cases r2
     exact ⟨c3,o3,YL,t3,r1,by rw [aF (hc _ _ r2)]; exact r2,hx _ _ n3 r3,r4⟩
    ·exact ⟨c',oc,vs,tq,rfl,aB,t_,Ey,hv⟩
   ·refine (I.d_ b u e).ie (λd v hd z=>hx d v ?_ z) (λd z=>by rw [aF (hc _ _ z)]; exact z) λd xs z=>by rw [aF (hc _ _ z)]; exact z
    rcases hd with rfl | hd
    ·exact Hd
    ·intro z
     rw [z,hT] at hd; cases hd
theorem aDZ {body:ba} (I:Inv X a_ σ H s) (Z:Lm X.K X.mg X.base c P) (uf:X.env.code=.ref c) (hT:H P=some (.tab q)) (hq:X.env.qual ++ "<lambda>" = q) (CP:defaultsOf params X.env=([],[])) (xf:closureFor scope X.env=pure cl) (h:∀ f c' ud pm s' H',Inv X a_ σ H' s'->aD H H'->(∀ b o,b≠P->s.heap.get? b=some o->s'.heap.get? b=some o) ->
   s'.heap.get? f=some { cls:=.type "function",data:=.func (Ue "<lambda>" q params body scope cl pm (.ref c') ud) }->s'.heap.CodeRec (.ref c') q->Q (.ref f) s') :
  ai (ak X.prog X.w) X.A (eval (.Lambda params body scope pos) X.env) Q E s:=by
 obtain ⟨ps,hP,tr,r⟩:∃ ps:Array aa,s.heap.get? P=some { cls:=.none,data:=.fields ps }/\TriplesOk ps.toList/\∀ (pos:Pos) (cv:aa),codeAmong pos ps.toList=some cv->∃ (c:ae) (o:bz) (vs:Array aa) (t:Tok),cv=.ref c/\H c=some (.own P)/\s.heap.get? c=some o/\o.data=.fields vs/\(vs[1]?:Option aa)=some (.str q t):=I.d_ P _ hT
 have hg:s.heap.Ns aj X.mg:=I.mod.glob.keeps I.bk
 have C:Vc s.heap c P:=Vf I.kj Z.hd
 have hb:s.heap.BuiltinsAt X.mg P:=by
  obtain ⟨bm,o,e1,e2,e3,e4,e5,e6⟩:=Z.bu
  exact ⟨bm,o,e1,e2,e3,e4,I.bk _ _ e5,e6⟩
 refine PySem.W.kla_eval CP ?_
 rw [hq]
 cases hf:codeAmong pos ps.toList with
 | none =>
  refine PySem.W.kla_makeFunction xf I.ok.glob hg uf C hP tr hf Z.gP hb λc' ud h' tk hx BU fu Dw Hi=>?_
  have I1:Inv X a_ σ (upd H c' (.own P)) { s with heap:=h',toks:=tk }:=I.grown hT hx BU Dw hP Hi
  have I2:=I1.kept (h':=h'.push (PySem.W.kla_obj "<lambda>" q params body scope cl ((X.mg "__name__").getD .none) c' ud)) (t':=tk) λb o e=>af.get?_push_of_some _ e
  refine h _ c' ud _ _ _ I2 (aD.new (I.d_.fresh BU)) (λb o Hd e=>af.get?_push_of_some _ (hx b o Hd e)) (af.get?_push_size _ rfl) ?_
  obtain ⟨c2,oc,vs,tq,ec,t_,r⟩:=Dw
  exact ⟨c2,oc,vs,tq,ec,af.get?_push_of_some _ t_,r⟩
 | some cv =>
  obtain ⟨c',o,vs,t,rfl,r2,r3,r4,r5⟩:=r pos cv hf
  refine PySem.W.kla_makeFunctionHit xf I.ok.glob hg uf C hP tr hf hb λud h' tk kk hsz=>?_
  have I2:=I.kept (h':=h'.push { cls:=.type "function",data:=.func (Ue "<lambda>" q params body scope cl ((X.mg "__name__").getD .none) (.ref c') ud) }) (t':=tk) λb o e=>af.get?_push_of_some _ (kk b o e)
  exact h _ c' ud _ _ _ I2 (aD.refl H) (λb o _ e=>af.get?_push_of_some _ (kk b o e)) (af.get?_push_size _ rfl) ⟨c',o,vs,t,rfl,af.get?_push_of_some _ (kk _ _ r3),r4,r5⟩
end
theorem oO (num:Nat->Int):∀ k,∀ l,l < argBest (m8 num) k->num (argBest (m8 num) k) < num l
 | 0=>λl hl=>by simp [argBest] at hl
 | k+1=>λl hl=>by
  have h2:=(argBest_lt num k).2
  simp only [argBest] at hl ⊢
  by_cases hc:num (k+1) < num (argBest (m8 num) k)
  ·rw [if_pos (show m8 num (k+1) (argBest (m8 num) k)=true from decide_eq_true hc)] at hl ⊢
   have:=h2 l (by omega)
   show num (k+1) < num l
   have e:num (argBest (λi j=>decide (num i < num j)) k)=num (argBest (m8 num) k):=rfl
   omega
  ·rw [if_neg (show ¬ m8 num (k+1) (argBest (m8 num) k)=true from λz=>hc (of_decide_eq_true z))] at hl ⊢
   exact oO num k l hl
def HX (K:Rb) (H:Hp) (x:V) (ns:List Int):Prop:=∃ a,x=.ref a/\(d9 K H a (ns.map V.int)∨d8 K H a (ns.map V.int)∨∃ kvs:List (Key×V),H a=some (.dK kvs)/\kvs.map (·.1)=ns.map Sum.inl)
def HW (K:Rb) (H:Hp) (u:V) (n k:Int):Prop:=0<=n/\n < 1000/\∃ a xs,u=.ref a/\(d8 K H a xs∨d9 K H a xs)/\xs[n.toNat]?=some (.int k)
def aFw (K:Rb) (P:ae) (q:ax) (iv:Nat) (te:TE):TE:=λσ H Q=>te σ H λx H1=>∃ (ns:List Int) (kf:Int->Int) (u:V),HX K H1 x ns/\0 < ns.length/\H1 P=some (.tab q)/\σ[iv]?=some (some u)/\(∀ n∈ns,HW K H1 u n (kf n)) /\
 ∀ (j:Nat) (m:Int) (H2:Hp),aD H1 H2->ns[j]?=some m->(∀ n∈ns,kf m<=kf n)->(∀ (l:Nat) (n:Int),l < j->ns[l]?=some n->kf m < kf n)->Q (.int m) H2
section
variable {σ:St}
theorem aBo {x:V} (hh:A.handled=none) (I:Inv X a_ σ H s) (hx:HX X.K H x ns) (r:bR x u) (h:∀ (It:ae) fp (Pv:Nat->aa->Prop) St s2,Walks X.prog X.w A It fp [It] ns.length Pv St->(∀ i v,Pv i v->∃ n t,ns[i]?=some n/\v=.int n t)->St 0 s2.heap->(∀ b∈fp,b < s2.heap.objs.size)->s.heap.objs.size<=It ->
   (∀ b o,s.heap.get? b=some o->s2.heap.get? b=some o)->(∃ h2,s2={ s with heap:=h2 })->Q (.ref It) s2):ai (ak X.prog X.w) A (pyIter u) Q E s:=by
 obtain ⟨a,rfl,hx⟩:=hx
 cases r
 rcases hx with hx | hx | ⟨kvs,hx,hk⟩
 ·obtain ⟨dj,rv,p,hz⟩:=I.list hx
  have hl:=rv.length
  rw [Qc] at hl
  have ht:=p.isList
  have fu:a < s.heap.objs.size:=by obtain ⟨o,e,_⟩:=ht; exact af.lt_size e
  have il:a≠s.heap.objs.size:=Qv fu
  have W0:=Walks.list (prog:=X.prog) (w:=X.w) (A:=A) hh s.heap.objs.size a il dj.toArray
  rw [show dj.toArray.size=ns.length by rw [Qk,hl]] at W0
  refine Uk ht (h s.heap.objs.size [s.heap.objs.size,a] _ _ { s with heap:=s.heap.push { cls:=.type "list_iterator",data:=.fields #[.ref a,.int 0 0] } } W0 (λi v e=>?_) ⟨⟨_,af.get?_push_size _ rfl,rfl,rfl⟩,ht.push _⟩ (λb hb=>?_) (Qg _) (λb o e=>af.get?_push_of_some _ e) ⟨_,rfl⟩)
  ·have e':dj[i]?=some v:=by simpa using e
   obtain ⟨hi,_⟩:=Qa.mp e'
   obtain ⟨w',ew,i4⟩:=rv.get (i:=i) (x:=.int (ns[i]'(by omega))) (by rw [Qh,Qb (show i < ns.length by omega)]; rfl)
   rw [e'] at ew; cases ew
   obtain ⟨t,rfl⟩:=i4
   exact ⟨_,t,Qb (show i < ns.length by omega),rfl⟩
  ·show b < (s.heap.push _).objs.size
   rw [af.size_push]
   simp only [Qj,Qq,or_false] at hb
   rcases hb with hb | hb
   ·rw [hb]; exact Xi _
   ·rw [hb]; exact Xd fu
 ·obtain ⟨dj,rv,p,hz⟩:=I.tuple hx
  have hl:=rv.length
  rw [Qc] at hl
  have ht:s.heap.IsTuple a dj.toArray:=p
  have fu:a < s.heap.objs.size:=by obtain ⟨o,e,_⟩:=ht; exact af.lt_size e
  have il:a≠s.heap.objs.size:=Qv fu
  have W0:=Walks.tuple (prog:=X.prog) (w:=X.w) (A:=A) hh s.heap.objs.size a il dj.toArray
  rw [show dj.toArray.size=ns.length by rw [Qk,hl]] at W0
  refine Ie ht (h s.heap.objs.size [s.heap.objs.size,a] _ _ { s with heap:=s.heap.push { cls:=.type "tuple_iterator",data:=.fields #[.ref a,.int 0 0] } } W0 (λi v e=>?_) ⟨⟨_,af.get?_push_size _ rfl,rfl,rfl⟩,ht.push _⟩ (λb hb=>?_) (Qg _) (λb o e=>af.get?_push_of_some _ e) ⟨_,rfl⟩)
  ·have e':dj[i]?=some v:=by simpa using e
   obtain ⟨hi,_⟩:=Qa.mp e'
   obtain ⟨w',ew,i4⟩:=rv.get (i:=i) (x:=.int (ns[i]'(by omega))) (by rw [Qh,Qb (show i < ns.length by omega)]; rfl)
   rw [e'] at ew; cases ew
   obtain ⟨t,rfl⟩:=i4
   exact ⟨_,t,Qb (show i < ns.length by omega),rfl⟩
  ·show b < (s.heap.push _).objs.size
   rw [af.size_push]
   simp only [Qj,Qq,or_false] at hb
   rcases hb with hb | hb
   ·rw [hb]; exact Xi _
   ·rw [hb]; exact Xd fu
 ·obtain ⟨hz,hs,vs,kv,dd⟩:bS X.prog X.w H s.heap a (.dK kvs):=I.d_ a _ hx
  obtain ⟨ep,da⟩:=dd.dictAt
  have hl:kvs.length=vs.length:=kv.length
  have zr:vs.length=ns.length:=by
   have:=congrArg Wf hk
   rw [Qc,Qc] at this
   omega
  have fu:=da.lt_size
  have il:a≠s.heap.objs.size:=Qv fu
  have W0:=Walks.dictKeys (prog:=X.prog) (w:=X.w) (A:=A) (knd:=bF X.prog X.w) hh s.heap.objs.size a il vs ep
  rw [zr] at W0
  refine Raf hs da (h s.heap.objs.size [s.heap.objs.size,a] _ _ { s with heap:=s.heap.push { cls:=.type "dict_keyiterator",data:=.fields #[.ref a,.int 0 0,.int vs.length 0,.int ep 0] } } W0 (λi v e=>?_) ⟨⟨_,af.get?_push_size _ rfl,rfl,by rw [zr]; rfl⟩,da.push _⟩ (λb hb=>?_) (Qg _) (λb o e=>af.get?_push_of_some _ e) ⟨_,rfl⟩)
  ·obtain ⟨k,x,hi,ym⟩:=e
   have e1:(vs.map (·.1))[i]?=some k:=by rw [Qh,hi]; rfl
   rw [<- kv.keys,hk,Qh] at e1
   cases q:ns[i]? with
   | none=>rw [q] at e1; cases e1
   | some n =>
    rw [q] at e1
    have:k=Sum.inl n:=(Option.some.inj e1).symm
    subst this
    obtain ⟨t,rfl⟩:bR (.int n) v:=uH ym
    exact ⟨n,t,rfl,rfl⟩
  ·show b < (s.heap.push _).objs.size
   rw [af.size_push]
   simp only [Qj,Qq,or_false] at hb
   rcases hb with hb | hb
   ·rw [hb]; exact Xi _
   ·rw [hb]; exact Xd fu
theorem VT {u:V} {uv:aa} {n k:Int} (I:Inv X a_ σ H s) (hk:HW X.K H u n k) (r:bR u uv):∃ t,kP s.heap uv n (.int k t):=by
 obtain ⟨h0,h1,a,xs,rfl,hx | hx,he⟩:=hk
 ·cases r
  obtain ⟨dj,rv,p,hz⟩:=I.tuple hx
  obtain ⟨w',ew,t,rfl⟩:=rv.get he
  exact ⟨t,a,rfl,.inl ⟨dj.toArray,p,h0,h1,by simpa using ew⟩⟩
 ·cases r
  obtain ⟨dj,rv,p,hz⟩:=I.list hx
  obtain ⟨w',ew,t,rfl⟩:=rv.get he
  exact ⟨t,a,rfl,.inr ⟨dj.toArray,p.isList,h0,h1,by simpa using ew⟩⟩
theorem kP.obj {i:Int} {v:aa} (x:kP h u i v):∃ p o,u=.ref p/\h.get? p=some o/\∀ h':af,h'.get? p=some o->kP h' u i v:=by
 obtain ⟨p,rfl,⟨dj,⟨o,ho,r⟩,q⟩ | ⟨dj,⟨o,ho,r⟩,q⟩⟩:=x
 ·exact ⟨p,o,rfl,ho,λh' e=>⟨p,rfl,.inl ⟨dj,⟨o,e,r⟩,q⟩⟩⟩
 ·exact ⟨p,o,rfl,ho,λh' e=>⟨p,rfl,.inr ⟨dj,⟨o,e,r⟩,q⟩⟩⟩
theorem xB {p FO Nz:Pos} {P:ae} (iv:Nat) (hc:X.calm=true) (hr:dz 1 X.A) (hg:Gl X "min") (hm:X.mg "min" = none) (Z:Lm X.K X.mg X.base c P) (uf:X.env.code=.ref c) (hq:X.env.qual ++ "<lambda>" = q) (he:PE X e te) (hN:X.N[iv]?=some vn) (jz:X.env.kindOf vn=some .cell) (CP:autoParam (defaultsOf params X.env=([],[])) L2.gc) (xf:autoParam (gI X.env scope.names []=(match X.env.cells.lookup vn with | some c=>[(vn,c)] | none=>[])) L2.gc) (KY:autoParam (∀ y∈scope.names,y.2=.free->y.1=vn) L2.DS) (qe:∀ (cl:List (ax×ae)) (pm fh ud:aa) (i:Int) (t:Tok),c7 (Ue "<lambda>" q params (.Subscript (.Name vn p1) (.Name xn p2) p3) scope cl pm fh ud) ⟨[.int i t],[]⟩=pure [(xn,.int i t)]:=by intro _ _ _ _ _ _; rfl) (hx:autoParam (scope.names.lookup xn=some .local) L2.gc) (hv:autoParam (scope.names.lookup vn=some .free) L2.gc) (K5:autoParam (scope.isCoroutine=false) L2.gc) (CN:autoParam (scope.isGenerator=false) L2.gc) (hk:autoParam (scope.kind=.function) L2.gc) (iq:autoParam (∀ x∈scope.names,x.2≠.cell) L2.DS) (d1:autoParam ((vn==("__debug__" : ax))=false) L2.jd) (d2:autoParam ((vn==("__classdict__" : ax))=false) L2.jd) (d3:autoParam ((xn==("__debug__" : ax))=false) L2.jd) (Ky:autoParam (ao [e] X.env = [(false,eval e X.env)]) L2.gc) :
  PE X (.Call (.Name "min" p) [e] [⟨some "key",.Lambda params (.Subscript (.Name vn p1) (.Name xn p2) p3) scope Nz,FO⟩] pos) (aFw X.K P q iv te):=by
 intro a_ s σ H Q I h
 refine To (mK (u:=.builtin "min") I hg hm (by decide +kernel) ?_)
 have f?:PA X [e] (iM te oF):=aA he aC Ky
 refine callWith_kw (fi (f? pos a_ s σ H (λvs H1=>match vs with
   | [x] => ∃ (ns : List Int) (kf : Int -> Int) (u : V), HX X.K H1 x ns /\ 0 < ns.length /\ H1 P = some (.tab q) /\ σ[iv]? = some (some u) /\ (∀ n ∈ ns, HW X.K H1 u n (kf n)) /\
       ∀ (j:Nat) (m:Int) (H2:Hp),aD H1 H2->ns[j]?=some m->(∀ n∈ns,kf m<=kf n)->(∀ (l:Nat) (n:Int),l < j->ns[l]?=some n->kf m < kf n)->Q (.int m) H2
   | _=>False) I h) λus s1 ⟨vs,H1,I1,r1,q1⟩=>?_) (by rw [Ky]; rfl) (by rw [Ky]; rfl)
 match vs,r1,q1 with
 | [x],r1,q1 =>
  obtain ⟨ns,kf,u,hit,xy,hT,hu,Gk,k⟩:=q1
  obtain ⟨xv,rfl,rx⟩:=iC r1
  -- the cell of the name
  obtain ⟨m1,aad,zt⟩:=id I1.loc
  obtain ⟨uv,ru,lk⟩:=zt iv vn u hN hu (.inr (.inl jz))
  obtain ⟨cc,BW,I!⟩:∃ cc,X.env.cells.lookup vn=some cc/\s1.heap.IsCell cc (some uv):=by
   rcases lk with ⟨z,_⟩ | ⟨_,z⟩
   ·rw [jz] at z; cases z
   ·exact z
  have N_:closureFor scope X.env=pure [(vn,cc)]:=by
   rw [U9 λy hy z=>⟨cc,by rw [KY y hy z]; exact BW⟩,xf,BW]
  refine kws_cons (aDZ I1 Z uf hT hq CP N_ λf c' ud pm s2 H2 I2 sm kk hf Dw=>kws_nil ?_)
  show ai (ak X.prog X.w) X.A (call (.builtin "min") [xv] [(ax.ofString "key",.ref f)]) _ _ _
  have NZ:HX X.K H2 x ns:=by
   obtain ⟨a,rfl,z | z | ⟨kvs,z,y⟩⟩:=hit
   ·exact ⟨a,rfl,.inl (sm.lj z)⟩
   ·exact ⟨a,rfl,.inr (.inl (sm.dk z))⟩
   ·exact ⟨a,rfl,.inr (.inr ⟨kvs,sm _ _ z,y⟩)⟩
  have yg:∀ n∈ns,HW X.K H2 u n (kf n):=λn hn=>by
   obtain ⟨h0,h1,a,xs,rfl,z | z,y⟩:=Gk n hn
   ·exact ⟨h0,h1,a,xs,rfl,.inl (sm.dk z),y⟩
   ·exact ⟨h0,h1,a,xs,rfl,.inr (sm.lj z),y⟩
  -- what stays through the loop
  obtain ⟨fo,Y?,hf⟩:∃ fo:bz,fo={ cls:=.type "function",data:=.func (Ue "<lambda>" q params (.Subscript (.Name vn p1) (.Name xn p2) p3) scope [(vn,cc)] pm (.ref c') ud) }/\s2.heap.get? f=some fo:=⟨_,rfl,hf⟩
  obtain ⟨c2,oc,cvs,tq,ec,t_,Ey,QI⟩:=Dw
  cases ec
  obtain ⟨JV,FV,N8⟩:s2.heap.IsCell cc (some uv):=by
   obtain ⟨o,ho,hd⟩:=I!
   have nP:cc≠P:=λz=>by rw [z] at BW; have:=I1.gj _ _ BW; rw [hT] at this; cases this
   exact ⟨o,kk _ _ nP ho,hd⟩
  obtain ⟨mc,⟨oL,V!,X!,xa,x?,rL⟩,x_⟩:=I2.nolimit
  have n0:ns[0]?=some (ns[0]):=Qb xy
  obtain ⟨t0,π⟩:=VT I2 (yg _ (Qd n0)) ru
  obtain ⟨pu,ou,eu,KD,_⟩:=π.obj
  refine yN (f:=f) (aBo (A:=X.A.in1) (I2.ok.hd hc) I2 NZ rx λIt fp Pv St s3 W Q0 j0 rj RH Ds e_=>?_)
  obtain ⟨h3,e3⟩:=e_
  subst e3
  refine ⟨It,fp,[It],ns.length,Pv,St,λi=>kf (ns.getD i 0),[(f,fo),(c',oc),(cc,JV),(cStatics,oL),(pu,ou)],rfl,W,j0,rj,xy,?_,?_,?_,λv h' tk hP BG=>?_⟩
  ·intro i v s4 Q4 E4 hi E? hL E!
   obtain ⟨n,t,hn,rfl⟩:=Q0 i v E?
   have eg:ns.getD i 0=n:=by rw [Xh,hn]; rfl
   obtain ⟨tk,ξ⟩:=VT I2 (yg _ (Qd hn)) ru
   have ο:kP s4.heap uv n (.int (kf n) tk):=by
    obtain ⟨p',o',e',n_,hh⟩:=ξ.obj
    rw [eu] at e'; cases e'
    rw [KD] at n_; cases n_
    exact hh _ (hL (pu,ou) (by simp))
   have rm:X.A.in1.depth < recursionLimit:=(dz.in1 hr).depth
   refine aDX (cl:=[(vn,cc)]) (c:=cc) rm ⟨mc,⟨oL,V!,X!,hL (cStatics,oL) (by simp),x?,rL⟩,x_⟩ (by rw [<- Y?]; exact hL (f,fo) (by simp)) ⟨c',oc,cvs,tq,rfl,hL (c',oc) (by simp),Ey,QI⟩ (qe _ _ _ _ _ _) hx hv K5 CN hk iq (by simp [List.lookup]) ⟨JV,hL (cc,JV) (by simp),N8⟩ ο (λh5 YT k5=>?_) d1 d2 d3
   have:=E! h5 YT tk k5
   dsimp only at this
   rw [eg] at this
   exact this
  ·intro pr El hz
   have fu:∀ b o,s2.heap.get? b=some o->b≠It:=λb o e=>Qv (Qn (af.lt_size e) RH)
   simp only [Qu] at hz
   simp only [Qj,Qq,or_false] at El
   rcases El with rfl | rfl | rfl | rfl | rfl
   ·exact fu _ _ hf hz
   ·exact fu _ _ t_ hz
   ·exact fu _ _ FV hz
   ·exact fu _ _ xa hz
   ·exact fu _ _ KD hz
  ·intro pr El
   simp only [Qj,Qq,or_false] at El
   rcases El with rfl | rfl | rfl | rfl | rfl
   ·exact Ds _ _ hf
   ·exact Ds _ _ t_
   ·exact Ds _ _ FV
   ·exact Ds _ _ xa
   ·exact Ds _ _ KD
  ·obtain ⟨n,t,hn,rfl⟩:=Q0 _ v hP
   have I3:Inv X a_ σ H2 { s2 with heap:=h',toks:=tk }:=I2.kept λb o e=>BG b o (by simp; exact Qv (Qn (af.lt_size e) RH)) (Ds b o e)
   have b1:=argBest_lt (λi=>kf (ns.getD i 0)) (ns.length - 1)
   have b2:=oO (λi=>kf (ns.getD i 0)) (ns.length - 1)
   have u5:∀ i y,ns[i]?=some y->ns.getD i 0=y:=λi y e=>by rw [Xh,e]; rfl
   refine ⟨.int n,H2,I3,⟨t,rfl⟩,k _ n H2 sm hn (λy hy=>?_) (λl y hl hy=>?_)⟩
   ·obtain ⟨i,hi⟩:=Qs.mp hy
    have:=b1.2 i (by have:=(Qa.mp hi).1; omega)
    have e1:=u5 _ _ hn
    have e2:=u5 _ _ hi
    show kf n<=kf y
    rw [<- e1,<- e2]; exact this
   ·have:=b2 l hl
    have e1:=u5 _ _ hn
    have e2:=u5 _ _ hy
    rw [<- e1,<- e2]; exact this
end
def ME (ts:List (ae×ax)) (H:Hp):Prop:=(∀ b,H b=none∨(∃ o xs,H b=some (.fm o (.lst xs)))∨∃ q,H b=some (.tab q)/\(b,q)∈ts)/\∀ p∈ts,H p.1=some (.tab p.2)
theorem uJ {P:ae} (C:Vc h c P) (e:h.get? P=some (Ta #[])):isCodeTable h P:=(C.tab e).isCodeTable
theorem aCY {mb:ax->Option aa} {k:Nat} {fa a:ae} {x:ax} {f':ah} {vs:List aa} {ts:List (ae×ax)} (KX:K.In f'.heap) (k7:f'.heap.Ns aj mg) (hb:f'.heap.Ns builtinsNs mb) (z?:∀ x:ax,x ≠ "__name__" -> mb x=bc x) (x_:f'.heap.NoLimit) (NU:∃ mm,f'.heap.Ns br mm) (hg:f'.gens = #[]) (z!:∃ bm ob,mg "__builtins__" = some (.ref bm)/\bm≠builtinsNs/\f'.heap.get? bm=some ob/\ob.cls=.type "module" /\ ob.dict=some builtinsNs/\ob.data=.plain) (wz:∀ p∈ts,f'.heap.get? p.1=some (Ta #[])/\K.lookup p.1=none/\∃ c,Vc f'.heap c p.1) (gz:(ts.map (·.1)).Nodup) (ha:f'.heap.get? a=some { cls:=.type "list",data:=.seq vs.toArray }) (hi:IntsAre vs ns) (hl:ns.length<=ag) (hr:dz k callerA) (F:∀ base:af,K.In base->base.Ns aj mg->(∀ p∈ts,base.BuiltinsAt mg p.1)->b_ P w K mg base CX k fa fd [x] sp) (qe:∀ (s:ah) (u:aa),BindsTo s fd ⟨[u],[]⟩ [(x,u)]) (t9:∀ H:Hp,ME ts H->d9 K H a (ns.map V.int)->sp [.ref a] H (λv H'=>v=.bl true/\∀ p∈ts,H' p.1=some (.tab p.2)) λ_ _ _=>False) (Ll:∀ H e s',CX [] H f' (λ_ _ _=>False) e s'->False) :
  codeAny (ak P w) callerA (.call (.ref fa) ⟨[.ref a],[]⟩) (λr s'=>r=.ok (.ret (.bool true))/\OldK f'.heap s'.heap/\s'.os=f'.os/\AllBare s'.gens) f':=by
 have rv:=wV hi
 have NA:=hi.length
 have na:∀ p∈ts,p.1≠a:=λp hp z=>by
  have:=(wz p hp).1
  rw [z,ha] at this; cases this
 -- from an abstract heap in which nothing but the script and the tables may be tracked
 have core:∀ H:Hp,ME ts H->d9 K H a (ns.map V.int)->je P w H f'.heap->(∀ b,H b≠none->b=a∨∃ q,(b,q)∈ts)->(H a≠none->K.lookup a=none) ->
   codeAny (ak P w) callerA (.call (.ref fa) ⟨[.ref a],[]⟩) (λr s'=>r=.ok (.ret (.bool true))/\OldK f'.heap s'.heap/\s'.os=f'.os/\AllBare s'.gens) f':=by
  intro H hO hS d_ hA hK
  have base_of:∀ {b:ae} {o:bz},f'.heap.get? b=some o->H b=none->(wB f'.heap H).get? b=some o:=λe n=>aDg e n
  have D7:∀ {b:ae} {o:bz} {es:Array cu} {ep:Nat},f'.heap.get? b=some o->o.data=.dict es ep->H b=none:=λ{b o es ep} e d=>by
   cases q:H b with
   | none=>rfl
   | some u =>
    rcases hA b (by rw [q]; simp) with e' | ⟨q',e'⟩
    ·subst e'
     rw [ha] at e; cases e
     have d':Data.seq vs.toArray _=Data.dict es ep:=d
     cases d'
    ·have:=(wz _ e').1
     have e2:f'.heap.get? b=some (Ta #[]):=this
     rw [e] at e2; cases e2
     have d':Data.fields _=Data.dict es ep:=d
     cases d'
  have D6:∀ {b:ae} {m:ax->Option aa},f'.heap.Ns b m->(wB f'.heap H).Ns b m:=λ{b m} ⟨o,es,ep,e,d,r⟩=>⟨o,es,ep,base_of e (D7 e d),d,r⟩
  have RE:K.In (wB f'.heap H):=λb o e=>base_of (KX b o e) (by
   cases q:H b with
   | none=>rfl
   | some u =>
    rcases hA b (by rw [q]; simp) with e' | ⟨q',e'⟩
    ·subst e'
     rw [hK (by rw [q]; simp)] at e; cases e
    ·have:=(wz _ e').2.1
     have e2:K.lookup b=none:=this
     rw [e] at e2; cases e2)
  have Ln:∀ p∈ts,(wB f'.heap H).BuiltinsAt mg p.1:=λp hp=>by
   obtain ⟨bm,ob,b1,b2,b3,b4,b5,b6⟩:=z!
   have hn:H bm=none:=by
    cases q:H bm with
    | none=>rfl
    | some u =>
     rcases hA bm (by rw [q]; simp) with e' | ⟨q',e'⟩
     ·subst e'
      rw [ha] at b3; cases b3
      have d':Data.seq vs.toArray _=Data.plain:=b6
      cases d'
     ·have e2:f'.heap.get? bm=some (Ta #[]):=(wz _ e').1
      rw [b3] at e2; cases e2
      have d':Data.fields _=Data.plain:=b6
      cases d'
   refine ⟨bm,ob,b1,b2,λz=>?_,λz=>?_,base_of b3 hn,b4,b5,b6⟩
   ·obtain ⟨o,es,ep,e,d,r⟩:=k7
    rw [<- z,b3] at e; cases e
    rw [b6] at d; cases d
   ·have e2:f'.heap.get? p.1=some (Ta #[]):=(wz _ hp).1
    rw [<- z,b3] at e2; cases e2
    have d':Data.fields _=Data.plain:=b6
    cases d'
  have hM:Mod K mg (wB f'.heap H):=⟨RE,D6 k7,⟨mb,D6 hb,z?⟩,let ⟨mc,h1,h2⟩:=x_; ⟨mc,D6 h1,h2⟩,let ⟨mm,h1⟩:=NU; ⟨mm,D6 h1⟩⟩
  have e0:su P w K mg (wB f'.heap H) callerA [] f' H:=⟨rfl,hM,λb o e=>aE1 e,Zn (aCF _ _),trivial,λb hb=>absurd (show b∈([]:List ae) from hb) (by simp),d_,.of_eq hg⟩
  refine Uv ((F _ RE (D6 k7) Ln).run callerA [] f' H ⟨[.ref a],[]⟩ [.ref a] [.ref a] _ _ hr e0 (qe f' (.ref a)) (.cons rfl .nil) (t9 H hO hS)) λr s' h=>?_
  cases r with
  | error e=>exact (Ll H e s' h).elim
  | ok fl =>
   cases fl with
   | next=>exact False.elim h
   | brk=>exact False.elim h
   | cont=>exact False.elim h
   | ret u =>
    obtain ⟨v,H',os,bare,un,FT,r',q,qt⟩:=h
    have q':v=.bl true:=q
    subst q'
    obtain rfl:u=aa.bool true:=r'
    have keep:∀ b o,(∀ q,(b,q)∉ts)->f'.heap.get? b=some o->s'.heap.get? b=some o:=λb o hb e=>by
     cases q:H b with
     | none=>exact un.keep b o e q (by intro z; exact absurd (show b∈([]:List ae) from z) (by simp)) (by simp)
     | some u =>
      rcases hO.1 b with z | ⟨ob,xs,z⟩ | ⟨q',z,zm⟩
      ·rw [q] at z; cases z
      ·have z2:=un.jh b ob _ z
       obtain ⟨e1,_⟩:=d_ b _ z
       obtain ⟨e2,_⟩:=FT b _ z2
       rw [e] at e1; cases e1
       exact e2
      ·exact absurd zm (hb q')
    have grown:∀ b o q,(b,q)∈ts->f'.heap.get? b=some o->isCodeTable f'.heap b/\o=Ta #[]/\∃ ps,s'.heap.get? b=some (Ta ps):=λb o q hm e=>by
     obtain ⟨h1,h2,c,h3⟩:=wz _ hm
     have u9:f'.heap.get? b=some (Ta #[]):=h1
     rw [e] at u9
     obtain ⟨ps,Ek,_⟩:bS P w H' s'.heap b (.tab q):=FT b _ (qt _ hm)
     exact ⟨uJ h3 h1,Option.some.inj u9,ps,Ek⟩
    refine ⟨rfl,⟨λb o e=>?_,λb o e=>?_⟩,os,bare⟩
    ·by_cases hb:∃ q,(b,q)∈ts
     ·obtain ⟨q,hm⟩:=hb
      obtain ⟨ht,rfl,ps,hP⟩:=grown b o q hm e
      exact .inr (.inl ⟨ht,rfl,#[],ps,rfl,by rw [Array.empty_append]; exact hP⟩)
     ·exact .inl (keep b o (λq z=>hb ⟨q,z⟩) e)
    ·by_cases hb:∃ q,(b,q)∈ts
     ·obtain ⟨q,hm⟩:=hb
      obtain ⟨_,_,ps,hP⟩:=grown b o q hm e
      exact ⟨_,hP⟩
     ·exact ⟨o,keep b o (λq z=>hb ⟨q,z⟩) e⟩
 -- the tables
 have look:∀ {b:ae} {q:ax},ts.lookup b=some q->(b,q)∈ts:=λ{b q} e=>by
  clear wz gz t9 core na F
  induction ts with
  | nil=>cases e
  | cons p r ih =>
   rw [Jl] at e
   cases hb:b==p.1 with
   | true=>rw [hb] at e; cases e; rw [eq_of_beq hb]; exact .head _
   | false=>rw [hb] at e; exact .tail _ (ih e)
 have Bp:∀ {b:ae} {q:ax},(b,q)∈ts->ts.lookup b=some q:=λ{b q} e=>by
  clear wz t9 core na look F
  induction ts with
  | nil=>cases e
  | cons p r ih =>
   rw [Jl]
   rw [Qw,Jh] at gz
   rcases Qj.mp e with rfl | e
   ·simp
   ·have:(b==p.1)=false:=by
     rw [beq_eq_false_iff_ne]
     intro z
     exact gz.1 (Xp.mpr ⟨(b,q),e,z⟩)
    rw [this]
    exact ih gz.2 e
 have Bm:∀ (H:Hp) (b:ae) (q:ax),(b,q)∈ts->bS P w H f'.heap b (.tab q):=λH b q hm=>⟨#[],(wz _ hm).1,trivial,λpos cv z=>by simp [codeAmong] at z⟩
 cases hk:K.lookup a with
 | some o =>
  have e:=KX a o hk
  rw [ha] at e
  cases e
  refine core (λb=>(ts.lookup b).map HO.tab) ⟨λb=>?_,λp hp=>by show (ts.lookup p.1).map HO.tab=_; rw [Bp (q:=p.2) hp]; rfl⟩ (.inr ⟨_,vs.toArray,_,hk,rfl,rfl,rfl,by rw [Qk,NA]; exact hl,by simpa using rv⟩) (λb u z=>?_) (λb z=>?_) λz=>?_
  ·cases q:ts.lookup b with
   | none=>exact .inl (by show (ts.lookup b).map HO.tab=none; rw [q]; rfl)
   | some y=>exact .inr (.inr ⟨y,by show (ts.lookup b).map HO.tab=_; rw [q]; rfl,look q⟩)
  ·have z':(ts.lookup b).map HO.tab=some u:=z
   cases q:ts.lookup b with
   | none=>rw [q] at z'; cases z'
   | some y=>rw [q] at z'; cases z'; exact Bm _ _ _ (look q)
  ·have z':(ts.lookup b).map HO.tab≠none:=z
   cases q:ts.lookup b with
   | none=>rw [q] at z'; exact absurd rfl z'
   | some y=>exact .inr ⟨y,look q⟩
  ·exfalso
   have z':(ts.lookup a).map HO.tab≠none:=z
   cases q:ts.lookup a with
   | none=>rw [q] at z'; exact absurd rfl z'
   | some y=>exact na _ (look q) rfl
 | none =>
  have noa:ts.lookup a=none:=by
   cases q:ts.lookup a with
   | none=>rfl
   | some y=>exact absurd rfl (na _ (look q))
  refine core (λb=>if b=a then some (.fm { cls:=.type "list",data:=.seq vs.toArray } (.lst (ns.map V.int))) else (ts.lookup b).map HO.tab) ⟨λb=>?_,λp hp=>?_⟩ (.inl (.inr ⟨{ cls:=.type "list",data:=.seq vs.toArray },if_pos rfl⟩)) (λb u z=>?_) (λb z=>?_) λ_=>hk
  ·by_cases hb:b=a
   ·exact .inr (.inl ⟨_,_,if_pos hb⟩)
   ·cases q:ts.lookup b with
    | none=>exact .inl ((if_neg hb).trans (by rw [q]; rfl))
    | some y=>exact .inr (.inr ⟨y,(if_neg hb).trans (by rw [q]; rfl),look q⟩)
  ·exact (if_neg (na p hp)).trans (by rw [Bp (q:=p.2) hp]; rfl)
  ·by_cases hb:b=a
   ·have z':=(if_pos hb).symm.trans z
    cases z'
    subst hb
    exact ⟨ha,by rw [Qc]; exact hl,vs,_,rv,ha⟩
   ·have z':=(if_neg hb).symm.trans z
    cases q:ts.lookup b with
    | none=>rw [q] at z'; cases z'
    | some y=>rw [q] at z'; cases z'; exact Bm _ _ _ (look q)
  ·by_cases hb:b=a
   ·exact .inl hb
   ·cases q:ts.lookup b with
    | none=>exact absurd ((if_neg hb).trans (by rw [q]; rfl)) z
    | some y=>exact .inr ⟨y,look q⟩
theorem aD1 {l:Vu} {k:Nat} {q:bo} {d:DefRec} {K:Params->Rb} {CX:bq->Bk} {sp:bq->Sp} {x:ax} {ts:List (ae×ax)} (hn:l.most=some n) (G7:n<=ag) (Ex:d.params.defaults = []) (hr:dz k callerA) (hq:importsNone q=true) (hY:∀ (w:bq) (h:af),YP w h->(K w.params).In h) (wz:∀ (w:bq) (h:af),YP w h->∀ p∈ts,h.get? p.1=some (Ta #[])/\(K w.params).lookup p.1=none/\∃ c,Vc h c p.1) (gz:(ts.map (·.1)).Nodup) (F:∀ (w:bq) (mg:ax->Option aa) (fa:ae) (h:af),(K w.params).In h->h.Ns aj mg->mg d.name=some (.ref fa) ->
   ∃ fd:az,(∀ (s:ah) (u:aa),BindsTo s fd ⟨[u],[]⟩ [(x,u)]) /\
    ∀ base:af,(K w.params).In base->base.Ns aj mg->(∀ p∈ts,base.BuiltinsAt mg p.1)->b_ l.prog w (K w.params) mg base (CX w) k fa fd [x] (sp w)) (t9:∀ (w:bq) (H:Hp) (a:ae) (ns:List Int),ns.length<=n->ME ts H->d9 (K w.params) H a (ns.map V.int)->sp w [.ref a] H (λv H'=>v=.bl true/\∀ p∈ts,H' p.1=some (.tab p.2)) λ_ _ _=>False) (Ll:∀ (w:bq) (H:Hp) (s:ah) (e:aa) (s':ah),CX w [] H s (λ_ _ _=>False) e s'->False) :
  Mx q loose XP YP l.row.toRowW d [] (λf vs=>Mq f vs):=by
 refine X2.qo hn Ex λw jk f' mg mb fa o pm cd doc a vs ns G Y ho hd mi AV CH hints hlen hg=>?_
 have KX:=hY w _ Y
 obtain ⟨fd,hb,hF⟩:=F w mg fa _ KX G.T.g AV
 exact aCY KX G.T.g G.T.b G.T.builtins G.T.nolimit (let ⟨mm,h1,_⟩:=(G.T.seer hq).mods; ⟨mm,h1⟩) hg G.T.bmain (wz w _ Y) gz CH hints (Qx hlen G7) hr hF hb (λH hO hS=>t9 w H a ns hlen hO hS) λH e s'=>Ll w H f' e s'
theorem sg.Pf {x:ax} {k:Nat} (F:sg K x qual st f fd) (hc:fd.code=.ref c) (S:c_ N ps (aI st)) (len:∀ vs H Q E,sp vs H Q E->vs.length=ps.length) (i8:∀ (A:bw) (outer:List cy) (s:ah) (H:Hp) (vs:List V) (Q:VK) (E:XK),dz k (A.deeper (envOfC qual (aI st) s.heap.objs.size f (.ref c)))->sp vs H Q E ->
   ∃ t,m9 (oG d7 P w K mg base N qual (aI st) f (.ref c) A outer s H E).wo (eZ st) t/\t { nx:=λ_ H'=>Q .ft H',rt:=Q } (start N vs) H):b_ P w K mg base d7 (k+1) f fd ps sp:=by
 obtain ⟨oc,od,kV,doc,pm,an,fh,ct,uw,rfl,lk,mi⟩:=F.ex
 have e:fh=.ref c:=hc
 subst e
 refine L6 lk mi S len λA outer s H vs Q E hr t9=>?_
 obtain ⟨t,h,q⟩:=i8 A outer s H vs Q E hr t9
 exact ⟨t,h.wo,q⟩
section
variable {z TI TO i1:ae} {n1:Nat}
structure ui (h:af) (z TI TO i1 i2:ae):Prop where
 hz:∃ f0 f1,F0 f0/\iE h z TI TO f0 f1
 ti:bx h TI (.ref i1) (.ref i2)
 to:∃ a b,bx h TO a b
theorem aAD {e:ae} {old:aa} (D:di z TI TO i1 i2 l1 l2) (S1:Sub prog w i1 l1 n1 P1 n9) (S2:Sub prog w i2 l2 n2 P2 jn) (he:df s.heap e z i old) (Z:ui s.heap z TI TO i1 i2) (h1:n9 i s.heap) (h2:jn i s.heap) (k1:i < n1) (k2:i < n2) (ne:e≠z/\e≠TI/\e≠TO/\e≠i1/\e≠i2/\e≠l1/\e≠l2) (hQ:∀ h' x y tk,P1 i x->P2 i y->IsEnumOut h' e z ((i:Int)+1) (.ref s.heap.objs.size) (s.heap.objs.size+1)->ui h' z TI TO i1 i2->n9 (i+1) h'->jn (i+1) h'->bx h' s.heap.objs.size x y ->
   h'.get? (s.heap.objs.size+1)=some { cls:=.type "tuple",data:=.seq #[.int i tk,.ref s.heap.objs.size] } ->
   (∀ c o,c≠e->c≠z->c≠TO->c≠i1->c≠i2->s.heap.get? c=some o->h'.get? c=some o)->Q (.ref (s.heap.objs.size+1)) { s with heap:=h',toks:=s.toks+1 }) :
  ai (ak prog w) A (aq.«enumerate.__next__» ⟨[.ref e],[]⟩) (λfin s'=>∃ v,fin=.done (.ret v)/\Q v s') E s:=by
 obtain ⟨⟨f0,f1,hf,hz⟩,km,⟨a,b,k9⟩⟩:=Z
 obtain ⟨ne1,ne2,ne3,ne4,ne5,ZQ,Kc⟩:=ne
 have EA:s.TypeIs (.ref z) "zip" := ⟨_,hz,rfl⟩
 refine Ra (m:=field (.ref e) 2) (Rk he rfl (x:=.ref z) rfl ?_)
 refine Ra (m:=aq.SmallTypes.nextOf (.ref z)) ?_
 unfold aq.SmallTypes.nextOf
 refine Ra (Rn (name:=ax.ofString "__next__") EA Tb (Rz Tb EA Ud
  (Wu D S1 S2 hz hf km k9 h1 h2 k1 k2 λg1 x y Hw Ls _ px py QF Ef om t1 t2 hp hsz kp=>?_) (Ua _)))
 refine Rc ?_
 have e1:df g1 e z i old:=kp _ _ ne1 ne3 ne4 ne5 he
 refine Ra (m:=field (.ref e) 3) (Rk e1 rfl (x:=rawInt i) rfl ?_)
 refine Ra (m:=field (.ref e) 4) (Rk e1 rfl (x:=.none) rfl ?_)
 refine Ra (m:=mkInt i) (wpAny_mkInt ?_)
 refine Ra (m:=setField (.ref e) 3 (rawInt ((i:Int)+1))) (Ry e1 (by simp) λg2 e2 b2=>?_)
 have o8:df g2 e z ((i:Int)+1) old:=e2
 refine Ra (m:=setField (.ref e) 4 .none) (Ry o8 (by simp) λg3 e3 b3=>?_)
 have e3':df g3 e z ((i:Int)+1) old:=e3
 refine Ra (m:=newTuple [.int i s.toks,.ref s.heap.objs.size]) (Mg ?_)
 have sz:g3.objs.size=s.heap.objs.size+1:=by rw [b3.1,b2.1,hsz]
 have e4:df (g3.push { cls:=.type "tuple",data:=.seq #[.int i s.toks,.ref s.heap.objs.size] }) e z ((i:Int)+1) old:=af.get?_push_of_some _ e3'
 have T4:(g3.push { cls:=.type "tuple",data:=.seq #[.int i s.toks,.ref s.heap.objs.size] }).get? (s.heap.objs.size+1)=some { cls:=.type "tuple",data:=.seq #[.int i s.toks,.ref s.heap.objs.size] }:=by rw [<- sz]; exact af.get?_push_size _ rfl
 have OM:∀ c o,c≠e->g1.get? c=some o->(g3.push { cls:=.type "tuple",data:=.seq #[.int i s.toks,.ref s.heap.objs.size] }).get? c=some o:=λc o c1 q=>af.get?_push_of_some _ (b3.extBut _ _ c1 (b2.extBut _ _ c1 q))
 have elt:s.heap.objs.size+1≠e:=Zd (Xd (af.lt_size he))
 have Og:s.heap.objs.size≠e:=Zd (af.lt_size he)
 rw [sz]
 generalize g3.push { cls:=.type "tuple",data:=.seq #[.int i s.toks,.ref s.heap.objs.size] }=g4 at e4 T4 OM ⊢
 refine Ra (m:=aq.SmallTypes.ownedTupleIsFree (.ref e)) ?_
 unfold aq.SmallTypes.ownedTupleIsFree
 refine Ra (Rk e4 rfl (x:=.none) rfl (Rc ?_))
 simp only [if_true]
 refine Ra (Ih ?_)
 refine Ra (Rk e4 rfl (x:=old) rfl ?_)
 refine Ra (Ry e4 (by simp) λg5 e5 b5=>?_)
 have e5':df g5 e z ((i:Int)+1) (.ref s.heap.objs.size):=e5
 refine Ra (m:=aq.SmallTypes.ownedTupleHandOut (.ref e) (.ref (s.heap.objs.size+1))) ?_
 unfold aq.SmallTypes.ownedTupleHandOut
 refine Ra (Ry e5' (by simp) λg6 e6 b6=>?_)
 have e6':IsEnumOut g6 e z ((i:Int)+1) (.ref s.heap.objs.size) (s.heap.objs.size+1):=e6
 refine Ry e6' (by simp) λg7 e7 b7=>?_
 have e7':IsEnumOut g7 e z ((i:Int)+1) (.ref s.heap.objs.size) (s.heap.objs.size+1):=e7
 have up:∀ c o,c≠e->g4.get? c=some o->g7.get? c=some o:=λc o c1 q=>b7.extBut _ _ c1 (b6.extBut _ _ c1 (b5.extBut _ _ c1 q))
 have all:∀ c o,c≠e->g1.get? c=some o->g7.get? c=some o:=λc o c1 q=>up c o c1 (OM c o c1 q)
 obtain ⟨a',b',om⟩:=om
 refine Ra (Uj (Rc ⟨_,rfl,hQ g7 x y s.toks px py e7' ⟨⟨_,_,QF,all _ _ ne1.symm Ef⟩,all _ _ ne2.symm (kp _ _ D.TIz D.TITO D.TIi1 D.TIi2 km),⟨_,_,all _ _ ne3.symm om⟩⟩ (S1.keep _ _ _ t1 λc hc o q=>all c o ?_ q) (S2.keep _ _ _ t2 λc hc o q=>all c o ?_ q) (all _ _ Og hp) (up _ _ elt T4) λc o c0 c1 c2 c3 c4 q=>all c o c0 (kp c o c1 c2 c3 c4 q)⟩))
 ·rcases hc with r | r <;> rw [r]
  ·exact ne4.symm
  ·exact ZQ.symm
 ·rcases hc with r | r <;> rw [r]
  ·exact ne5.symm
  ·exact Kc.symm
theorem aBp {e:ae} {old:aa} {Q:Fin->ah->Prop} (hh:A.handled=none) (D:di z TI TO i1 i2 l1 l2) (S1:Sub prog w i1 l1 n1 P1 n9) (S2:Sub prog w i2 l2 n2 P2 jn) (he:df s.heap e z i old) (Z:ui s.heap z TI TO i1 i2) (h1:n9 i s.heap) (h2:jn i s.heap) (p8:i=n1/\i<=n2∨i=n2/\i < n1) (hE:∀ h' x,(∀ c o,c≠z->c≠TO->c≠i1->c≠i2->s.heap.get? c=some o->h'.get? c=some o)->(∃ o,h'.get? x=some o/\o.cls=.type "StopIteration")->E (.ref x) { s with heap:=h' }) :
  ai (ak prog w) A (aq.«enumerate.__next__» ⟨[.ref e],[]⟩) Q E s:=by
 obtain ⟨⟨f0,f1,hf,hz⟩,km,⟨a,b,k9⟩⟩:=Z
 have EA:s.TypeIs (.ref z) "zip" := ⟨_,hz,rfl⟩
 refine Ra (m:=field (.ref e) 2) (Rk he rfl (x:=.ref z) rfl ?_)
 refine Ra (m:=aq.SmallTypes.nextOf (.ref z)) ?_
 unfold aq.SmallTypes.nextOf
 exact Ra (Rn (name:=ax.ofString "__next__") EA Tb (Rz Tb EA Ud
  (V7 hh D S1 S2 hz hf km k9 h1 h2 p8 λh' x kp hx=>hE h' x kp hx) (Ua _)))
end
noncomputable def E8 (K:Rb) (k1 k2:Sk) (a b:ae):It :=
 ⟨λi H => ∃ xs ys x y, kr k1 K H a xs /\ kr k2 K H b ys /\ xs[i]? = some x /\ ys[i]? = some y,
  λi H v H'=>∃ p q,H p=none/\H q=none/\q≠p/\v=.ref q/\∀ xs ys,kr k1 K H a xs->kr k2 K H b ys->∃ x y,xs[i]?=some x/\ys[i]?=some y/\H'=upd (upd H p (.tup [x,y])) q (.tup [.int (i:Nat),.ref p]),
  λi H=>∃ xs ys,kr k1 K H a xs/\kr k2 K H b ys/\min xs.length ys.length=i⟩
theorem yO {x1} (k1 k2:Sk) (a b e z TI TO i1 i2:ae) (D:∀ l1 l2:ae,(∀ c∈[e,z,TI,TO,i1,i2],l1≠c)->(∀ c∈[e,z,TI,TO,i1,i2],l2≠c)->di z TI TO i1 i2 l1 l2) (ne:e≠z/\e≠TI/\e≠TO/\e≠i1/\e≠i2) :
  Turn P w K (.Tuple es x1 pos) (E8 K k1 k2 a b) [e,z,TI,TO,i1,i2] e (λi h=>(∃ old,df h e z i old)/\ui h z TI TO i1 i2/\ny k1 h i1 a i/\ny k2 h i2 b i) where
 mem:=by simp
 obj:=λi h st c hc=>by
  obtain ⟨⟨old,he⟩,⟨⟨f0,f1,hf,hz⟩,km,⟨x,y,k9⟩⟩,h1,h2⟩:=st
  simp only [Qj,Qq,or_false] at hc
  rcases hc with rfl | rfl | rfl | rfl | rfl | rfl
  ·exact ⟨_,he,λv q=>by cases q⟩
  ·exact ⟨_,hz,λv q=>by cases q⟩
  ·exact ⟨_,km,λv q=>by cases q⟩
  ·exact ⟨_,k9,λv q=>by cases q⟩
  ·exact h1.obj
  ·exact h2.obj
 keep:=λi h h' st k=>by
  obtain ⟨⟨old,he⟩,⟨⟨f0,f1,hf,hz⟩,km,⟨x,y,k9⟩⟩,h1,h2⟩:=st
  exact ⟨⟨old,k e (by simp) _ he⟩,⟨⟨f0,f1,hf,k z (by simp) _ hz⟩,k TI (by simp) _ km,⟨x,y,k TO (by simp) _ k9⟩⟩,h1.at λo e=>k i1 (by simp) o e,h2.at λo e=>k i2 (by simp) o e⟩
 item:=by
  intro X hP hw hK hc i a_ s σ H E I hf st hg
  subst hP hw hK
  obtain ⟨⟨old,he⟩,Z,h1,h2⟩:=st
  obtain ⟨xs,ys,x,y,ha,hb,hx,hy⟩:=hg
  obtain ⟨dj,rv,pa⟩:=I.ke ha
  obtain ⟨q_,i4,pb⟩:=I.ke hb
  obtain ⟨u,hu,ru⟩:=rv.get hx
  obtain ⟨v,hv,By⟩:=i4.get hy
  have na:∀ c∈[e,z,TI,TO,i1,i2],a≠c:=λc fw=>I.i_ ha (hf c fw)
  have nb:∀ c∈[e,z,TI,TO,i1,i2],b≠c:=λc fw=>I.i_ hb (hf c fw)
  have DD:=D a b na nb
  have hT:s.TypeIs (.ref e) "enumerate" := ⟨_,he,rfl⟩
  have BS:i < dj.toArray.size:=by rw [Qk]; exact (Qa.mp hu).1
  have KR:i < q_.toArray.size:=by rw [Qk]; exact (Qa.mp hv).1
  unfold pyNext
  refine Ra (Vy (Rn (name:=ax.ofString "__next__") hT Ts (Rz Ts hT Vv
   (aAD DD (A_ k1 X.prog X.w i1 a dj.toArray (na i1 (by simp))) (A_ k2 X.prog X.w i2 b q_.toArray (nb i2 (by simp))) he Z ⟨h1,pa⟩ ⟨h2,pb⟩ BS KR
    ⟨ne.1,ne.2.1,ne.2.2.1,ne.2.2.2.1,ne.2.2.2.2,(na e (by simp)).symm,(nb e (by simp)).symm⟩ λh' u' v' tk pu pv Eu Z' s1 s2 Dm rh kp=>Rc ?_) (Vq _))))
  have eu:u'=u:=by
   have q:dj[i]?=some u':=by simpa using pu
   rw [hu] at q
   exact (Option.some.inj q).symm
  have ev:v'=v:=by
   have q:q_[i]?=some v':=by simpa using pv
   rw [hv] at q
   exact (Option.some.inj q).symm
  subst eu ev
  refine ⟨_,rfl,wpAny_letOwnedTupleGo_enum Eu λpq K1 qz=>?_⟩
  have T0:s.heap.objs.size≠e:=Zd (af.lt_size he)
  have T1:s.heap.objs.size+1≠e:=Zd (Xd (af.lt_size he))
  have NP:bx pq s.heap.objs.size u' v':=qz.extBut _ _ T0 Dm
  have NO:pq.get? (s.heap.objs.size+1)=some { cls:=.type "tuple",data:=.seq #[.int i tk,.ref s.heap.objs.size] }:=qz.extBut _ _ T1 rh
  have zu:=I.d_.fresh (Qg s.heap.objs.size)
  have Et:=I.d_.fresh (Zw s.heap.objs.size)
  have fz:=I.nj (Qg s.heap.objs.size) zu
  have Lp:=I.nj (Zw s.heap.objs.size) Et
  have I2:Inv X a_ σ H { s with heap:=pq,toks:=s.toks+1 }:=by
   refine I.ky (t':=s.toks+1) [e,z,TO,i1,i2] (λc o fw q=>?_) (λc fw=>hf c ?_)
   ·simp only [Qj,Qq,or_false,not_or] at fw
    exact qz.extBut _ _ fw.1 (kp c o fw.1 fw.2.1 fw.2.2.1 fw.2.2.2.1 fw.2.2.2.2 q)
   ·simp only [Qj,Qq,or_false] at fw ⊢
    rcases fw with r | r | r | r | r
    ·exact .inl r
    ·exact .inr (.inl r)
    ·exact .inr (.inr (.inr (.inl r)))
    ·exact .inr (.inr (.inr (.inr (.inl r))))
    ·exact .inr (.inr (.inr (.inr (.inr r))))
  have I3:Inv X a_ σ (upd H s.heap.objs.size (.tup [x,y])) { s with heap:=pq,toks:=s.toks+1 }:=by
   refine I2.sv (show bS X.prog X.w _ _ _ (.tup [x,y]) from ⟨by show 2<=ag; rw [Rf]; decide,[u',v'],0,.cons ru (.cons By .nil),NP⟩) zu fz.2.1 I.sz fz.2.2.2.2.1 fz.2.2.2.2.2
  have nn:s.heap.objs.size+1≠s.heap.objs.size:=Nat.succ_ne_self _
  have I4:Inv X a_ σ (upd (upd H s.heap.objs.size (.tup [x,y])) (s.heap.objs.size+1) (.tup [.int (i:Nat),.ref s.heap.objs.size])) { s with heap:=pq,toks:=s.toks+1 }:=by
   refine I3.sv (show bS X.prog X.w _ _ _ (.tup [.int (i:Nat),.ref s.heap.objs.size]) from ⟨by show 2<=ag; rw [Rf]; decide,[.int i tk,.ref s.heap.objs.size],0,.cons ⟨tk,rfl⟩ (.cons rfl .nil),NO⟩) (by rw [aF nn]; exact Et) Lp.2.1 (Qx I.sz (Zw _)) Lp.2.2.2.2.1 Lp.2.2.2.2.2
  obtain ⟨⟨g0,g1,hg,Ef⟩,Oc,⟨a',b',om⟩⟩:=Z'
  refine ⟨.ref (s.heap.objs.size+1),_,I4,rfl,⟨s.heap.objs.size,s.heap.objs.size+1,zu,Et,nn,rfl,λGs uq K' ic=>?_⟩,⟨⟨_,by simpa using K1⟩,⟨⟨g0,g1,hg,qz.extBut _ _ ne.1.symm Ef⟩,qz.extBut _ _ ne.2.1.symm Oc,⟨_,_,qz.extBut _ _ ne.2.2.1.symm om⟩⟩,s1.1.at λo q=>qz.extBut _ _ ne.2.2.2.1.symm q,s2.1.at λo q=>qz.extBut _ _ ne.2.2.2.2.symm q⟩,λc fw=>?_⟩
  ·rw [I.jx K' ha,I.jx ic hb]
   exact ⟨x,y,hx,hy,rfl⟩
  ·have cl:c < s.heap.objs.size:=by
    obtain ⟨o,q⟩:∃ o,s.heap.get? c=some o:=by
     obtain ⟨⟨f0,f1,QF,hz⟩,km,⟨x',y',k9⟩⟩:=Z
     simp only [Qj,Qq,or_false] at fw
     rcases fw with rfl | rfl | rfl | rfl | rfl | rfl
     ·exact ⟨_,he⟩
     ·exact ⟨_,hz⟩
     ·exact ⟨_,km⟩
     ·exact ⟨_,k9⟩
     ·obtain ⟨o,q,_⟩:=h1.obj; exact ⟨o,q⟩
     ·obtain ⟨o,q,_⟩:=h2.obj; exact ⟨o,q⟩
    exact af.lt_size q
   rw [aF (Qv (Xd cl)),aF (Qv cl)]
   exact (hf c fw).1
 done:=by
  intro X hP hw hK hc i a_ s σ H E I hf st hg
  subst hP hw hK
  obtain ⟨⟨old,he⟩,Z,h1,h2⟩:=st
  obtain ⟨xs,ys,ha,hb,pz⟩:=hg
  obtain ⟨dj,rv,pa⟩:=I.ke ha
  obtain ⟨q_,i4,pb⟩:=I.ke hb
  have la:=rv.length
  have lb:=i4.length
  have na:∀ c∈[e,z,TI,TO,i1,i2],a≠c:=λc fw=>I.i_ ha (hf c fw)
  have nb:∀ c∈[e,z,TI,TO,i1,i2],b≠c:=λc fw=>I.i_ hb (hf c fw)
  have DD:=D a b na nb
  have hT:s.TypeIs (.ref e) "enumerate" := ⟨_,he,rfl⟩
  unfold pyNext
  refine Ra (Vy (Rn (name:=ax.ofString "__next__") hT Ts (Rz Ts hT Vv
   (aBp (I.ok.hd hc) DD (A_ k1 X.prog X.w i1 a dj.toArray (na i1 (by simp))) (A_ k2 X.prog X.w i2 b q_.toArray (nb i2 (by simp))) he Z ⟨h1,pa⟩ ⟨h2,pb⟩ (by rw [Qk,Qk]; omega) λh' x kp hx=>?_) (Vq _))))
  obtain ⟨oe,BK,Dx⟩:=hx
  refine Ra (Rah (T := "StopIteration") (b:=true) ⟨oe,BK,Dx⟩ isSubtype_stop (Rc ⟨rfl,?_⟩))
  refine I.ky (t':=s.toks) [z,TO,i1,i2] (λc o fw q=>?_) (λc fw=>hf c ?_)
  ·simp only [Qj,Qq,or_false,not_or] at fw
   exact kp c o fw.1 fw.2.1 fw.2.2.1 fw.2.2.2 q
  ·simp only [Qj,Qq,or_false] at fw ⊢
   rcases fw with r | r | r | r
   ·exact .inr (.inl r)
   ·exact .inr (.inr (.inr (.inl r)))
   ·exact .inr (.inr (.inr (.inr (.inl r))))
   ·exact .inr (.inr (.inr (.inr (.inr r))))
 self:=λ_ _ _ _ _ st h=>by
  obtain ⟨⟨old,he⟩,_⟩:=st
  exact Rag he h
theorem wJ (z TI TO:ae) :
  Meets (aq.«enumerate.__new__» ⟨[.type "enumerate",.ref z],[]⟩) (λ_ R s=>IsZip s.heap z TI TO .none /\
   R (.ok (.ret (.ref s.heap.objs.size))) { s with heap:=s.heap.push { cls:=.type "enumerate",data:=.fields #[.none,.bool false,.ref z,rawInt 0,.none,.none] } }) :=
 .of_wp λprog w A R s h=>by
  obtain ⟨hp,g,d,tk,os⟩:=s
  obtain ⟨hl,h⟩:=h
  have FQ:=sub_enumerate
  have hZ:IsZip (ah.heap ⟨hp,g,d,tk,os⟩) z TI TO .none:=hl
  wp_walk using AutoSeq1.wpAny_loadPart' hZ
  refine wpAny_stack_any λst=>Rc ?_
  split
  ·rename_i c _ _ _ _ _
   cases (c==aa.type "enumerate")
   ·wp_walk using AutoSeq1.wpAny_loadPart' hZ,Ur hZ
    exact ⟨_,rfl,h⟩
   ·wp_walk using AutoSeq1.wpAny_loadPart' hZ,Ur hZ
    exact ⟨_,rfl,h⟩
  ·wp_walk using AutoSeq1.wpAny_loadPart' hZ,Ur hZ
   exact ⟨_,rfl,h⟩
def aD3 (K:Rb) (k1 k2:Sk) (ta:TA):TI:=λσ H R=>ta σ H λvs H1=>∃ a b xs ys,vs = [.ref a,.ref b]/\kr k1 K H1 a xs/\kr k2 K H1 b ys/\R (E8 K k1 k2 a b) H1
theorem aBq (k1 k2:Sk) {a b:ba} {ta:TA} {p p':Pos} (hg:Gl X "enumerate") (hm:X.mg "enumerate" = none) (s?:Gl X "zip") (vq:X.mg "zip" = none) (ha:PA X [a,b] ta) (hs:autoParam (ao [a,b] X.env = [(false,eval a X.env),(false,eval b X.env)]) L2.gc) (AN:autoParam (ao [b] X.env = [(false,eval b X.env)]) L2.gc) (P0:autoParam (ao [ba.Call (.Name "zip" p') [a,b] [] pos'] X.env = [(false,eval (.Call (.Name "zip" p') [a,b] [] pos') X.env)]) L2.gc) :
  PI X (.Tuple es x1 Cs) (.Call (.Name "enumerate" p) [.Call (.Name "zip" p') [a,b] [] pos'] [] pos) (aD3 X.K k1 k2 ta):=by
 intro a_ s σ H R I h
 refine Call_ (mK (u:=.type "enumerate") I hg hm (by decide +kernel) (PyProof.Rows.callWith_type1 ?_ P0 rfl))
 rw [P0]
 show ai _ _ (spliced ((false,eval (.Call (.Name "zip" p') [a,b] [] pos') X.env)::[])) _ _ s
 refine Calls.spliced_cons ?_
 refine Call_ (mK (u:=.type "zip") I s? vq (by decide +kernel) (PyProof.Rows.callWith_type1 (fi (ha pos' a_ s σ H _ I h) λus s1 e_=>?_) (by rw [hs,AN]) (by rw [AN]; rfl)))
 obtain ⟨vs,H1,I1,r1,q1⟩:=e_
 obtain ⟨l1,l2,xs,ys,rfl,hA,hB,q⟩:=q1
 obtain ⟨u1,u2,rfl,JR,ze⟩:=rZ r1
 cases JR
 cases ze
 obtain ⟨dj,rv,pa⟩:=I1.ke hA
 obtain ⟨q_,i4,pb⟩:=I1.ke hB
 refine Mu Mh (by decide) (Iv _ _) (Iy _ _) (λobj=>Ii obj _ _) Iz (Wt k1 k2 l1 l2 dj.toArray q_.toArray) ⟨pa,pb,?_⟩
 have n1:(yi k1 s1.heap l1).objs.size=s1.heap.objs.size+1:=af.size_push ..
 have n2:(Ax k1 k2 s1.heap l1 l2).objs.size=s1.heap.objs.size+2:=by rw [af.size_push,n1]
 have n3:(Aw k1 k2 s1.heap l1 l2).objs.size=s1.heap.objs.size+3:=by rw [af.size_push,n2]
 have n4:(C8 k1 k2 s1.heap l1 l2).objs.size=s1.heap.objs.size+4:=by rw [af.size_push,n3]
 have n5:(qp k1 k2 s1.heap l1 l2).objs.size=s1.heap.objs.size+5:=by rw [af.size_push,n4]
 have g5:IsZip (qp k1 k2 s1.heap l1 l2) (C8 k1 k2 s1.heap l1 l2).objs.size (Ax k1 k2 s1.heap l1 l2).objs.size (Aw k1 k2 s1.heap l1 l2).objs.size .none:=af.get?_push_size _ rfl
 have g4:bx (qp k1 k2 s1.heap l1 l2) (Aw k1 k2 s1.heap l1 l2).objs.size .none .none:=af.get?_push_of_some _ (af.get?_push_size _ rfl)
 have g3:bx (qp k1 k2 s1.heap l1 l2) (Ax k1 k2 s1.heap l1 l2).objs.size (.ref s1.heap.objs.size) (.ref (yi k1 s1.heap l1).objs.size):=af.get?_push_of_some _ (af.get?_push_of_some _ (af.get?_push_size _ rfl))
 have g2:ny k2 (qp k1 k2 s1.heap l1 l2) (yi k1 s1.heap l1).objs.size l2 0:=(ny.new k2 (yi k1 s1.heap l1) l2).at λo e=>af.get?_push_of_some _ (af.get?_push_of_some _ (af.get?_push_of_some _ e))
 have g1:ny k1 (qp k1 k2 s1.heap l1 l2) s1.heap.objs.size l1 0:=(ny.new k1 s1.heap l1).at λo e=>af.get?_push_of_some _ (af.get?_push_of_some _ (af.get?_push_of_some _ (af.get?_push_of_some _ e)))
 have kp:∀ c o,s1.heap.get? c=some o->(qp k1 k2 s1.heap l1 l2).get? c=some o:=λc o e=>af.get?_push_of_some _ (af.get?_push_of_some _ (af.get?_push_of_some _ (af.get?_push_of_some _ (af.get?_push_of_some _ e))))
 refine ⟨⟨_,g5,rfl⟩,Calls.spliced_nil ?_⟩
 rw [n1,n2,n3,n4] at *
 generalize qp k1 k2 s1.heap l1 l2=Ee at *
 refine Mu PySem.F.called_enumerate (by decide) (PySem.F.typeCall_enumerate_1 _) (PySem.F.newCall_enumerate_1 _) (λobj=>Ij obj _) PySem.F.entry_enumerate_new (wJ (s1.heap.objs.size+4) (s1.heap.objs.size+2) (s1.heap.objs.size+3)) ⟨g5,?_⟩
 have ge:df (Ee.push { cls:=.type "enumerate",data:=.fields #[.none,.bool false,.ref (s1.heap.objs.size+4),rawInt 0,.none,.none] }) Ee.objs.size (s1.heap.objs.size+4) 0 .none:=af.get?_push_size _ rfl
 have BC:∀ c o,Ee.get? c=some o->(Ee.push { cls:=.type "enumerate",data:=.fields #[.none,.bool false,.ref (s1.heap.objs.size+4),rawInt 0,.none,.none] }).get? c=some o:=λc o e=>af.get?_push_of_some _ e
 rw [n5] at ge
 show (∃ _,_)/\_
 rw [n5]
 generalize Ee.push { cls:=.type "enumerate",data:=.fields #[.none,.bool false,.ref (s1.heap.objs.size+4),rawInt 0,.none,.none] }=h6 at ge BC ⊢
 refine ⟨⟨_,ge,rfl⟩,Rag ge ?_⟩
 have I2:Inv X a_ σ H1 { s1 with heap:=h6 }:=I1.kept (t':=s1.toks) λc o e=>BC c o (kp c o e)
 have d:∀ i j:Nat,i≠j->s1.heap.objs.size+i≠s1.heap.objs.size+j:=λi j h=>by omega
 refine ⟨s1.heap.objs.size+5,[s1.heap.objs.size+5,s1.heap.objs.size+4,s1.heap.objs.size+2,s1.heap.objs.size+3,s1.heap.objs.size,s1.heap.objs.size+1],_,_,H1,rfl,I2,yO k1 k2 l1 l2 _ _ _ _ _ _ ?_ ⟨d 5 4 (by decide),d 5 2 (by decide),d 5 3 (by decide),d 5 0 (by decide),d 5 1 (by decide)⟩,⟨⟨_,ge⟩,⟨⟨_,_,.inl rfl,BC _ _ g5⟩,BC _ _ g3,⟨_,_,BC _ _ g4⟩⟩,g1.at λo e=>BC _ _ e,g2.at λo e=>BC _ _ e⟩,λc hc=>?_,q⟩
 ·intro m1 m2 h1 h2
  exact ⟨d 2 4 (by decide),d 3 4 (by decide),d 0 4 (by decide),d 1 4 (by decide),d 2 3 (by decide),d 2 0 (by decide),d 2 1 (by decide),d 3 0 (by decide),d 3 1 (by decide),d 0 1 (by decide),
   h1 _ (by simp),h1 _ (by simp),h1 _ (by simp),h1 _ (by simp),h2 _ (by simp),h2 _ (by simp),h2 _ (by simp),h2 _ (by simp)⟩
 ·have fw:s1.heap.objs.size<=c:=by
   simp only [Qj,Qq,or_false] at hc
   rcases hc with r | r | r | r | r | r <;> rw [r]
   all_goals first | exact Qg _ | exact Xj _ _
  exact I1.nj fw (I1.d_.fresh fw)
theorem aAE {k1 k2:Sk} {a b:ae} {tb:TS} {D:Ends} {σ:St} (Pv:Nat->St->Hp->Prop) (heq:xs.length=ys.length) (h0:Pv 0 σ H) (hl:∀ i σ H,i<=xs.length->Pv i σ H->kr k1 K H a xs/\kr k2 K H b ys) (hs:∀ i x y p q σ H,xs[i]?=some x->ys[i]?=some y->Pv i σ H->H p=none->H q=none->q≠p->g (.ref q) σ (upd (upd H p (.tup [x,y])) q (.tup [.int (i:Nat),.ref p])) λfc H2=>tb { D with nx:=Pv (i+1),ct:=Pv (i+1),bk:=D.nx } fc H2) (hd:∀ σ H,Pv xs.length σ H->D.nx σ H) :
  ∃ W:Nat->Nat->St->Hp->Prop,(∃ m,W 0 m σ H)/\∀ i m σ H,W i m σ H ->
   ((E8 K k1 k2 a b).stop i H/\D.nx σ H)∨((E8 K k1 k2 a b).go i H/\∃ N:St->Hp->Prop,(∀ d6 H',N d6 H'->∃ m',m' < m/\W (i+1) m' d6 H')/\∀ x H',(E8 K k1 k2 a b).s_ i H x H'->g x σ H' λfc H2=>tb { D with nx:=N,ct:=N,bk:=D.nx } fc H2):=by
 refine ⟨λi m σ H=>m=xs.length - i/\i<=xs.length/\Pv i σ H,⟨xs.length,by simp,Jo _,h0⟩,?_⟩
 rintro i m σ H ⟨rfl,hi,p⟩
 obtain ⟨q1,q2⟩:=hl i σ H hi p
 by_cases fu:i < xs.length
 ·refine .inr ⟨⟨xs,ys,xs[i],ys[i]'(by omega),q1,q2,Qb fu,Qb (by omega)⟩,Pv (i+1),λd6 H' p'=>⟨xs.length - (i+1),by omega,rfl,fu,p'⟩,λx H' y=>?_⟩
  obtain ⟨p1,oy,Dm,Kz,il,rfl,hy⟩:=y
  obtain ⟨x,y,h1,h2,rfl⟩:=hy xs ys q1 q2
  exact hs i x y p1 oy σ H h1 h2 p Dm Kz il
 ·have e:i=xs.length:=by omega
  subst e
  exact .inl ⟨⟨xs,ys,q1,q2,by rw [<- heq,Zo]⟩,hd σ H p⟩
end L2
namespace L2
open PySem
section
variable {γ δ ε ζ η θ ι:Type}
end
end L2
namespace L2
open PySem PySem.Spec PyProof.Rows
section
variable {own:Nat} {σ:St}
end
section
variable {a:ae}
end
section
variable {S:ae} {es:Array (Int×aa)} {t:SetTable}
end
open PySem.AutoSeq1 (wpAny_loadPart')
section
variable {z TI TO i1 i3 l3:ae} {n3:Nat} {P3:Nat->aa->Prop} {za:Nat->af->Prop}
end
section
variable (k1 k2 k3:Sk) (h:af) (a b d:ae)
end
section
variable {own:Nat} {σ:St}
end
def JF (P:α->V->V->Hp->(α->Hp->Prop)->Prop) (tk tv:TE) (ys:α) (σ:St) (H:Hp) (R:α->St->Hp->Prop):Prop:=tk σ H λx H4=>tv σ H4 λy H5=>P ys x y H5 λa H=>R a σ H
noncomputable def SQ (kx vx:ba) (env:cy) (D:ae):Sem Unit:=do
 let kv<-eval kx env
 let vv<-holding [kv] (eval vx env)
 standAt { kx.pos with endLine:=vx.pos.endLine,endCol:=vx.pos.endCol }
 holding [kv,vv] (dictSet D kv vv)
section
variable {a0:α} {Ok:ae->α->af->Prop}
theorem aH3:ja P w A (.DictComp kx vx [⟨tg,iter,ifs,0⟩] scope pos) 0 tg iter ifs (SQ kx vx) where
 Gv:=λ_ _ _=>⟨rfl,rfl⟩
 turn:=λit D env=>compTurn_dict kx vx tg iter ifs scope pos it D env
 start:=codeAny_compStart_dict
theorem aH4 {Y:Cx} {p:α->V->V->Hp->(α->Hp->Prop)->Prop} (AO:jg Y.prog Y.w Y.A newDict a0 Ok) (hk:PE Y kx tk) (he:PE Y vx tv) (st:∀ {D:ae} {a:α} {s:ah} {H:Hp} {x y:V} {kv vv:aa} {R:α->Hp->Prop},je Y.prog Y.w H s.heap->Ok D a s.heap->bR x kv->bR y vv->p a x y H R->ai (ak Y.prog Y.w) Y.A (dictSet D kv vv) (λ_ s'=>∃ h' tk a',s'={ s with heap:=h',toks:=tk }/\af.SameBut D s.heap h'/\Ok D a' h'/\R a' H) Y.xe s) :
  pE Y (SQ kx vx) Ok (JF p tk tv):=by
 intro ps s σ H D o ys R dn I pl h
 refine Ra (fi (hk _ s σ H _ I h) λkv s1 hx=>?_)
 obtain ⟨xv,H1,I1,r1,q1⟩:=hx
 refine Ra (Rx (fi (he _ s1 σ H1 _ I1 q1) λvv s2 hx=>?_))
 obtain ⟨yv,H2,I2,r2,q2⟩:=hx
 refine Ra (Va (Rx (fi (st I2.d_ (AO.ie I I2 pl) r1 r2 q2) λ_ s3 hx=>?_)))
 obtain ⟨h',tk,a',rfl,sb,ok,r⟩:=hx
 obtain ⟨o',I'⟩:=dn.put (t:=tk) AO I2 sb ok
 exact ⟨σ,H2,a',o',I',ok,r⟩
end
def XA (ys:List (Key×V)) (x y:V) (H:Hp) (R:List (Key×V)->Hp->Prop):Prop:=∃ k,x=kV k/\ys.length < ag/\R (eR ys k y) H
def OkK (P:bo) (w:bq) (D:ae) (ys:List (Key×V)) (h:af):Prop:=ys.length<=ag/\∃ dj,KV ys dj/\h.DictOf (bF P w) D dj
noncomputable def aH5:bz:={ cls:=.type "dict",dict:=none,data:=.dict #[] }
theorem TZ:jg P w A newDict [] (OkK P w) where
 new:=⟨aH5,λv z=>(by cases z),rfl,λh D e=>⟨Jo _,[],.nil,⟨_,#[],0,e,⟨rfl,rfl,rfl⟩,rfl,λ_ he=>(by simp at he),Pairs.nil,We⟩⟩,λh=>Rq h⟩
 keep:=λ⟨hl,dj,v,d⟩ k=>⟨hl,dj,v,d.at k⟩
 obj:=λ⟨_,_,_,o,es,ep,h1,h2,h3,_⟩=>⟨o,h1,λv z=>by rw [h3] at z; cases z⟩
def aHa (own:Nat) (fr:List Nat) (wi:TI) (g:TG) (tt:TT) (tk tv:TE):TE:=λσ H Q=>wi σ H λJ H1=>mj J [] (ia own fr σ) H1 (λys _ H=>∀ p,H p=none->Q (.ref p) (upd H p (.dK ys))) g tt (JF XA tk tv)
section
variable {wi:TI}
theorem WU (S:fv X scope z own fr fk) (hc:X.calm=true) (hi:PI X tg iter wi) (hg:∀ C s0 H0 fp,PG (bY X scope z (own++fk) C s0 H0 fp) tg g) (ht:∀ C s0 H0 fp,PF (bY X scope z (own++fk) C s0 H0 fp) ifs tt)
  (hk:∀ C s0 H0 fp,PE (bY X scope z (own++fk) C s0 H0 fp) kx tk) (he:∀ C s0 H0 fp,PE (bY X scope z (own++fk) C s0 H0 fp) vx tv) (hs:autoParam (∀ x,foldedSetIterable iter X.env x=pure x) L2.y8) :
  PE X (.DictComp kx vx [⟨tg,iter,ifs,0⟩] scope pos) (aHa own.length fr wi g tt tk tv) :=
 Ww S rfl aH3 TZ hc (arm_eval_DictComp ..) hi hg ht (λC s0 H0 fp=>aH4 TZ (hk C s0 H0 fp) (he C s0 H0 fp) λ{D a s H x y kv vv R} _ ⟨hl,dj,v,d⟩ r1 r2 ⟨k,ek,lt,q⟩=>by
  subst ek
  have mf:=v.length
  exact wpAny_dictSet_pairs (knd:=bF X.prog X.w) (qC r1) d (λHq Cw Cu=>⟨Hq,_,_,rfl,Cu,⟨Qx (gL _ _ _) lt,_,v.put k r2,Cw⟩,q⟩) (by rw [<- mf]; exact Je lt)) hs
  λ⟨hl,dj,v,d⟩ hn hm q=>⟨.dK _,⟨hl,hm,dj,v,d⟩,q _ hn⟩
end
def YY (t:TE):TE:=λσ H Q=>∃ P:V->Hp->Prop,t σ H P/\∀ x H1,P x H1->Q x H1
def aHb (H0:Hp) (t:TE):TE:=λσ H Q=>t σ H λx H'=>∃ a o kvs,H' a=some (.fm o (.dK kvs))/\NF H0 a/\Q x (upd H' a (.dK kvs))
def VA (own:Nat) (fr:List Nat) (td:TE) (g:TG) (tt:TT) (te:TE):TE:=λσ H Q=>td σ H λx H1=>∃ a kvs,x=.ref a/\H1 a=some (.dK kvs)/\∀ o:bz,mj (vj a o kvs) [] (ia own fr σ) (upd H1 a (.fm o (.dK kvs))) (λys _ H=>∀ p,H p=none->Q (.ref p) (upd (upd H p (.lst ys)) a (.dK kvs))) g tt (qy te)
section
variable {d:ba} {t:TE}
theorem MD (h:PE X e t):PE X e (YY t):=by
 intro a_ s σ H Q I q
 obtain ⟨P,h1,h2⟩:=q
 refine fi (h a_ s σ H P I h1) λv s1 hx=>?_
 obtain ⟨x,H1,I1,r1,q1⟩:=hx
 exact ⟨x,H1,I1,r1,h2 _ _ q1⟩
theorem yP (h:PE X e t):PE X e (aHb X.we t):=by
 intro a_ s σ H Q I q
 refine fi (h a_ s σ H _ I q) λv s1 hx=>?_
 obtain ⟨x,H1,I1,r1,a,o,kvs,ea,nf,k⟩:=hx
 exact ⟨x,_,I1.FI ea nf,r1,k⟩
theorem mY (S:fv X scope z own fr fk) (hc:X.calm=true) (hi:PE X d td) (hg:∀ C s0 H0 fp,PG (bY X scope z (own++fk) C s0 H0 fp) tg g) (ht:∀ C s0 H0 fp,PF (bY X scope z (own++fk) C s0 H0 fp) ifs tt)
  (he:∀ C s0 H0 fp,PE (bY X scope z (own++fk) C s0 H0 fp) elt te) (hs:autoParam (∀ x,foldedSetIterable d X.env x=pure x) L2.y8) :
  PE X (.ListComp elt [⟨tg,d,ifs,0⟩] scope pos) (VA own.length fr td g tt te):=by
 intro a_ s σ H Q I h
 refine yP (gF S hc (qH (MD hi)) hg ht he hs) a_ s σ H Q I ⟨_,h,λx H1 q=>?_⟩
 obtain ⟨a,kvs,ex,hx,k⟩:=q
 refine ⟨a,kvs,ex,hx,λo nf=>?_⟩
 obtain ⟨W,w0,wk⟩:=k o
 refine ⟨W,w0,λi m ys d6 H' w=>?_⟩
 rcases wk i m ys d6 H' w with ⟨st,q⟩ | z
 ·refine .inl ⟨st,λp hp=>⟨a,o,kvs,?_,nf,q p hp⟩⟩
  rw [aF (λz=>by rw [<- z,st.1] at hp; cases hp)]
  exact st.1
 ·exact .inr z
end
theorem nR {a:ae} {own:Nat} {σ:St} {Q:Hp->List V->Prop} (SH:St->Prop) (Pv:Nat->List V->Hp->Prop) (hn:kvs.length<=ag) (jo:SH (ia own fr σ)) (h0:Pv 0 [] H) (hlen:∀ i ys H,Pv i ys H->ys.length<=i) (hl:∀ i ys H,Pv i ys H->H a=some (.fm o (.dK kvs))) (hs:∀ i ys σ p H,kvs[i]?=some p->SH σ->Pv i ys H->ys.length < ag->g (kV p.1) σ H λfc H2=>tt fc H2 λb H3=>if b=true then te fc H3 λy H4=>ys.length < ag/\SH fc/\Pv (i+1) (ys++[y]) H4 else SH fc/\Pv (i+1) ys H3) (hd:∀ ys H,Pv kvs.length ys H->Q H ys) :
  mj (vj a o kvs) [] (ia own fr σ) H (λys _ H=>Q H ys) g tt (qy te):=by
 refine lS kvs.length hn SH Pv jo h0 hlen (λys H p=>⟨hl _ _ _ p,rfl⟩) (λi ys H hi p=>⟨hl _ _ _ p,hi⟩) (λi ys σ x H H' hi sh p y hz=>?_) hd
 obtain ⟨rfl,v,hv,rfl⟩:=y
 exact hs i ys σ v _ hv sh p hz
theorem aCZ {a:ae} {own:Nat} {σ:St} {Q:Hp->List (Key×V)->Prop} (SH:St->Prop) (Pv:Nat->List (Key×V)->Hp->Prop) (hn:xs.length<=ag) (jo:SH (ia own fr σ)) (h0:Pv 0 [] H) (hlen:∀ i ys H,Pv i ys H->ys.length<=i) (hl:∀ i ys H,Pv i ys H->d8 K H a xs) (hs:∀ i ys σ x H,xs[i]?=some x->SH σ->Pv i ys H->ys.length < ag->g x σ H λfc H2=>tt fc H2 λb H3=>if b=true then tk fc H3 λx H4=>tv fc H4 λy H5=>∃ k,x=kV k/\ys.length < ag/\SH fc/\Pv (i+1) (eR ys k y) H5 else SH fc/\Pv (i+1) ys H3) (hd:∀ ys H,Pv xs.length ys H->Q H ys) :
  mj (Bg K a) [] (ia own fr σ) H (λys _ H=>Q H ys) g tt (JF XA tk tv) :=
 V5 xs.length SH Pv jo h0 (λys H p=>⟨xs,hl _ _ _ p,Qg _⟩) (λi ys H hi p=>⟨xs,xs[i],hl _ _ _ p,Qb hi⟩) (λi ys σ x H H' hi sh p y=>by
  obtain ⟨e,y⟩:=y
  subst e
  exact hs i ys σ x _ (y xs (hl _ _ _ p)) sh p (by have:=hlen i ys _ p; omega)) hd
section
variable {d:ae} {es:Array cu}
end
section
variable {σ:St} {a:ae}
end
section
variable {ek ev:ba}
end
abbrev KE:=List Key×ae×V
section
variable {wi:TI}
end
section
variable {d:ba} {t:TE}
end
section
variable {d v:ae} {es:Array cu}
end
section
variable {o:ba} {p:Pos}
end
section
variable {a:ae}
end
section
variable {wi:TI} {U:List Int}
end
section
variable {d:ba}
end
section
variable {σ:St}
end
end L2
namespace L2
open PySem PySem.Spec PyProof.Rows PyProof.V
def ML:List (TE×TE)->St->Hp->(List (V×V)->Hp->Prop)->Prop
 | [],_,H,Q=>Q [] H
 | (tk,tv)::r,σ,H,Q=>tk σ H λx H1=>tv σ H1 λy H2=>ML r σ H2 λps H3=>Q ((x,y)::ps) H3
abbrev VV:List (V×V)->List (aa×aa)->Prop:=cx λp q=>bR p.1 q.1/\bR p.2 q.2
def IF (X:Cx) (pos:Pos) (keys:List (Option ba)) (values:List ba) (y9:List (TE×TE)):Prop :=
 ∀ (a_:List (ae×bz)) (s:ah) (σ:St) (H:Hp) (Q:List (V×V)->Hp->Prop),Inv X a_ σ H s->ML y9 σ H Q ->
  ai (ak X.prog X.w) X.A (evalPairs (pairTrees keys values X.env pos)) (λvs s'=>∃ ps H',Inv X a_ σ H' s'/\VV ps vs/\Q ps H') X.xe s
theorem aFx:IF X pos [] [] []:=λa_ s σ H Q I h=>pairTrees_nil_walk ⟨[],H,I,.nil,h⟩
theorem uK {k v:ba} {ks:List (Option ba)} {vs:List ba} {y9:List (TE×TE)} (hk:PE X k tk) (hv:PE X v tv) (hr:IF X pos ks vs y9) :
  IF X pos (some k::ks) (v::vs) ((tk,tv)::y9):=λa_ s σ H Q I h =>
 pairTrees_cons_walk (fi (hk a_ s σ H _ I h) λu s1 ⟨x,H1,I1,rx,q1⟩=>fi (hv a_ s1 σ H1 _ I1 q1) λw2 s2 ⟨y,H2,I2,ry,q2⟩ =>
  fi (hr a_ s2 σ H2 _ I2 q2) λws s3 ⟨ps,H3,I3,rel,q3⟩=>⟨(x,y)::ps,H3,I3,.cons ⟨rx,ry⟩ rel,q3⟩)
noncomputable def uL (kvs more:List (Key×V)):List (Key×V):=more.foldl (λacc kv=>eR acc kv.1 kv.2) kvs
theorem KV.merge:∀ {more:List (Key×V)} {rs:List (Key×aa)} {kvs:List (Key×V)} {vs:List (Key×aa)},KV more rs->KV kvs vs->KV (uL kvs more) (merged vs rs):=by
 intro more rs kvs vs r
 unfold KV at r
 induction r generalizing kvs vs with
 | nil=>intro q; exact q
 | @cons p q ps qs h t ih =>
  intro r0
  have e:KV (eR kvs p.1 p.2) (stored vs q.1 q.2):=by
   have:=r0.put p.1 h.2
   rw [<- h.1]; exact this
  exact ih e
theorem oP:∀ (more kvs:List (Key×V)),(uL kvs more).length<=kvs.length+more.length
 | [],kvs=>by show kvs.length<=kvs.length+0; omega
 | p::r,kvs=>by
  have h1:=oP r (eR kvs p.1 p.2)
  have h2:=gL kvs p.1 p.2
  show (uL (eR kvs p.1 p.2) r).length<=_
  rw [Jk]; omega
theorem uM:∀ {kvs:List (Key×V)} {ws:List (aa×aa)},VV (kvs.map λkv=>(kV kv.1,kv.2)) ws->∃ rs,Carries (bF P w) ws rs/\KV kvs rs
 | [],_,r=>by rw [Xo] at r; cases r; exact ⟨[],True.intro,.nil⟩
 | p::kvs,_,r=>by
  rw [Qw] at r
  cases r with
  | @cons a b as bs h t =>
   obtain ⟨rs,c,q⟩:=uM t
   obtain ⟨b1,b2⟩:=b
   exact ⟨(p.1,b2)::rs,⟨qC h.1,rfl,c⟩,.cons ⟨rfl,h.2⟩ q⟩
def aH7 (y9:List (TE×TE)):TE:=λσ H Q=>∀ p,H p=none->ML y9 σ (upd H p (.dK [])) λps H2=>H2 p=some (.dK [])/\∃ kvs:List (Key×V),ps=kvs.map (λkv=>(kV kv.1,kv.2))/\kvs.length<=15/\Q (.ref p) (upd H2 p (.dK (uL [] kvs)))
theorem aFy {keys:List (Option ba)} {values:List ba} {y9:List (TE×TE)} (h:IF X pos keys values y9) (CT:keys.all (·.isSome)=true) (hl:keys.length=values.length) (h0:keys≠[]) (L?:keys.length<=15):PE X (.Dict keys values pos) (aH7 y9):=by
 intro a_ s σ H Q I q
 have hn:=I.d_.fresh (Qg s.heap.objs.size)
 have I1:=I.laid (a:=s.heap.objs.size) (o:=.dK []) (h':=s.heap.push { cls:=.type "dict",data:=.dict #[] }) (t':=s.toks) (λ_ _ q=>af.get?_push_of_some _ q) (Qg _) (uG s.heap I.big)
 refine wpAny_Dict_walk (knd:=bF X.prog X.w) CT hl h0 L? (fi (h a_ _ σ _ _ I1 (q _ hn)) λws s2 ⟨ps,H2,I2,rel,e,kvs,ep,lk,q2⟩=>?_)
 subst ep
 obtain ⟨rs,c,rk⟩:=uM (P:=X.prog) (w:=X.w) rel
 obtain ⟨z,hd,vs0,r0,dd⟩:=MA I2.d_ e
 cases r0
 refine ⟨rs,c,dd,λh' o9 hs=>⟨.ref s.heap.objs.size,_,?_,rfl,q2⟩⟩
 have hz:(uL [] kvs).length<=ag:=by
  have h1:=oP kvs []
  rw [List.length_nil] at h1
  rw [Rf]; omega
 have he:∃ q,h'.get? s.heap.objs.size=some q:=let ⟨q,_,_,hq,_⟩:=o9; ⟨q,hq⟩
 exact qG I2 (by rw [e]; exact True.intro) hs he (uF hz hd (rk.merge .nil) o9)
structure M1 (X:Cx) (o:ba) (m:ax) (apos:Pos) (e:ba) (gu:Pos):Prop where
 base:attributeBase o m X.env (eval o X.env)=eval o X.env
 m7:((cb gu (ao [e] X.env)).all (λx=>!x.1) && (backToKw gu (cz [] X.env)).all (λx=>x.1.isSome)
  && decide (([e]:List ba).length+([]:List de).length+(if ([]:List de).isEmpty then 0 else 1) < 30))=true
 line:(apos.endLine==gu.line)=true
 trees:cb gu (ao [e] X.env) = [(false,eval e X.env)]
def XQ (H:Hp) (a:ae):Prop:=(∃ kvs,Rd H a (.dK kvs))∨∃ kvs,Rd H a (.dT kvs)
theorem aHc {σ:St} {a:ae} (I:Inv X a_ σ H s) (d:XQ H a) :
  s.TypeIs (.ref a) "dict" /\ (∀ b,aa.ref a=.ref b->∃ ob,s.heap.get? b=some ob/\ob.dict=none)/\(a==br)=false:=by
 rcases d with ⟨kvs,e⟩ | ⟨kvs,e⟩
 ·obtain ⟨_,hd,vs,_,dd⟩:=jD I.d_ e
  refine ⟨dd.typeIs,λb q=>?_,hd⟩
  cases q
  obtain ⟨ob,_,_,h1,h2,_⟩:=dd
  exact ⟨ob,h1,h2.2.1⟩
 ·obtain ⟨_,hd,xs,_,dd⟩:=xA I.d_ e
  refine ⟨dd.typeIs,λb q=>?_,hd⟩
  cases q
  obtain ⟨ob,_,_,h1,h2,_⟩:=dd
  exact ⟨ob,h1,h2.2.1⟩
section
variable {σ:St} {a:ae} {d:V} {r:aa} {o:Option V}
end
def aHd (td ty:TE):TE:=λσ H Q=>td σ H λx H1=>∃ a,x=.ref a/\XQ H1 a/\ty σ H1 λy H2=>∃ kvs k v,H2 a=some (.dK kvs)/\y=kV k/\bX kvs k=some v/\Q v (upd H2 a (.dK (qB kvs k)))
section
variable {o f:ba} {ty tx:TE}
theorem uN (ho:PE X o td) (he:PE X e ty) (m:M1 X o "pop" apos e gu):PE X (.Call (.Attribute o "pop" apos) [e] [] gu) (aHd td ty):=by
 intro a_ s σ H Q I h
 refine wpAny_Call_method m.base m.m7 m.line Ti Ma PySem.F.type_dict_pop (fi (ho a_ s σ H _ I h) λu s1 ⟨x,H1,I1,rx,a,ex,d,q1⟩=>?_)
 subst ex
 obtain rfl:u=aa.ref a:=rx
 obtain ⟨t1,t2,_⟩:=aHc I1 d
 refine ⟨t1,t2,?_⟩
 rw [m.trees]
 refine Calls.callWith_builtin rfl (Calls.evalArgs_plain (Calls.spliced_cons (fi (he a_ s1 σ H1 _ I1 q1) λiv s2 ⟨y,H2,I2,ry,kvs,k,v,ea,ey,l,q2⟩=>Calls.spliced_nil ?_)))
 subst ey
 exact aHX I2 ea ry l (.inl rfl) λw' s3 I3 i4=>⟨v,_,I3,i4,q2⟩
end
section
variable {σ:St} {a:ae}
theorem aD6 (I:Inv X a_ σ H s) (e:Rd H a (.dK kvs)) (h:∀ p s',H p=none->Inv X a_ σ (upd H p (.dK kvs)) s'->Q (.ref p) s'):ai (ak X.prog X.w) A (call (.type "dict") [.ref a]) Q E s:=by
 obtain ⟨z,hd,vs,rel,dd⟩:=jD I.d_ e
 refine kt_call_dict hd dd (by rw [<- rel.length]; exact z) λh' o9 hs=>?_
 refine h _ _ (I.d_.fresh (Qg _)) (I.laid (a:=s.heap.objs.size) (o:=.dK kvs) (t':=s.toks) (λb q hq=>?_) (Qg _) (uF z (beq_eq_false_iff_ne.mpr (Ne.symm (Qv I.big))) rel o9))
 exact (hs.2 b (Qv (af.lt_size hq))).trans (af.get?_push_of_some _ hq)
end
theorem lA:eX X (.builtin "len") (λxs H Q=>∃ a kvs,xs = [V.ref a]/\H a=some (.dK kvs)/\Q (.int kvs.length) H):=by
 intro a_ s σ H xs us Q I r h
 obtain ⟨a,kvs,rfl,ha,q⟩:=h
 obtain ⟨u,rfl,ru⟩:=iC r
 cases ru
 exact aHY I (.inl ha) λt s' I'=>⟨.int kvs.length,H,I',⟨t,rfl⟩,q⟩
end L2
namespace L2
open PySem PySem.Spec PyProof.Rows PySem.W
noncomputable def mn (p d:ae):HO:=.ext λh=>h.IsValuesView p d
theorem aH8 {d:ae} (v:h.IsValuesView p d):bS P w H h p (mn p d) :=
 ⟨v,let ⟨o,ho,_⟩:=v; ⟨o,ho⟩,λh1 h2 ⟨o,ho,r⟩ k=>⟨o,k o ho,r⟩⟩
theorem lB:Ae X "dict.values" (λx vs H Q=>∃ (a:ae) (kvs:List (Key×V)),x=.ref a/\vs = []/\Rd H a (.dK kvs)/\∀ p,H p=none->Q (.ref p) (upd H p (mn p a))):=by
 intro a_ s σ H x vs v us Q I rx rv h
 obtain ⟨a,kvs,rfl,rfl,e,q⟩:=h
 cases rx
 cases rv
 obtain ⟨z,hd,xs,rel,dd⟩:=jD I.d_ e
 refine call_meetsIn Th dd.typeIs PySem.F.entry_dict_values (PySem.F.args_dict_values_1 _) (meets_dict_values (bF X.prog X.w) a hd) ⟨⟨_,dd⟩,?_⟩
 have hf:=I.d_.fresh (Qg s.heap.objs.size)
 have I2:Inv X a_ σ (upd H s.heap.objs.size (mn s.heap.objs.size a)) { s with heap:=s.heap.push { cls:=.type "dict_values",data:=.fields #[.ref a] } } :=
  I.laid (t':=s.toks) (λb o e=>af.get?_push_of_some _ e) (Qg _) (aH8 ⟨_,af.get?_push_size _ rfl,rfl,rfl⟩)
 exact ⟨.ref s.heap.objs.size,_,I2,rfl,q _ hf⟩
theorem MJ {vs:List (Key×aa)} (r:KV kvs vs) {q:Key×aa} (h:vs[i]?=some q):∃ p,kvs[i]?=some p/\p.1=q.1/\bR p.2 q.2:=by
 unfold KV at r
 induction r generalizing i with
 | nil=>simp at h
 | cons h1 _ ih =>
  cases i with
  | zero=>simp only [List.getElem?_cons_zero,Option.some.injEq] at h ⊢; subst h; exact ⟨_,rfl,h1⟩
  | succ j=>simp only [List.getElem?_cons_succ] at h ⊢; exact ih h
theorem uO {vs:List (Key×aa)} (r:KV kvs vs) {acc:Array aa} (h:ItemsOf (λi v=>∃ k,vs[i]?=some (k,v)) acc vs.length):bI (kvs.map (·.2)) acc.toList:=by
 refine yD (by rw [Qc,show acc.toList.length=vs.length from (Array.length_toList).trans h.1]; exact r.length) λj x u hx hu=>?_
 obtain ⟨k,hk⟩:=h.2 j u (by rw [<- Array.getElem?_toList]; exact hu)
 obtain ⟨p,hp,_,rp⟩:=MJ r hk
 rw [Qh,hp] at hx
 cases hx
 exact rp
theorem uP {vs:List (Key×aa)} (r:KV kvs vs) {acc:Array aa} (h:ItemsOf (λi v=>∃ k x,vs[i]?=some (k,x)/\(bF P w).is k v=true) acc vs.length):bI (kvs.map λkv=>kV kv.1) acc.toList:=by
 refine yD (by rw [Qc,show acc.toList.length=vs.length from (Array.length_toList).trans h.1]; exact r.length) λj x u hx hu=>?_
 obtain ⟨k,y,hk,hi⟩:=h.2 j u (by rw [<- Array.getElem?_toList]; exact hu)
 obtain ⟨p,hp,ek,_⟩:=MJ r hk
 rw [Qh,hp] at hx
 cases hx
 show bR (kV p.1) u
 rw [ek]
 exact uH hi
theorem jM (hc:X.calm=true):eX X (.type "list") (λxs H Q=>∃ (a:ae) (kvs:List (Key×V)),xs = [.ref a]/\Rd H a (.dK kvs)/\∀ p,H p=none->Q (.ref p) (upd H p (.lst (kvs.map λkv=>kV kv.1)))):=by
 intro a_ s σ H xs us Q I r h
 obtain ⟨a,kvs,rfl,e,q⟩:=h
 obtain ⟨u,rfl,ru⟩:=iC r
 cases ru
 obtain ⟨z,hd,vs,rel,dd⟩:=jD I.d_ e
 obtain ⟨ep,da⟩:=dd.dictAt
 refine kdl_call (kdl_dict (prog:=X.prog) (w:=X.w) (knd:=bF X.prog X.w) (kvs:=vs) (ep:=ep) hd) (I.ok.hd hc) da (by rw [<- rel.length]; exact z) λh' tk acc c' kp hl hi=>?_
 exact ⟨.ref s.heap.objs.size,_,I.laid (t':=tk) kp (Qg _) (show bS X.prog X.w _ h' _ (.lst _) from ⟨by rw [Qc]; exact z,acc.toList,c',uP rel hi,hl⟩),rfl,q _ (I.d_.fresh (Qg _))⟩
theorem uQ (hc:X.calm=true):eX X (.type "list") (λxs H Q=>∃ (v a:ae) (kvs:List (Key×V)),xs = [.ref v]/\H v=some (mn v a)/\Rd H a (.dK kvs)/\∀ p,H p=none->Q (.ref p) (upd H p (.lst (kvs.map (·.2))))):=by
 intro a_ s σ H xs us Q I r h
 obtain ⟨v,a,kvs,rfl,ev,e,q⟩:=h
 obtain ⟨u,rfl,ru⟩:=iC r
 cases ru
 obtain ⟨z,hd,vs,rel,dd⟩:=jD I.d_ e
 obtain ⟨ep,da⟩:=dd.dictAt
 have hv:s.heap.IsValuesView v a:=(show bS X.prog X.w H s.heap v (mn v a) from I.d_ v _ ev).1
 refine kdl_call (kdl_values (prog:=X.prog) (w:=X.w) (knd:=bF X.prog X.w) (kvs:=vs) (ep:=ep)) (I.ok.hd hc) ⟨hv,da⟩ (by rw [<- rel.length]; exact z) λh' tk acc c' kp hl hi=>?_
 exact ⟨.ref s.heap.objs.size,_,I.laid (t':=tk) kp (Qg _) (show bS X.prog X.w _ h' _ (.lst _) from ⟨by rw [Qc]; exact z,acc.toList,c',uO rel hi,hl⟩),rfl,q _ (I.d_.fresh (Qg _))⟩
theorem eS (hc:X.calm=true):eX X (.builtin "sorted") (λxs H Q=>∃ (a:ae) (kvs:List (Key×V)) (ns:List Int),xs = [.ref a]/\Rd H a (.dK kvs)/\(kvs.map λkv=>kV kv.1)=ns.map V.int/\ns.length < 64 /\
  ∀ (p:ae) (ms:List Int),H p=none->ms.Perm ns->ms.Pairwise (·<=·)->Q (.ref p) (upd H p (.lst (ms.map V.int)))):=by
 intro a_ s σ H xs us Q I r h
 obtain ⟨a,kvs,ns,rfl,e,ek,Se,q⟩:=h
 obtain ⟨u,rfl,ru⟩:=iC r
 cases ru
 obtain ⟨z,hd,vs,rel,dd⟩:=jD I.d_ e
 obtain ⟨ep,da⟩:=dd.dictAt
 refine aCQ Se (λQ' EC=>?_) λh1 h' tk out AJ k1 k2 pl hi hp ho=>?_
 ·refine kdu_collect (kdl_dict (prog:=X.prog) (w:=X.w) (knd:=bF X.prog X.w) (kvs:=vs) (ep:=ep) hd) (I.ok.hd hc) da (by rw [<- rel.length]; exact z) λh' tk acc kp hi=>?_
  have hv:=uP rel hi
  rw [ek] at hv
  exact EC h' tk _ kp (by simpa using pB hv)
 ·have I1:Inv X a_ σ H { s with heap:=h1,toks:=tk }:=I.kept k1
  have hf:=I1.d_.fresh (Qg _)
  have hl:=hp.length_eq
  obtain ⟨n,e'⟩:=pl
  have I2:Inv X a_ σ (upd H h1.objs.size (.lst (AJ.map V.int))) { s with heap:=h',toks:=tk } :=
   I1.laid (t':=tk) k2 (Qg _) (show bS X.prog X.w _ _ _ (.lst _) from ⟨by rw [Qc,hl,Rf]; omega,out.toList,n,wV hi,by simpa using e'⟩)
  exact ⟨.ref h1.objs.size,_,I2,rfl,q _ AJ hf hp ho⟩
theorem yQ:eX X (.type "dict") (λxs H Q=>∃ (a:ae) (kvs:List (Key×V)),xs = [.ref a]/\Rd H a (.dK kvs)/\∀ p,H p=none->Q (.ref p) (upd H p (.dK kvs))):=by
 intro a_ s σ H xs us Q I r h
 obtain ⟨a,kvs,rfl,e,q⟩:=h
 obtain ⟨u,rfl,ru⟩:=iC r
 cases ru
 exact aD6 I e λp s' hp I'=>⟨.ref p,_,I',rfl,q p hp⟩
theorem mZ {v d : ae} {kvs : List (Key × aa)} (hn : kvs.length <= ag) : MeetsIn prog w (aq.«tuple.__new__» ⟨[.type "tuple", .ref v], []⟩) (λA R s => A.handled = none /\ s.heap.IsValuesView v d /\ s.heap.DictAt (bF prog w) d kvs ep /\ ∀ (h' : af) tk (acc : Array aa), (∀ b o', s.heap.get? b = some o' -> h'.get? b = some o') -> ItemsOf (λi v => ∃ k, kvs[i]? = some (k, v)) acc kvs.length ->
        R (.ok (.ret (.ref h'.objs.size))) { s with heap:=h'.push { cls:=.type "tuple",data:=.seq acc.toList.toArray },toks:=tk }) :=
  .of_wp λA R s h=>by
   obtain ⟨hp,g,dd,tk,os⟩:=s; obtain ⟨hh,hv,da,h⟩:=h
   have FQ:=sub_tuple_self
   have X5:=init_tuple_lookup
   have G8:=madeHere_tuple
   have hT:ah.TypeIs ⟨hp,g,dd,tk,os⟩ (.ref v) "dict_values" := hv.typeIs
   obtain ⟨ov,KC,QI,vz⟩:=id hv
   wp_walk using Tu KC,Vh hT,kdu_collect (A:=A.in1) (s:=⟨hp,g,dd,tk,os⟩) (kdl_values (prog:=prog) (w:=w) (knd:=bF prog w) (kvs:=kvs) (ep:=ep)) hh ⟨hv,da⟩ hn
   intro h' YW acc hk hi
   show ai _ _ (aq.Tuple.tupleExact acc.toList.toArray >>= λv=>ret v) _ _ _
   unfold aq.Tuple.tupleExact
   have hl:=hi.1
   refine Ra (Rq ?_ (by show acc.toList.toArray.size<=ag; rw [Array.toArray_toList,hl]; exact hn))
   exact Rc ⟨_,rfl,h h' YW acc hk hi⟩
theorem mG (hc:X.calm=true):eX X (.type "tuple") (λxs H Q=>∃ (v a:ae) (kvs:List (Key×V)),xs = [.ref v]/\H v=some (mn v a)/\Rd H a (.dK kvs)/\∀ p,H p=none->Q (.ref p) (upd H p (.tup (kvs.map (·.2))))):=by
 intro a_ s σ H xs us Q I r h
 obtain ⟨v,a,kvs,rfl,ev,e,q⟩:=h
 obtain ⟨u,rfl,ru⟩:=iC r
 cases ru
 obtain ⟨z,hd,vs,rel,dd⟩:=jD I.d_ e
 obtain ⟨ep,da⟩:=dd.dictAt
 have hv:s.heap.IsValuesView v a:=(show bS X.prog X.w H s.heap v (mn v a) from I.d_ v _ ev).1
 refine callType_newIn PySem.F.called_tuple (by decide) (PySem.F.typeCall_tuple_1 _) (PySem.F.newCall_tuple_1 _) (λobj=>Ij obj _) PySem.F.entry_tuple_new
  (mZ (v:=v) (d:=a) (kvs:=vs) (ep:=ep) (by rw [<- rel.length]; exact z)) ⟨I.ok.hd hc,hv,da,λh' tk acc kp hi=>⟨⟨_,af.get?_push_size _ rfl,rfl⟩,?_⟩⟩
 have I1:Inv X a_ σ H { s with heap:=h',toks:=tk }:=I.kept kp
 have hf:=I1.d_.fresh (Qg _)
 have I2:Inv X a_ σ (upd H h'.objs.size (.tup (kvs.map (·.2)))) { s with heap:=h'.push { cls:=.type "tuple",data:=.seq acc.toList.toArray },toks:=tk } :=
  I1.laid (t':=tk) (λb o e=>af.get?_push_of_some _ e) (Qg _) (show bS X.prog X.w _ _ _ (.tup _) from ⟨by rw [Qc]; exact z,acc.toList,0,uO rel hi,af.get?_push_size _ rfl⟩)
 exact ⟨.ref h'.objs.size,_,I2,rfl,q _ hf⟩
end L2
namespace L2
open PySem PySem.Spec PyProof.Rows
noncomputable def IM (a:ae) (o:bz) (kvs:List (Key×V)):It :=
 ⟨λi H=>H a=some (.fm o (.dK kvs))/\i < kvs.length,λi H x H'=>H'=H/\∃ p,kvs[i]?=some p/\x=p.2,λi H=>H a=some (.fm o (.dK kvs))/\i=kvs.length⟩
theorem aC0 (a it:ae) (o:bz) (es:Array cu) (ep:Nat) (hd:o.data=.dict es ep) (kvs:List (Key×V)) :
  Turn P w K tg (IM a o kvs) [it] it (λi h=>h.IsValIter it a i kvs.length ep) where
 mem:=by simp
 obj:=λi h st b hb=>by
  have e:b=it:=by simpa using hb
  subst e
  obtain ⟨o,e,c,d⟩:=st
  exact ⟨o,e,λv z=>by rw [d] at z; cases z⟩
 keep:=λi h h' st k=>st.at λo e=>k it (by simp) o e
 item:=by
  intro X hP hw hK hc i a_ s σ H E I hf st hg
  subst hP hw hK
  obtain ⟨hA,hi⟩:=hg
  obtain ⟨ho,hz,hs,vs,kv,dd⟩:s.heap.get? a=some o/\bS X.prog X.w H s.heap a (.dK kvs):=I.d_ a _ hA
  have da:=jQ ho hd dd
  have hl:kvs.length=vs.length:=kv.length
  obtain ⟨f0,f1,f2,f3,f4,f5⟩:=hf it (by simp)
  obtain ⟨⟨k,x⟩,hx⟩:∃ p,vs[i]?=some p:=⟨vs[i]'(by omega),by simp⟩
  rw [hl] at st
  refine wpAny_pyNext_values_item st da hx λh' qq sb=>?_
  have I1:Inv X a_ σ H { s with heap:=h' }:=I.turned (t':=s.toks) (λb o hb e=>(sb.2 b hb).trans e) f0 f1 f3 f4 f5
  obtain ⟨o',e',c',d'⟩:=id qq
  obtain ⟨p,hp,_,rp⟩:=MJ kv hx
  rw [<- hl] at qq
  exact ⟨x,rfl,E9 (s:={ s with heap:=h' }) e' c' d' (by decide) ⟨p.2,H,I1,rp,⟨rfl,_,hp,rfl⟩,qq,λb hb=>(hf b hb).1⟩⟩
 done:=by
  intro X hP hw hK hc i a_ s σ H E I hf st hg
  subst hP hw hK
  obtain ⟨hA,hi⟩:=hg
  obtain ⟨ho,hz,hs,vs,kv,dd⟩:s.heap.get? a=some o/\bS X.prog X.w H s.heap a (.dK kvs):=I.d_ a _ hA
  have da:=jQ ho hd dd
  have hl:kvs.length=vs.length:=kv.length
  obtain ⟨f0,f1,f2,f3,f4,f5⟩:=hf it (by simp)
  rw [hl] at st
  exact wpAny_pyNext_values_end (I.ok.hd hc) st da (by simp; omega) λh' eb=>⟨rfl,I.turned (t':=s.toks) (λb o hb e=>eb b o hb e) f0 f1 f3 f4 f5⟩
 self:=λ_ _ _ _ _ st h=>wpAny_pyIter_valiter st h
def aH9 (H0:Hp) (td:TE):TI:=λσ H R=>td σ H λx H1=>∃ v a kvs,x=.ref v/\H1 v=some (mn v a)/\H1 a=some (.dK kvs)/\∀ o,NF H0 a->R (IM a o kvs) (upd H1 a (.fm o (.dK kvs)))
theorem aFz {d:ba} (hl:PE X d td):PI X tg d (aH9 X.we td):=by
 intro a_ s σ H R I h
 refine fi (hl a_ s σ H _ I h) λv s1 e_=>?_
 obtain ⟨x,H1,I1,r1,q1⟩:=e_
 obtain ⟨vw,a,kvs,e,hv,hq,q⟩:=q1
 subst e
 cases r1
 have ω:s1.heap.IsValuesView vw a:=(show bS X.prog X.w H1 s1.heap vw (mn vw a) from I1.d_ vw _ hv).1
 obtain ⟨hz,hs,vs,kv,dd⟩:bS X.prog X.w H1 s1.heap a (.dK kvs):=I1.d_ a _ hq
 obtain ⟨o,es,ep,ho,oe,hd,r⟩:=id dd
 have da:=jQ ho hd dd
 refine wpAny_pyIter_values ω da ?_
 have I2:=(I1.freeze hq ho).kept (h':=s1.heap.push { cls:=.type "dict_valueiterator",data:=.fields #[.ref a,.int 0 0,.int vs.length 0,.int ep 0] }) (t':=s1.toks) λb o e=>af.get?_push_of_some _ e
 have nA:a≠s1.heap.objs.size:=Qv (af.lt_size ho)
 refine ⟨s1.heap.objs.size,[s1.heap.objs.size],_,_,_,rfl,I2,aC0 a _ o es ep hd kvs,?_,λb hb=>?_,q o (I1.nf hq)⟩
 ·refine ⟨_,af.get?_push_size _ rfl,rfl,?_⟩
  rw [kv.length]; rfl
 ·have e:b=s1.heap.objs.size:=by simpa using hb
  subst e
  exact I1.nj (Qg _) (by rw [aF (Ne.symm nA)]; exact I1.d_.fresh (Qg _))
def aHe (own:Nat) (fr:List Nat) (td:TE) (g:TG) (tt:TT) (te:TE):TE:=λσ H Q=>td σ H λx H1=>∃ v a kvs,x=.ref v/\H1 v=some (mn v a)/\H1 a=some (.dK kvs)/\∀ o:bz,mj (IM a o kvs) [] (ia own fr σ) (upd H1 a (.fm o (.dK kvs))) (λys _ H=>∀ p,H p=none->Q (.ref p) (upd (upd H p (.lst ys)) a (.dK kvs))) g tt (qy te)
section
variable {d:ba} {t:TE}
theorem WS (S:fv X scope z own fr fk) (hc:X.calm=true) (hi:PE X d td) (hg:∀ C s0 H0 fp,PG (bY X scope z (own++fk) C s0 H0 fp) tg g) (ht:∀ C s0 H0 fp,PF (bY X scope z (own++fk) C s0 H0 fp) ifs tt)
  (he:∀ C s0 H0 fp,PE (bY X scope z (own++fk) C s0 H0 fp) elt te) (hs:autoParam (∀ x,foldedSetIterable d X.env x=pure x) L2.y8) :
  PE X (.ListComp elt [⟨tg,d,ifs,0⟩] scope pos) (aHe own.length fr td g tt te):=by
 intro a_ s σ H Q I h
 refine yP (gF S hc (aFz (MD hi)) hg ht he hs) a_ s σ H Q I ⟨_,h,λx H1 q=>?_⟩
 obtain ⟨v,a,kvs,ex,hv,hx,k⟩:=q
 refine ⟨v,a,kvs,ex,hv,hx,λo nf=>?_⟩
 obtain ⟨W,w0,wk⟩:=k o
 refine ⟨W,w0,λi m ys d6 H' w=>?_⟩
 rcases wk i m ys d6 H' w with ⟨st,q⟩ | z
 ·refine .inl ⟨st,λp hp=>⟨a,o,kvs,?_,nf,q p hp⟩⟩
  rw [aF (λz=>by rw [<- z,st.1] at hp; cases hp)]
  exact st.1
 ·exact .inr z
end
theorem xC {a:ae} {own:Nat} {σ:St} {Q:Hp->List V->Prop} (SH:St->Prop) (Pv:Nat->List V->Hp->Prop) (hn:kvs.length<=ag) (jo:SH (ia own fr σ)) (h0:Pv 0 [] H) (hlen:∀ i ys H,Pv i ys H->ys.length<=i) (hl:∀ i ys H,Pv i ys H->H a=some (.fm o (.dK kvs))) (hs:∀ i ys σ p H,kvs[i]?=some p->SH σ->Pv i ys H->ys.length < ag->g p.2 σ H λfc H2=>tt fc H2 λb H3=>if b=true then te fc H3 λy H4=>ys.length < ag/\SH fc/\Pv (i+1) (ys++[y]) H4 else SH fc/\Pv (i+1) ys H3) (hd:∀ ys H,Pv kvs.length ys H->Q H ys) :
  mj (IM a o kvs) [] (ia own fr σ) H (λys _ H=>Q H ys) g tt (qy te):=by
 refine lS kvs.length hn SH Pv jo h0 hlen (λys H p=>⟨hl _ _ _ p,rfl⟩) (λi ys H hi p=>⟨hl _ _ _ p,hi⟩) (λi ys σ x H H' hi sh p y hz=>?_) hd
 obtain ⟨rfl,v,hv,rfl⟩:=y
 exact hs i ys σ v _ hv sh p hz
def aFA (own:Nat) (fr:List Nat) (td:TE) (g:TG) (tt:TT) (tk tv:TE):TE:=λσ H Q=>td σ H λx H1=>∃ a kvs,x=.ref a/\H1 a=some (.dK kvs)/\∀ o:bz,∃ W:Nat->Nat->List (Key×V)->St->Hp->Prop,(∃ m,W 0 m [] (ia own fr σ) (upd H1 a (.fm o (.dK kvs))))/\∀ i m ys d6 H,W i m ys d6 H ->
 ((vj a o kvs).stop i H/\∀ p,H p=none->Q (.ref p) (upd (upd H p (.dK ys)) a (.dK kvs))) ∨
 ((vj a o kvs).go i H/\∃ N:List (Key×V)->St->Hp->Prop,(∀ uq fc H2,N uq fc H2->∃ m',m' < m/\W (i+1) m' uq fc H2) /\
  ∀ x H',(vj a o kvs).s_ i H x H'->g x d6 H' λfc H2=>tt fc H2 λb H3=>if b=true then tk fc H3 λx H4=>tv fc H4 λy H5=>∃ k,x=kV k/\ys.length < ag/\N (eR ys k y) fc H5 else N ys fc H3)
section
variable {d:ba}
theorem aC1 (S:fv X scope z own fr fk) (hc:X.calm=true) (hi:PE X d td) (hg:∀ C s0 H0 fp,PG (bY X scope z (own++fk) C s0 H0 fp) tg g) (ht:∀ C s0 H0 fp,PF (bY X scope z (own++fk) C s0 H0 fp) ifs tt)
  (hk:∀ C s0 H0 fp,PE (bY X scope z (own++fk) C s0 H0 fp) kx tk) (he:∀ C s0 H0 fp,PE (bY X scope z (own++fk) C s0 H0 fp) vx tv) (hs:autoParam (∀ x,foldedSetIterable d X.env x=pure x) L2.y8) :
  PE X (.DictComp kx vx [⟨tg,d,ifs,0⟩] scope pos) (aFA own.length fr td g tt tk tv):=by
 intro a_ s σ H Q I h
 refine yP (WU S hc (qH (MD hi)) hg ht hk he hs) a_ s σ H Q I ⟨_,h,λx H1 q=>?_⟩
 obtain ⟨a,kvs,ex,hx,k⟩:=q
 refine ⟨a,kvs,ex,hx,λo nf=>?_⟩
 obtain ⟨W,w0,wk⟩:=k o
 refine ⟨W,w0,λi m ys d6 H' w=>?_⟩
 rcases wk i m ys d6 H' w with ⟨st,q⟩ | z
 ·refine .inl ⟨st,λp hp=>⟨a,o,kvs,?_,nf,q p hp⟩⟩
  rw [aF (λz=>by rw [<- z,st.1] at hp; cases hp)]
  exact st.1
 ·exact .inr z
end
theorem aD7 {a:ae} {own:Nat} {σ:St} {Q:Hp->List (Key×V)->Prop} (SH:St->Prop) (Pv:Nat->List (Key×V)->Hp->Prop) (hn:kvs.length<=ag) (jo:SH (ia own fr σ)) (h0:Pv 0 [] H) (hlen:∀ i ys H,Pv i ys H->ys.length<=i) (hl:∀ i ys H,Pv i ys H->H a=some (.fm o (.dK kvs))) (hs:∀ i ys σ kv H,kvs[i]?=some kv->SH σ->Pv i ys H->ys.length < ag->g (kV kv.1) σ H λfc H2=>tt fc H2 λb H3=>if b=true then tk fc H3 λx H4=>tv fc H4 λy H5=>∃ k,x=kV k/\ys.length < ag/\SH fc/\Pv (i+1) (eR ys k y) H5 else SH fc/\Pv (i+1) ys H3) (hd:∀ ys H,Pv kvs.length ys H->Q H ys) :
  ∃ W:Nat->Nat->List (Key×V)->St->Hp->Prop,(∃ m,W 0 m [] (ia own fr σ) H)/\∀ i m ys d6 H,W i m ys d6 H ->
   ((vj a o kvs).stop i H/\Q H ys) ∨
   ((vj a o kvs).go i H/\∃ N:List (Key×V)->St->Hp->Prop,(∀ uq fc H2,N uq fc H2->∃ m',m' < m/\W (i+1) m' uq fc H2) /\
    ∀ x H',(vj a o kvs).s_ i H x H'->g x d6 H' λfc H2=>tt fc H2 λb H3=>if b=true then tk fc H3 λx H4=>tv fc H4 λy H5=>∃ k,x=kV k/\ys.length < ag/\N (eR ys k y) fc H5 else N ys fc H3):=by
 refine ⟨λi m ys d6 H=>m=kvs.length - i/\i<=kvs.length/\SH d6/\Pv i ys H,⟨kvs.length,by simp,Jo _,jo,h0⟩,?_⟩
 rintro i m ys d6 H ⟨rfl,hi,sh,p⟩
 by_cases fu:i < kvs.length
 ·refine .inr ⟨⟨hl _ _ _ p,fu⟩,λuq fc H2=>SH fc/\Pv (i+1) uq H2,λuq fc H2 q=>⟨kvs.length - (i+1),by omega,rfl,fu,q.1,q.2⟩,λx H' y=>?_⟩
  obtain ⟨rfl,v,hv,rfl⟩:=y
  exact hs i ys d6 v _ hv sh p (by have:=hlen i ys _ p; omega)
 ·have e:i=kvs.length:=by omega
  subst e
  exact .inl ⟨⟨hl _ _ _ p,rfl⟩,hd ys H p⟩
theorem aD8 {p p':bo} {es:List cu} {kvs:List (Key×aa)} (h:Pairs (bF p w) es kvs):Pairs (bF p' w') es kvs:=by
 induction h with
 | nil=>exact .nil
 | cons h1 h2 _ ih=>exact .cons h1 h2 ih
theorem aC2 {p:bo} {es:List cu} {kvs:List (Key×aa)} (h:Pairs (bF p w) es kvs) (hi:∀ kv∈kvs,∃ i:Int,kv.1=.inl i):(∀ e∈es,∃ k:Key,rY k e.key=true/\e.hash=LV w k)->∀ e∈es,∃ k:Key,rY k e.key=true/\e.hash=LV w' k:=by
 induction h with
 | nil=>intro _ e he; exact (Qq he).elim
 | @cons e kv es kvs h1 h2 _ ih =>
  intro hk e' Eu
  rcases Qj.mp Eu with rfl | Eu
  ·obtain ⟨k,a,b⟩:=hk e' (Qm ..)
   obtain ⟨i,ei⟩:=hi kv (Qm ..)
   have ek:k=kv.1:=(bF p w).inj _ _ _ a h1
   refine ⟨k,a,?_⟩
   rw [b,ek,ei]; rfl
  ·exact ih (λkv h=>hi kv (Qi _ h)) (λe h=>hk e (Qi _ h)) e' Eu
theorem uR {p p':bo} {a:ae} {kvs:List (Key×aa)} (d:h.DictOf (bF p w) a kvs) (hi:∀ kv∈kvs,∃ i:Int,kv.1=.inl i):h.DictOf (bF p' w') a kvs:=by
 obtain ⟨o,es,ep,ho,hx,hd,hk,hp,nd⟩:=d
 refine ⟨o,es,ep,ho,hx,hd,λe he=>?_,aD8 hp,nd⟩
 exact aC2 hp hi (λe he=>hk e (by simpa using he)) e (by simpa using he)
structure uj (K:Rb) (H:Hp) (k1 k2:List (Key×V)):Prop where
 len:k1.length=k2.length
 int:∀ kv∈k1,∃ i:Int,kv.1=.inl i
 NC:∀ kv∈k2,∃ i:Int,kv.1=.inl i
 val:∀ kv∈k1,∃ u d,bX k2 kv.1=some u/\Den K H d kv.2/\Den K H d u/\eP d=true/\SeqAt.shaped d=true
theorem xD {σ:St} (I:Inv X a_ σ H s) {k2:List (Key×V)} {v2:List (Key×aa)} (r2:KV k2 v2) (hu:A.in1.units+64 < cm):∀ {k1:List (Key×V)} {v1:List (Key×aa)},KV k1 v1 ->
  (∀ kv∈k1,∃ u d,bX k2 kv.1=some u/\Den X.K H d kv.2/\Den X.K H d u/\eP d=true/\SeqAt.shaped d=true)->PySem.W.KeqHits A.in1 s v2 v1 true:=by
 intro k1 v1 r1
 unfold KV at r1
 induction r1 with
 | nil=>intro _; exact .nil
 | @cons p q ps qs h t ih =>
  intro hh
  obtain ⟨h1,h2⟩:=h
  obtain ⟨u,d,e,d1,d2,nd,sh⟩:=hh p (Qm ..)
  obtain ⟨y,hy,ry⟩:=mI.some_of (v:=u) (o:=valueAt v2 p.1) (by rw [<- e]; exact r2.val p.1)
  obtain ⟨as,ra⟩:=Den.reads I d _ _ nd d1 h2
  obtain ⟨bs,rb⟩:=Den.reads I d _ _ nd d2 ry
  have x:=Mv (A:=A) ra rb sh sh hu
  rw [Ug d (SeqAt.canLay_of_shaped sh)] at x
  obtain ⟨k,v⟩:=q
  have hk:p.1=k:=h1
  rw [hk] at hy
  exact .hit (e:=true) (b:=true) hy x (ih λkv jz=>hh kv (Qi _ jz))
theorem U_ {k1:List (Key×V)} {v1:List (Key×aa)} (r:KV k1 v1) (h:∀ kv∈k1,∃ i:Int,kv.1=.inl i):∀ kv∈v1,∃ i:Int,kv.1=.inl i:=by
 unfold KV at r
 induction r with
 | nil=>intro kv hk; exact (Qq hk).elim
 | @cons p q ps qs hh t ih =>
  intro kv hk
  rcases Qj.mp hk with rfl | hk
  ·obtain ⟨i,e⟩:=h p (Qm ..)
   exact ⟨i,by rw [<- hh.1]; exact e⟩
  ·exact ih (λkv h'=>h kv (Qi _ h')) kv hk
theorem aBt (hu:X.A.units+100 < cm):iy X (bh .NotEq) (λx y H Q=>∃ (a b:ae) (k1 k2:List (Key×V)),x=.ref a/\y=.ref b/\Rd H a (.dK k1)/\Rd H b (.dK k2)/\uj X.K H k1 k2/\Q (.bl false) H):=by
 intro a_ s σ H x y v u Q I rx ry h
 obtain ⟨a,b,k1,k2,rfl,rfl,e1,e2,S,q⟩:=h
 cases rx
 cases ry
 obtain ⟨z1,my,v1,r1,d1⟩:=jD I.d_ e1
 obtain ⟨z2,hd2,v2,r2,d2⟩:=jD I.d_ e2
 have hl:v1.length=v2.length:=by rw [<- r1.length,<- r2.length,S.len]
 refine PySem.W.keq_ne (knd:=bF X.prog X.w) my hd2 d1 d2 (by omega) (λ_=>xD I r2 (by show X.A.units+1+64 < cm; omega) r1 S.val) ?_
 rw [hl,beq_self_eq_true]
 exact ⟨.bl false,H,I,rfl,q⟩
structure Fn (K:Rb) (mg:ax->Option aa) (x:ax) (st:bg) (ps:List ax) (f:ae) (fd:az):Prop where
 fn:sg K x x st f fd
 Kh:mg x=some (.ref f)
 kp:Tc K (.ref f)=true
 bd:jU K fd ps []
theorem aW {x:ax} {k:Nat} {p:Pos} {t:TA} (G:Fn X.K X.mg x st ps f fd) (ok:b_ X.prog X.w X.K X.mg X.base d7 k f fd ps sp) (hr:dz k X.A) (hg:Gl X x) (ha:PA X (e::es) t) (oa:autoParam ((x==("__debug__" : ax))=false) L2.jd) (he:autoParam (ao (e::es) X.env=(false,eval e X.env)::ao es X.env) L2.gc) (nr:autoParam ((cb pos (ao es X.env)).any (·.1)=false) L2.gc) :
  PE X (.Call (.Name x p) (e::es) [] pos) (H_ sp [] E0 t):=aFa ok hr hg G.Kh G.kp G.bd .nil gJ ha oa he nr
structure Bl (mg:ax->Option aa):Prop where
 isinstance:mg "isinstance" = none
 int:mg "int" = none
 bool:mg "bool" = none
 tuple:mg "tuple" = none
 list:mg "list" = none
 len:mg "len" = none
 all:mg "all" = none
 zip:mg "zip" = none
 range:mg "range" = none
 sorted:mg "sorted" = none
 set:mg "set" = none
 sum:mg "sum" = none
 repr:mg "repr" = none
 enumerate:mg "enumerate" = none
 min:mg "min" = none
 any:mg "any" = none
 dict:mg "dict" = none
 ve:mg "ValueError" = none
 i9:∃ t,mg "MOST_HANDS" = some (.int 6 t)
 gv:∃ t,mg "MOST_WORKS" = some (.int 12 t)
theorem iN:bc "isinstance" = some (.builtin "isinstance"):=by decide +kernel
theorem Fe:bc "int" = some (.type "int"):=by decide +kernel
theorem MI:bc "bool" = some (.type "bool"):=by decide +kernel
theorem gG:bc "tuple" = some (.type "tuple"):=by decide +kernel
theorem pF:bc "list" = some (.type "list"):=by decide +kernel
theorem eQ:bc "len" = some (.builtin "len"):=by decide +kernel
theorem xE:bc "all" = some (.builtin "all"):=by decide +kernel
theorem lC:bc "sorted" = some (.builtin "sorted"):=by decide +kernel
end L2
namespace Ab
open PySem L2
noncomputable def top (i:Nat):bg:=PySem.Challenge.pw_ablehands_k41_deeds_of_a_dealing_refused.main.body.getD i (.Pass ⟨0,0,0,0⟩)
noncomputable abbrev lT:bg:=top 16
noncomputable abbrev HV:bg:=top 51
noncomputable abbrev uS:bg:=top 52
noncomputable abbrev qJ:bg:=top 53
noncomputable abbrev lD:bg:=top 54
noncomputable abbrev Fd:bg:=top 55
noncomputable abbrev nB:bg:=top 56
noncomputable abbrev pG:bg:=top 57
noncomputable abbrev HU:bg:=top 58
noncomputable abbrev uT:bg:=top 59
noncomputable abbrev eT:bg:=top 35
noncomputable def gS (s:bg):List bg:=match s with
 | .ClassDef _ _ _ b _ _ _ _ _ _ _=>b
 | _=>[]
noncomputable abbrev uU:bg:=(gS eT).getD 0 (.Pass ⟨0,0,0,0⟩)
noncomputable abbrev uV:bg:=(gS eT).getD 1 (.Pass ⟨0,0,0,0⟩)
noncomputable abbrev nC:bg:=(gS eT).getD 2 (.Pass ⟨0,0,0,0⟩)
noncomputable abbrev nD:bg:=(gS eT).getD 3 (.Pass ⟨0,0,0,0⟩)
noncomputable abbrev Ca:bg:=(gS eT).getD 4 (.Pass ⟨0,0,0,0⟩)
noncomputable abbrev uW:bg:=(gS eT).getD 5 (.Pass ⟨0,0,0,0⟩)
noncomputable abbrev uX:bg:=(gS eT).getD 6 (.Pass ⟨0,0,0,0⟩)
noncomputable abbrev tj:bg:=(gS eT).getD 7 (.Pass ⟨0,0,0,0⟩)
noncomputable abbrev pH:bg:=(gS eT).getD 8 (.Pass ⟨0,0,0,0⟩)
noncomputable abbrev Fc:bg:=(gS eT).getD 9 (.Pass ⟨0,0,0,0⟩)
noncomputable abbrev rJ:bg:=(gS eT).getD 10 (.Pass ⟨0,0,0,0⟩)
noncomputable abbrev qK:bg:=(gS eT).getD 11 (.Pass ⟨0,0,0,0⟩)
noncomputable abbrev uY:bg:=(gS eT).getD 12 (.Pass ⟨0,0,0,0⟩)
noncomputable abbrev pI:bg:=top 17
noncomputable abbrev pJ:bg:=top 18
noncomputable abbrev uZ:bg:=top 19
noncomputable abbrev yR:bg:=top 20
noncomputable abbrev MH:bg:=top 21
noncomputable abbrev MG:bg:=top 22
noncomputable abbrev jZ:bg:=top 24
noncomputable abbrev MF:bg:=top 25
noncomputable abbrev kA:bg:=top 27
noncomputable abbrev lE:bg:=top 28
noncomputable abbrev rK:bg:=top 29
noncomputable abbrev lF:bg:=top 30
noncomputable abbrev HK:bg:=top 32
noncomputable abbrev qL:bg:=top 34
noncomputable abbrev yS:bg:=top 37
noncomputable abbrev kQ:bg:=top 38
noncomputable abbrev qM:bg:=top 39
noncomputable abbrev xF:bg:=top 40
noncomputable abbrev rM:bg:=top 41
noncomputable abbrev yT:bg:=top 42
noncomputable abbrev AA:bg:=top 43
noncomputable abbrev jE:bg:=top 44
noncomputable abbrev qN:bg:=top 45
noncomputable abbrev nE:bg:=top 46
noncomputable abbrev lU:bg:=top 47
noncomputable abbrev HJ:bg:=top 48
noncomputable abbrev vA:bg:=top 49
noncomputable abbrev lV:bg:=top 50
noncomputable abbrev HI:bg:=top 60
noncomputable def gZ:au->Bool
 | .int _=>true
 | _=>false
noncomputable def eL:au->Bool
 | .int i=>decide (1<=i) && decide (i<=6)
 | _=>false
noncomputable def cU (i9:Int):Int->List au->Bool
 | _,[]=>true
 | last,.int i::r=>decide (last < i) && decide (i < i9) && cU i9 i r
 | _,_::_=>false
noncomputable def cB (i9:Int):au->Bool
 | .tuple ds=>!ds.isEmpty && cU i9 (-1) ds
 | _=>false
noncomputable def aHf:au->au->Bool
 | .int h,.tuple ws=>decide (1<=h) && decide (h<=6) && decide (ws.length<=12) && ws.all (cB h)
 | _,_=>false
noncomputable def iR:au->Bool
 | .tuple [dh,dw]=>aHf dh dw
 | _=>false
def lW (K:Rb):Sp:=λvs H Q _=>∃ x d,vs = [x]/\Den K H d x/\Q (.bl (gZ d)) H
theorem aFE:c_ ["thing"] ["thing"] (aI lT):=.of
theorem qO (G:Fn K mg "is_whole" lT ["thing"] f fd) (B:Bl mg):b_ P w K mg base d7 1 f fd ["thing"] (lW K):=by
 refine G.fn.oK aFE λfh A outer s H vs Q E hr h=>?_
 ·obtain ⟨x,d,rfl,hd,k⟩:=h
  refine ⟨_,aJ (aR (oV (aL pY rfl B.isinstance iN (aA (pv 0) (aA (eJ (v:=.ty "int") rfl B.int Fe rfl) aC)))
   (oU (M3 (aL oM rfl B.isinstance iN (aA (pv 0) (aA (eJ (v:=.ty "bool") rfl B.bool MI rfl) aC))))))),?_⟩
  refine ⟨_,rfl,x,mJ d,rfl,hd.kd,_,rfl,?_⟩
  refine gK (λc=>?_) (λc=>?_)
  ·refine ⟨_,rfl,x,mJ d,rfl,hd.kd,_,rfl,?_⟩
   have e:(!decide (mJ d=Kd.bl))=gZ d:=by
    cases d <;> first | rfl | (exfalso; simp [mJ] at c)
   rw [e]
   exact k
  ·have e:false=gZ d:=by
    cases d <;> first | rfl | (exfalso; simp [mJ] at c)
   rw [e]
   exact k
def qP (K:Rb):Sp:=λvs H Q _=>∃ x d,vs = [x]/\Den K H d x/\Q (.bl (eL d)) H
theorem aFF:c_ ["thing"] ["thing"] (aI pI):=.of
theorem WR (G:Fn K mg "are_hands" pI ["thing"] f fd) (B:Bl mg) (W:Fn K mg "is_whole" lT ["thing"] fW EJ):b_ P w K mg base d7 2 f fd ["thing"] (qP K):=by
 have GW:b_ P w K mg base d7 1 fW EJ ["thing"] (lW K):=qO W B
 obtain ⟨t6,h6⟩:=B.i9
 refine G.fn.oK aFF λfh A outer s H vs Q E hr h=>?_
 ·obtain ⟨x,d,rfl,hd,k⟩:=h
  refine ⟨_,aJ (aR (oV (aW W GW hr rfl (aA (pv 0) aC))
   (oU (aDr L7 L7 aH (pv 0) (lM (v:=.int 6) rfl h6 ⟨t6,rfl⟩))))),?_⟩
  refine ⟨_,rfl,x,d,rfl,hd,_,rfl,?_⟩
  refine gK (λc=>?_) (λc=>?_)
  ·obtain ⟨i,rfl⟩:∃ i,d=.int i:=by cases d <;> first | exact ⟨_,rfl⟩ | (exfalso; simp [gZ] at c)
   obtain rfl:=cG.mp hd
   refine ⟨_,rfl,_,_,rfl,rfl,_,rfl,?_⟩
   refine gK (λc1=>?_) (λc1=>?_)
   ·refine ⟨_,_,rfl,rfl,?_⟩
    have e:decide (i<=6)=eL (.int i):=by
     show _=(decide (1<=i) && decide (i<=6))
     rw [c1,Xs]
    show Q (.bl (decide (i<=6))) H
    rw [e]; exact k
   ·have e:false=eL (.int i):=by
     show _=(decide (1<=i) && decide (i<=6))
     have c2:decide (1<=i)=false:=by simpa using c1
     rw [c2,Bool.false_and]
    rw [e]; exact k
  ·have e:false=eL d:=by cases d <;> first | rfl | (exfalso; simp [gZ] at c)
   rw [e]; exact k
theorem jJ (h l i:Int) (r:List au):cU h l (.int i::r)=(decide (l < i) && decide (i < h) && cU h i r):=by rw [cU]
theorem vB (h l:Int) (d:au) (r:List au) (n:gZ d=false):cU h l (d::r)=false:=by
 cases d <;> first | rfl | (simp [gZ] at n)
def qQ (K:Rb):Sp:=λvs H Q _=>∃ n x d,vs = [.int n,x]/\Den K H d x/\Q (.bl (cB n d)) H
theorem sV:c_ ["hands", "thing", "last", "hand"] ["hands", "thing"] (aI pJ):=.of
theorem WQ (G:Fn K mg "is_work" pJ ["hands", "thing"] f fd) (B:Bl mg) (W:Fn K mg "is_whole" lT ["thing"] fW EJ):b_ P w K mg base d7 2 f fd ["hands", "thing"] (qQ K):=by
 have GW:b_ P w K mg base d7 1 fW EJ ["thing"] (lW K):=qO W B
 refine G.fn.oK sV λfh A outer s H vs Q E hr h=>?_
 ·obtain ⟨n,x,d,rfl,hd,k⟩:=h
  refine ⟨_,aE (bJ (PW.pt (gD (bW (bM (aL cX rfl B.isinstance iN (aA (pv 1) (aA (eJ (v:=.ty "tuple") rfl B.tuple gG rfl) aC)))))
    (eY (aP dY (aL bB rfl B.len eQ (aA (pv 1) aC)) aH (aU _))))) (aJ (aR gA)) aS)
   (aE (aX (i:=2) sV.nd rfl (Or.inl rfl) (pS lP aH))
   (aE (iA ay.never rfl (oX (pv 1)) (aV (i:=3) sV.nd rfl (Or.inl rfl))
    (aE (bJ (PW.pt (gD (bW (bM (aW W GW hr rfl (aA (pv 3) aC)))) (gD (aP L7 (pv 3) (pv 2) (aU _)) (eY (aP IA (pv 3) (pv 0) (aU _)))))) (aJ (aR gA)) aS)
    (aJ (aX (i:=2) sV.nd rfl (Or.inl rfl) (pv 3)))))
   (aJ (aR gA)))),?_⟩
  refine ⟨_,rfl,x,mJ d,rfl,hd.kd,_,rfl,?_⟩
  refine gK (λc=>?_) (λc=>?_)
  ·-- not a tuple
   refine kN ?_
   have e:false=cB n d:=by
    cases d <;> first | rfl | (exfalso; simp [mJ] at c)
   rw [e]; exact k
  ·obtain ⟨ds,rfl⟩:∃ ds,d=.tuple ds:=by cases d <;> first | exact ⟨_,rfl⟩ | (exfalso; simp [mJ] at c)
   obtain ⟨a,xs,rfl,ha,o6⟩:=bC.mp hd
   have hl:=cA o6
   refine ⟨_,rfl,a,xs,rfl,.inr ha,rfl,_,rfl,?_⟩
   refine gK (λc2=>?_) (λc2=>?_)
   ·have e:false=cB n (.tuple ds):=by
     have e1:ds = []:=by
      have:(xs.length:Int)=0:=by simpa using c2
      exact Zh.mp (by omega)
     rw [e1]; rfl
    rw [e]; exact k
   ·have il:ds≠[]:=by
     intro z
     apply c2
     rw [z] at hl
     simp [hl]
    have e0:cB n (.tuple ds)=cU n (-1) ds:=by
     show (!ds.isEmpty && cU n (-1) ds)=_
     cases ds with
     | nil=>exact absurd rfl il
     | cons _ _=>rfl
    rw [e0] at k
    refine ⟨_,rfl,?_⟩
    refine ⟨_,rfl,a,rfl,⟨xs,ha⟩,V1 (K:=K) (a:=a) (xs:=xs) (λi σ H2=>∃ (last:Int) (v:Option V),σ = [some (.int n),some (.ref a),some (.int last),v]/\H2=H/\cU n (-1) ds=cU n last (ds.drop i))
     ⟨-1,none,rfl,rfl,rfl⟩ (λi σ H2 _ ⟨_,_,_,e,_⟩=>by rw [e]; exact ha) ?_ ?_⟩
    ·rintro i y σ H2 hi ⟨last,v,rfl,rfl,mv⟩
     obtain ⟨dy,v?,Ap⟩:=kX o6 hi
     have qd:ds.drop i=dy::ds.drop (i+1):=by
      obtain ⟨fu,e⟩:=Qa.mp v?
      rw [Yh fu,e]
     rw [qd] at mv
     refine ⟨_,rfl,y,dy,rfl,Ap,_,rfl,?_⟩
     refine gK (λc3=>?_) (λc3=>?_)
     ·refine kN ?_
      have e:false=cU n (-1) ds:=by rw [mv,vB]; simpa using c3
      rw [e]; exact k
     ·obtain ⟨j,rfl⟩:∃ j,dy=.int j:=by cases dy <;> first | exact ⟨_,rfl⟩ | (exfalso; simp [gZ] at c3)
      obtain rfl:=cG.mp Ap
      rw [jJ] at mv
      refine ⟨_,rfl,_,rfl,_,_,rfl,rfl,_,rfl,?_⟩
      refine gK (λc4=>?_) (λc4=>?_)
      ·refine kN ?_
       have c4':j<=last:=of_decide_eq_true c4
       have e:false=cU n (-1) ds:=by rw [mv,decide_eq_false (by omega:¬ last < j)]; rfl
       rw [e]; exact k
      ·have c4':¬ j<=last:=λz=>c4 (decide_eq_true z)
       refine ⟨_,rfl,_,rfl,_,_,rfl,rfl,_,rfl,?_⟩
       refine gK (λc5=>?_) (λc5=>?_)
       ·have c5':n<=j:=of_decide_eq_true c5
        have e:false=cU n (-1) ds:=by rw [mv,decide_eq_false (by omega:¬ j < n),Bool.and_false]; rfl
        rw [e]; exact k
       ·have c5':¬ n<=j:=λz=>c5 (decide_eq_true z)
        refine ⟨_,rfl,j,some (.int j),rfl,rfl,?_⟩
        rw [mv,decide_eq_true (by omega:last < j),decide_eq_true (by omega:j < n)]
        rfl
    ·rintro σ H2 ⟨last,v,rfl,rfl,mv⟩
     have e:true=cU n (-1) ds:=by
      rw [mv,hl,List.drop_length]
      rfl
     show Q (.bl true) _
     rw [e]; exact k
theorem aFG {σ:St} {A B:Hp->Prop} (h:A H):Ba σ H λb H3=>if b=true then A H3 else B H3:=by
 show if true=true then A H else B H
 exact kN h
theorem cR {x:V} {σ:St} {A B:St->Hp->Prop} (h:A (σ.set i (some x)) H):bO i x σ H λfc H2=>Ba fc H2 λb H3=>if b=true then A fc H3 else B fc H3:=by
 show if true=true then A (σ.set i (some x)) H else B (σ.set i (some x)) H
 exact kN h
def VS (K:Rb):Sp:=λvs H Q _=>∃ x d,vs = [x]/\Den K H d x/\∀ H',aD H H'->Q (.bl (iR d)) H'
theorem yU:c_ ["thing", "hands", "works"] ["thing"] (aI uZ):=.of
theorem aEa {Sj Sh:az} (G:Fn K mg "is_book" uZ ["thing"] f fd) (B:Bl mg) (W:Fn K mg "is_whole" lT ["thing"] fW EJ) (GH:Fn K mg "are_hands" pI ["thing"] fH Sj) (GK:Fn K mg "is_work" pJ ["hands", "thing"] fK Sh):b_ P w K mg base d7 3 f fd ["thing"] (VS K):=by
 have OH:b_ P w K mg base d7 2 fH Sj ["thing"] (qP K):=WR GH B W
 have OK:b_ P w K mg base d7 2 fK Sh ["hands", "thing"] (qQ K):=WQ GK B W
 obtain ⟨JH,o7⟩:=B.gv
 refine G.fn.oK yU λfh A outer s H vs Q E hr h=>?_
 ·obtain ⟨x,d,rfl,hd,k⟩:=h
  refine ⟨_,aE (bJ (PW.pt (gD (bW (bM (aL cX rfl B.isinstance iN (aA (pv 0) (aA (eJ (v:=.ty "tuple") rfl B.tuple gG rfl) aC)))))
    (eY (aP oJ (aL bB rfl B.len eQ (aA (pv 0) aC)) aH (aU _))))) (aJ (aR gA)) aS)
   (aE (tN (pv 0) (oW rfl (dP (aV (i:=1) yU.nd rfl (Or.inr rfl)) (dP (aV (i:=2) yU.nd rfl (Or.inl rfl)) lO))))
   (aE (bJ (bW (bM (aW GH OH hr rfl (aA (pv 1) aC)))) (aJ (aR gA)) aS)
   (aE (bJ (PW.pt (gD (bW (bM (aL cX rfl B.isinstance iN (aA (pv 2) (aA (eJ (v:=.ty "tuple") rfl B.tuple gG rfl) aC)))))
    (eY (aP mM (aL bB rfl B.len eQ (aA (pv 2) aC)) (lM (v:=.int 12) rfl o7 ⟨JH,rfl⟩) (aU _))))) (aJ (aR gA)) aS)
   (aJ (aR (aL (kU rfl) rfl B.all xE (aA
    (gF (own:=["work"]) (fr:=[1]) (fk:=["hands"]) (bL (aI uZ) ["thing", "hands", "works"] rfl rfl (by decide +kernel)) rfl (oX (pv 2))
     (λ_ _ _ _=>aV (i:=0) (show (["work", "hands"]:List ax).Nodup by decide +kernel) rfl (Or.inl rfl)) (λ_ _ _ _=>eO) (λ_ _ _ _=>aW GK OK hr rfl (aA (pv 1) (aA (pv 0) aC)))) aC))))))),?_⟩
  refine ⟨_,rfl,x,mJ d,rfl,hd.kd,_,rfl,?_⟩
  refine gK (λc=>?_) (λc=>?_)
  ·refine kN ?_
   have e:false=iR d:=by
    cases d <;> first | rfl | (exfalso; simp [mJ] at c)
   rw [e]; exact k H (aD.refl H)
  ·obtain ⟨ds,rfl⟩:∃ ds,d=.tuple ds:=by cases d <;> first | exact ⟨_,rfl⟩ | (exfalso; simp [mJ] at c)
   obtain ⟨a,xs,rfl,ha,o6⟩:=bC.mp hd
   have hl:=cA o6
   refine ⟨_,rfl,a,xs,rfl,.inr ha,rfl,_,rfl,?_⟩
   refine gK (λc2=>?_) (λc2=>?_)
   ·have e:false=iR (.tuple ds):=by
     match ds,hl,c2 with
     | [],_,_=>rfl
     | [_],_,_=>rfl
     | [_,_],hl,c2=>exfalso; rw [hl] at c2; simp at c2
     | _::_::_::_,_,_=>rfl
    rw [e]; exact k H (aD.refl H)
   ·obtain ⟨dh,dw,rfl⟩:∃ dh dw,ds = [dh,dw]:=by
     match ds,hl,c2 with
     | [],hl,c2=>exfalso; rw [hl] at c2; simp at c2
     | [_],hl,c2=>exfalso; rw [hl] at c2; simp at c2
     | [p,q],_,_=>exact ⟨p,q,rfl⟩
     | p::q::r::t,hl,c2=>exfalso; apply c2; rw [hl]; simp; omega
    obtain ⟨xh,r1,rfl,hh,h2⟩:=bH.mp o6
    obtain ⟨xw,r2,rfl,hw,h3⟩:=bH.mp h2
    obtain rfl:=bZ.mp h3
    -- hands,works=thing
    refine ⟨_,rfl,a,_,rfl,ha,rfl,_,_,rfl,_,_,rfl,rfl,?_⟩
    -- are_hands(hands)
    refine ⟨_,rfl,xh,dh,rfl,hh,_,rfl,?_⟩
    refine gK (λc3=>?_) (λc3=>?_)
    ·have e:false=iR (.tuple [dh,dw]):=by
      have c3':eL dh=false:=by simpa using c3
      cases dh with
      | int n =>
       cases dw with
       | tuple ws =>
        have c4:(decide (1<=n) && decide (n<=6))=false:=c3'
        show _=(decide (1<=n) && decide (n<=6) && decide (ws.length<=12) && ws.all (cB n))
        rw [c4]; rfl
       | _=>rfl
      | _=>rfl
     rw [e]; exact k H (aD.refl H)
    ·obtain ⟨n,rfl,hn⟩:∃ n,dh=.int n/\(decide (1<=n) && decide (n<=6))=true:=by
      cases dh <;> first | exact ⟨_,rfl,by simpa [eL] using c3⟩ | (exfalso; simp [eL] at c3)
     obtain rfl:=cG.mp hh
     refine ⟨_,rfl,xw,mJ dw,rfl,hw.kd,_,rfl,?_⟩
     refine gK (λc5=>?_) (λc5=>?_)
     ·refine kN ?_
      have e:false=iR (.tuple [.int n,dw]):=by
       cases dw <;> first | rfl | (exfalso; simp [mJ] at c5)
      rw [e]; exact k H (aD.refl H)
     ·obtain ⟨ws,rfl⟩:∃ ws,dw=.tuple ws:=by cases dw <;> first | exact ⟨_,rfl⟩ | (exfalso; simp [mJ] at c5)
      obtain ⟨b,ys,rfl,hb,ip⟩:=bC.mp hw
      have yl:=cA ip
      have eB:iR (.tuple [.int n,.tuple ws])=(decide (ws.length<=12) && ws.all (cB n)):=by
       show (decide (1<=n) && decide (n<=6) && decide (ws.length<=12) && ws.all (cB n))=_
       rw [hn,Xs]
      rw [eB] at k
      refine ⟨_,rfl,b,ys,rfl,.inr hb,_,_,rfl,rfl,_,rfl,?_⟩
      refine gK (λc6=>?_) (λc6=>?_)
      ·have c6':(12:Int) < ys.length:=of_decide_eq_true c6
       have e:false=(decide (ws.length<=12) && ws.all (cB n)):=by rw [decide_eq_false (by omega:¬ ws.length<=12)]; rfl
       rw [e]; exact k H (aD.refl H)
      ·have c6':¬ (12:Int) < ys.length:=λz=>c6 (decide_eq_true z)
       have e1:decide (ws.length<=12)=true:=decide_eq_true (by omega)
       rw [e1,Xs] at k
       refine ⟨_,rfl,b,rfl,⟨ys,hb⟩,aDI (K:=K) (a:=b) (xs:=ys) (λσ=>∃ v,σ = [v,some (.int n)]) (λi zs H2=>H2=H/\zs=((ws.take i).map (cB n)).map V.bl) ?_ ⟨none,rfl⟩ ⟨rfl,rfl⟩ ?_ ?_ ?_ ?_⟩
       ·rw [Rf]; omega
       ·rintro i zs H2 ⟨_,rfl⟩
        rw [Qc,Qc,Jf]; omega
       ·rintro i zs H2 ⟨rfl,_⟩
        exact hb
       ·rintro i zs σ x H2 hx ⟨v,rfl⟩ ⟨rfl,rfl⟩ hz
        obtain ⟨dx,Ew,Ap⟩:=kX ip hx
        refine cR ?_
        refine ⟨_,rfl,_,rfl,n,x,dx,rfl,Ap,hz,⟨some x,rfl⟩,rfl,?_⟩
        rw [Jr,Ew]
        simp
       ·rintro zs H2 ⟨rfl,rfl⟩ p hp
        refine ⟨p,_,rfl,d9.of aB,?_⟩
        have e2:((ws.take ys.length).map (cB n)).all id=ws.all (cB n):=by
         rw [yl,Jm,Wm]
         rfl
        rw [e2]
        exact k _ (aD.new hp)
noncomputable def gH (l:List Int):au:=.tuple (l.map .int)
noncomputable def mH (n:Int) (ws:List (List Int)):au:=.tuple [.int n,.tuple (ws.map gH)]
noncomputable def xG (hs:List Int):au:=.tuple (hs.map .int)
noncomputable def iH:au->List Int->Bool
 | .int i,l=>l.any (·==i)
 | _,_=>false
noncomputable def sF (ws:List (List Int)):au->Bool
 | .tuple hs=>decide (hs.length=ws.length) && (hs.zip ws).all λp=>iH p.1 p.2
 | _=>false
theorem jR (l:List Int):(l.map V.int).all pW=true:=by
 rw [Wm]
 exact Jq.mpr λ_ _=>rfl
theorem yV (i:Int) (l:List Int):wu (.int i) (l.map V.int)=l.any (·==i):=by
 unfold wu
 rw [Yc]
 rfl
theorem lG {n:Int} {x:V} (h:Den K H (mH n ws) x):∃ a b ys,x=.ref a/\d8 K H a [.int n,.ref b]/\d8 K H b ys/\bQ K H (ws.map gH) ys:=by
 obtain ⟨a,xs,rfl,ha,o6⟩:=bC.mp h
 obtain ⟨xh,r1,rfl,hh,h2⟩:=bH.mp o6
 obtain ⟨xw,r2,rfl,hw,h3⟩:=bH.mp h2
 obtain rfl:=bZ.mp h3
 obtain rfl:=cG.mp hh
 obtain ⟨b,ys,rfl,hb,tm⟩:=bC.mp hw
 exact ⟨a,b,ys,rfl,ha,hb,tm⟩
theorem aZ {n:Int} (h:iR (mH n ws)=true):1<=n/\n<=6/\ws.length<=12/\∀ l∈ws,cB n (gH l)=true:=by
 have h':(decide (1<=n) && decide (n<=6) && decide ((ws.map gH).length<=12) && (ws.map gH).all (cB n))=true:=h
 simp only [Qz,decide_eq_true_eq,Qc,Jq] at h'
 exact ⟨h'.1.1.1,h'.1.1.2,h'.1.2,λl hl=>h'.2 _ (Xp.mpr ⟨l,hl,rfl⟩)⟩
theorem aFH {k:Nat} {t:Bd} (hK:X.K=K) (hc:X.calm=true) (h:Fj X es t) (hn:autoParam ((assignEach es X.env).length=n) L2.gc) (j0:autoParam ((assignEach es X.env).findIdx? (·.1)=none) L2.gc):PG X (.Tuple es k pos) (TV K n t):=by
 subst hK
 exact oW hc h hn j0
theorem hG (hK:X.K=K):iy X (bh .In) (D4 K false):=by subst hK; exact aCK
theorem yW (hK:X.K=K):Fw X (TL K):=by subst hK; exact cD
theorem kR (hK:X.K=K):eX X (.builtin "len") (λxs H Q=>∃ p ys,xs = [.ref p]/\(d9 K H p ys∨d8 K H p ys)/\Q (.int ys.length) H):=by subst hK; exact bB
theorem vC (hK:X.K=K):eX X (.type "tuple") (λxs H Q=>∃ p ys,xs = [.ref p]/\((d9 K H p ys/\∀ l,H l=none->Q (.ref l) (upd H l (.tup ys)))∨(d8 K H p ys/\Q (.ref p) H))):=by subst hK; exact iX
theorem aBz (hK:X.K=K):Ae X "tuple.count" (λx vs H Q=>∃ (a:ae) (ns:List Int) (n:Int),x=.ref a/\vs = [.int n]/\d8 K H a (ns.map V.int)/\Q (.int (ns.count n:Nat)) H):=by subst hK; exact aCP
section
structure Pr (K:Rb) (mg:ax->Option aa) (fW fH fK fB xj fD xi fL:ae) (dW dH dK dB xm dD xk dL:az):Prop where
 W:Fn K mg "is_whole" lT ["thing"] fW dW
 H:Fn K mg "are_hands" pI ["thing"] fH dH
 Kw:Fn K mg "is_work" pJ ["hands", "thing"] fK dK
 B:Fn K mg "is_book" uZ ["thing"] fB dB
 NB:Fn K mg "need_book" MH ["book"] xj xm
 D:Fn K mg "is_deal" yR ["book", "thing"] fD dD
 ND:Fn K mg "need_deal" MG ["book", "deal"] xi xk
 C:∃ f d,Fn K mg "counted" jZ ["hands", "deal"] f d
 L:Fn K mg "loads" MF ["book", "deal"] fL dL
variable {dK:az}
def VR (K:Rb):Sp:=λvs H Q _=>∃ x d,vs = [x]/\Den K H d x/\iR d=true/\∀ H',aD H H'->Q .ft H'
theorem aFI:c_ ["book"] ["book"] (aI MH):=.of
theorem aEb (B:Bl mg) (R:Pr K mg fW fH fK fB xj fD xi fL dW dH dK dB xm dD xk dL):b_ P w K mg base d7 4 xj xm ["book"] (VR K):=by
 have OB:b_ P w K mg base d7 3 fB dB ["thing"] (VS K):=aEa R.B B R.W R.H R.Kw
 refine R.NB.fn.oK aFI λfh A outer s H vs Q E hr h=>?_
 ·obtain ⟨x,d,rfl,hd,hb,k⟩:=h
  refine ⟨_,aJ (bJ (bW (bM (aW R.B OB hr rfl (aA (pv 0) aC)))) dZ aS),?_⟩
  refine ⟨_,rfl,x,d,rfl,hd,λH' hs=>⟨_,rfl,?_⟩⟩
  rw [hb]
  refine oH ?_
  exact k H' hs
def VQ (K:Rb):Sp:=λvs H Q _=>∃ x y n ws d,vs = [x,y]/\Den K H (mH n ws) x/\iR (mH n ws)=true/\Den K H d y/\∀ H',aD H H'->Q (.bl (sF ws d)) H'
theorem VP:c_ ["book", "thing", "works"] ["book", "thing"] (aI yR):=.of
theorem aEc (B:Bl mg) (R:Pr K mg fW fH fK fB xj fD xi fL dW dH dK dB xm dD xk dL):b_ P w K mg base d7 5 fD dD ["book", "thing"] (VQ K):=by
 have ON:b_ P w K mg base d7 4 xj xm ["book"] (VR K):=aEb B R
 have OW:b_ P w K mg base d7 1 fW dW ["thing"] (lW K):=qO R.W B
 refine R.D.fn.oK VP λfh A outer s H vs Q E hr h=>?_
 ·obtain ⟨x,y,n,ws,d,rfl,hx,hb,hd,k⟩:=h
  have d?:dz 1 _:=hr.mono (by decide)
  refine ⟨_,aE (cL (aW R.NB ON hr rfl (aA (pv 0) aC)))
   (aE (aX (i:=2) VP.nd rfl (Or.inl rfl) (bN cD (pv 0) aH (λ_ _=>rfl)))
   (aE (bJ (PW.pt (gD (bW (bM (aL cX rfl B.isinstance iN (aA (pv 1) (aA (eJ (v:=.ty "tuple") rfl B.tuple gG rfl) aC)))))
    (eY (aP oJ (aL bB rfl B.len eQ (aA (pv 1) aC)) (aL bB rfl B.len eQ (aA (pv 2) aC)) (aU _))))) (aJ (aR gA)) aS)
   (aJ (aR (aL (kU rfl) rfl B.all xE (aA
    (gF (own:=["hand", "able"]) (fr:=[]) (fk:=[]) (bL (aI yR) ["book", "thing", "works"] rfl rfl (by decide +kernel)) rfl (aG0 .t .t rfl B.zip (aA (pv 1) (aA (pv 2) aC)))
     (λ_ _ _ _=>aFH (K:=K) (n:=2) rfl rfl (dP (aV (i:=0) (show (["hand", "able"]:List ax).Nodup by decide +kernel) rfl (Or.inl rfl)) (dP (aV (i:=1) (show (["hand", "able"]:List ax).Nodup by decide +kernel) rfl (Or.inl rfl)) lO)))
     (λ_ _ _ _=>eO) (λ_ _ _ _=>oV (aW R.W OW d? rfl (aA (pv 0) aC)) (oU (gQ (hG (K:=K) rfl) (pv 0) (pv 1) (by with_unfolding_all rfl))))) aC)))))),?_⟩
  refine ⟨_,rfl,x,mH n ws,rfl,hx,hb,λH1 s1=>?_⟩
  have PR:=s1.den _ _ hx
  have my:=s1.den _ _ hd
  obtain ⟨a,b,ys,rfl,ha,qv,tm⟩:=lG PR
  have yl:=cA tm
  rw [Qc] at yl
  refine ⟨_,rfl,a,_,1,.ref b,rfl,rfl,ha,rfl,?_⟩
  refine ⟨_,rfl,y,mJ d,rfl,my.kd,_,rfl,?_⟩
  refine gK (λc=>?_) (λc=>?_)
  ·refine kN ?_
   have e:false=sF ws d:=by
    cases d <;> first | rfl | (exfalso; simp [mJ] at c)
   rw [e]; exact k H1 s1
  ·obtain ⟨hs,rfl⟩:∃ hs,d=.tuple hs:=by cases d <;> first | exact ⟨_,rfl⟩ | (exfalso; simp [mJ] at c)
   obtain ⟨a2,xs,rfl,K9,wy⟩:=bC.mp my
   have l?:=cA wy
   refine ⟨_,rfl,a2,xs,rfl,.inr K9,_,rfl,b,ys,rfl,.inr qv,rfl,_,rfl,?_⟩
   refine gK (λc2=>?_) (λc2=>?_)
   ·have e:false=sF ws (.tuple hs):=by
     show _=(decide (hs.length=ws.length) && (hs.zip ws).all λp=>iH p.1 p.2)
     rw [decide_eq_false]
     ·rfl
     ·intro z
      have:(V.int (xs.length:Int)=V.int (ys.length:Int)):=by rw [l?,yl,z]
      simp [this] at c2
    rw [e]; exact k H1 s1
   ·have heq:xs.length=ys.length:=by
     have:V.int (xs.length:Int)=V.int (ys.length:Int):=by simpa using c2
     injection this with this
     omega
    have e0:sF ws (.tuple hs)=(hs.zip ws).all λp=>iH p.1 p.2:=by
     show (decide (hs.length=ws.length) && _)=_
     rw [decide_eq_true (by omega:hs.length=ws.length),Xs]
    rw [e0] at k
    obtain ⟨_,_,o7,_⟩:=aZ hb
    refine ⟨_,rfl,_,rfl,a2,b,xs,ys,rfl,K9,qv,aDJ (K:=K) (k1:=.t) (k2:=.t) (a:=a2) (b:=b) (xs:=xs) (ys:=ys) (λσ=>∃ u v,σ = [u,v]) (λi zs H2=>aD H1 H2/\zs=(((hs.zip ws).take i).map λp=>iH p.1 p.2).map V.bl) ?_ heq ⟨none,none,rfl⟩ ⟨aD.refl H1,rfl⟩ ?_ ?_ ?_ ?_⟩
    ·rw [Rf]; omega
    ·rintro i zs H2 ⟨_,rfl⟩
     rw [Qc,Qc,Jf]; omega
    ·rintro i zs H2 ⟨s2,_⟩
     exact ⟨s2.dk K9,s2.dk qv⟩
    ·rintro i zs σ u v p H2 hu hv ⟨u0,v0,rfl⟩ ⟨s2,rfl⟩ hp hz
     obtain ⟨du,w!,F'⟩:=kX wy hu
     obtain ⟨dv,vz,CV⟩:=kX tm hv
     rw [Qh] at vz
     obtain ⟨l,hl,rfl⟩:∃ l,ws[i]?=some l/\gH l=dv:=by
      cases q:ws[i]? with
      | none=>rw [q] at vz; cases vz
      | some l=>rw [q] at vz; exact ⟨l,rfl,Option.some.inj vz⟩
     have s3:aD H1 (upd H2 p (.tup [u,v])):=s2.trans (aD.new hp)
     have NH:(hs.zip ws)[i]?=some (du,l):=by rw [Jb]; exact ⟨w!,hl⟩
     have Bt:(((hs.zip ws).take (i+1)).map λp=>iH p.1 p.2).map V.bl=(((hs.zip ws).take i).map λp=>iH p.1 p.2).map V.bl++[V.bl (iH du l)]:=by
      rw [Jr,NH]; simp
     refine ⟨p,_,rfl,d8.of aB,rfl,_,_,rfl,_,_,rfl,rfl,?_⟩
     refine aFG ?_
     refine ⟨_,rfl,u,du,rfl,s3.den _ _ F',_,rfl,?_⟩
     refine gK (λc3=>?_) (λc3=>?_)
     ·obtain ⟨j,rfl⟩:∃ j,du=.int j:=by cases du <;> first | exact ⟨_,rfl⟩ | (exfalso; simp [gZ] at c3)
      obtain rfl:=cG.mp F'
      obtain ⟨av,rfl,A!⟩:=cV.mp CV
      refine ⟨_,rfl,_,rfl,av,_,rfl,.inr (s3.dk A!),rfl,jR l,hz,⟨_,_,rfl⟩,s3,?_⟩
      rw [Bt]
      show _++[V.bl (wu (.int j) (l.map V.int))]=_
      rw [yV]
      rfl
     ·have e:iH du l=false:=by cases du <;> first | rfl | (exfalso; simp [gZ] at c3)
      refine ⟨hz,⟨_,_,rfl⟩,s3,?_⟩
      rw [Bt,e]
    ·rintro zs H2 ⟨s2,rfl⟩ p hp
     refine ⟨p,_,rfl,d9.of aB,?_⟩
     have e2:(((hs.zip ws).take xs.length).map λp=>iH p.1 p.2).all id=(hs.zip ws).all λp=>iH p.1 p.2:=by
      rw [Jj (by rw [Xm]; omega),Wm]
      rfl
     rw [e2]
     exact k _ (s1.trans (s2.trans (aD.new hp)))
end
noncomputable def bT (n:Int) (hs:List Int):List Int:=(DN n.toNat).map λh=>((hs.count h:Nat):Int)
theorem vD (h:i < n):(DN n)[i]?=some (i:Int):=by
 unfold DN
 rw [Qh,List.getElem?_range h]
 rfl
theorem gM (n:Nat):(DN n).length=n:=by unfold DN; rw [Qc,List.length_range]
theorem MZ {o:ba} {t:TA} {id:String} {r:V->List V->Hp->VK->Prop} (hK:X.K=K) (pa:PlainAttrs T) (slot:Slot T name id) (Dk:typeOf (.builtin id)=pure (.type "method_descriptor")) (hm:Ae X id r) (ho:PE X o to) (ha:PA X (e::es) t) (qf:autoParam (attributeBase o name X.env (eval o X.env)=eval o X.env) L2.gc) (CO:autoParam (((cb gu (ao (e::es) X.env)).all (λx=>!x.1) && (backToKw gu (cz [] X.env)).all (λx=>x.1.isSome)
   && decide ((e::es).length+([]:List de).length+(if ([]:List de).isEmpty then 0 else 1) < 30))=true) L2.gc) (qb:autoParam ((apos.endLine==gu.line)=true) L2.gc) (hs:autoParam (ao (e::es) X.env=(false,eval e X.env)::ao es X.env) L2.gc) (sx:autoParam ((cb gu (ao es X.env)).any (·.1)=false) L2.gc) :
  PE X (.Call (.Attribute o name apos) (e::es) [] gu) (Gz K T r to t):=by
 subst hK
 exact kI pa slot Dk hm ho ha qf CO qb hs sx
section
variable {dK:az}
def rN (K:Rb) (H:Hp) (x y:V) (n:Int) (ws:List (List Int)) (hs:List Int):Prop:=Den K H (mH n ws) x/\iR (mH n ws)=true/\Den K H (xG hs) y/\sF ws (xG hs)=true
theorem rN.same {x:V} {n:Int} (g:rN K H x y n ws hs) (e:aD H H'):rN K H' x y n ws hs:=⟨e.den _ _ g.1,g.2.1,e.den _ _ g.2.2.1,g.2.2.2⟩
theorem rN.len {x:V} {n:Int} (g:rN K H x y n ws hs):hs.length<=12/\1<=n/\n<=6:=by
 obtain ⟨h1,h2,h3,_⟩:=aZ g.2.1
 have h:(decide ((hs.map au.int).length=ws.length) && ((hs.map au.int).zip ws).all λp=>iH p.1 p.2)=true:=g.2.2.2
 simp only [Qz,decide_eq_true_eq,Qc] at h
 omega
def VO (K:Rb):Sp:=λvs H Q _=>∃ x y n ws hs,vs = [x,y]/\rN K H x y n ws hs/\∀ H',aD H H'->Q .ft H'
theorem aFJ:c_ ["book", "deal"] ["book", "deal"] (aI MG):=.of
theorem aEd (B:Bl mg) (R:Pr K mg fW fH fK fB xj fD xi fL dW dH dK dB xm dD xk dL):b_ P w K mg base d7 6 xi xk ["book", "deal"] (VO K):=by
 have OD:b_ P w K mg base d7 5 fD dD ["book", "thing"] (VQ K):=aEc B R
 refine R.ND.fn.oK aFJ λfh A outer s H vs Q E hr h=>?_
 ·obtain ⟨x,y,n,ws,hs,rfl,⟨g1,g2,g3,g4⟩,k⟩:=h
  refine ⟨_,aJ (bJ (bW (bM (aW R.D OD hr rfl (aA (pv 0) (aA (pv 1) aC))))) dZ aS),?_⟩
  refine ⟨_,rfl,_,rfl,x,y,n,ws,xG hs,rfl,g1,g2,g3,λH' hs=>⟨_,rfl,?_⟩⟩
  rw [g4]
  refine oH ?_
  exact k H' hs
def lH (K:Rb):Sp:=λvs H Q _=>∃ (n:Int) (b:ae) (hs:List Int),vs = [.int n,.ref b]/\d8 K H b (hs.map V.int)/\0<=n/\n<=6/\∀ p H',aD H H'->H' p=some (.tup ((bT n hs).map V.int))->Q (.ref p) H'
theorem aC3:c_ ["hands", "deal"] ["hands", "deal"] (aI jZ):=.of
theorem pK (G:Fn K mg "counted" jZ ["hands", "deal"] f fd) (B:Bl mg):b_ P w K mg base d7 1 f fd ["hands", "deal"] (lH K):=by
 refine G.fn.oK aC3 λfh A outer s H vs Q E hr h=>?_
 ·obtain ⟨n,c,hs,rfl,hc,j7,jc,k⟩:=h
  refine ⟨_,aJ (aR (cS iX rfl B.tuple gG (aA
    (gF (own:=["hand"]) (fr:=[1]) (fk:=["deal"]) (bL (aI jZ) ["hands", "deal"] rfl rfl (by decide +kernel)) rfl (eD rfl B.range (aA (pv 0) aC))
     (λ_ _ _ _=>aV (i:=0) (show (["hand", "deal"]:List ax).Nodup by decide +kernel) rfl (Or.inl rfl)) (λ_ _ _ _=>eO)
     (λ_ _ _ _=>MZ (K:=K) rfl PySem.F.plainAttrs_tuple Im PySem.F.type_tuple_count (aBz (K:=K) rfl) (pv 1) (aA (pv 0) aC))) aC))),?_⟩
  refine ⟨_,rfl,n,rfl,by omega,by omega,jW (lo:=0) (n:=n.toNat) (λσ=>∃ v,σ = [v,some (.ref c)]) (λi zs H2=>H2=H/\zs=(((DN n.toNat).take i).map λh=>((hs.count h:Nat):Int)).map V.int) ?_ ⟨none,rfl⟩ ⟨rfl,rfl⟩ ?_ ?_ ?_⟩
  ·rw [Rf]; omega
  ·rintro i zs H2 ⟨_,rfl⟩
   rw [Qc,Qc,Jf]; omega
  ·rintro i zs σ H2 hi ⟨v,rfl⟩ ⟨rfl,rfl⟩ hz
   refine cR ?_
   refine ⟨_,rfl,.inr (.inl ⟨rfl,_,hc⟩),_,rfl,c,hs,_,rfl,rfl,hc,hz,⟨_,rfl⟩,rfl,?_⟩
   rw [Jr,vD hi]
   simp
  ·rintro zs H2 ⟨rfl,rfl⟩ p hp
   refine ⟨p,_,rfl,.inl ⟨d9.of aB,λl hl=>?_⟩⟩
   refine k l _ ((aD.new hp).trans (aD.new hl)) ?_
   rw [aB,Jj (by rw [gM]; exact Qg _)]
   rfl
def VN (K:Rb):Sp:=λvs H Q _=>∃ x y n ws hs,vs = [x,y]/\rN K H x y n ws hs/\∀ p H',aD H H'->H' p=some (.tup ((bT n hs).map V.int))->Q (.ref p) H'
theorem aFK:c_ ["book", "deal"] ["book", "deal"] (aI MF):=.of
theorem aEe (B:Bl mg) (R:Pr K mg fW fH fK fB xj fD xi fL dW dH dK dB xm dD xk dL):b_ P w K mg base d7 7 fL dL ["book", "deal"] (VN K):=by
 have ON:b_ P w K mg base d7 6 xi xk ["book", "deal"] (VO K):=aEd B R
 obtain ⟨fC,dC,GC⟩:=R.C
 have OC:b_ P w K mg base d7 1 fC dC ["hands", "deal"] (lH K):=pK GC B
 refine R.L.fn.oK aFK λfh A outer s H vs Q E hr h=>?_
 ·obtain ⟨x,y,n,ws,hs,rfl,g,k⟩:=h
  have r1:dz 1 _:=hr.mono (by decide)
  refine ⟨_,aE (cL (aW R.ND ON hr rfl (aA (pv 0) (aA (pv 1) aC))))
   (aJ (aR (aW GC OC r1 rfl (aA (bN cD (pv 0) aH (λ_ _=>rfl)) (aA (pv 1) aC))))),?_⟩
  refine ⟨_,rfl,_,rfl,x,y,n,ws,hs,rfl,g,λH1 s1=>?_⟩
  have g1:=g.same s1
  obtain ⟨hl,j7,jc⟩:=g.len
  obtain ⟨a,b,ys,rfl,ha,qv,tm⟩:=lG g1.1
  obtain ⟨c,rfl,hc⟩:=cV.mp g1.2.2.1
  refine ⟨_,rfl,a,_,0,.int n,rfl,rfl,ha,rfl,_,rfl,n,c,hs,rfl,hc,by omega,jc,λp H2 s2 hp=>?_⟩
  exact k p H2 (s1.trans s2) hp
theorem wK (n:Int) (hs:List Int):(bT n hs).length=n.toNat:=by unfold bT; rw [Qc,gM]
end
end Ab
namespace L2
open PySem PySem.Spec PyProof.Rows
def aIa (i j:Int):Prop:=0 < j/\j.natAbs < 2^4000
theorem aEf:iy X (binaryOp .FloorDiv) (rI aIa λi j=>.int (i / j)):=GL λi j _ _ _ _ _ hc q=>by
 have h1:(0:Int) < j:=hc.1
 refine floordiv_int (by omega) (by rw [Int.fdiv_eq_ediv_of_nonneg i (by omega)]; exact q) (.inl (PyProof.noPylong_of_log2 ?_))
 have h3:j.natAbs.log2 < 4000:=(Nat.log2_lt (by omega)).mpr hc.2
 omega
end L2
namespace Ab
open PySem L2
def ff (t:ae) (H H':Hp):Prop:=∀ b o,b≠t->H b=some o->H' b=some o
theorem ff.refl (t:ae) (H:Hp):ff t H H:=λ_ _ _ h=>h
theorem ff.trans (a:ff t H H1) (b:ff t H1 H2):ff t H H2:=λc o n h=>b c o n (a c o n h)
theorem ff.of (a:aD H H'):ff t H H':=λc o _ h=>a c o h
theorem ff.at {u:HO}:ff t H (upd H t u):=λc o n h=>by rw [aF n]; exact h
theorem ff.Y6 {a:ae} (e:ff t H H') (n:a≠t) (h:Rd H a (.lst xs)):Rd H' a (.lst xs):=by
 rcases h with h | ⟨o,h⟩
 ·exact .inl (e a _ n h)
 ·exact .inr ⟨o,e a _ n h⟩
theorem ff.dk {a:ae} (e:ff t H H') (ht:H t=some (.lst ys)) (h:d8 K H a xs):d8 K H' a xs:=by
 rcases h with (h | ⟨o,h⟩) | h
 ·exact .inl (.inl (e a _ (λz=>by rw [z,ht] at h; cases h) h))
 ·exact .inl (.inr ⟨o,e a _ (λz=>by rw [z,ht] at h; cases h) h⟩)
 ·exact .inr h
theorem ff.lj {a:ae} (e:ff t H H') (n:a≠t) (h:d9 K H a xs):d9 K H' a xs:=by
 rcases h with h | h
 ·exact .inl (e.Y6 n h)
 ·exact .inr h
mutual
noncomputable def vE:au->Bool
 | .dict _=>false
 | .list _=>false
 | .tuple ds=>sW ds
 | _=>true
noncomputable def sW:List au->Bool
 | []=>true
 | d::ds=>vE d && sW ds
end
mutual
theorem ff.den (e:ff t H H') (ht:H t=some (.lst ys)):∀ (d:au) (v:V),vE d=true->Den K H d v->Den K H' d v
 | .none,v,_,h=>by unfold Den at h ⊢; exact h
 | .bool b,v,_,h=>by unfold Den at h ⊢; exact h
 | .int i,v,_,h=>by unfold Den at h ⊢; exact h
 | .str x,v,_,h=>by unfold Den at h ⊢; exact h
 | .list ds,v,n,h=>by unfold vE at n; cases n
 | .tuple ds,v,n,h=>by unfold vE at n; unfold Den at h ⊢; obtain ⟨a,xs,h1,h2,h3⟩:=h; exact ⟨a,xs,h1,e.dk ht h2,ff.gh e ht ds xs n h3⟩
 | .dict kvs,v,n,h=>by unfold vE at n; cases n
theorem ff.gh (e:ff t H H') (ht:H t=some (.lst ys)):∀ (ds:List au) (xs:List V),sW ds=true->bQ K H ds xs->bQ K H' ds xs
 | [],xs,_,h=>by unfold bQ at h ⊢; exact h
 | d::ds,xs,n,h=>by
  unfold sW at n; rw [Qz] at n
  unfold bQ at h ⊢; obtain ⟨x,r,h1,h2,h3⟩:=h; exact ⟨x,r,h1,ff.den e ht d x n.1 h2,ff.gh e ht ds r n.2 h3⟩
end
def gq (K:Rb) (H:Hp) (t a:ae) (ns:List Int) (N:Nat):Prop:=(∃ p q:Int,0<=p/\p<=N/\H t=some (.lst [.ref a,.int p,.int q]))/\d9 K H a (ns.map V.int)
section
variable {a:ae} {N M:Nat}
theorem gq.same (h:gq K H t a ns N) (e:aD H H'):gq K H' t a ns N:=by
 obtain ⟨⟨p,q,h1,h0,h2⟩,h3⟩:=h
 exact ⟨⟨p,q,h1,h0,e t _ h2⟩,e.lj h3⟩
theorem gq.more (h:gq K H t a ns N) (e:N<=M):gq K H t a ns M:=by
 obtain ⟨⟨p,q,h1,h0,h2⟩,h3⟩:=h
 exact ⟨⟨p,q,h1,by omega,h2⟩,h3⟩
theorem gq.ne (h:gq K H t a ns N) {b:ae} (hb:H b=none):b≠t:=by
 obtain ⟨⟨p,q,h1,h0,h2⟩,h3⟩:=h
 intro z
 rw [z,h2] at hb
 cases hb
end
theorem aBB {a:ae} {r:List V} (h:ns.map V.int=.ref a::r):False:=by
 cases ns with
 | nil=>cases h
 | cons _ _=>rw [Qw] at h; cases h
theorem kB {a:ae} {p q:Int} {u:HO} (h2:H t=some (.lst [.ref a,.int p,.int q])) (h:d9 K H a (ns.map V.int)):d9 K (upd H t u) a (ns.map V.int):=by
 rcases h with (h | ⟨o,h⟩) | h
 ·have n:a≠t:=λz=>by
   rw [z,h2] at h
   injection h with h
   injection h with h
   exact aBB h.symm
  exact .inl (.inl (by rw [aF n]; exact h))
 ·have n:a≠t:=λz=>by
   rw [z,h2] at h
   cases h
  exact .inl (.inr ⟨o,by rw [aF n]; exact h⟩)
 ·exact .inr h
theorem jF (ns:List Int):eP (.list (ns.map .int))=true:=by
 unfold eP
 induction ns with
 | nil=>unfold List.map jL; rfl
 | cons n r ih=>rw [Qw]; unfold jL; rw [ih]; unfold eP; rfl
theorem lX (f:α->au) (h:∀ x,(f x).canLay0=true):∀ l:List α,au.canLayAll0 (l.map f)=true
 | []=>by unfold List.map au.canLayAll0; rfl
 | x::r=>by rw [Qw]; unfold au.canLayAll0; rw [h x,lX f h r]; rfl
theorem nS {k:Nat} (f:α->au) (h:∀ x,(f x).depth<=k):∀ l:List α,au.depthAll (l.map f)<=k
 | []=>by unfold List.map au.depthAll; exact Jo _
 | x::r=>by rw [Qw]; unfold au.depthAll; exact Nat.max_le.mpr ⟨h x,nS f h r⟩
theorem pL (i:Int):(au.int i).canLay0=true:=by unfold au.canLay0; rfl
theorem rO (i:Int):(au.int i).depth<=0:=by unfold au.depth; exact Qg _
theorem yX (ns:List Int):(au.list (ns.map .int)).canLay0=true:=by unfold au.canLay0; exact lX _ pL ns
theorem yY (ns:List Int):(au.tuple (ns.map .int)).canLay0=true:=by unfold au.canLay0; exact lX _ pL ns
theorem aAM (ns:List Int):(au.list (ns.map .int)).depth<=1:=by unfold au.depth; exact Zr (nS _ rO ns)
theorem aAN (ns:List Int):(au.tuple (ns.map .int)).depth<=1:=by unfold au.depth; exact Zr (nS _ rO ns)
theorem nU (h1:d.canLay0=true) (h2:d.depth<=64):SeqAt.shaped d=true:=by
 unfold SeqAt.shaped
 rw [h1,decide_eq_true h2]
 rfl
theorem hU (ns:List Int):SeqAt.shaped (.list (ns.map .int))=true:=nU (yX ns) (Qx (aAM ns) (by decide))
theorem iI (ns:List Int):SeqAt.shaped (.tuple (ns.map .int))=true:=nU (yY ns) (Qx (aAN ns) (by decide))
theorem iJ (ns:List Int):eP (.tuple (ns.map .int))=true:=by
 have h:=jF ns
 unfold eP at h ⊢
 exact h
theorem _root_.L2.dz.Gw {k:Nat} (r:dz k A):A.units+64 < cm:=by have:=r.un; omega
def VM:Sp:=λvs H Q _=>∃ c a:Int,vs = [.int c,.int a]/\0<=a/\a<=1000000/\∀ r,Q (.int r) H
theorem sX:c_ ["cell", "at", "one", "two", "three"] ["cell", "at"] (aI yS):=.of
theorem aEg (G:Fn K mg "_law_e_whirl" yS ["cell", "at"] f fd):b_ P w K mg base d7 1 f fd ["cell", "at"] VM:=by
 refine G.fn.oK sX λfh A outer s H vs Q E hr h=>?_
 ·obtain ⟨c,a,rfl,a0,a1,k⟩:=h
  refine ⟨_,(aE (bJ (aP IA (pv 0) (aY xU aH aH) (aU _))
   (aJ (aR (pv 0)))
   aS)
  (aE (aX (i:=2) sX.nd rfl (Or.inl rfl) (aY oZ (aY eF (aY eF (aY iB (aY oZ (pv 0) aH) aH) (aY iB (pv 1) aH)) aH) aH))
  (aE (aX (i:=3) sX.nd rfl (Or.inl rfl) (aY oZ (aY eF (aY eF (aY eF (aY iB (pv 2) (pv 2)) (aY iB (aY iB aH (pv 1)) (pv 1))) (aY iB aH (pv 2))) aH) aH))
  (aE (aX (i:=4) sX.nd rfl (Or.inl rfl) (aY oZ (aY eF (aY eF (aY eF (aY iB (pv 3) (pv 3)) (aY iB aH (pv 3))) (pv 2)) (aY iB aH (pv 1))) aH))
  (aJ (aR (aY eF (aY iB (pv 3) aH) (pv 4)))))))),?_⟩
  refine ⟨_,rfl,_,_,rfl,rfl,⟨by decide,by decide,by decide⟩,_,_,rfl,rfl,_,rfl,?_⟩
  refine gK (λc1=>?_) (λc1=>?_)
  ·exact ⟨_,rfl,k _⟩
  ·refine ⟨_,rfl,_,_,rfl,rfl,(show (0:Int) < _ by decide),_,_,rfl,rfl,.inr ⟨by decide,by decide⟩,_,rfl,_,_,rfl,rfl,.inr ⟨by decide,by decide⟩,_,_,rfl,rfl,_,_,rfl,rfl,_,_,rfl,rfl,(show (0:Int) < _ by decide),?_⟩
   generalize hf:((c % 2147483423*40013+a*15073+83) % 2147483399:Int)=f1
   have b1:0<=f1/\f1 < 2147483399:=by rw [<- hf]; exact ⟨Zi _ (by decide),Zj _ (by decide)⟩
   refine ⟨_,rfl,_,rfl,_,_,rfl,rfl,.inl ⟨by omega,by omega⟩,_,rfl,_,_,rfl,rfl,.inl ⟨by decide,by decide⟩,_,rfl,_,_,rfl,rfl,.inr ⟨by omega,by omega⟩,_,_,rfl,rfl,_,rfl,_,_,rfl,rfl,.inl ⟨by decide,by decide⟩,_,_,rfl,rfl,_,_,rfl,rfl,_,_,rfl,rfl,(show (0:Int) < _ by decide),?_⟩
   generalize hg:((f1*f1+521*a*a+11*f1+7) % 2147483353:Int)=f2
   have b2:0<=f2/\f2 < 2147483353:=by rw [<- hg]; exact ⟨Zi _ (by decide),Zj _ (by decide)⟩
   refine ⟨_,rfl,_,rfl,_,_,rfl,rfl,.inl ⟨by omega,by omega⟩,_,rfl,_,_,rfl,rfl,.inl ⟨by decide,by decide⟩,_,_,rfl,rfl,_,rfl,_,_,rfl,rfl,_,rfl,_,_,rfl,rfl,.inl ⟨by decide,by decide⟩,_,_,rfl,rfl,_,_,rfl,rfl,(show (0:Int) < _ by decide),?_⟩
   exact ⟨_,rfl,_,_,rfl,rfl,.inr ⟨by decide,by decide⟩,_,rfl,_,_,rfl,rfl,k _⟩
def jN (K:Rb):Sp:=λvs H Q _=>∃ (t a:ae) (ns:List Int) (N:Nat) (m:Int),vs = [.ref t,.int m]/\gq K H t a ns N/\N<=900000/\0 < m/\m.natAbs < 2^4000/\∀ r H',0<=r->r < m->ff t H H'->gq K H' t a ns (N+1)->Q (.int r) H'
theorem nV:c_ ["jar", "many", "at", "cell", "found"] ["jar", "many"] (aI kQ):=.of
theorem aEh {EK:az} (G:Fn K mg "_law_e_scoop" kQ ["jar", "many"] f fd) (B:Bl mg) (DQ:Fn K mg "_law_e_whirl" yS ["cell", "at"] fS EK):b_ P w K mg base d7 2 f fd ["jar", "many"] (jN K):=by
 have Fo:b_ P w K mg base d7 1 fS EK ["cell", "at"] VM:=aEg DQ
 refine G.fn.oK nV λfh A outer s H vs Q E hr h=>?_
 ·obtain ⟨t,a,ns,N,m,rfl,⟨⟨p,q,hp,hpN,ht⟩,k7⟩,hN,ua,vq,k⟩:=h
  have r1:dz 1 _:=hr
  refine ⟨_,(aE (bJ (aP wN (bN cN (pv 0) aH (λ_ _=>rfl)) (pv 1) (aU _))
   (aE (aX (i:=2) nV.nd rfl (Or.inl rfl) (bN cN (pv 0) aH (λ_ _=>rfl)))
  (aE (aX (i:=3) nV.nd rfl (Or.inl rfl) (aY eF (aY iB aH (pv 2)) aH))
  (aE (bJ (aP wN (pv 2) (aL bB rfl B.len eQ (aA (bN cN (pv 0) aH (λ_ _=>rfl)) aC)) (aU _))
   (aJ (aX (i:=3) nV.nd rfl (Or.inl rfl) (bN cN (bN cN (pv 0) aH (λ_ _=>rfl)) (pv 2) (λ_ _=>rfl))))
   (aJ (bJ (aP mM (aL bB rfl B.len eQ (aA (bN cN (pv 0) aH (λ_ _=>rfl)) aC)) aH (aU _))
   (aJ (aX (i:=3) nV.nd rfl (Or.inl rfl) (aY eF (aY oZ (bN cN (bN cN (pv 0) aH (λ_ _=>rfl)) (aY oZ (aY eF (aY iB aH (pv 2)) aH) (aL bB rfl B.len eQ (aA (bN cN (pv 0) aH (λ_ _=>rfl)) aC))) (λ_ _=>rfl)) aH) (aY iB (pv 2) aH))))
   aS)))
  (aE (tN (aY eF (pv 2) aH) (xT (pv 0) aH pV))
  (aJ (tN (aW DQ Fo r1 rfl (aA (pv 3) (aA (pv 2) aC))) (xT (pv 0) aH pV)))))))
   aS)
  (aE (aX (i:=4) nV.nd rfl (Or.inl rfl) (aY oZ (bN cN (pv 0) aH (λ_ _=>rfl)) (pv 1)))
  (aE (tN (aY aEf (bN cN (pv 0) aH (λ_ _=>rfl)) (pv 1)) (xT (pv 0) aH pV))
  (aJ (aR (pv 4)))))),?_⟩
  have last:∀ (p1 r:Int) (H':Hp),0<=p1->p1<=N+1->ff t H H'->H' t=some (.lst [.ref a,.int p1,.int r])->d9 K H' a (ns.map V.int)->Q (.int (r % m)) (upd H' t (.lst [.ref a,.int p1,.int (r / m)])):=λp1 r H' h0 h1 b' h2 h3 =>
   k _ _ (Zi _ (by omega)) (Zj _ ua) (b'.trans ff.at) ⟨⟨p1,r / m,h0,by omega,aB⟩,kB h2 h3⟩
  refine ⟨_,rfl,t,_,2,.int q,rfl,rfl,d9.of ht,rfl,_,rfl,_,_,rfl,rfl,_,rfl,?_⟩
  refine gK (λc1=>?_) (λc1=>?_)
  ·refine ⟨_,rfl,t,_,1,.int p,rfl,rfl,d9.of ht,rfl,?_⟩
   refine ⟨_,rfl,_,_,rfl,rfl,.inl ⟨by decide,by decide⟩,_,_,rfl,rfl,?_⟩
   refine ⟨_,rfl,_,rfl,t,_,0,.ref a,rfl,rfl,d9.of ht,rfl,a,_,rfl,.inl k7,_,_,rfl,rfl,_,rfl,?_⟩
   refine gK (λc2=>?_) (λc2=>?_)
   ·have c2':p < ((ns.map V.int).length:Int):=of_decide_eq_true c2
    rw [Qc] at c2'
    have fu:p.toNat < ns.length:=by omega
    have u5:ue (ns.map V.int) p=some (.int (ns[p.toNat])):=by
     have h1:(ns.map V.int)[p.toNat]?=some (.int (ns[p.toNat])):=by rw [Qh,Qb fu]; rfl
     have h2:=gE h1
     rwa [Wh hp] at h2
    refine ⟨_,rfl,t,_,0,.ref a,rfl,rfl,d9.of ht,rfl,_,rfl,a,_,_,_,rfl,rfl,k7,u5,?_⟩
    refine ⟨_,rfl,_,_,rfl,rfl,_,rfl,t,_,_,1,rfl,rfl,ht,rfl,?_⟩
    refine ⟨_,rfl,_,rfl,_,_,rfl,hp,by omega,λr=>⟨_,rfl,t,_,_,2,rfl,rfl,aB,rfl,?_⟩⟩
    refine ⟨_,rfl,t,_,2,.int r,rfl,rfl,d9.of aB,rfl,_,rfl,_,_,rfl,rfl,ua,?_⟩
    refine ⟨_,rfl,t,_,2,.int r,rfl,rfl,d9.of aB,rfl,_,rfl,_,_,rfl,rfl,⟨ua,vq⟩,_,rfl,t,_,_,2,rfl,rfl,aB,rfl,?_⟩
    exact ⟨_,rfl,last (p+1) r _ (by omega) (by omega) (ff.at.trans ff.at) aB (kB (p:=p+1) (q:=q) aB (kB ht k7))⟩
   ·refine ⟨_,rfl,t,_,0,.ref a,rfl,rfl,d9.of ht,rfl,a,_,rfl,.inl k7,_,_,rfl,rfl,_,rfl,?_⟩
    refine gK (λc3=>?_) (λc3=>?_)
    ·have xy:0 < ns.length:=by
      have:=of_decide_eq_true c3
      rw [Qc] at this
      omega
     have fu:((7*p+3) % (ns.length:Int)).toNat < ns.length:=by
      have:=Zi (7*p+3) (show (ns.length:Int)≠0 by omega)
      have:=Zj (7*p+3) (show (0:Int) < ns.length by omega)
      omega
     have u5:ue (ns.map V.int) ((7*p+3) % ((ns.map V.int).length:Int))=some (.int (ns[((7*p+3) % (ns.length:Int)).toNat])):=by
      have h1:(ns.map V.int)[((7*p+3) % (ns.length:Int)).toNat]?=some (.int (ns[((7*p+3) % (ns.length:Int)).toNat])):=by rw [Qh,Qb fu]; rfl
      have h2:=gE h1
      rw [Qc]
      rwa [Wh (Zi _ (by omega))] at h2
     refine ⟨_,rfl,t,_,0,.ref a,rfl,rfl,d9.of ht,rfl,_,rfl,_,_,rfl,rfl,.inl ⟨by decide,by decide⟩,_,_,rfl,rfl,_,rfl,t,_,0,.ref a,rfl,rfl,d9.of ht,rfl,a,_,rfl,.inl k7,_,_,rfl,rfl,(show (0:Int) < ((ns.map V.int).length:Int) by rw [Qc]; omega),a,_,_,_,rfl,rfl,k7,u5,_,_,rfl,rfl,(show (0:Int) < _ by decide),_,rfl,_,_,rfl,rfl,.inr ⟨by decide,by decide⟩,_,_,rfl,rfl,?_⟩
     refine ⟨_,rfl,_,_,rfl,rfl,_,rfl,t,_,_,1,rfl,rfl,ht,rfl,?_⟩
     refine ⟨_,rfl,_,rfl,_,_,rfl,hp,by omega,λr=>⟨_,rfl,t,_,_,2,rfl,rfl,aB,rfl,?_⟩⟩
     refine ⟨_,rfl,t,_,2,.int r,rfl,rfl,d9.of aB,rfl,_,rfl,_,_,rfl,rfl,ua,?_⟩
     refine ⟨_,rfl,t,_,2,.int r,rfl,rfl,d9.of aB,rfl,_,rfl,_,_,rfl,rfl,⟨ua,vq⟩,_,rfl,t,_,_,2,rfl,rfl,aB,rfl,?_⟩
     exact ⟨_,rfl,last (p+1) r _ (by omega) (by omega) (ff.at.trans ff.at) aB (kB (p:=p+1) (q:=q) aB (kB ht k7))⟩
    ·show _
     refine ⟨_,rfl,_,_,rfl,rfl,_,rfl,t,_,_,1,rfl,rfl,ht,rfl,?_⟩
     refine ⟨_,rfl,_,rfl,_,_,rfl,hp,by omega,λr=>⟨_,rfl,t,_,_,2,rfl,rfl,aB,rfl,?_⟩⟩
     refine ⟨_,rfl,t,_,2,.int r,rfl,rfl,d9.of aB,rfl,_,rfl,_,_,rfl,rfl,ua,?_⟩
     refine ⟨_,rfl,t,_,2,.int r,rfl,rfl,d9.of aB,rfl,_,rfl,_,_,rfl,rfl,⟨ua,vq⟩,_,rfl,t,_,_,2,rfl,rfl,aB,rfl,?_⟩
     exact ⟨_,rfl,last (p+1) r _ (by omega) (by omega) (ff.at.trans ff.at) aB (kB (p:=p+1) (q:=q) aB (kB ht k7))⟩
  ·show _
   refine ⟨_,rfl,t,_,2,.int q,rfl,rfl,d9.of ht,rfl,_,rfl,_,_,rfl,rfl,ua,?_⟩
   refine ⟨_,rfl,t,_,2,.int q,rfl,rfl,d9.of ht,rfl,_,rfl,_,_,rfl,rfl,⟨ua,vq⟩,_,rfl,t,_,_,2,rfl,rfl,ht,rfl,?_⟩
   exact ⟨_,rfl,last p q _ hp (by omega) (ff.refl _ _) ht k7⟩
theorem WO (n:Int):∀ (l:List Int) (last:Int),(∀ x∈l,last < x)->l.Pairwise (· < ·)->(∀ x∈l,x < n)->cU n last (l.map .int)=true
 | [],_,_,_,_=>rfl
 | x::r,last,h1,h2,h3=>by
  rw [Qw,jJ]
  have pq:=Jv.mp h2
  rw [decide_eq_true (h1 x (Qm ..)),decide_eq_true (h3 x (Qm ..)),WO n r x pq.1 pq.2 (λy hy=>h3 y (Qi _ hy))]
  rfl
theorem lY {n:Int} (h0:l≠[]) (h1:∀ x∈l,0<=x/\x < n) (h2:l.Pairwise (· < ·)):cB n (gH l)=true:=by
 have e:cB n (gH l)=(!(l.map au.int).isEmpty && cU n (-1) (l.map .int)):=rfl
 rw [e,WO n l (-1) (λx hx=>by have:=(h1 x hx).1; omega) h2 (λx hx=>(h1 x hx).2)]
 cases l with
 | nil=>exact absurd rfl h0
 | cons _ _=>rfl
theorem sG (n:Int):∀ (l:List Int) (last:Int),cU n last (l.map .int)=true->l.Pairwise (· < ·)/\∀ x∈l,last < x/\x < n
 | [],_,_=>⟨.nil,λ_ h=>by cases h⟩
 | x::r,last,h=>by
  rw [Qw,jJ,Qz,Qz] at h
  obtain ⟨⟨h1,h2⟩,h3⟩:=h
  have h1:=of_decide_eq_true h1
  have h2:=of_decide_eq_true h2
  obtain ⟨i1,i2⟩:=sG n r x h3
  refine ⟨Jv.mpr ⟨λy hy=>(i2 y hy).1,i1⟩,λy hy=>?_⟩
  rcases Qj.mp hy with rfl | hy
  ·exact ⟨h1,h2⟩
  ·exact ⟨by have:=(i2 y hy).1; omega,(i2 y hy).2⟩
theorem bA {n:Int} (h:cB n (gH l)=true):l≠[]/\(∀ x∈l,0<=x/\x < n)/\l.Pairwise (· < ·):=by
 have e:(!(l.map au.int).isEmpty && cU n (-1) (l.map .int))=true:=h
 rw [Qz] at e
 obtain ⟨h1,h2⟩:=sG n l (-1) e.2
 refine ⟨λz=>by rw [z] at e; simp at e,λx hx=>⟨by have:=(h2 x hx).1; omega,(h2 x hx).2⟩,h1⟩
theorem vF {n:Int}:∀ (l:List Int) (lo:Int),lo<=n->(∀ x∈l,lo<=x/\x < n)->l.Pairwise (· < ·)->(l.length:Int)<=n - lo
 | [],lo,h,_,_=>by simp; omega
 | x::r,lo,h,h1,h2=>by
  have pq:=Jv.mp h2
  have hx:=h1 x (Qm ..)
  have:=vF r (x+1) (by omega) (λy hy=>⟨by have:=pq.1 y hy; omega,(h1 y (Qi _ hy)).2⟩) pq.2
  rw [Jk]
  omega
theorem iS {n:Int} (hn:0<=n) (h1:∀ x∈l,0<=x/\x < n) (h2:l.Pairwise (· < ·)):(l.length:Int)<=n:=by
 have:=vF l 0 hn h1 h2
 omega
theorem JJ (x:V) : [x].length<=ag:=by rw [Rf]; simp
theorem kc (x y:V) : [x,y].length<=ag:=by rw [Rf]; simp
theorem iK (h:n<=1000):n<=ag:=by rw [Rf]; omega
theorem jA {n:Int} (h1:1<=n) (h2:n<=6) (h3:ws.length<=12) (h4:∀ l∈ws,cB n (gH l)=true):iR (mH n ws)=true:=by
 show (decide (1<=n) && decide (n<=6) && decide ((ws.map gH).length<=12) && (ws.map gH).all (cB n))=true
 rw [decide_eq_true h1,decide_eq_true h2,Qc,decide_eq_true h3,Xs,Xs,Xs,Jq]
 intro d hd
 obtain ⟨l,hl,rfl⟩:=Xp.mp hd
 exact h4 l hl
def rP (K:Rb):Sp:=λvs H Q _=>∃ (t a:ae) (ns:List Int) (N:Nat) (n:Int),vs = [.ref t,.int n]/\gq K H t a ns N/\N<=800000/\1<=n/\n<=6/\∀ l p H',cB n (gH l)=true->ff t H H'->gq K H' t a ns (N+8)->d8 K H' p (l.map V.int)->Q (.ref p) H'
theorem yZ:c_ ["jar", "hands", "often", "some"] ["jar", "hands"] (aI qM):=.of
set_option maxHeartbeats 1000000 in
theorem aFL {EK:az} (G:Fn K mg "_law_e_able" qM ["jar", "hands"] f fd) (B:Bl mg) (nc:Fn K mg "_law_e_scoop" kQ ["jar", "many"] fS EK) (m_:b_ P w K mg base d7 2 fS EK ["jar", "many"] (jN K)):b_ P w K mg base d7 3 f fd ["jar", "hands"] (rP K):=by
 refine G.fn.oK yZ λfh A outer s H vs Q E hr h=>?_
 ·obtain ⟨t,a,ns,N,n,rfl,hJ,hN,j7,jc,k⟩:=h
  have r2:dz 2 _:=hr
  refine ⟨_,(aE (aX (i:=2) yZ.nd rfl (Or.inr rfl) (aY eF aH (aW nc m_ r2 rfl (aA (pv 0) (aA aH aC)))))
  (aE (aX (i:=3) yZ.nd rfl (Or.inl rfl) (cS iX rfl B.tuple gG (aA (gF (own:=["hand"]) (fr:=[0,2]) (fk:=["jar", "often"]) (bL (aI qM) ["jar", "hands", "often", "some"] rfl rfl (by decide +kernel)) rfl (eD rfl B.range (aA (pv 1) aC))
    (λ_ _ _ _=>(aV (i:=0) (show (["hand", "jar", "often"]:List ax).Nodup by decide +kernel) rfl (Or.inl rfl))) (λ_ _ _ _=>yA (aP dY (aW nc m_ r2 rfl (aA (pv 1) (aA (pv 2) aC))) aH (aU _)))
    (λ_ _ _ _=>(pv 0))) aC)))
  (aE (bJ (aP (aGZ hr.Gw) (pv 3) (cC aC) (aU _))
   (aJ (aX (i:=3) yZ.nd rfl (Or.inl rfl) (cC (aA (aW nc m_ r2 rfl (aA (pv 0) (aA (pv 1) aC))) aC))))
   aS)
  (aJ (aR (pv 3)))))),?_⟩
  refine ⟨_,rfl,t,a,ns,N,3,rfl,hJ,by omega,by decide,by decide,λr H1 Sf Hq b1 J1=>⟨_,_,rfl,rfl,?_⟩⟩
  refine ⟨_,rfl,n,rfl,by omega,by omega,jW (lo:=0) (n:=n.toNat) (λσ=>∃ v,σ = [v,some (.ref t),some (.int (2+r))]) (λi zs H2=>∃ l:List Int,zs=l.map V.int/\l.Pairwise (· < ·)/\(∀ x∈l,0<=x/\x < i)/\ff t H H2/\gq K H2 t a ns (N+1+i)) (iK (by omega)) ⟨none,rfl⟩ ⟨[],rfl,.nil,λ_ h=>(Qq h).elim,b1,J1⟩ ?_ ?_ ?_⟩
  ·rintro i zs H2 ⟨l,rfl,hp,hb,_⟩
   rw [Qc]
   have:=iS (n:=(i:Int)) (by omega) hb hp
   omega
  ·rintro i zs σ H2 hi ⟨v,rfl⟩ ⟨l,rfl,hp,hb,b2,J2⟩ hz
   refine ⟨_,rfl,_,rfl,t,a,ns,N+1+i,2+r,rfl,J2,by omega,by omega,by omega,λr3 H3 h30 h31 b3 J3=>⟨rfl,_,rfl,?_⟩⟩
   refine gK (λc1=>?_) (λc1=>?_)
   ·refine ⟨_,rfl,hz,⟨_,rfl⟩,l++[0+(i:Int)],by rw [Qt]; rfl,Xy.mpr ⟨hp,by simp,λx hx y hy=>?_⟩,λx hx=>?_,b2.trans b3,J3⟩
    ·rw [Qu.mp hy]
     have:=hb x hx
     omega
    ·rcases Jd.mp hx with hx | hx
     ·have:=hb x hx
      omega
     ·rw [Qu.mp hx]
      omega
   ·exact ⟨⟨_,rfl⟩,l,rfl,hp,λx hx=>by have:=hb x hx; omega,b2.trans b3,J3⟩
  ·rintro zs H2 ⟨l,rfl,hp,hb,b2,J2⟩ z hz
   refine ⟨z,_,rfl,.inl ⟨d9.of aB,λq hq=>?_⟩⟩
   have s3:=(aD.new (o:=.lst (l.map V.int)) hz).trans (aD.new (o:=.tup (l.map V.int)) hq)
   have e3:upd (upd H2 z (.lst (l.map V.int))) q (.tup (l.map V.int)) q=some (.tup (l.map V.int)):=aB
   generalize upd (upd H2 z (.lst (l.map V.int))) q (.tup (l.map V.int))=H3 at s3 e3 ⊢
   refine ⟨_,rfl,iK (Jo _),λz2 Ko=>?_⟩
   have s4:=aD.new (o:=.tup []) Ko
   refine ⟨.tuple (l.map .int),.tuple (([]:List Int).map .int),cV.mpr ⟨q,rfl,s4.dk (d8.of e3)⟩,cV.mpr ⟨z2,rfl,d8.of aB⟩,iJ _,iJ _,iI _,iI _,_,rfl,?_⟩
   have J4:=(J2.same s3).same s4
   have b4:=b2.trans (ff.of (s3.trans s4))
   have e4:=s4 _ _ e3
   generalize upd H3 z2 (.tup [])=H4 at s4 J4 b4 e4 ⊢
   refine gK (λc1=>?_) (λc1=>?_)
   ·refine ⟨_,rfl,_,rfl,t,a,ns,_,n,rfl,J4,by omega,by omega,by omega,λr5 H5 L! K? b5 J5=>⟨JJ _,λp G5=>?_⟩⟩
    refine ⟨_,rfl,k [r5] p _ (lY (by simp) (λx hx=>?_) (by simp)) (b4.trans (b5.trans (ff.of (aD.new G5)))) ((J5.same (aD.new G5)).more (by omega)) (d8.of aB)⟩
    rw [Qu.mp hx]
    exact ⟨L!,K?⟩
   ·refine ⟨_,rfl,k l q _ (lY (λz=>?_) (λx hx=>by have:=hb x hx; omega) hp) b4 (J4.more (by omega)) (d8.of e4)⟩
    rw [z] at c1
    exact c1 (by decide +kernel)
end Ab
namespace Ab
def jG (ws:List (List Int)) (hs:List Int) (g:Int) (w:Nat) (t:Int):Prop:=hs[w]?=some g/\∃ l,ws[w]?=some l/\t∈l/\t≠g
def RL (ws:List (List Int)) (hs:List Int):Nat->Int->Int->Prop
 | 0,h,x=>h=x
 | k+1,h,x=>h=x∨∃ w o,jG ws hs h w o/\RL ws hs k o x
def fY (ws:List (List Int)) (hs:List Int):Int->List (Nat×Int×Int)->Int->Prop
 | h,[],x=>h=x
 | h,s::r,x=>s.2.1=h/\jG ws hs h s.1 s.2.2/\fY ws hs s.2.2 r x
theorem RL.refl:∀ (k:Nat) (h:Int),RL ws hs k h h
 | 0,_=>rfl
 | _+1,_=>.inl rfl
theorem RL.succ:∀ {k:Nat} {h x:Int},RL ws hs k h x->RL ws hs (k+1) h x
 | 0,_,_,e=>.inl e
 | k+1,_,_,.inl e=>.inl e
 | k+1,_,_,.inr ⟨w,o,e,r⟩=>.inr ⟨w,o,e,RL.succ r⟩
theorem RL.mono {k:Nat} {h x:Int} (r:RL ws hs k h x) (le:k<=m):RL ws hs m h x:=by
 induction le with
 | refl=>exact r
 | step _ ih=>exact ih.succ
theorem RL.snoc:∀ {k:Nat} {h g t:Int} {w:Nat},RL ws hs k h g->jG ws hs g w t->RL ws hs (k+1) h t
 | 0,_,_,_,w,e,d=>by subst e; exact .inr ⟨w,_,d,rfl⟩
 | k+1,_,_,_,w,.inl e,d=>by subst e; exact .inr ⟨w,_,d,RL.refl _ _⟩
 | k+1,_,_,_,_,.inr ⟨w',o,e,r⟩,d=>.inr ⟨w',o,e,RL.snoc r d⟩
theorem RL.closed {S:Int->Prop} (hc:∀ g w t,S g->jG ws hs g w t->S t):∀ {k:Nat} {h x:Int},S h->RL ws hs k h x->S x
 | 0,_,_,s,e=>e ▸ s
 | _+1,_,_,s,.inl e=>e ▸ s
 | _+1,_,_,s,.inr ⟨w,o,e,r⟩=>RL.closed hc (hc _ w o s e) r
def sH (ws:List (List Int)) (hs:List Int) (n:Nat) (h v:Int):Prop:=(∃ x,RL ws hs n h x/\v=((hs.count x:Nat):Int))/\∀ k x,RL ws hs k h x->v<=((hs.count x:Nat):Int)
theorem sH.le {h v:Int} (m:sH ws hs n h v):v<=((hs.count h:Nat):Int):=m.2 0 h rfl
theorem sH.Oh {h o v u:Int} {w:Nat} (m:sH ws hs n h v) (m2:sH ws hs n o u) (e:jG ws hs h w o):v<=u:=by
 obtain ⟨x,r,rfl⟩:=m2.1
 exact m.2 (n+1) x (show RL ws hs (n+1) h x from .inr ⟨w,o,e,r⟩)
def nF (n:Int) (ws:List (List Int)) (hs lv:List Int):Prop:=lv.length=n.toNat/\∀ (h:Nat) (v:Int),lv[h]?=some v->sH ws hs n.toNat h v/\((hs.count (h:Int):Nat):Int) - v < 2
def UE (n:Int) (ws:List (List Int)) (hs:List Int) (ss:List (Nat×Int×Int)):Prop :=
 ∃ h x,ss≠[]/\fY ws hs h ss x/\(h::ss.map (·.2.2)).Nodup/\0<=h/\h < n/\RL ws hs n.toNat h x/\2<=((hs.count h:Nat):Int) - ((hs.count x:Nat):Int)
theorem nW:∀ (n:Nat) (l:List Int),l.Nodup->(∀ x∈l,0<=x/\x < (n:Int))->l.length<=n
 | 0,[],_,_=>Qg _
 | 0,x::_,_,h=>by have:=h x (.head _); omega
 | n+1,l,hn,h=>by
  by_cases hm:(n:Int)∈l
  ·have h1:=nW n (l.erase (n:Int)) (hn.erase _) λx hx=>by
    have h2:=(hn.mem_erase_iff).mp hx
    have h3:=h x h2.2
    have:=h2.1
    omega
   rw [List.length_erase_of_mem hm] at h1
   omega
  ·have h1:=nW n l hn λx hx=>by
    have h3:=h x hx
    have:x≠(n:Int):=λz=>hm (z ▸ hx)
    omega
   omega
end Ab
namespace L2
open PySem
theorem aD.wr {a:ae} {u:HO} (e:aD H H') (h:H a=none):aD H (upd H' a u):=λb o q=>by
 rw [aF (λz=>by rw [z,h] at q; cases q)]
 exact e b o q
end L2
namespace Ab
open PySem L2
theorem vG {h:Int}:iH (.int h) l=true↔h∈l:=by
 show (l.any (·==h))=true↔_
 rw [Xb]
 constructor
 ·rintro ⟨x,hx,e⟩
  have:x=h:=by simpa using e
  exact this ▸ hx
 ·exact λhx=>⟨h,hx,by simp⟩
theorem fJ (h:sF ws (xG hs)=true):hs.length=ws.length/\∀ (j:Nat) (h:Int) (l:List Int),hs[j]?=some h->ws[j]?=some l->h∈l:=by
 have h':(decide ((hs.map au.int).length=ws.length) && ((hs.map au.int).zip ws).all λp=>iH p.1 p.2)=true:=h
 rw [Qc,Qz,Jq] at h'
 refine ⟨of_decide_eq_true h'.1,λj h l hj hl=>?_⟩
 refine vG.mp (h'.2 (.int h,l) (Qd (i:=j) ?_))
 rw [Jb]
 exact ⟨by rw [Qh,hj]; rfl,hl⟩
theorem zC (h1:hs.length=ws.length) (h2:∀ (j:Nat) (h:Int) (l:List Int),hs[j]?=some h->ws[j]?=some l->h∈l):sF ws (xG hs)=true:=by
 show (decide ((hs.map au.int).length=ws.length) && ((hs.map au.int).zip ws).all λp=>iH p.1 p.2)=true
 rw [Qc,decide_eq_true h1,Xs,Jq]
 rintro ⟨d,l⟩ hm
 obtain ⟨j,hj⟩:=Qs.mp hm
 rw [Jb] at hj
 obtain ⟨vt,BQ⟩:=hj
 have vt:(hs.map au.int)[j]?=some d:=vt
 have BQ:ws[j]?=some l:=BQ
 rw [Qh] at vt
 cases q:hs[j]? with
 | none=>rw [q] at vt; cases vt
 | some h =>
  rw [q] at vt
  obtain rfl:au.int h=d:=Option.some.inj vt
  exact vG.mpr (h2 j h l q BQ)
theorem rN.hand {x:V} {n:Int} (g:rN K H x y n ws hs) {h:Int} (e:hs[i]?=some h):0<=h/\h < n:=by
 obtain ⟨_,_,_,hw⟩:=aZ g.2.1
 obtain ⟨hl,hd⟩:=fJ g.2.2.2
 have hi:i < ws.length:=by rw [<- hl]; exact (Qa.mp e).1
 have hm:=hd i h ws[i] e (Qb hi)
 exact (bA (hw _ (Ys hi))).2.1 h hm
theorem zD {xs:List Int} (h:(xs.map V.int)[i]?=some v):∃ a,xs[i]?=some a/\v=.int a:=by
 rw [Qh] at h
 cases q:xs[i]? with
 | none=>rw [q] at h; cases h
 | some a=>rw [q] at h; exact ⟨a,rfl,(Option.some.inj h).symm⟩
theorem iT {n:Int} (h:j < n.toNat):(bT n hs)[j]?=some ((hs.count (j:Int):Nat):Int):=by
 unfold bT
 rw [Qh,vD h]
 rfl
theorem UU {k:Int} (h0:0<=k) (h1:k < n):zk n k=some k.toNat:=by
 unfold zk
 rw [if_pos h0,if_pos (by omega)]
def sP (E:Nat->Int->Prop) (r:List (Key×V)):Prop:=(∀ k v,bX r k=some v->∃ (w:Nat) (t:Int),k=.inl t/\v=.int (w:Nat)/\E w t)/\∀ w t,E w t->(bX r (.inl t)).isSome=true
theorem sP.nil {E:Nat->Int->Prop} (h:∀ w t,¬ E w t):sP E []:=⟨λk v e=>(by rw [aDS] at e; cases e),λw t e=>(h w t e).elim⟩
theorem sP.put {E:Nat->Int->Prop} {r:List (Key×V)} (h:sP E r) (w:Nat) (t:Int):sP (λw' t'=>E w' t'∨(w'=w/\t'=t)) (eR r (.inl t) (.int (w:Nat))):=by
 refine ⟨λk v e=>?_,λw' t' e=>?_⟩
 ·rw [uD] at e
  by_cases hk:k=Sum.inl t
  ·rw [if_pos hk] at e
   exact ⟨w,t,hk,(Option.some.inj e).symm,.inr ⟨rfl,rfl⟩⟩
  ·rw [if_neg hk] at e
   obtain ⟨w',t',h1,h2,h3⟩:=h.1 k v e
   exact ⟨w',t',h1,h2,.inl h3⟩
 ·rw [uD]
  by_cases hk:(Sum.inl t':Key)=Sum.inl t
  ·rw [if_pos hk]; rfl
  ·rw [if_neg hk]
   rcases e with e | ⟨_,e⟩
   ·exact h.2 w' t' e
   ·exact absurd (by rw [e]) hk
theorem sP.congr {E E':Nat->Int->Prop} {r:List (Key×V)} (h:sP E r) (e:∀ w t,E w t↔E' w t):sP E' r:=⟨λk v q=>let ⟨w,t,a,b,c⟩:=h.1 k v q; ⟨w,t,a,b,(e w t).mp c⟩,λw t q=>h.2 w t ((e w t).mpr q)⟩
structure Rows (H:Hp) (rp:ae) (qs:List ae) (rs:List (List (Key×V))):Prop where
 lst:H rp=some (.lst (qs.map V.ref))
 len:qs.length=rs.length
 nd:qs.Nodup
 row:∀ (g:Nat) q r,qs[g]?=some q->rs[g]?=some r->H q=some (.dK r)
theorem Rows.same {rp:ae} {qs:List ae} {rs:List (List (Key×V))} (h:Rows H rp qs rs) (s:aD H H'):Rows H' rp qs rs:=⟨s _ _ h.lst,h.len,h.nd,λg q r a b=>s _ _ (h.row g q r a b)⟩
theorem Rows.put {rp:ae} {qs:List ae} {rs:List (List (Key×V))} (h:Rows H rp qs rs) {g:Nat} {q:ae} {r r':List (Key×V)} (hq:qs[g]?=some q) (hr:rs[g]?=some r):Rows (upd H q (.dK r')) rp qs (rs.set g r'):=by
 have hg:=h.row g q r hq hr
 have nq:rp≠q:=λz=>by have:=h.lst; rw [z,hg] at this; cases this
 refine ⟨by rw [aF nq]; exact h.lst,by rw [Ze]; exact h.len,h.nd,λg2 q2 r2 h1 h2=>?_⟩
 rw [Jy] at h2
 by_cases e:g=g2
 ·subst e
  rw [if_pos rfl] at h2
  rw [hq] at h1
  cases h1
  by_cases hl:g < rs.length
  ·rw [if_pos hl] at h2; cases h2; exact aB
  ·rw [if_neg hl] at h2; cases h2
 ·rw [if_neg e] at h2
  have n2:q2≠q:=λz=>by
   subst z
   have fu:g < qs.length:=(Qa.mp hq).1
   exact e ((Ym fu h.nd).mp (hq.trans h1.symm))
  rw [aF n2]
  exact h.row g2 q2 r2 h1 h2
def Fb (E:Int->Nat->Int->Prop) (rs:List (List (Key×V))) (m:Nat):Prop:=∀ (g:Nat) r,rs[g]?=some r->sP (E g) r/\r.length<=m
def nX (K:Rb):Sp:=λvs H Q _=>∃ x y n ws hs,vs = [x,y]/\rN K H x y n ws hs/\∀ rp H' qs rs,aD H H'->H rp=none->(∀ q∈qs,H q=none)->Rows H' rp qs rs->rs.length=n.toNat->Fb (jG ws hs) rs 100->Q (.ref rp) H'
theorem jS:c_ ["book", "deal", "rows", "work", "giver", "able", "taker"] ["book", "deal"] (aI kA):=.of
theorem pM (G:Fn K mg "handing" kA ["book", "deal"] f fd) (B:Bl mg):b_ P w K mg base d7 1 f fd ["book", "deal"] (nX K):=by
 refine G.fn.oK jS λfh A outer s H vs Q E hr h=>?_
 ·obtain ⟨x,y,n,ws,hs,rfl,g,k⟩:=h
  refine ⟨_,(aE (lR (i:=2) (own:=["hand"]) (fr:=[]) (fk:=[]) (bL (aI kA) ["book", "deal", "rows", "work", "giver", "able", "taker"] rfl rfl (by decide +kernel)) rfl jS.nd rfl rfl rfl (eD rfl B.range (aA (bN cD (pv 0) aH (λ_ _=>rfl)) aC))
    (λ_ _ _ _=>(aV (i:=0) (show (["hand"]:List ax).Nodup by decide +kernel) rfl (Or.inl rfl))) (λ_ _ _ _=>eO)
    (λ_ _ _ _=>jY))
   (aE (iA ay.never rfl (aBq .t .t rfl B.enumerate rfl B.zip (aA (pv 1) (aA (bN cD (pv 0) aH (λ_ _=>rfl)) aC))) (oW rfl (dP (aV (i:=3) jS.nd rfl (Or.inl rfl)) (dP (oW rfl (dP (aV (i:=4) jS.nd rfl (Or.inl rfl)) (dP (aV (i:=5) jS.nd rfl (Or.inl rfl)) lO))) lO)))
    (aJ (iA ay.never rfl (oX (pv 5)) (aV (i:=6) jS.nd rfl (Or.inl rfl))
     (aJ (bJ (aP oJ (pv 6) (pv 4) (aU _))
      (aJ (iZ (bV hr) (bN cN (pv 2) (pv 4) (λ_ _=>rfl)) (pv 6) (pv 3) rfl))
      aS)))))
   (aJ (aR (pv 2))))),?_⟩
  obtain ⟨CK,j7,jc⟩:=g.len
  obtain ⟨a,b,ys,rfl,ha,qv,tm⟩:=lG g.1
  obtain ⟨c0,rfl,K7⟩:=cV.mp g.2.2.1
  obtain ⟨mw,hdg⟩:=fJ g.2.2.2
  obtain ⟨_,_,gk,ip⟩:=aZ g.2.1
  have yl:=cA tm
  rw [Qc] at yl
  refine ⟨_,rfl,a,_,0,.int n,rfl,rfl,ha,rfl,n,rfl,by omega,by omega,jW (lo:=0) (n:=n.toNat) (λσ=>∃ v,σ = [v]) (λi zs H2=>∃ qs:List ae,zs=qs.map V.ref/\qs.length=i/\aD H H2/\qs.Nodup/\∀ q∈qs,H q=none/\H2 q=some (.dK [])) ?_ ⟨none,rfl⟩ ⟨[],rfl,rfl,aD.refl H,We,λ_ h=>(Qq h).elim⟩ ?_ ?_ ?_⟩
  ·rw [Rf]; omega
  ·rintro i zs H2 ⟨qs,rfl,hq,_⟩
   rw [Qc]; omega
  ·rintro i zs σ H2 hi ⟨v,rfl⟩ ⟨qs,rfl,hq,s2,nd,zl⟩ hz
   refine cR ?_
   intro p hp
   refine ⟨hz,⟨_,rfl⟩,qs++[p],by rw [Qt]; rfl,by rw [Qe,hq]; rfl,s2.trans (aD.new hp),?_,λq uz=>?_⟩
   ·rw [Xe]
    refine ⟨nd,by simp,λx hx y hy e=>?_⟩
    rw [Qu.mp hy] at e
    have:=(zl x hx).2
    rw [e,hp] at this; cases this
   ·rcases Jd.mp uz with h | h
    ·exact ⟨(zl q h).1,(aD.new hp) _ _ (zl q h).2⟩
    ·rw [Qu.mp h]
     exact ⟨s2.free hp,aB⟩
  ·rintro zs H2 ⟨qs,rfl,hq,s2,nd,zl⟩ rp Dl
   have s3:=s2.trans (aD.new (o:=.lst (qs.map V.ref)) Dl)
   have FR:H rp=none:=s2.free Dl
   have R3:Rows (upd H2 rp (.lst (qs.map V.ref))) rp qs (List.replicate n.toNat []):=⟨aB,by rw [Jg]; exact hq,nd,λg q r h1 h2=>by
    have er:r = []:=by
     rw [Xc] at h2
     split at h2
     ·exact (Option.some.inj h2).symm
     ·cases h2
    rw [er]
    exact (aD.new Dl) _ _ (zl q (Qd h1)).2⟩
   generalize upd H2 rp (.lst (qs.map V.ref))=H3 at s3 R3 ⊢
   have h6:∀ l∈ws,l.length<=6:=λl hl=>by
    obtain ⟨_,w2,w3⟩:=bA (ip l hl)
    have:=iS (by omega) w2 w3
    omega
   refine ⟨_,rfl,_,rfl,a,_,1,.ref b,rfl,rfl,s3.dk ha,rfl,c0,b,_,_,rfl,s3.dk K7,s3.dk qv,aAE (K:=K) (k1:=.t) (k2:=.t) (a:=c0) (b:=b) (xs:=hs.map V.int) (ys:=ys)
    (λi σ H4=>(∃ v3 v4 v5 v6,σ = [some (.ref a),some (.ref c0),some (.ref rp),v3,v4,v5,v6])/\aD H H4/\∃ rs,Rows H4 rp qs rs/\rs.length=n.toNat/\Fb (λg w t=>w < i/\jG ws hs g w t) rs (6*i))
    (by rw [Qc]; omega) ⟨⟨_,_,_,_,rfl⟩,s3,_,R3,Jg,λg r hr=>?_⟩ (λ_ σ H4 _ ⟨_,s4,_⟩=>⟨s4.dk K7,s4.dk qv⟩) ?_ ?_⟩
   ·have er:r = []:=by
     rw [Xc] at hr
     split at hr
     ·exact (Option.some.inj hr).symm
     ·cases hr
    rw [er]
    exact ⟨sP.nil λw t h=>by omega,Jo _⟩
   ·rintro i u v p q σ H4 hu hv ⟨⟨v3,v4,v5,v6,rfl⟩,s4,rs,R4,AW,E4⟩ hp hq il
    obtain ⟨h,hh,rfl⟩:=zD hu
    obtain ⟨dv,vz,CV⟩:=kX tm hv
    rw [Qh] at vz
    obtain ⟨l,hl,rfl⟩:∃ l,ws[i]?=some l/\gH l=dv:=by
     cases q:ws[i]? with
     | none=>rw [q] at vz; cases vz
     | some l=>rw [q] at vz; exact ⟨l,rfl,Option.some.inj vz⟩
    obtain ⟨aw,rfl,QJ⟩:=cV.mp CV
    obtain ⟨hh0,hh1⟩:=g.hand hh
    have xb:=h6 l (Qd hl)
    have aaf:i < 12:=by
     have:=(Qa.mp hh).1
     omega
    have sp:=aD.new (o:=.tup [.int h,.ref aw]) hp
    have Kz:upd H4 p (.tup [.int h,.ref aw]) q=none:=by rw [aF il]; exact hq
    have sq:=aD.new (o:=.tup [.int (i:Nat),.ref p]) Kz
    have ep:upd (upd H4 p (.tup [.int h,.ref aw])) q (.tup [.int (i:Nat),.ref p]) p=some (.tup [.int h,.ref aw]):=sq _ _ aB
    have eq:upd (upd H4 p (.tup [.int h,.ref aw])) q (.tup [.int (i:Nat),.ref p]) q=some (.tup [.int (i:Nat),.ref p]):=aB
    have s5:=s4.trans (sp.trans sq)
    have R5:=R4.same (sp.trans sq)
    generalize upd (upd H4 p (.tup [.int h,.ref aw])) q (.tup [.int (i:Nat),.ref p])=H5 at ep eq s5 R5 ⊢
    refine ⟨q,_,rfl,d8.of eq,rfl,_,_,rfl,_,_,rfl,p,_,rfl,d8.of ep,rfl,_,_,rfl,_,_,rfl,rfl,rfl,?_⟩
    have xc:h.toNat < qs.length:=by rw [R5.len,AW]; omega
    obtain ⟨qh,G4⟩:∃ qh,qs[h.toNat]?=some qh:=⟨_,Qb xc⟩
    have j_:((h.toNat:Nat):Int)=h:=by omega
    refine ⟨_,rfl,aw,rfl,⟨_,s5.dk QJ⟩,V1 (K:=K) (a:=aw) (xs:=l.map V.int) (λj σ H6=>(∃ v6,σ = [some (.ref a),some (.ref c0),some (.ref rp),some (.int (i:Nat)),some (.int h),some (.ref aw),v6])/\aD H H6/\∃ rs,Rows H6 rp qs rs/\rs.length=n.toNat/\Fb (λg w t=>(w < i/\jG ws hs g w t)∨(w=i/\g=h/\t∈l.take j/\t≠h)) rs (6*i+j))
     ⟨⟨_,rfl⟩,s5,rs,R5,AW,λg r hr=>⟨(E4 g r hr).1.congr λw t=>⟨.inl,λz=>z.elim id λz=>by rw [Yg] at z; exact (Qq z.2.2.1).elim⟩,(E4 g r hr).2⟩⟩ (λ_ σ H6 _ ⟨_,s6,_⟩=>s6.dk QJ) ?_ ?_⟩
    ·rintro j tv σ H6 Ω ⟨⟨v6,rfl⟩,s6,rs,R6,vk,E6⟩
     obtain ⟨t,ht,rfl⟩:=zD Ω
     have hj:j < l.length:=(Qa.mp ht).1
     have qi:l.take (j+1)=l.take j++[t]:=by rw [Jr,ht]; rfl
     refine ⟨_,rfl,_,rfl,rfl,_,rfl,?_⟩
     refine gK (λc=>?_) (λc=>?_)
     ·have Kv:t≠h:=λz=>by rw [z] at c; simp at c
      obtain ⟨r,hr⟩:∃ r,rs[h.toNat]?=some r:=⟨_,Qb (by rw [vk]; omega)⟩
      have u5:ue (qs.map V.ref) h=some (.ref qh):=by
       have:=gE (xs:=qs.map V.ref) (j:=h.toNat) (v:=.ref qh) (by rw [Qh,G4]; rfl)
       rwa [j_] at this
      have oi:=R6.row _ _ _ G4 hr
      have w_:=(E6 _ _ hr).2
      have e!:H qh=none:=(zl qh (Qd G4)).1
      refine ⟨_,rfl,_,rfl,_,rfl,rp,_,h,_,rfl,rfl,d9.of R6.lst,u5,_,rfl,qh,_,rfl,qF.k (k:=.inl t) oi (by rw [Rf]; omega),?_⟩
      refine ⟨⟨_,rfl⟩,s6.wr e!,rs.set h.toNat (eR r (.inl t) (.int (i:Nat))),R6.put G4 hr,by rw [Ze]; exact vk,λg2 r2 mv=>?_⟩
      rw [Jy] at mv
      by_cases eg:h.toNat=g2
      ·rw [if_pos eg,if_pos (by rw [vk]; omega)] at mv
       cases mv
       have Y!:((g2:Nat):Int)=h:=by omega
       refine ⟨((E6 _ _ hr).1.put i t).congr λw t'=>?_,Qx (gL _ _ _) (by omega)⟩
       rw [j_,Y!,qi]
       constructor
       ·rintro ((z | ⟨z1,z2,z3,z4⟩) | ⟨z1,z2⟩)
        ·exact .inl z
        ·exact .inr ⟨z1,z2,Jn _ z3,z4⟩
        ·exact .inr ⟨z1,rfl,by rw [z2]; simp,by rw [z2]; exact Kv⟩
       ·rintro (z | ⟨z1,z2,z3,z4⟩)
        ·exact .inl (.inl z)
        ·rcases Jd.mp z3 with z3 | z3
         ·exact .inl (.inr ⟨z1,z2,z3,z4⟩)
         ·exact .inr ⟨z1,Qu.mp z3⟩
      ·rw [if_neg eg] at mv
       refine ⟨(E6 _ _ mv).1.congr λw t'=>?_,Qx (E6 _ _ mv).2 (by omega)⟩
       have ng:¬ ((g2:Nat):Int)=h:=by omega
       constructor
       ·rintro (z | ⟨_,z2,_⟩)
        ·exact .inl z
        ·exact absurd z2 ng
       ·rintro (z | ⟨_,z2,_⟩)
        ·exact .inl z
        ·exact absurd z2 ng
     ·have Kv:t=h:=by simpa using c
      refine ⟨⟨_,rfl⟩,s6,rs,R6,vk,λg2 r2 mv=>⟨(E6 _ _ mv).1.congr λw t'=>?_,Qx (E6 _ _ mv).2 (by omega)⟩⟩
      rw [qi]
      constructor
      ·rintro (z | ⟨z1,z2,z3,z4⟩)
       ·exact .inl z
       ·exact .inr ⟨z1,z2,Jn _ z3,z4⟩
      ·rintro (z | ⟨z1,z2,z3,z4⟩)
       ·exact .inl z
       ·rcases Jd.mp z3 with z3 | z3
        ·exact .inr ⟨z1,z2,z3,z4⟩
        ·exact absurd ((Qu.mp z3).trans Kv) z4
    ·rintro σ H6 ⟨⟨v6,rfl⟩,s6,rs,R6,vk,E6⟩
     refine ⟨⟨_,_,_,_,rfl⟩,s6,rs,R6,vk,λg2 r2 mv=>⟨(E6 _ _ mv).1.congr λw t'=>?_,Qx (E6 _ _ mv).2 (by rw [Qc]; omega)⟩⟩
     rw [Qc,Jm]
     constructor
     ·rintro (⟨z1,z2⟩ | ⟨z1,z2,z3,z4⟩)
      ·exact ⟨by omega,z2⟩
      ·subst z1
       exact ⟨by omega,by rw [hh,z2],l,hl,z3,by rw [z2]; exact z4⟩
     ·rintro ⟨z1,z2⟩
      by_cases hw:w < i
      ·exact .inl ⟨hw,z2⟩
      ·have ew:w=i:=by omega
       subst ew
       obtain ⟨z3,l',z4,z5,z6⟩:=z2
       rw [hh] at z3
       rw [hl] at z4
       cases z4
       have ez:h=g2:=Option.some.inj z3
       exact .inr ⟨rfl,ez.symm,z5,by rw [ez]; exact z6⟩
   ·rintro σ H4 ⟨⟨v3,v4,v5,v6,rfl⟩,s4,rs,R4,AW,E4⟩
    refine ⟨_,rfl,k rp H4 qs rs s4 FR (λq hq=>(zl q hq).1) R4 AW λg r hr=>⟨(E4 g r hr).1.congr λw t=>⟨λz=>z.2,λz=>⟨?_,z⟩⟩,Qx (E4 g r hr).2 (by rw [Qc]; omega)⟩⟩
    rw [Qc]
    exact (Qa.mp z.1).1
def Tp (H H':Hp):Prop:=∀ p xs,H p=some (.tup xs)->H' p=some (.tup xs)
theorem Tp.of (s:aD H H'):Tp H H':=λ_ _ h=>s _ _ h
theorem Tp.upd {a:ae} {u:HO} (h:∀ xs,H a≠some (.tup xs)):Tp H (upd H a u):=λp xs e=>by
 have ne:p≠a:=λz=>h xs (by rw [<- z]; exact e)
 rw [aF ne]; exact e
theorem sY {fs:List (Key×V)} {os:List Int} (h:fs.map (·.1)=os.map Sum.inl) (t:Int):(bX fs (.inl t)).isSome=decide (t∈os):=by
 rw [<- iG]
 have:(fs.any λkv=>decide (kv.1=Sum.inl t))=((fs.map (·.1)).any λk=>decide (k=Sum.inl t)):=by rw [Yc]; rfl
 rw [this,h,Yc,Xg]
 simp
structure Tree (ws:List (List Int)) (hs:List Int) (n first:Int) (H:Hp) (fs:List (Key×V)) (os:List Int):Prop where
 keys:fs.map (·.1)=os.map Sum.inl
 nd:os.Nodup
 vo:∀ o∈os,0<=o/\o < n
 head:os[0]?=some first
 v0:bX fs (.inl first)=some .ft
 par:∀ (j:Nat) (t:Int),0 < j->os[j]?=some t->∃ (p:ae) (w:Nat) (g:Int) (i:Nat),bX fs (.inl t)=some (.ref p)/\H p=some (.tup [.int (w:Nat),.int g,.int t])/\jG ws hs g w t/\i < j/\os[i]?=some g
section
variable {n first:Int} {fs:List (Key×V)} {os:List Int}
theorem Tree.tp (T:Tree ws hs n first H fs os) (e:Tp H H'):Tree ws hs n first H' fs os :=
 ⟨T.keys,T.nd,T.vo,T.head,T.v0,λj t h0 h1=>let ⟨p,w,g,i,a,b,c⟩:=T.par j t h0 h1; ⟨p,w,g,i,a,e _ _ b,c⟩⟩
theorem Tree.len (T:Tree ws hs n first H fs os):os.length<=n.toNat:=nW _ _ T.nd λx hx=>by have:=T.vo x hx; omega
theorem Tree.F7 (T:Tree ws hs n first H fs os):fs.length=os.length:=by
 have:=congrArg Wf T.keys
 rwa [Qc,Qc] at this
theorem Tree.one (h0:0<=first) (h1:first < n):Tree ws hs n first H [(.inl first,.ft)] [first] :=
 ⟨rfl,by simp,λo ho=>by rw [Qu.mp ho]; exact ⟨h0,h1⟩,rfl,dQ rfl,λj t h2 h3=>by
  cases j with
  | zero=>omega
  | succ j=>simp at h3⟩
theorem Tree.grow (T:Tree ws hs n first H fs os) {w:Nat} {g t:Int} (hp:H p=some (.tup [.int (w:Nat),.int g,.int t])) (e:jG ws hs g w t) (hi:os[i]?=some g) (ht:t∉os) (r0:0<=t) (r1:t < n) :
  Tree ws hs n first H (fs++[(.inl t,.ref p)]) (os++[t]):=by
 have hv:bX fs (.inl t)=none:=by
  have:=sY T.keys t
  rw [decide_eq_false ht] at this
  cases q:bX fs (.inl t) with
  | none=>rfl
  | some v=>rw [q] at this; cases this
 have fu:i < os.length:=(Qa.mp hi).1
 have val:∀ j:Key,bX (fs++[(.inl t,.ref p)]) j=if j=.inl t then some (.ref p) else bX fs j:=λj=>rH _ _ _ _ hv
 have hf:first∈os:=Qd T.head
 refine ⟨by rw [Qt,Qt,T.keys]; rfl,?_,λo ho=>?_,?_,?_,λj t' h0 h1=>?_⟩
 ·rw [Xe]
  exact ⟨T.nd,by simp,λx hx y hy z=>ht (by rw [<- Qu.mp hy,<- z]; exact hx)⟩
 ·rcases Jd.mp ho with h | h
  ·exact T.vo o h
  ·rw [Qu.mp h]; exact ⟨r0,r1⟩
 ·rw [Ql (by omega)]; exact T.head
 ·rw [val,if_neg (λz=>ht (by have:first=t:=(by simpa using z); rw [<- this]; exact hf))]
  exact T.v0
 ·by_cases hj:j < os.length
  ·rw [Ql hj] at h1
   obtain ⟨p',w',g',i',a,b,c,d,e'⟩:=T.par j t' h0 h1
   have ne:(Sum.inl t':Key)≠Sum.inl t:=λz=>ht (by have:t'=t:=(by simpa using z); rw [<- this]; exact Qd h1)
   exact ⟨p',w',g',i',by rw [val,if_neg ne]; exact a,b,c,d,by rw [Ql (by omega)]; exact e'⟩
  ·have ej:j=os.length:=by
    have:=(Qa.mp h1).1
    rw [Qe] at this
    simp at this
    omega
   subst ej
   rw [Qo (Qg _),Jt] at h1
   have et:t'=t:=by simpa using h1.symm
   subst et
   exact ⟨p,w,g,i,by rw [val,if_pos rfl],hp,e,fu,by rw [Ql fu]; exact hi⟩
theorem Tree.rl (T:Tree ws hs n first H fs os):∀ (j:Nat) (t:Int),os[j]?=some t->RL ws hs j first t:=by
 intro j
 induction j using Nat.strongRecOn with
 | ind j ih =>
  intro t ht
  by_cases h0:j=0
  ·subst h0
   rw [T.head] at ht
   exact Option.some.inj ht
  ·obtain ⟨p,w,g,i,_,_,e,hi,hg⟩:=T.par j t (by omega) ht
   exact ((ih i hi g hg).snoc e).mono (by omega)
end
def zF (ws:List (List Int)) (hs os:List Int):Prop:=∀ g∈os,∀ w t,jG ws hs g w t->t∈os
def nY (K:Rb):Sp:=λvs H Q _=>∃ rp first qs rs n ws hs,vs = [.ref rp,.int first]/\Rows H rp qs rs/\rs.length=n.toNat/\Fb (jG ws hs) rs 100/\(∀ g w t,jG ws hs g w t->0<=t/\t < n)/\n<=7/\0<=first/\first < n /\
 ∀ fd H' fs os,aD H H'->H fd=none->H' fd=some (.dK fs)->Tree ws hs n first H' fs os->zF ws hs os->Q (.ref fd) H'
theorem lI:c_ ["rows", "first", "found", "waiting", "giver", "taker"] ["rows", "first"] (aI lE):=.of
theorem pN (G:Fn K mg "reached" lE ["rows", "first"] f fd) (B:Bl mg):b_ P w K mg base d7 1 f fd ["rows", "first"] (nY K):=by
 refine G.fn.oK lI λfh A outer s H vs Q E hr h=>?_
 ·obtain ⟨rp,first,qs,rs,n,ws,hs,rfl,R,zp,ER,ly,jc,zu,Et,k⟩:=h
  refine ⟨_,(aE (aX (i:=2) lI.nd rfl (Or.inl rfl) (aDW (pv 1) oS))
   (aE (aX (i:=3) lI.nd rfl (Or.inl rfl) (gW (aA (pv 1) aC)))
   (aE (tO ay.never (aDs (pv 3) (λ_=>rfl))
    (aE (aX (i:=4) lI.nd rfl (Or.inl rfl) (kI Rh Mb Mc Wz (pv 3) (aA aH aC)))
    (aJ (yJ (iA ay.never rfl (qH (bN cN (pv 0) (pv 4) (λ_ _=>rfl))) (aV (i:=5) lI.nd rfl (Or.inl rfl))
     (aJ (bJ (rB (nQ (bV hr) (pv 5) (pv 2)) (by with_unfolding_all rfl))
      (aE (iZ (bV hr) (pv 2) (pv 5) (cC (aA (aQ (bV hr) (bN cN (pv 0) (pv 4) (λ_ _=>rfl)) (pv 5) (λ_ _=>rfl)) (aA (pv 4) (aA (pv 5) aC)))) rfl)
      (aJ (cL (kI Rh Ro Rp fP (pv 3) (aA (pv 5) aC)))))
      aS)))))))
   (aJ (aR (pv 2)))))),?_⟩
  intro lh Ao
  refine ⟨_,rfl,.inl first,rfl,aB,?_⟩
  rw [kG]
  have s1:=aD.new (o:=.dK [(.inl first,.ft)]) Ao
  have e1:upd H lh (.dK [(.inl first,.ft)]) lh=some (.dK [(.inl first,.ft)]):=aB
  generalize upd H lh (.dK [(.inl first,.ft)])=H1 at s1 e1 ⊢
  refine ⟨_,rfl,JJ _,λwt G0=>?_⟩
  have CB:H wt=none:=s1.free G0
  have BA:lh≠wt:=λz=>by rw [z,G0] at e1; cases e1
  have s2:=s1.trans (aD.new (o:=.lst [.int first]) G0)
  have e2:=(aD.new (o:=.lst [.int first]) G0) _ _ e1
  have w2:upd H1 wt (.lst [.int first]) wt=some (.lst [.int first]):=aB
  generalize upd H1 wt (.lst [.int first])=H2 at s2 e2 w2 ⊢
  -- the while
  refine ⟨λm σ H3=>∃ (v4 v5:Option V) (mm:Nat) (fs:List (Key×V)) (os:List Int),σ = [some (.ref rp),some (.int first),some (.ref lh),some (.ref wt),v4,v5]/\m=n.toNat - mm/\aD H H3/\H3 lh=some (.dK fs)/\H3 wt=some (.lst ((os.drop mm).map V.int))/\Tree ws hs n first H3 fs os/\mm<=os.length /\
    ∀ (i:Nat) (g:Int),i < mm->os[i]?=some g->∀ w t,jG ws hs g w t->t∈os,
   ⟨n.toNat - 0,none,none,0,_,[first],rfl,rfl,s2,e2,w2,Tree.one zu Et,Jo _,λi g hi=>absurd hi (Nat.not_lt_zero _)⟩,?_⟩
  rintro m σ H3 ⟨v4,v5,mm,fs,os,rfl,rfl,s3,e3,w3,T3,hmm,Pc⟩
  refine ⟨_,rfl,!((os.drop mm).map V.int).isEmpty,.inl ⟨_,d9.of w3,rfl⟩,?_⟩
  by_cases p8:mm < os.length
  ·-- a turn
   have il:(os.drop mm)≠[]:=by
    intro z
    have:=congrArg Wf z
    rw [Xt] at this
    simp at this
    omega
   have hb:(!((os.drop mm).map V.int).isEmpty)=true:=by
    cases q:os.drop mm with
    | nil=>exact absurd q il
    | cons _ _=>rfl
   rw [hb]
   refine kN ?_
   have qd:os.drop mm=os[mm]::os.drop (mm+1):=Yh p8
   have KW:os[mm]?=some (os[mm]):=Qb p8
   generalize os[mm]=g at qd KW
   obtain ⟨QD,hg1⟩:=T3.vo g (Qd KW)
   have X4:=T3.len
   refine ⟨λd6 H'=>∃ m',m' < n.toNat - mm/\∃ (v4 v5:Option V) (mm:Nat) (fs:List (Key×V)) (os:List Int),d6 = [some (.ref rp),some (.int first),some (.ref lh),some (.ref wt),v4,v5]/\m'=n.toNat - mm/\aD H H'/\H' lh=some (.dK fs)/\H' wt=some (.lst ((os.drop mm).map V.int))/\Tree ws hs n first H' fs os/\mm<=os.length /\
    ∀ (i:Nat) (g:Int),i < mm->os[i]?=some g->∀ w t,jG ws hs g w t->t∈os,λd6 H' z=>z,?_⟩
   refine ⟨_,rfl,.inl ⟨rfl,_,d9.of w3⟩,?_⟩
   have PU:((os.drop mm).map V.int)[0]?=some (.int g):=by rw [qd]; rfl
   have PN:0 < ((os.drop mm).map V.int).length:=(Qa.mp PU).1
   refine ⟨wt,_,0,0,.int g,rfl,rfl,w3,by decide,by decide,qI (i:=0) (by decide) PN,PU,?_⟩
   have v!:((os.drop mm).map V.int).eraseIdx 0=(os.drop (mm+1)).map V.int:=by rw [qd]; rfl
   rw [v!]
   have s4:=s3.wr (u:=.lst ((os.drop (mm+1)).map V.int)) CB
   have e4:upd H3 wt (.lst ((os.drop (mm+1)).map V.int)) lh=some (.dK fs):=by rw [aF BA]; exact e3
   have w4:upd H3 wt (.lst ((os.drop (mm+1)).map V.int)) wt=some (.lst ((os.drop (mm+1)).map V.int)):=aB
   have T4:=T3.tp (Tp.upd (a:=wt) (u:=.lst ((os.drop (mm+1)).map V.int)) λxs z=>by rw [w3] at z; cases z)
   generalize upd H3 wt (.lst ((os.drop (mm+1)).map V.int))=H4 at s4 e4 w4 T4 ⊢
   -- the row
   have R4:=R.same s4
   have xc:g.toNat < qs.length:=by rw [R.len,zp]; omega
   have j_:((g.toNat:Nat):Int)=g:=by omega
   obtain ⟨qg,P5⟩:∃ q,qs[g.toNat]?=some q:=⟨_,Qb xc⟩
   obtain ⟨r,hr⟩:∃ r,rs[g.toNat]?=some r:=⟨_,Qb (by rw [zp]; omega)⟩
   have u5:ue (qs.map V.ref) g=some (.ref qg):=by
    have:=gE (xs:=qs.map V.ref) (j:=g.toNat) (v:=.ref qg) (by rw [Qh,P5]; rfl)
    rwa [j_] at this
   have oi:=R.row _ _ _ P5 hr
   have Bq:=s4 _ _ oi
   obtain ⟨Ld,hRl⟩:=ER _ _ hr
   rw [j_] at Ld
   have J7:qg≠lh:=λz=>by rw [z,Ao] at oi; cases oi
   have JZ:qg≠wt:=λz=>by rw [z,CB] at oi; cases oi
   have ZI:rp≠qg:=λz=>by have:=R.lst; rw [z,oi] at this; cases this
   refine ⟨_,rfl,_,rfl,rp,_,g,_,rfl,rfl,d9.of R4.lst,u5,qg,r,rfl,Bq,λo nf=>?_⟩
   have z5:upd H4 qg (.fm o (.dK r)) qg=some (.fm o (.dK r)):=aB
   have b5:ff qg H (upd H4 qg (.fm o (.dK r))):=λb u nb hb=>by rw [aF nb]; exact s4 _ _ hb
   have e5:upd H4 qg (.fm o (.dK r)) lh=some (.dK fs):=by rw [aF (Ne.symm J7)]; exact e4
   have w5:upd H4 qg (.fm o (.dK r)) wt=some (.lst ((os.drop (mm+1)).map V.int)):=by rw [aF (Ne.symm JZ)]; exact w4
   have T5:=T4.tp (Tp.upd (a:=qg) (u:=.fm o (.dK r)) λxs z=>by rw [Bq] at z; cases z)
   generalize upd H4 qg (.fm o (.dK r))=H5 at z5 b5 e5 w5 T5 ⊢
   refine uI (a:=qg) (o:=o) (kvs:=r) (λj σ H6=>∃ (v5:Option V) (fs:List (Key×V)) (os:List Int),σ = [some (.ref rp),some (.int first),some (.ref lh),some (.ref wt),some (.int g),v5]/\H6 qg=some (.fm o (.dK r))/\ff qg H H6/\H6 lh=some (.dK fs)/\H6 wt=some (.lst ((os.drop (mm+1)).map V.int))/\Tree ws hs n first H6 fs os/\mm+1<=os.length/\os[mm]?=some g /\
     (∀ (i:Nat) (g:Int),i < mm->os[i]?=some g->∀ w t,jG ws hs g w t->t∈os)/\∀ (i:Nat) k v t,i < j->r[i]?=some (k,v)->k=.inl t->t∈os)
    ⟨v5,fs,os,rfl,z5,b5,e5,w5,T5,p8,KW,Pc,λi k v t hi=>absurd hi (Nat.not_lt_zero _)⟩ (λj σ H6 _ ⟨_,_,_,_,h,_⟩=>h) ?_ ?_
   ·rintro j ⟨key,val⟩ σ H6 hj ⟨v5,fs,os,rfl,z6,b6,e6,w6,T6,xb,Er,GJ,LD⟩
    -- the key is a hand,its value a work
    obtain ⟨aaa,FP⟩:∃ v,bX r key=some v:=by
     have:(bX r key).isSome=true:=by
      rw [<- iG,Xb]
      exact ⟨_,Qd hj,by simp⟩
     cases q:bX r key with
     | none=>rw [q] at this; cases this
     | some v=>exact ⟨v,rfl⟩
    obtain ⟨wk,t,rfl,rfl,hE⟩:=Ld.1 _ _ FP
    obtain ⟨uy,a!⟩:=ly _ _ _ hE
    dsimp only [kV]
    have dn:∀ (Dh:List Int),t∈Dh->(∀ x∈os,x∈Dh)->∀ (i:Nat) k v t',i < j+1->r[i]?=some (k,v)->k=.inl t'->t'∈Dh:=λDh h1 h2 i k v t' hi hk he=>by
     by_cases BR:i < j
     ·exact h2 _ (LD i k v t' BR hk he)
     ·have:i=j:=by omega
      subst this
      rw [hj] at hk
      cases hk
      have:t=t':=by simpa using he
      rw [<- this]; exact h1
    refine ⟨_,rfl,_,rfl,lh,_,rfl,kF.k (k:=.inl t) e6,_,rfl,?_⟩
    rw [sY T6.keys]
    by_cases Ei:t∈os
    ·rw [decide_eq_true Ei]
     refine oH ?_
     exact ⟨_,fs,os,rfl,z6,b6,e6,w6,T6,xb,Er,GJ,dn os Ei λ_ h=>h⟩
    ·rw [decide_eq_false Ei]
     refine kN ?_
     have D?:H6 rp=some (.lst (qs.map V.ref)):=b6 _ _ ZI R.lst
     refine ⟨_,rfl,_,rfl,rp,_,g,_,rfl,rfl,d9.of D?,u5,_,rfl,qg,.int (wk:Nat),rfl,.inl ⟨r,.inl t,.inr ⟨o,z6⟩,rfl,FP.symm⟩,_,rfl,_,rfl,iK (show 3<=1000 by decide),λp hp=>?_⟩
     have sp:=aD.new (o:=.tup [.int (wk:Nat),.int g,.int t]) hp
     have ep:upd H6 p (.tup [.int (wk:Nat),.int g,.int t]) p=_:=aB
     have b7:ff qg H (upd H6 p (.tup [.int (wk:Nat),.int g,.int t])):=b6.trans (ff.of sp)
     have z7:=sp _ _ z6
     have e7:=sp _ _ e6
     have w7:=sp _ _ w6
     have T7:=T6.tp (Tp.of sp)
     generalize upd H6 p (.tup [.int (wk:Nat),.int g,.int t])=H7 at sp ep b7 z7 e7 w7 T7 ⊢
     have hv:bX fs (.inl t)=none:=by
      have:=sY T7.keys t
      rw [decide_eq_false Ei] at this
      cases q:bX fs (.inl t) with
      | none=>rfl
      | some v=>rw [q] at this; cases this
     have T7l:=T7.len
     have T7f:=T7.F7
     have T8:=T7.grow ep hE Er Ei uy a!
     have NM:eR fs (.inl t) (.ref p)=fs++[(.inl t,.ref p)]:=jX _ hv
     refine ⟨_,rfl,_,rfl,lh,_,rfl,qF.k (k:=.inl t) e7 (by rw [Rf]; omega),?_⟩
     rw [NM]
     have b8:ff qg H (upd H7 lh (.dK (fs++[(.inl t,.ref p)]))):=λb u nb hb=>by
      rw [aF (λz=>by rw [z,Ao] at hb; cases hb)]
      exact b7 b u nb hb
     have z8:upd H7 lh (.dK (fs++[(.inl t,.ref p)])) qg=some (.fm o (.dK r)):=by rw [aF J7]; exact z7
     have e8:upd H7 lh (.dK (fs++[(.inl t,.ref p)])) lh=_:=aB
     have w8:upd H7 lh (.dK (fs++[(.inl t,.ref p)])) wt=some (.lst ((os.drop (mm+1)).map V.int)):=by rw [aF (Ne.symm BA)]; exact w7
     have WY:=T8.tp (Tp.upd (a:=lh) (u:=.dK (fs++[(.inl t,.ref p)])) λxs z=>by rw [e7] at z; cases z)
     generalize upd H7 lh (.dK (fs++[(.inl t,.ref p)]))=H8 at b8 z8 e8 w8 WY ⊢
     refine ⟨_,rfl,.inl ⟨rfl,_,d9.of w8⟩,_,rfl,wt,_,.int t,rfl,rfl,w8,by rw [Qc,Xt,Rf]; omega,?_⟩
     have w?:(os.drop (mm+1)).map V.int++[V.int t]=((os++[t]).drop (mm+1)).map V.int:=by
      rw [List.drop_append_of_le_length xb,Qt]; rfl
     rw [w?]
     refine ⟨_,_,os++[t],rfl,by rw [aF JZ]; exact z8,λb u nb hb=>?_,by rw [aF BA]; exact e8,aB,WY.tp (Tp.upd λxs z=>by rw [w8] at z; cases z),by rw [Qe]; omega,by rw [Ql (by omega)]; exact Er,λi g' hi Du w t' e'=>?_,dn _ (by simp) λx hx=>Jn _ hx⟩
     ·rw [aF (λz=>by rw [z,CB] at hb; cases hb)]
      exact b8 b u nb hb
     ·rw [Ql (by omega)] at Du
      exact Jn _ (GJ i g' hi Du w t' e')
   ·rintro σ H6 ⟨v5,fs,os,rfl,z6,b6,e6,w6,T6,xb,Er,GJ,LD⟩
    refine ⟨qg,o,r,z6,nf,?_⟩
    have hole:=T6.len
    have s7:aD H (upd H6 qg (.dK r)):=λb u hb=>by
     by_cases K8:b=qg
     ·rw [K8] at hb ⊢
      rw [aB,<- oi]; exact hb
     ·rw [aF K8]; exact b6 b u K8 hb
    refine ⟨n.toNat - (mm+1),by omega,_,_,mm+1,fs,os,rfl,rfl,s7,by rw [aF (Ne.symm J7)]; exact e6,by rw [aF (Ne.symm JZ)]; exact w6,T6.tp (Tp.upd λxs z=>by rw [z6] at z; cases z),xb,λi g' hi Du w t e=>?_⟩
    by_cases r!:i < mm
    ·exact GJ i g' r! Du w t e
    ·have:i=mm:=by omega
     subst this
     rw [Er] at Du
     cases Du
     have hs:=Ld.2 w t e
     rw [<- iG,Xb] at hs
     obtain ⟨⟨k,v⟩,hk,he⟩:=hs
     obtain ⟨j,hj⟩:=Qs.mp hk
     exact LD j k v t (Qa.mp hj).1 hj (by simpa using he)
  ·have hlen:mm=os.length:=by omega
   have hb:(!((os.drop mm).map V.int).isEmpty)=false:=by rw [hlen,List.drop_length]; rfl
   rw [hb]
   refine oH ?_
   refine ⟨_,rfl,k lh H3 fs os s3 Ao e3 T3 λg hg w t e=>?_⟩
   obtain ⟨i,hi⟩:=Qs.mp hg
   exact Pc i g (by have:=(Qa.mp hi).1; omega) hi w t e
structure fj (H:Hp) (ps:List ae) (ss:List (Nat×Int×Int)):Prop where
 len:ps.length=ss.length
 at_:∀ (i:Nat) p s,ps[i]?=some p->ss[i]?=some s->H p=some (.tup [.int (s.1:Nat),.int s.2.1,.int s.2.2])
theorem fj.nil:fj H [] []:=⟨rfl,λi p s h=>by simp at h⟩
theorem fj.cons {ps:List ae} (h:fj H ps ss) {w:Nat} {g t:Int} (hp:H p=some (.tup [.int (w:Nat),.int g,.int t])):fj H (p::ps) ((w,g,t)::ss):=by
 refine ⟨by rw [Jk,Jk,h.len],λi p' s h1 h2=>?_⟩
 cases i with
 | zero =>
  have e1:p=p':=by simpa using h1
  have e2:(w,g,t)=s:=by simpa using h2
  subst e1 e2
  exact hp
 | succ i=>exact h.at_ i p' s (by simpa using h1) (by simpa using h2)
theorem fj.tp {ps:List ae} (h:fj H ps ss) (e:Tp H H'):fj H' ps ss:=⟨h.len,λi p s a b=>e _ _ (h.at_ i p s a b)⟩
def sZ (K:Rb):Sp:=λvs H Q _=>∃ k_ last fs os first n ws hs jl,vs = [.ref k_,.int last]/\H k_=some (.dK fs)/\Tree ws hs n first H fs os/\n<=7/\os[jl]?=some last /\
 ∀ p H' ps ss,aD H H'->H p=none->H' p=some (.lst (ps.map V.ref))->fj H' ps ss->fY ws hs first ss last->(first::ss.map (·.2.2)).Nodup->(∀ s∈ss,s.2.2∈os)->(0 < jl->ss≠[])->Q (.ref p) H'
theorem tD:c_ ["found", "last", "some", "step"] ["found", "last"] (aI rK):=.of
theorem vH (G:Fn K mg "way_to" rK ["found", "last"] f fd) (B:Bl mg):b_ P w K mg base d7 1 f fd ["found", "last"] (sZ K):=by
 refine G.fn.oK tD λfh A outer s H vs Q E hr h=>?_
 ·obtain ⟨k_,last,fs,os,first,n,ws,hs,jl,rfl,G',T,jc,uc,k⟩:=h
  refine ⟨_,(aE (aX (i:=2) tD.nd rfl (Or.inl rfl) (gW aC))
   (aE (aX (i:=3) tD.nd rfl (Or.inl rfl) (aQ (bV hr) (pv 0) (pv 1) (λ_ _=>rfl)))
   (aE (tO ay.never (rB (aE3 (pv 3)))
    (aE (cL (kI Rh Ro Rp fP (pv 2) (aA (pv 3) aC)))
    (aJ (aX (i:=3) tD.nd rfl (Or.inl rfl) (aQ (bV hr) (pv 0) (bN cD (pv 3) aH (λ_ _=>rfl)) (λ_ _=>rfl))))))
   (aJ (aR (aFr (pv 2) (pS lP aH))))))),?_⟩
  have Tl:=T.len
  have NR:n.toNat < ag:=by rw [Rf]; omega
  refine ⟨iK (show 0<=1000 by decide),λsm PZ=>?_⟩
  have s1:=aD.new (o:=.lst []) PZ
  have e1:upd H sm (.lst []) sm=some (.lst []):=aB
  generalize upd H sm (.lst [])=H1 at s1 e1 ⊢
  -- what stands at a found hand
  have vals:∀ (j:Nat) (t:Int),os[j]?=some t->∃ v,bX fs (.inl t)=some v/\((j=0/\v=.ft)∨∃ p w g i,0 < j/\v=.ref p/\H p=some (.tup [.int (w:Nat),.int g,.int t])/\jG ws hs g w t/\i < j/\os[i]?=some g):=λj t ht=>by
   by_cases hj:j=0
   ·subst hj
    rw [T.head] at ht
    cases ht
    exact ⟨_,T.v0,.inl ⟨rfl,rfl⟩⟩
   ·obtain ⟨p,w,g,i,a,b,c,d,e⟩:=T.par j t (by omega) ht
    exact ⟨_,a,.inr ⟨p,w,g,i,by omega,rfl,b,c,d,e⟩⟩
  obtain ⟨v0,PX,_⟩:=vals jl last uc
  refine ⟨_,rfl,_,rfl,k_,v0,rfl,.inl ⟨fs,.inl last,.inl (s1 _ _ G'),rfl,PX.symm⟩,?_⟩
  refine ⟨λm σ H2=>∃ (j:Nat) (t:Int) (v:V) (pf:List ae) (ss:List (Nat×Int×Int)),m=j/\σ = [some (.ref k_),some (.int last),some (.ref sm),some v]/\os[j]?=some t/\bX fs (.inl t)=some v/\aD H H2/\H2 sm=some (.lst (pf.map V.ref))/\fj H2 pf.reverse ss/\fY ws hs t ss last/\(t::ss.map (·.2.2)).Nodup /\
    (∀ x∈ss.map (·.2.2),∃ i:Nat,j < i/\os[i]?=some x)/\pf.length+j<=jl/\(j < jl->ss≠[]),
   ⟨jl,jl,last,v0,[],[],rfl,rfl,uc,PX,s1,e1,fj.nil,rfl,by simp,λx h=>by simp at h,by simp,λh=>by omega⟩,?_⟩
  rintro j σ H2 ⟨_,t,v,pf,ss,rfl,rfl,hj,hv,s2,e2,S2,P2,N2,I2,L2',L3⟩
  have q!:jl < os.length:=(Qa.mp uc).1
  obtain ⟨v',G1,cs⟩:=vals j t hj
  rw [hv] at G1
  cases G1
  rcases cs with ⟨rfl,rfl⟩ | ⟨p,w,g,i,QC,rfl,hp,hE,BR,hg⟩
  ·refine ⟨_,rfl,_,rfl,?_⟩
   refine oH ?_
   rw [T.head] at hj
   cases hj
   refine ⟨_,rfl,_,rfl,rfl,sm,_,rfl,d9.of e2,λp hp=>?_⟩
   have s3:=aD.new (o:=.lst (pf.map V.ref).reverse) hp
   refine k p _ pf.reverse ss (s2.trans s3) (s2.free hp) (by rw [aB,Yt]) (S2.tp (Tp.of s3)) P2 N2 (λx hx=>?_) L3
   obtain ⟨i,_,hi⟩:=I2 _ (Xp.mpr ⟨x,hx,rfl⟩)
   exact Qd hi
  ·refine ⟨_,rfl,_,rfl,?_⟩
   refine kN ?_
   obtain ⟨vg,PV,_⟩:=vals i g hg
   refine ⟨λd6 H'=>∃ m',m' < j/\∃ (j:Nat) (t:Int) (v:V) (pf:List ae) (ss:List (Nat×Int×Int)),m'=j/\d6 = [some (.ref k_),some (.int last),some (.ref sm),some v]/\os[j]?=some t/\bX fs (.inl t)=some v/\aD H H'/\H' sm=some (.lst (pf.map V.ref))/\fj H' pf.reverse ss/\fY ws hs t ss last/\(t::ss.map (·.2.2)).Nodup /\
    (∀ x∈ss.map (·.2.2),∃ i:Nat,j < i/\os[i]?=some x)/\pf.length+j<=jl/\(j < jl->ss≠[]),λd6 H' z=>z,?_⟩
   have hsz:(pf.map V.ref).length < ag:=by
    rw [Qc]
    exact Xk (Qx (Qx (Xj _ _) L2') (Qx (Je q!) Tl)) NR
   refine ⟨_,rfl,.inl ⟨rfl,_,d9.of e2⟩,_,rfl,sm,_,.ref p,rfl,rfl,e2,hsz,?_⟩
   have s3:aD H (upd H2 sm (.lst (pf.map V.ref++[.ref p]))):=s2.wr PZ
   have e3:upd H2 sm (.lst (pf.map V.ref++[.ref p])) sm=_:=aB
   have S3:=S2.tp (Tp.upd (a:=sm) (u:=.lst (pf.map V.ref++[.ref p])) λxs z=>by rw [e2] at z; cases z)
   generalize upd H2 sm (.lst (pf.map V.ref++[.ref p]))=H3 at s3 e3 S3 ⊢
   have AR:=s3 _ _ hp
   refine ⟨_,rfl,_,rfl,p,_,1,.int g,rfl,rfl,d8.of AR,rfl,k_,vg,rfl,.inl ⟨fs,.inl g,.inl (s3 _ _ G'),rfl,PV.symm⟩,?_⟩
   refine ⟨i,BR,i,g,vg,pf++[p],(w,g,t)::ss,rfl,rfl,hg,PV,s3,by rw [Qt]; exact e3,?_,⟨rfl,hE,P2⟩,?_,?_,?_,λ_=>by simp⟩
   ·rw [List.reverse_append]
    exact S3.cons AR
   ·show (g::t::ss.map (·.2.2)).Nodup
    rw [Jh]
    refine ⟨λhm=>?_,N2⟩
    have inj:∀ i',i < i'->os[i']?=some g->False:=λi' h1 h2=>by
     have:=(Ym (Qa.mp hg).1 T.nd).mp (hg.trans h2.symm)
     omega
    rcases Qj.mp hm with e | hm
    ·exact inj j BR (by rw [e]; exact hj)
    ·obtain ⟨i',h1,h2⟩:=I2 g hm
     exact inj i' (by omega) h2
   ·intro x hx
    rcases Qj.mp (show x∈t::ss.map (·.2.2) from hx) with rfl | hx
    ·exact ⟨j,BR,hj⟩
    ·obtain ⟨i',h1,h2⟩:=I2 x hx
     exact ⟨i',by omega,h2⟩
   ·rw [Qe]
    show pf.length+1+i<=jl
    omega
noncomputable def rQ:ax:=("steps_to_least" : ax) ++ ".<locals>." ++ "<lambda>"
theorem nZ {dr:List Int} {n g t:Int} {w:Nat} (hl:hs.length=ws.length):jG (ws++[dr]) (hs++[n]) g w t↔jG ws hs g w t∨(w=hs.length/\g=n/\t∈dr/\t≠n):=by
 unfold jG
 rcases Nat.lt_trichotomy w hs.length with h | h | h
 ·rw [Ql h,Ql (by omega)]
  exact ⟨.inl,λz=>z.elim id λz=>by omega⟩
 ·subst h
  rw [Qo (Qg _),Jt,hl,Qo (Qg _),Jt,Jp (by omega:hs.length<=ws.length)]
  constructor
  ·rintro ⟨e,l,e2,h1,h2⟩
   have e:n=g:=by simpa using e
   have e2:dr=l:=by simpa using e2
   subst e e2
   exact .inr ⟨rfl,rfl,h1,h2⟩
  ·rintro (⟨e,_⟩ | ⟨_,rfl,h1,h2⟩)
   ·cases e
   ·exact ⟨rfl,dr,rfl,h1,h2⟩
 ·rw [Jp (by rw [Qe]; show hs.length+1<=w; omega),Jp (by omega:hs.length<=w)]
  constructor
  ·rintro ⟨e,_⟩; cases e
  ·rintro (⟨e,_⟩ | ⟨e,_⟩)
   ·cases e
   ·omega
def zG (K:Rb) (Pt:ae):Sp:=λvs H Q _=>∃ (x:V) (dp ap mp:ae) (n:Int) (ws:List (List Int)) (hs dr ms:List Int),vs = [x,.ref dp,.ref ap,.ref mp]/\rN K H x (.ref dp) n ws hs/\d8 K H ap (dr.map V.int)/\cB n (gH dr)=true/\d8 K H mp (ms.map V.int)/\ms.length=n.toNat/\H Pt=some (.tab rQ) /\
 ∀ p H' ps ss os last,aD H H'->H p=none->H' p=some (.lst (ps.map V.ref))->fj H' ps ss->fY (ws++[dr]) (hs++[n]) n ss last->(n::ss.map (·.2.2)).Nodup->ss≠[]->zF (ws++[dr]) (hs++[n]) os->n∈os ->
  (∀ o∈os,o≠n->0<=o/\o < n/\ms.getD last.toNat 0<=ms.getD o.toNat 0)->last∈os->last≠n->(∀ s∈ss,s.2.2∈os)->Q (.ref p) H'
theorem tE:c_ ["book", "deal", "able", "measures", "nobody", "found", "last"] ["book", "deal", "able", "measures"] (aI lF):=.of
theorem aEj (G:Fn K mg "steps_to_least" lF ["book", "deal", "able", "measures"] f fd) (hc:fd.code=.ref c) (Z:Lm K mg base c Pt) (B:Bl mg) (GH:Fn K mg "handing" kA ["book", "deal"] DF DL) (GR:Fn K mg "reached" lE ["rows", "first"] fR dR) (GW:Fn K mg "way_to" rK ["found", "last"] DB DI):b_ P w K mg base d7 2 f fd ["book", "deal", "able", "measures"] (zG K Pt):=by
 have OH:b_ P w K mg base d7 1 DF DL ["book", "deal"] (nX K):=pM GH B
 have OR:b_ P w K mg base d7 1 fR dR ["rows", "first"] (nY K):=pN GR B
 have OW:b_ P w K mg base d7 1 DB DI ["found", "last"] (sZ K):=vH GW B
 refine G.fn.Pf hc tE (λvs H Q E h=>?_) (λA outer s H vs Q E hr h=>?_)
 ·obtain ⟨x,dp,ap,mp,n,ws,hs,dr,ms,rfl,_⟩:=h
  rfl
 ·obtain ⟨x,dp,ap,mp,n,ws,hs,dr,ms,rfl,g,u6,pj,AU,hml,hT,k⟩:=h
  have r1:dz 1 _:=hr
  refine ⟨_,(aE (aX (i:=4) tE.nd rfl (Or.inr rfl) (bN cD (pv 0) aH (λ_ _=>rfl)))
   (aE (aX (i:=5) tE.nd rfl (Or.inl rfl) (aW GR OR r1 rfl (aA (aY iD (aW GH OH r1 rfl (aA (pv 0) (aA (pv 1) aC)))
     (gW (aA (WU (own:=["hand"]) (fr:=[1]) (fk:=["deal"]) (bL (aI lF) ["book", "deal", "able", "measures", "nobody", "found", "last"] rfl rfl (by decide +kernel)) rfl (oX (pv 2))
      (λ_ _ _ _=>aV (i:=0) (show (["hand", "deal"]:List ax).Nodup by decide +kernel) rfl (Or.inl rfl)) (λ_ _ _ _=>eO) (λ_ _ _ _=>pv 0) (λ_ _ _ _=>aL (kR (K:=K) rfl) rfl B.len eQ (aA (pv 1) aC))) aC)))
     (aA (pv 4) aC))))
   (aE (aX (i:=6) tE.nd rfl (Or.inl rfl) (xB 3 rfl r1 rfl B.min Z rfl (q:=rQ) rfl
     (mY (own:=["hand"]) (fr:=[4]) (fk:=["nobody"]) (bL (aI lF) ["book", "deal", "able", "measures", "nobody", "found", "last"] rfl rfl (by decide +kernel)) rfl (pv 5)
      (λ_ _ _ _=>aV (i:=0) (show (["hand", "nobody"]:List ax).Nodup by decide +kernel) rfl (Or.inl rfl)) (λ_ _ _ _=>yA (aP oJ (pv 0) (pv 1) (aU _))) (λ_ _ _ _=>pv 0)) rfl rfl))
   (aJ (aR (aW GW OW r1 rfl (aA (pv 5) (aA (pv 6) aC)))))))),?_⟩
  obtain ⟨CK,j7,jc⟩:=g.len
  obtain ⟨dp',Z!,N3⟩:=cV.mp g.2.2.1
  cases Z!
  obtain ⟨a,b,ys,rfl,ha,qv,tm⟩:=lG g.1
  obtain ⟨_,_,gk,ip⟩:=aZ g.2.1
  obtain ⟨mw,rn⟩:=fJ g.2.2.2
  obtain ⟨Gn,uh,Gm⟩:=bA pj
  have aai:dr.length<=6:=by have:=iS (by omega) uh Gm; omega
  have ly:∀ g w t,jG (ws++[dr]) (hs++[n]) g w t->0<=t/\t < n+1:=λg w t e=>by
   rcases (nZ mw).mp e with ⟨_,l,h1,h2,_⟩ | ⟨_,_,h2,_⟩
   ·have:=(bA (ip l (Qd h1))).2.1 t h2; omega
   ·have:=uh t h2; omega
  refine ⟨_,rfl,a,_,0,.int n,rfl,rfl,ha,rfl,?_⟩
  refine ⟨_,rfl,_,rfl,.ref a,.ref dp,n,ws,hs,rfl,g,λrp H2 qs rs s2 Dl zl R2 zp ER=>?_⟩
  refine ⟨_,rfl,ap,rfl,⟨_,s2.dk u6⟩,aCZ (K:=K) (a:=ap) (xs:=dr.map V.int) (λσ=>∃ v,σ = [v,some (.ref dp)]) (λi zs H3=>H3=H2/\zs.length<=i/\sP (λw t=>w=hs.length/\t∈dr.take i) zs) (iK (by rw [Qc]; omega)) ⟨_,rfl⟩ ⟨rfl,Qg _,sP.nil λw t z=>by simp at z⟩
   (λi zs H3 z=>z.2.1) (λi zs H3 z=>by rw [z.1]; exact s2.dk u6) ?_ ?_⟩
  ·rintro i zs σ v H3 hv ⟨v0,rfl⟩ ⟨rfl,hz,hE⟩ hsz
   obtain ⟨t,ht,rfl⟩:=zD hv
   refine cR ?_
   refine ⟨_,rfl,_,rfl,dp,_,rfl,.inr (s2.dk N3),.inl t,rfl,hsz,⟨_,rfl⟩,rfl,Qx (gL _ _ _) (by omega),?_⟩
   rw [Qc]
   refine (hE.put hs.length t).congr λw t'=>?_
   rw [Jr,ht]
   constructor
   ·rintro (⟨h1,h2⟩ | ⟨h1,h2⟩)
    ·exact ⟨h1,Jn _ h2⟩
    ·exact ⟨h1,by rw [h2]; simp⟩
   ·rintro ⟨h1,h2⟩
    rcases Jd.mp h2 with h | h
    ·exact .inl ⟨h1,h⟩
    ·exact .inr ⟨h1,by simpa using h⟩
  ·rintro zs H3 ⟨rfl,hz,hE⟩ dq K2
   have aac:H3 rp=some (.lst (qs.map V.ref)):=R2.lst
   have sd:=aD.new (o:=.dK zs) K2
   have aah:H dq=none:=s2.free K2
   have ed:upd H3 dq (.dK zs) dq=some (.dK zs):=aB
   have Rd:=R2.same sd
   have s3:=s2.trans sd
   generalize upd H3 dq (.dK zs)=H4 at sd ed Rd s3 ⊢
   refine ⟨JJ _,λlq m?=>?_⟩
   have sl:=aD.new (o:=.lst [.ref dq]) m?
   have el:upd H4 lq (.lst [.ref dq]) lq=some (.lst [.ref dq]):=aB
   have s4:=s3.trans sl
   have Rl:=Rd.same sl
   have Sx:=sl _ _ ed
   generalize upd H4 lq (.lst [.ref dq])=H5 at sl el s4 Rl Sx ⊢
   have hqn:qs.length=n.toNat:=by rw [R2.len,zp]
   refine ⟨rp,lq,_,_,rfl,rfl,Rl.lst,el,by rw [Qc,Rf]; show _+1<=_; omega,λrq c!=>?_⟩
   have sr:=aD.new (o:=.lst (qs.map V.ref++[.ref dq])) c!
   have s5:=s4.trans sr
   have er:upd H5 rq (.lst (qs.map V.ref++[.ref dq])) rq=some (.lst ((qs++[dq]).map V.ref)):=by rw [aB,Qt]; rfl
   have Sw:=sr _ _ Sx
   have Rr:=Rl.same sr
   generalize upd H5 rq (.lst (qs.map V.ref++[.ref dq]))=H6 at sr s5 er Sw Rr ⊢
   have R6:Rows H6 rq (qs++[dq]) (rs++[zs]):=by
    refine ⟨er,by rw [Qe,Qe,R2.len]; rfl,?_,λg q r h1 h2=>?_⟩
    ·rw [Xe]
     refine ⟨R2.nd,by simp,λx hx y hy e=>?_⟩
     rw [Qu.mp hy] at e
     obtain ⟨i,hi⟩:=Qs.mp hx
     have KQ:i < rs.length:=by rw [<- R2.len]; exact (Qa.mp hi).1
     have:=R2.row i x _ hi (Qb KQ)
     rw [e,K2] at this; cases this
    ·by_cases hg:g < qs.length
     ·rw [Ql hg] at h1
      rw [Ql (by rw [<- R2.len]; exact hg)] at h2
      exact Rr.row g q r h1 h2
     ·have eg:g=qs.length:=by
       have:=(Qa.mp h1).1
       rw [Qe] at this
       simp at this
       omega
      subst eg
      rw [Qo (Qg _),Jt] at h1
      rw [R2.len,Qo (Qg _),Jt] at h2
      have e1:dq=q:=by simpa using h1
      have e2:zs=r:=by simpa using h2
      subst e1 e2
      exact Sw
   have E6:Fb (jG (ws++[dr]) (hs++[n])) (rs++[zs]) 100:=by
    intro g r Ep
    by_cases hg:g < rs.length
    ·rw [Ql hg] at Ep
     obtain ⟨e1,e2⟩:=ER g r Ep
     refine ⟨e1.congr λw t=>?_,e2⟩
     rw [nZ mw]
     exact ⟨.inl,λz=>z.elim id λz=>by omega⟩
    ·have eg:g=rs.length:=by
      have:=(Qa.mp Ep).1
      rw [Qe] at this
      simp at this
      omega
     subst eg
     rw [Qo (Qg _),Jt] at Ep
     have e2:zs=r:=by simpa using Ep
     subst e2
     refine ⟨hE.congr λw t=>?_,by rw [Qc] at hz; omega⟩
     rw [nZ mw,Qc,Jm]
     constructor
     ·rintro ⟨h1,h2⟩
      have:=uh t h2
      exact .inr ⟨h1,by omega,h2,by omega⟩
     ·rintro (⟨h1,_⟩ | ⟨h1,_,h2,_⟩)
      ·have h3:hs[w]?=some ((rs.length:Nat):Int):=h1
       have:=g.hand h3
       omega
      ·exact ⟨h1,h2⟩
   refine ⟨_,rfl,rq,n,qs++[dq],rs++[zs],n+1,ws++[dr],hs++[n],rfl,R6,by rw [Qe,zp]; show _+1=_; omega,E6,ly,by omega,by omega,by omega,λk_ H7 fs os s7 G' e7 T7 C7=>?_⟩
   have Y4:=s5.trans s7
   have T7l:=T7.len
   have Es:=T7.F7
   have Am:n∈os:=Qd T7.head
   refine ⟨_,rfl,k_,fs,rfl,e7,λo=>nR (a:=k_) (o:=o) (kvs:=fs) (λσ=>∃ v,σ = [v,some (.int n)]) (λi zs H8=>H8=upd H7 k_ (.fm o (.dK fs))/\zs=((os.take i).filter λo=>decide (o≠n)).map V.int) (iK (by omega)) ⟨_,rfl⟩ ⟨rfl,rfl⟩ (λi zs H8 z=>?_) (λi zs H8 z=>by rw [z.1]; exact aB) ?_ ?_⟩
   ·rw [z.2,Qc]
    exact Qx (Xw _ _) (by rw [Jf]; omega)
   ·rintro i X6 σ p H8 hp ⟨v,rfl⟩ ⟨rfl,rfl⟩ hsz
    obtain ⟨ov,KC,KA⟩:∃ ov,os[i]?=some ov/\p.1=.inl ov:=by
     have e:=congrArg (λl=>l[i]?) T7.keys
     simp only [Qh] at e
     rw [hp] at e
     cases q:os[i]? with
     | none=>rw [q] at e; cases e
     | some ov=>rw [q] at e; exact ⟨ov,rfl,Option.some.inj e⟩
    have qi:os.take (i+1)=os.take i++[ov]:=by rw [Jr,KC]; rfl
    rw [KA]
    refine ⟨_,rfl,_,rfl,rfl,_,rfl,?_⟩
    refine gK (λc=>?_) (λc=>?_)
    ·have il:ov≠n:=λz=>by rw [z] at c; simp [kV] at c
     refine ⟨_,rfl,hsz,⟨_,rfl⟩,rfl,?_⟩
     rw [qi,Yd,Qt]
     congr 1
     simp [il,kV]
    ·have il:ov=n:=by simpa [kV] using c
     refine ⟨⟨_,rfl⟩,rfl,?_⟩
     rw [qi,Yd,il]
     simp
   ·rintro X6 H8 ⟨rfl,rfl⟩ lp i5
    rw [Es,Jm] at *
    have D8:k_≠lp:=λz=>by rw [<- z,aB] at i5; cases i5
    have NV:H7 lp=none:=by rw [aF (Ne.symm D8)] at i5; exact i5
    have s8:aD H7 (upd (upd (upd H7 k_ (.fm o (.dK fs))) lp (.lst ((os.filter λo=>decide (o≠n)).map V.int))) k_ (.dK fs)):=λb u hb=>by
     by_cases zv:b=k_
     ·rw [zv] at hb ⊢
      rw [aB,<- e7]; exact hb
     ·rw [aF zv,aF (λz=>by rw [z,NV] at hb; cases hb),aF zv]
      exact hb
    have l8:(upd (upd (upd H7 k_ (.fm o (.dK fs))) lp (.lst ((os.filter λo=>decide (o≠n)).map V.int))) k_ (.dK fs)) lp=some (.lst ((os.filter λo=>decide (o≠n)).map V.int)):=by
     rw [aF (Ne.symm D8),aB]
    generalize upd (upd (upd H7 k_ (.fm o (.dK fs))) lp (.lst ((os.filter λo=>decide (o≠n)).map V.int))) k_ (.dK fs)=H8 at s8 l8 ⊢
    have JN:=Y4.trans s8
    have CF:∀ o∈os,o≠n->0<=o/\o < n:=λo ho il=>by
     have:=T7.vo o ho
     omega
    obtain ⟨t0,uy⟩:∃ t,t∈dr:=List.exists_mem_of_ne_nil _ Gn
    have aab:=uh t0 uy
    have NK:t0∈os:=C7 n Am hs.length t0 ((nZ mw).mpr (.inr ⟨rfl,rfl,uy,by omega⟩))
    refine ⟨os.filter λo=>decide (o≠n),λo=>ms.getD o.toNat 0,.ref mp,⟨lp,rfl,.inl (d9.of l8)⟩,Yv (a:=t0) (Xf.mpr ⟨NK,decide_eq_true (by omega)⟩),JN _ _ hT,rfl,λo ho=>?_,λj m H9 s9 hj pz _=>?_⟩
    ·obtain ⟨i!,zo⟩:=Xf.mp ho
     obtain ⟨o0,o1⟩:=CF o i! (of_decide_eq_true zo)
     refine ⟨o0,by omega,mp,_,rfl,.inl (JN.dk AU),?_⟩
     rw [Qh,Qb (by omega)]
     show some (V.int _)=some (V.int (ms.getD o.toNat 0))
     rw [Xh,Qb (by omega)]
     rfl
    ·obtain ⟨ua,vq⟩:=Xf.mp (Qd hj)
     have BM:m≠n:=of_decide_eq_true vq
     obtain ⟨jl,uc⟩:=Qs.mp ua
     have O4:=JN.trans s9
     have O2:=s8.trans s9
     refine ⟨_,rfl,_,rfl,k_,m,fs,os,n,n+1,ws++[dr],hs++[n],jl,rfl,O2 _ _ e7,T7.tp (Tp.of O2),by omega,uc,λp XR ps ss D3 hp Ek Fi P10 N10 NG Ny=>?_⟩
     refine k p XR ps ss os m (O4.trans D3) (O4.free hp) Ek Fi P10 N10 (Ny ?_) C7 Am (λo ho il=>⟨(CF o ho il).1,(CF o ho il).2,pz o (Xf.mpr ⟨ho,decide_eq_true il⟩)⟩) ua BM NG
     rcases Ye jl with z | z
     ·rw [z,T7.head] at uc
      exact absurd (Option.some.inj uc).symm BM
     ·exact z
noncomputable def qR:ax:=("levels_or_way" : ax) ++ ".<locals>." ++ "<lambda>"
theorem lJ {n:Int} {h:Int} (h0:0<=h) (h1:h < n):ue ((bT n hs).map V.int) h=some (.int ((hs.count h:Nat):Int)):=by
 have fu:h.toNat < n.toNat:=by omega
 have j_:((h.toNat:Nat):Int)=h:=by omega
 have h1:((bT n hs).map V.int)[h.toNat]?=some (.int ((hs.count h:Nat):Int)):=by rw [Qh,iT fu,j_]; rfl
 have h2:=gE h1
 rwa [j_] at h2
def aIO (n:Int) (ws:List (List Int)) (hs:List Int) (H H':Hp) (p:ae):Prop :=
 (∃ q lv,H' p=some (.tup [.str "levels",.ref q])/\H' q=some (.tup (lv.map V.int))/\nF n ws hs lv) ∨
 ∃ q ps ss,H' p=some (.tup [.str "way",.ref q])/\H q=none/\H' q=some (.lst (ps.map V.ref))/\fj H' ps ss/\UE n ws hs ss
section
variable {dK:az}
def LY (K:Rb) (Pt:ae):Sp:=λvs H Q _=>∃ x y n ws hs,vs = [x,y]/\rN K H x y n ws hs/\H Pt=some (.tab qR)/\∀ p H',aD H H'->aIO n ws hs H H' p->Q (.ref p) H'
theorem vI:c_ ["book", "deal", "many", "rows", "levels", "hand", "found", "last"] ["book", "deal"] (aI HK):=.of
theorem aHg (G:Fn K mg "levels_or_way" HK ["book", "deal"] f fd) (hc:fd.code=.ref c) (Z:Lm K mg base c Pt) (B:Bl mg) (R:Pr K mg fW fH fK fB xj fD xi fL dW dH dK dB xm dD xk dL) (GH:Fn K mg "handing" kA ["book", "deal"] DF DL) (GR:Fn K mg "reached" lE ["rows", "first"] fR dR) (GW:Fn K mg "way_to" rK ["found", "last"] DB DI):b_ P w K mg base d7 8 f fd ["book", "deal"] (LY K Pt):=by
 have OL:b_ P w K mg base d7 7 fL dL ["book", "deal"] (VN K):=aEe B R
 have OH:b_ P w K mg base d7 1 DF DL ["book", "deal"] (nX K):=pM GH B
 have OR:b_ P w K mg base d7 1 fR dR ["rows", "first"] (nY K):=pN GR B
 have OW:b_ P w K mg base d7 1 DB DI ["found", "last"] (sZ K):=vH GW B
 refine G.fn.Pf hc vI (λvs H Q E h=>?_) (λA outer s H vs Q E hr h=>?_)
 ·obtain ⟨x,y,n,ws,hs,rfl,_⟩:=h
  rfl
 ·obtain ⟨x,y,n,ws,hs,rfl,g,hT,k⟩:=h
  have r1:dz 1 _:=hr.mono (by decide)
  refine ⟨_,(aE (aX (i:=2) vI.nd rfl (Or.inr rfl) (aW R.L OL hr rfl (aA (pv 0) (aA (pv 1) aC))))
   (aE (aX (i:=3) vI.nd rfl (Or.inl rfl) (aW GH OH r1 rfl (aA (pv 0) (aA (pv 1) aC))))
   (aE (aX (i:=4) vI.nd rfl (Or.inl rfl) (gW aC))
   (aE (iA ay.never rfl (eD rfl B.range (aA (bN cD (pv 0) aH (λ_ _=>rfl)) aC)) (aV (i:=5) vI.nd rfl (Or.inl rfl))
    (aE (aX (i:=6) vI.nd rfl (Or.inl rfl) (aW GR OR r1 rfl (aA (pv 3) (aA (pv 5) aC))))
    (aE (aX (i:=7) vI.nd rfl (Or.inl rfl) (xB 2 rfl r1 rfl B.min Z rfl (q:=qR) rfl (pv 6) rfl rfl))
    (aE (bJ (aP IA (aY fX (bN cD (pv 2) (pv 5) (λ_ _=>rfl)) (bN cD (pv 2) (pv 7) (λ_ _=>rfl))) aH (aU _))
     (aJ (aR (cC (aA aK (aA (aW GW OW r1 rfl (aA (pv 6) (aA (pv 7) aC))) aC)))))
     aS)
    (aJ (cL (kI Rh Ro Rp fP (pv 4) (aA (bN cD (pv 2) (pv 7) (λ_ _=>rfl)) aC))))))))
   (aJ (aR (cC (aA aK (aA (cS iX rfl B.tuple gG (aA (pv 4) aC)) aC))))))))),?_⟩
  obtain ⟨CK,j7,jc⟩:=g.len
  obtain ⟨a,b,ys,ex,ha,qv,tm⟩:=lG g.1
  obtain ⟨_,_,gk,ip⟩:=aZ g.2.1
  have ly:∀ g w t,jG ws hs g w t->0<=t/\t < n:=λg w t e=>by
   obtain ⟨_,l,h1,h2,_⟩:=e
   exact (bA (ip l (Qd h1))).2.1 t h2
  refine ⟨_,rfl,_,rfl,x,y,n,ws,hs,rfl,g,λmp H1 s1 AU=>?_⟩
  have g1:=g.same s1
  refine ⟨_,rfl,_,rfl,x,y,n,ws,hs,rfl,g1,λrp H2 qs rs s2 Dl zl R2 zp ER=>?_⟩
  refine ⟨iK (show 0<=1000 by decide),λlp i5=>?_⟩
  have pd:=s1.trans s2
  have s3:=pd.trans (aD.new (o:=.lst []) i5)
  have NX:H lp=none:=pd.free i5
  have R3:=R2.same (aD.new (o:=.lst []) i5)
  have m3:=(s2.trans (aD.new (o:=.lst []) i5)) _ _ AU
  have e3:upd H2 lp (.lst []) lp=some (.lst []):=aB
  have FR:H rp=none:=s1.free Dl
  have JY:rp≠lp:=λz=>by have:=R2.lst; rw [z,i5] at this; cases this
  have ZJ:∀ q∈qs,q≠lp:=λq hq z=>by
   obtain ⟨i,hi⟩:=Qs.mp hq
   have KQ:i < rs.length:=by rw [<- R2.len]; exact (Qa.mp hi).1
   have:=R2.row i q _ hi (Qb KQ)
   rw [z,i5] at this; cases this
  have ZL:mp≠lp:=λz=>by have:=s2 _ _ AU; rw [z,i5] at this; cases this
  generalize upd H2 lp (.lst [])=H3 at s3 R3 m3 e3 ⊢
  subst ex
  refine ⟨_,rfl,a,_,0,.int n,rfl,rfl,s3.dk ha,rfl,n,rfl,by omega,by omega,iP (lo:=0) (n:=n.toNat) (λi σ H4=>∃ (v5 v6 v7:Option V) (lv:List Int),σ = [some (.ref a),some y,some (.ref mp),some (.ref rp),some (.ref lp),v5,v6,v7]/\aD H H4/\Rows H4 rp qs rs/\H4 mp=some (.tup ((bT n hs).map V.int))/\H4 lp=some (.lst (lv.map V.int))/\lv.length=i /\
    ∀ (h:Nat) (v:Int),lv[h]?=some v->sH ws hs n.toNat h v/\((hs.count (h:Int):Nat):Int) - v < 2)
   ⟨none,none,none,[],rfl,s3,R3,m3,e3,rfl,λh v e=>by simp at e⟩ ?_ ?_⟩
  ·rintro i σ H4 hi ⟨v5,v6,v7,lv,rfl,s4,R4,m4,e4,Dq,L4⟩
   have KS:(0:Int)<=0+(i:Int):=by omega
   have BS:0+(i:Int) < n:=by omega
   refine ⟨_,rfl,_,rfl,rp,0+(i:Int),qs,rs,n,ws,hs,rfl,R4,zp,ER,ly,by omega,KS,BS,λk_ H5 fs os s5 G' e5 T5 C5=>?_⟩
   have O5:=s4.trans s5
   have R5:=R4.same s5
   have m5:=s5 _ _ m4
   have l5:=s5 _ _ e4
   have T5l:=T5.len
   have xy:0 < os.length:=(Qa.mp T5.head).1
   refine ⟨_,rfl,os,λo=>((hs.count o:Nat):Int),.ref mp,⟨k_,rfl,.inr (.inr ⟨fs,e5,T5.keys⟩)⟩,xy,O5 _ _ hT,rfl,λo ho=>?_,λj m H6 s6 hj pz _=>?_⟩
   ·obtain ⟨o0,o1⟩:=T5.vo o ho
    refine ⟨o0,by omega,mp,_,rfl,.inl (d8.of m5),?_⟩
    rw [Qh,iT (by omega),show ((o.toNat:Nat):Int)=o by omega]
    rfl
   have uc:j < os.length:=(Qa.mp hj).1
   obtain ⟨m0,m1⟩:=T5.vo m (Qd hj)
   have JP:=O5.trans s6
   have R6:=R5.same s6
   have m6:=s6 _ _ m5
   have l6:=s6 _ _ l5
   have e6:=s6 _ _ e5
   have T6:=T5.tp (Tp.of s6)
   have QX:RL ws hs n.toNat (0+(i:Int)) m:=(T6.rl j m hj).mono (by omega)
   have Br:sH ws hs n.toNat (0+(i:Int)) ((hs.count m:Nat):Int):=by
    refine ⟨⟨m,QX,rfl⟩,λk x hx=>?_⟩
    exact pz x (hx.closed (S:=λo=>o∈os) (λg w t hg e=>C5 g hg w t e) (Qd T5.head))
   refine ⟨_,rfl,_,rfl,mp,_,_,_,rfl,rfl,d8.of m6,lJ KS BS,_,rfl,_,rfl,mp,_,_,_,rfl,rfl,d8.of m6,lJ m0 m1,_,_,rfl,rfl,_,_,rfl,rfl,_,rfl,?_⟩
   refine gK (λc=>?_) (λc=>?_)
   ·have BU:((hs.count (0+(i:Int)):Nat):Int) - ((hs.count m:Nat):Int)≥2:=of_decide_eq_true c
    refine ⟨_,rfl,_,rfl,k_,m,fs,os,0+(i:Int),n,ws,hs,j,rfl,e6,T6,by omega,hj,λp H7 ps ss s7 hp Ek S7 P7 N7 _ Kc=>⟨kc _ _,λq hq=>?_⟩⟩
    have s8:=aD.new (o:=.tup [.str "way",.ref p]) hq
    refine k q _ ((JP.trans s7).trans s8) (.inr ⟨p,ps,ss,aB,JP.free hp,s8 _ _ Ek,S7.tp (Tp.of s8),0+(i:Int),m,Kc ?_,P7,N7,KS,BS,QX,BU⟩)
    rcases Ye j with z | z
    ·rw [z,T5.head] at hj
     cases hj
     omega
    ·exact z
   ·have fu:¬ ((hs.count (0+(i:Int)):Nat):Int) - ((hs.count m:Nat):Int)≥2:=λz=>c (decide_eq_true z)
    refine ⟨_,rfl,.inl ⟨rfl,_,d9.of l6⟩,_,rfl,_,rfl,mp,_,_,_,rfl,rfl,d8.of m6,lJ m0 m1,lp,_,_,rfl,rfl,l6,by rw [Qc,Rf]; omega,?_⟩
    refine ⟨_,_,_,lv++[((hs.count m:Nat):Int)],rfl,JP.wr NX,?_,by rw [aF ZL]; exact m6,by rw [aB,Qt]; rfl,by rw [Qe,Dq]; rfl,λh v e=>?_⟩
    ·refine ⟨by rw [aF JY]; exact R6.lst,R6.len,R6.nd,λg q r h1 h2=>?_⟩
     rw [aF (ZJ q (Qd h1))]
     exact R6.row g q r h1 h2
    ·by_cases hh:h < lv.length
     ·rw [Ql hh] at e
      exact L4 h v e
     ·have eh:h=i:=by
       have:=(Qa.mp e).1
       rw [Qe] at this
       simp at this
       omega
      subst eh
      rw [Qo (by omega),Dq,Jt] at e
      have ev:((hs.count m:Nat):Int)=v:=by simpa using e
      rw [<- ev]
      rw [Wo] at Br fu
      exact ⟨Br,by omega⟩
  ·rintro σ H4 ⟨v5,v6,v7,lv,rfl,s4,R4,m4,e4,Dq,L4⟩
   refine ⟨_,rfl,lp,_,rfl,.inl ⟨d9.of e4,λq hq=>⟨kc _ _,λp hp=>?_⟩⟩⟩
   have s5:=(aD.new (o:=.tup (lv.map V.int)) hq).trans (aD.new (o:=.tup [.str "levels",.ref q]) hp)
   exact k p _ (s4.trans s5) (.inl ⟨q,lv,aB,(aD.new hp) _ _ aB,Dq,L4⟩)
end
def sI (n:Int) (ws:List (List Int)) (hs:List Int) (last:Int) (i:Int) (ss:List (Nat×Int×Int)):Prop :=
 (ss = []/\∀ h:Int,0<=h->h < i->hs.count last < hs.count h->∃ os:List Int,h∈os/\zF ws hs os/\last∉os) ∨
 ∃ h,ss≠[]/\fY ws hs h ss last/\(h::ss.map (·.2.2)).Nodup/\0<=h/\h < n/\hs.count last < hs.count h
def zH (K:Rb):Sp:=λvs H Q _=>∃ (x y:V) (n:Int) (ws:List (List Int)) (hs:List Int) (k:Nat) (last:Int),vs = [x,y,.int k]/\rN K H x y n ws hs/\hs[k]?=some last /\
 ∀ p H' ps ss,aD H H'->H p=none->H' p=some (.lst (ps.map V.ref))->fj H' ps ss->sI n ws hs last n ss->Q (.ref p) H'
theorem gT:c_ ["book", "deal", "work", "many", "rows", "last", "best", "hand", "found", "some"] ["book", "deal", "work"] (aI qL):=.of
theorem aEl (G:Fn K mg "steps_of_take" qL ["book", "deal", "work"] f fd) (B:Bl mg) (GC:Fn K mg "counted" jZ ["hands", "deal"] fC dC) (GH:Fn K mg "handing" kA ["book", "deal"] DF DL) (GR:Fn K mg "reached" lE ["rows", "first"] fR dR) (GW:Fn K mg "way_to" rK ["found", "last"] DB DI):b_ P w K mg base d7 2 f fd ["book", "deal", "work"] (zH K):=by
 have OC:b_ P w K mg base d7 1 fC dC ["hands", "deal"] (lH K):=pK GC B
 have OH:b_ P w K mg base d7 1 DF DL ["book", "deal"] (nX K):=pM GH B
 have OR:b_ P w K mg base d7 1 fR dR ["rows", "first"] (nY K):=pN GR B
 have OW:b_ P w K mg base d7 1 DB DI ["found", "last"] (sZ K):=vH GW B
 refine G.fn.oK gT λfh A outer s H vs Q E hr h=>?_
 ·obtain ⟨x,y,n,ws,hs,kk,last,rfl,g,jt,k⟩:=h
  have r1:dz 1 _:=hr
  refine ⟨_,(aE (aX (i:=3) gT.nd rfl (Or.inl rfl) (aW GC OC r1 rfl (aA (bN cD (pv 0) aH (λ_ _=>rfl)) (aA (pv 1) aC))))
  (aE (aX (i:=4) gT.nd rfl (Or.inl rfl) (aW GH OH r1 rfl (aA (pv 0) (aA (pv 1) aC))))
  (aE (aX (i:=5) gT.nd rfl (Or.inl rfl) (bN cD (pv 1) (pv 2) (λ_ _=>rfl)))
  (aE (aX (i:=6) gT.nd rfl (Or.inl rfl) (gW aC))
  (aE (iA ay.never rfl (eD rfl B.range (aA (bN cD (pv 0) aH (λ_ _=>rfl)) aC)) (aV (i:=7) gT.nd rfl (Or.inl rfl))
   (aE (aX (i:=8) gT.nd rfl (Or.inl rfl) (aW GR OR r1 rfl (aA (pv 4) (aA (pv 7) aC))))
  (aJ (bJ (PW.pt (mL (rB (aG8 (bV hr) (pv 5) (pv 8)) (by with_unfolding_all rfl)) (lN (aP mM (bN cD (pv 3) (pv 7) (λ_ _=>rfl)) (bN cD (pv 3) (pv 5) (λ_ _=>rfl)) (aU _)))))
   (aE (aX (i:=9) gT.nd rfl (Or.inl rfl) (aW GW OW r1 rfl (aA (pv 8) (aA (pv 5) aC))))
  (aJ (bJ (PW.pt (gD (aP dY (aL bB rfl B.len eQ (aA (pv 6) aC)) aH (aU _)) (eY (aP wN (aL bB rfl B.len eQ (aA (pv 9) aC)) (aL bB rfl B.len eQ (aA (pv 6) aC)) (aU _)))))
   (aJ (aX (i:=6) gT.nd rfl (Or.inl rfl) (pv 9)))
   aS)))
   aS))))
  (aJ (aR (pv 6)))))))),?_⟩
  obtain ⟨CK,j7,jc⟩:=g.len
  obtain ⟨a,b,ys,rfl,ha,qv,tm⟩:=lG g.1
  obtain ⟨dp,rfl,ik⟩:=cV.mp g.2.2.1
  obtain ⟨_,_,gk,ip⟩:=aZ g.2.1
  obtain ⟨mw,rn⟩:=fJ g.2.2.2
  have ly:∀ g w t,jG ws hs g w t->0<=t/\t < n:=λg w t e=>by
   obtain ⟨_,l,h1,h2,_⟩:=e
   exact (bA (ip l (Qd h1))).2.1 t h2
  have lr:0<=last/\last < n:=by
   have hk:kk < hs.length:=(Qa.mp jt).1
   have hl:=Qb (show kk < ws.length by omega)
   have:=rn kk _ _ jt hl
   exact (bA (ip _ (Qd hl))).2.1 last this
  refine ⟨_,rfl,a,_,0,.int n,rfl,rfl,ha,rfl,_,rfl,n,dp,hs,rfl,ik,by omega,jc,λmp H1 s1 emp=>?_⟩
  dsimp only [bO]
  refine ⟨_,rfl,_,rfl,.ref a,.ref dp,n,ws,hs,rfl,⟨s1.den _ _ g.1,g.2.1,s1.den _ _ g.2.2.1,g.2.2.2⟩,λrp H2 qs rs s2 nrp nqs R2 zp ER=>?_⟩
  dsimp only [bO]
  have pd:=s1.trans s2
  refine ⟨_,rfl,_,rfl,dp,_,_,_,rfl,rfl,pd.dk ik,gE (v:=.int last) (by rw [Qh,jt]; rfl),?_⟩
  dsimp only [bO]
  refine ⟨iK (Jo _),λbp Dy=>?_⟩
  have ZT:H bp=none:=pd.free Dy
  have Df:=aD.new (o:=.lst []) Dy
  have eb:upd H2 bp (.lst []) bp=some (.lst (([]:List ae).map V.ref)):=aB
  generalize upd H2 bp (.lst [])=H3 at Df eb ⊢
  dsimp only [bO]
  have zb:=pd.trans Df
  refine ⟨_,rfl,a,_,0,.int n,rfl,rfl,zb.dk ha,rfl,n,rfl,by omega,by omega,iP (lo:=0) (n:=n.toNat) (λi σ H4=>∃ (bp:ae) (ps:List ae) (ss:List (Nat×Int×Int)) (v7 v8 v9:Option V),σ = [some (.ref a),some (.ref dp),some (.int kk),some (.ref mp),some (.ref rp),some (.int last),some (.ref bp),v7,v8,v9]/\aD H3 H4/\H bp=none/\H4 bp=some (.lst (ps.map V.ref))/\fj H4 ps ss/\sI n ws hs last i ss)
   ⟨bp,[],[],_,_,_,rfl,aD.refl _,ZT,eb,fj.nil,.inl ⟨rfl,λh h0 h1=>by omega⟩⟩ ?_ ?_⟩
  ·rintro i σ H4 hi ⟨bp,ps,ss,v7,v8,v9,rfl,s4,nb,e4,S4,T4⟩
   dsimp only [bO]
   rw [Wo]
   have O6:=Df.trans s4
   have Bw:=zb.trans s4
   refine ⟨_,rfl,_,rfl,rp,(i:Int),qs,rs,n,ws,hs,rfl,R2.same O6,zp,ER,ly,by omega,by omega,by omega,λfp H5 fs os s5 nfp ef T5 C5=>?_⟩
   dsimp only [bO]
   have O7:=Bw.trans s5
   have q?:(i:Int)∈os:=Qd T5.head
   refine ⟨_,rfl,_,rfl,fp,_,rfl,kF.k (k:=.inl last) ef,_,rfl,?_⟩
   rw [sY T5.keys last]
   have F8:=(s2.trans (O6.trans s5)) _ _ emp
   have Nw:last∉os->sI n ws hs last ((i+1:Nat):Int) ss:=λjq=>by
    rcases T4 with ⟨e,f⟩ | q
    ·refine .inl ⟨e,λh h0 h1 hc=>?_⟩
     by_cases c:h < i
     ·exact f h h0 c hc
     ·rw [show h=(i:Int) by omega]
      exact ⟨os,q?,C5,jq⟩
    ·exact .inr q
   refine gK (λc1=>?_) (λc1=>?_)
   ·have zq:last∈os:=of_decide_eq_true c1
    refine ⟨_,rfl,_,rfl,mp,_,_,_,rfl,rfl,d8.of F8,lJ (by omega) (by omega),_,rfl,_,rfl,mp,_,_,_,rfl,rfl,d8.of F8,lJ lr.1 lr.2,_,_,rfl,rfl,_,rfl,?_⟩
    refine gK (λc2=>?_) (λc2=>?_)
    ·have hc:hs.count last < hs.count (i:Int):=by have:=of_decide_eq_true c2; omega
     obtain ⟨jl,uc⟩:=Qs.mp zq
     refine ⟨_,rfl,_,rfl,fp,last,fs,os,(i:Int),n,ws,hs,jl,rfl,ef,T5,by omega,uc,λp H6 Pb JL s6 np e6 S6 P6 N6 _ J6=>?_⟩
     dsimp only [bO]
     have QC:0 < jl:=by
      rcases Ye jl with z | z
      ·rw [z,T5.head] at uc
       have:(i:Int)=last:=Option.some.inj uc
       rw [this] at hc; omega
      ·exact z
     have Lz:=(s5.trans s6) _ _ e4
     refine ⟨_,rfl,bp,_,rfl,.inl (d9.of Lz),rfl,_,rfl,?_⟩
     have new:sI n ws hs last ((i+1:Nat):Int) JL:=.inr ⟨i,J6 QC,P6,N6,by omega,by omega,hc⟩
     have JQ:=s4.trans (s5.trans s6)
     refine gK (λc3=>?_) (λc3=>?_)
     ·exact ⟨_,rfl,p,Pb,JL,_,_,_,rfl,JQ,O7.free np,e6,S6,new⟩
     ·have hold:sI n ws hs last ((i+1:Nat):Int) ss:=by
       rcases T4 with ⟨e,_⟩ | q
       ·exfalso
        apply c3
        rw [Qc,S4.len,e]
        rfl
       ·exact .inr q
      refine ⟨_,rfl,p,_,rfl,.inl (d9.of e6),_,rfl,bp,_,rfl,.inl (d9.of Lz),_,_,rfl,rfl,_,rfl,?_⟩
      refine gK (λc4=>?_) (λc4=>?_)
      ·exact ⟨_,rfl,p,Pb,JL,_,_,_,rfl,JQ,O7.free np,e6,S6,new⟩
      ·exact ⟨bp,ps,ss,_,_,_,rfl,JQ,nb,Lz,S4.tp (Tp.of (s5.trans s6)),hold⟩
    ·refine ⟨bp,ps,ss,_,_,_,rfl,s4.trans s5,nb,s5 _ _ e4,S4.tp (Tp.of s5),?_⟩
     have j?:¬ hs.count last < hs.count (i:Int):=λz=>c2 (decide_eq_true (by omega))
     rcases T4 with ⟨e,f⟩ | q
     ·refine .inl ⟨e,λh h0 h1 hc=>?_⟩
      by_cases c:h < i
      ·exact f h h0 c hc
      ·rw [show h=(i:Int) by omega] at hc
       exact absurd hc j?
     ·exact .inr q
   ·exact ⟨bp,ps,ss,_,_,_,rfl,s4.trans s5,nb,s5 _ _ e4,S4.tp (Tp.of s5),Nw λz=>c1 (decide_eq_true z)⟩
  ·rintro σ H4 ⟨bp,ps,ss,v7,v8,v9,rfl,s4,nb,e4,S4,T4⟩
   rw [show ((n.toNat:Nat):Int)=n by omega] at T4
   exact ⟨_,rfl,k bp H4 ps ss (zb.trans s4) nb e4 S4 T4⟩
def Lv (n:Int) (ws:List (List Int)) (hs:List Int) (lv:Int->Int):Prop :=
 (∀ h:Int,0<=h->h < n->lv h<=hs.count h/\((hs.count h:Nat):Int)<=lv h+1)/\∀ (w:Nat) (g:Int) (l:List Int),hs[w]?=some g->ws[w]?=some l->∀ t∈l,lv g<=lv t
noncomputable def i1 (a b:Int):Int:=if a=b then 1 else 0
theorem VL:∀ {hs:List Int} {w:Nat} {g t:Int},hs[w]?=some g->∀ y:Int,(((hs.set w t).count y:Nat):Int)+i1 g y=(hs.count y:Nat)+i1 t y
 | [],w,g,t,h,y=>by simp at h
 | x::hs,0,g,t,h,y=>by
  have e:x=g:=by simpa using h
  subst e
  rw [List.set_cons_zero,Xa,Xa]
  unfold i1
  by_cases c1:t=y <;> by_cases c2:x=y <;> simp [c1,c2] <;> omega
 | x::hs,w+1,g,t,h,y=>by
  have ih:=VL (hs:=hs) (w:=w) (g:=g) (t:=t) (by simpa using h) y
  rw [List.set_cons_succ,Xa,Xa]
  omega
noncomputable def h_ (hs:List Int) (ss:List (Nat×Int×Int)):List Int:=ss.foldl (λhs s=>hs.set s.1 s.2.2) hs
theorem kK:∀ (ss:List (Nat×Int×Int)) (hs:List Int),(h_ hs ss).length=hs.length
 | [],_=>rfl
 | s::ss,hs=>by
  show (h_ (hs.set s.1 s.2.2) ss).length=_
  rw [kK ss,Ze]
theorem WN {x h:Int} {w:Nat} {t':Int}:∀ {ss:List (Nat×Int×Int)} {hs:List Int} {t:Int},hs[w]?=some h->fY ws hs t ss x->(∀ s∈ss,s.2.1≠h)->fY ws (hs.set w t') t ss x
 | [],_,_,_,p,_=>p
 | s::ss,hs,t,hw,⟨e1,⟨e2,e3⟩,p⟩,hn=>by
  refine ⟨e1,⟨?_,e3⟩,WN hw p λs' g_=>hn s' (Qi _ g_)⟩
  rw [Jy]
  by_cases c:w=s.1
  ·rw [<- c,hw] at e2
   have:=hn s (Qm ..)
   rw [e1] at this
   exact absurd (Option.some.inj e2).symm this
  ·rw [if_neg c]; exact e2
theorem kL {x:Int}:∀ {ss:List (Nat×Int×Int)} {t:Int},fY ws hs t ss x->∀ s∈ss,s.2.1=t∨∃ s'∈ss,s'.2.2=s.2.1
 | [],_,_,s,h=>(Qq h).elim
 | s0::ss,t,⟨e1,_,p⟩,s,h=>by
  rcases Qj.mp h with rfl | h
  ·exact .inl e1
  ·rcases kL p s h with z | ⟨s',z1,z2⟩
   ·exact .inr ⟨s0,Qm ..,z.symm⟩
   ·exact .inr ⟨s',Qi _ z1,z2⟩
theorem gY {x:Int}:∀ {ss:List (Nat×Int×Int)} {t:Int},fY ws hs t ss x->∀ s∈ss,jG ws hs s.2.1 s.1 s.2.2
 | [],_,_,s,h=>(Qq h).elim
 | s0::ss,t,⟨e1,e2,p⟩,s,h=>by
  rcases Qj.mp h with rfl | h
  ·rw [e1]; exact e2
  ·exact gY p s h
theorem vJ {x:Int}:∀ {ss:List (Nat×Int×Int)} {hs:List Int} {h:Int},fY ws hs h ss x->(h::ss.map (·.2.2)).Nodup ->
  (∀ y:Int,(((h_ hs ss).count y:Nat):Int)+i1 h y=(hs.count y:Nat)+i1 x y) /\
  ∀ (w:Nat) (g:Int),(h_ hs ss)[w]?=some g->hs[w]?=some g∨∃ s∈ss,s.1=w/\s.2.2=g/\hs[w]?=some s.2.1
 | [],hs,h,p,_=>by
  have e:h=x:=p
  subst e
  exact ⟨λy=>rfl,λw g q=>.inl q⟩
 | s::ss,hs,h,⟨e1,⟨e2,e3⟩,p⟩,nd=>by
  have zh:=Jh.mp nd
  have il:∀ s'∈ss,s'.2.1≠h:=λs' g_ z=>by
   rcases kL p s' g_ with q | ⟨s2,q1,q2⟩
   ·exact zh.1 (by rw [<- z,q]; exact Qm ..)
   ·exact zh.1 (Qi _ (Xp.mpr ⟨s2,q1,q2.trans z⟩))
  have p':=WN (t':=s.2.2) e2 p il
  obtain ⟨υ,τ⟩:=vJ p' (by have:=zh.2; rwa [Qw] at this)
  refine ⟨λy=>?_,λw g q=>?_⟩
  ·have a:=υ y
   have b:=VL (t:=s.2.2) e2 y
   show (((h_ (hs.set s.1 s.2.2) ss).count y:Nat):Int)+i1 h y=_
   omega
  ·have q':(h_ (hs.set s.1 s.2.2) ss)[w]?=some g:=q
   rcases τ w g q' with z | ⟨s',z1,z2,z3,z4⟩
   ·rw [Jy] at z
    by_cases c:s.1=w
    ·have hl:s.1 < hs.length:=(Qa.mp e2).1
     rw [if_pos c,if_pos hl] at z
     exact .inr ⟨s,Qm ..,c,Option.some.inj z,by rw [<- c,e1]; exact e2⟩
    ·rw [if_neg c] at z
     exact .inl z
   ·rw [Jy] at z4
    by_cases c:s.1=w
    ·have hl:s.1 < hs.length:=(Qa.mp e2).1
     rw [if_pos c,if_pos hl] at z4
     exfalso
     have:=(gY p s' z1).1
     rw [z2,<- c,e2] at this
     exact il s' z1 (Option.some.inj this).symm
    ·rw [if_neg c] at z4
     exact .inr ⟨s',Qi _ z1,z2,z3,z4⟩
theorem tF {n:Int} (L:Lv n ws hs lv) {g t:Int} {w:Nat} (e:jG ws hs g w t):lv g<=lv t:=by
 obtain ⟨e1,l,e2,e3,_⟩:=e
 exact L.2 w g l e1 e2 t e3
theorem tG {x:Int}:∀ {ss:List (Nat×Int×Int)} {h:Int},(∀ s∈ss,lv s.2.1<=lv s.2.2)->fY ws hs h ss x->lv h<=lv x/\∀ s∈ss,lv h<=lv s.2.1/\lv s.2.2<=lv x
 | [],h,_,p=>by
  have e:h=x:=p
  rw [e]
  exact ⟨Zb _,λs hs=>(Qq hs).elim⟩
 | s::ss,h,hl,⟨e1,_,p⟩=>by
  obtain ⟨a,b⟩:=tG (λs' g_=>hl s' (Qi _ g_)) p
  have c:=hl s (Qm ..)
  rw [e1] at c
  refine ⟨by omega,λs' g_=>?_⟩
  rcases Qj.mp g_ with rfl | g_
  ·rw [e1]; exact ⟨Zb _,a⟩
  ·have:=b s' g_; omega
theorem aEm {n:Int} (L:Lv n ws hs lv) (hr:∀ (w:Nat) l,ws[w]?=some l->∀ t∈l,0<=t/\t < n) (W:UE n ws hs ss):False:=by
 obtain ⟨h,x,il,p,_,h0,h1,_,hd⟩:=W
 have a:=(tG (lv:=lv) (λs g_=>tF L (gY p s g_)) p).1
 have hx:0<=x/\x < n:=by
  have:∀ {ss:List (Nat×Int×Int)} {h:Int},ss≠[]->fY ws hs h ss x->0<=x/\x < n:=by
   intro ss
   induction ss with
   | nil=>intro h z; exact absurd rfl z
   | cons s ss ih =>
    intro h _ ⟨_,⟨_,l,q1,q2,_⟩,p⟩
    cases ss with
    | nil =>
     have e:s.2.2=x:=p
     rw [<- e]; exact hr _ _ q1 _ q2
    | cons s2 ss=>exact ih (by simp) p
  exact this il p
 have b:=L.1 h h0 h1
 have c:=L.1 x hx.1 hx.2
 omega
theorem aHh {n:Int} {dr:List Int} {os:List Int} {last:Int} (L:Lv n ws hs lv) (hl:hs.length=ws.length) (hr:∀ g∈hs,0<=g/\g < n) (wr:∀ l∈ws,∀ t∈l,0<=t/\t < n) (ar:∀ t∈dr,0<=t/\t < n) (u4:∀ (w:Nat) g l,hs[w]?=some g->ws[w]?=some l->g∈l) (p:fY (ws++[dr]) (hs++[n]) n ss last) (nd:(n::ss.map (·.2.2)).Nodup) (ne:ss≠[]) (C:zF (ws++[dr]) (hs++[n]) os) (hn:n∈os) (hm:∀ o∈os,o≠n->0<=o/\o < n/\((hs.count last:Nat):Int)<=(hs.count o:Nat)) (zq:last∈os) (zr:last≠n) (G2:∀ s∈ss,s.2.2∈os) :
  (∃ zi,Lv n (ws++[dr]) (h_ (hs++[n]) ss) zi)/\∀ (w:Nat) g l,(h_ (hs++[n]) ss)[w]?=some g->(ws++[dr])[w]?=some l->g∈l:=by
 obtain ⟨cn,wk⟩:=vJ p nd
 have c0:hs.count n=0:=Yf.mpr λz=>by have:=hr n z; omega
 have c1:∀ y:Int,(((hs++[n]).count y:Nat):Int)=(hs.count y:Nat)+i1 n y:=λy=>by
  rw [Yn,Xa,List.count_nil]
  unfold i1
  by_cases q:n=y <;> simp [q]
 have cg:∀ y:Int,(((h_ (hs++[n]) ss).count y:Nat):Int)=(hs.count y:Nat)+i1 last y:=λy=>by
  have:=cn y
  have:=c1 y
  omega
 have gn:∀ (w:Nat) g,(h_ (hs++[n]) ss)[w]?=some g->g≠n:=λw g q z=>by
  have h1:=cg n
  have h2:i1 last n=0:=if_neg zr
  have h4:=Qd q
  rw [z] at h4
  have h3:0 < (h_ (hs++[n]) ss).count n:=List.count_pos_iff.mpr h4
  omega
 have old:∀ (w:Nat) g,(hs++[n])[w]?=some g->g≠n->hs[w]?=some g:=λw g q z=>by
  by_cases c:w < hs.length
  ·rwa [Ql c] at q
  ·rw [Qo (by omega)] at q
   by_cases c2:w - hs.length=0
   ·rw [c2] at q
    exact absurd (by simpa using q.symm) z
   ·rw [Jp (by simp; omega)] at q; cases q
 have Cr:∀ (w:Nat) l,w < hs.length->(ws++[dr])[w]?=some l->ws[w]?=some l:=λw l c q=>by rwa [Ql (by omega)] at q
 have M:=((hs.count last:Nat):Int)
 -- the levels
 obtain ⟨qr,jr⟩:∃ qr:Int->Int,∀ h,qr h=if h∈os then max (lv h) ((hs.count last:Nat):Int) else lv h:=⟨_,λ_=>rfl⟩
 have ge:∀ h∈os,((hs.count last:Nat):Int)<=qr h:=λh hh=>by rw [jr,if_pos hh]; omega
 have up:∀ h,lv h<=qr h:=λh=>by rw [jr]; split <;> omega
 have cl2:∀ (w:Nat) g l,hs[w]?=some g->ws[w]?=some l->g∈os->∀ t∈l,t∈os:=λw g l q1 q2 q3 t ht=>by
  by_cases c:t=g
  ·rw [c]; exact q3
  ·have hw:=(Qa.mp q1).1
   exact C g q3 w t ⟨by rw [Ql hw]; exact q1,l,by rw [Ql (by omega)]; exact q2,ht,c⟩
 have mono:∀ (w:Nat) g l,hs[w]?=some g->ws[w]?=some l->∀ t∈l,qr g<=qr t:=λw g l q1 q2 t ht=>by
  have h1:=L.2 w g l q1 q2 t ht
  rw [jr,jr]
  by_cases c:g∈os
  ·rw [if_pos c,if_pos (cl2 w g l q1 q2 c t ht)]; omega
  ·rw [if_neg c]; split <;> omega
 have lr:0<=last/\last < n:=⟨(hm last zq zr).1,(hm last zq zr).2.1⟩
 have l2:qr last=((hs.count last:Nat):Int):=by
  have:=(L.1 last lr.1 lr.2).1
  rw [jr,if_pos zq]; omega
 -- every taker lies at the least level
 have tk:∀ s∈ss,qr s.2.2=((hs.count last:Nat):Int):=by
  cases ss with
  | nil=>exact absurd rfl ne
  | cons s0 ss =>
   obtain ⟨e1,e2,p2⟩:=p
   have zh:=Jh.mp nd
   have GF:∀ s∈ss,qr s.2.1<=qr s.2.2:=λs g_=>by
    have e:=gY p2 s g_
    obtain ⟨q1,l,q2,q3,_⟩:=e
    have KU:s.2.1≠n:=λz=>by
     rcases kL p2 s g_ with y | ⟨s',y1,y2⟩
     ·exact zh.1 (by rw [<- z,y]; exact Qm ..)
     ·exact zh.1 (Qi _ (Xp.mpr ⟨s',y1,y2.trans z⟩))
    have oy:=old _ _ q1 KU
    exact mono _ _ l oy (Cr _ l (Qa.mp oy).1 q2) _ q3
   obtain ⟨a,b⟩:=tG GF p2
   intro s g_
   have h1:=ge _ (G2 s g_)
   rcases Qj.mp g_ with rfl | h2
   ·omega
   ·have:=b s h2; omega
 have moved:∀ s∈ss,∀ l,(ws++[dr])[s.1]?=some l->s.2.2∈l/\∀ t∈l,t∈os:=λs g_ l q=>by
  obtain ⟨q1,l',q2,q3,_⟩:=gY p s g_
  rw [q] at q2
  cases q2
  refine ⟨q3,λt ht=>?_⟩
  have AY:s.2.1∈os:=by
   rcases kL p s g_ with y | ⟨s',y1,y2⟩
   ·rw [y]; exact hn
   ·rw [<- y2]; exact G2 s' y1
  by_cases c:t=s.2.1
  ·rw [c]; exact AY
  ·exact C _ AY s.1 t ⟨q1,l,q,ht,c⟩
 refine ⟨⟨qr,λh h0 h1=>?_,λw g l q1 q2 t ht=>?_⟩,λw g l q1 q2=>?_⟩
 ·rw [cg]
  have b:=L.1 h h0 h1
  by_cases c:last=h
  ·rw [<- c,l2]
   have:i1 last last=1:=if_pos rfl
   rw [<- c] at b
   omega
  ·have e:i1 last h=0:=if_neg c
   rw [e,jr]
   by_cases c2:h∈os
   ·have:=hm h c2 (by omega)
    rw [if_pos c2]; omega
   ·rw [if_neg c2]; omega
 ·rcases wk w g q1 with z | ⟨s,z1,z2,z3,z4⟩
  ·have z':=old w g z (gn w g q1)
   exact mono w g l z' (Cr w l (Qa.mp z').1 q2) t ht
  ·rw [<- z3,tk s z1]
   exact ge t ((moved s z1 l (by rw [z2]; exact q2)).2 t ht)
 ·rcases wk w g q1 with z | ⟨s,z1,z2,z3,z4⟩
  ·have z':=old w g z (gn w g q1)
   exact u4 w g l z' (Cr w l (Qa.mp z').1 q2)
  ·rw [<- z3]
   exact (moved s z1 l (by rw [z2]; exact q2)).1
theorem xH:∀ {hs:List Int} {k:Nat} {g:Int},hs[k]?=some g->∀ y:Int,(((hs.eraseIdx k).count y:Nat):Int)+i1 g y=(hs.count y:Nat)
 | [],k,g,h,y=>by simp at h
 | x::hs,0,g,h,y=>by
  have e:x=g:=by simpa using h
  subst e
  rw [List.eraseIdx_cons_zero,Xa]
  unfold i1
  by_cases c2:x=y <;> simp [c2]
 | x::hs,k+1,g,h,y=>by
  have ih:=xH (hs:=hs) (k:=k) (g:=g) (by simpa using h) y
  rw [Xr,Xa,Xa]
  omega
theorem fQ {l:List α} {k w:Nat} {x:α} (h:(l.eraseIdx k)[w]?=some x):l[if w < k then w else w+1]?=some x:=by
 rw [List.getElem?_eraseIdx] at h
 split at h
 ·rename_i c; rw [if_pos c]; exact h
 ·rename_i c; rw [if_neg c]; exact h
theorem WM {n:Int} {k:Nat} {g0:Int} (h1:∀ h:Int,0<=h->h < n->lv h<=(hs.count h:Nat) - i1 g0 h/\((hs.count h:Nat):Int) - i1 g0 h<=lv h+1) (h2:∀ (w:Nat) (g:Int) (l:List Int),hs[w]?=some g->ws[w]?=some l->∀ t∈l,lv g<=lv t) (hk:hs[k]?=some g0):Lv n (ws.eraseIdx k) (hs.eraseIdx k) lv:=by
 refine ⟨λh a b=>?_,λw g l q1 q2 t ht=>h2 _ g l (fQ q1) (fQ q2) t ht⟩
 have:=h1 h a b
 have:=xH hk h
 omega
theorem aFM {n:Int} {k:Nat} {last:Int} (L:Lv n ws hs lv) (hk:hs[k]?=some last) (hr:∀ g∈hs,0<=g/\g < n) (u4:∀ (w:Nat) g l,hs[w]?=some g->ws[w]?=some l->g∈l) (T:sI n ws hs last n ss) :
  (∃ zi,Lv n (ws.eraseIdx k) ((h_ hs ss).eraseIdx k) zi)/\(∀ (w:Nat) g l,(h_ hs ss)[w]?=some g->ws[w]?=some l->g∈l):=by
 have lr:=hr last (Qd hk)
 rcases T with ⟨e,jq⟩ | ⟨h,il,p,nd,h0,h1,hc⟩
 ·subst e
  refine ⟨?_,u4⟩
  show ∃ zi,Lv n (ws.eraseIdx k) (hs.eraseIdx k) zi
  obtain ⟨uu,xx⟩:∃ uu:Int->Prop,∀ h,uu h↔∃ j,RL ws hs j h last:=⟨_,λ_=>Iff.rfl⟩
  have dc:∀ h,Decidable (uu h):=λh=>Classical.propDecidable _
  obtain ⟨qr,jr⟩:∃ qr:Int->Int,∀ h,(uu h->qr h=min (lv h) (((hs.count last:Nat):Int) - 1))/\(¬ uu h->qr h=lv h):=⟨λh=>@ite _ (uu h) (dc h) (min (lv h) (((hs.count last:Nat):Int) - 1)) (lv h),λh=>⟨λz=>if_pos z,λz=>if_neg z⟩⟩
  have rl:uu last:=(xx last).mpr ⟨0,rfl⟩
  have le:∀ h,uu h->lv h<=lv last:=λh z=>by
   obtain ⟨j,r⟩:=(xx h).mp z
   exact RL.closed (S:=λx=>lv h<=lv x) (λg w t a e=>Int.le_trans a (tF L e)) (Zb _) r
  have m7:∀ h,0<=h->h < n->uu h->hs.count h<=hs.count last:=λh a b z=>by
   by_cases c:hs.count last < hs.count h
   ·obtain ⟨os,o1,o2,o3⟩:=jq h a b c
    obtain ⟨j,r⟩:=(xx h).mp z
    exact absurd (RL.closed (S:=λx=>x∈os) (λg w t a e=>o2 g a w t e) o1 r) o3
   ·omega
  have bl:=L.1 last lr.1 lr.2
  refine ⟨qr,WM (g0:=last) (λh a b=>?_) (λw g l q1 q2 t ht=>?_) hk⟩
  ·have b0:=L.1 h a b
   by_cases c:uu h
   ·have b1:=m7 h a b c
    have b2:=le h c
    rw [(jr h).1 c]
    by_cases d:last=h
    ·rw [<- d]
     have:i1 last last=1:=if_pos rfl
     omega
    ·have:i1 last h=0:=if_neg d
     omega
   ·rw [(jr h).2 c]
    have:i1 last h=0:=if_neg λ(z:last=h)=>c (z ▸ rl)
    omega
  ·have b0:=L.2 w g l q1 q2 t ht
   by_cases c:uu t
   ·have cg:uu g:=by
     by_cases d:t=g
     ·rw [<- d]; exact c
     ·obtain ⟨j,r⟩:=(xx t).mp c
      exact (xx g).mpr ⟨j+1,.inr ⟨w,t,⟨q1,l,q2,ht,d⟩,r⟩⟩
    rw [(jr g).1 cg,(jr t).1 c]; omega
   ·rw [(jr t).2 c]
    by_cases cg:uu g
    ·rw [(jr g).1 cg]; omega
    ·rw [(jr g).2 cg]; exact b0
 ·obtain ⟨cn,wk⟩:=vJ p nd
  have pl:=tG (lv:=lv) (λs g_=>tF L (gY p s g_)) p
  have b1:=L.1 h h0 h1
  have b2:=L.1 last lr.1 lr.2
  have eh:lv h=lv last:=by omega
  have ub:(h_ hs ss)[k]?=some last:=by
   have hl:k < (h_ hs ss).length:=by rw [kK]; exact (Qa.mp hk).1
   have q:=Qb hl
   rcases wk k _ q with z | ⟨s,z1,z2,z3,z4⟩
   ·rw [q,<- z,hk]
   ·exfalso
    rw [hk] at z4
    have e:last=s.2.1:=Option.some.inj z4
    -- no giver is the last
    have:∀ {ss:List (Nat×Int×Int)} {h:Int},fY ws hs h ss last->(h::ss.map (·.2.2)).Nodup->∀ s∈ss,s.2.1≠last:=by
     intro ss
     induction ss with
     | nil=>intro h _ _ s g_; exact (Qq g_).elim
     | cons s0 ss ih =>
      intro h ⟨e1,e2,p2⟩ nd s g_
      have zh:=Jh.mp nd
      rcases Qj.mp g_ with rfl | g_
      ·intro z
       have hl:∀ {ss:List (Nat×Int×Int)} {t:Int},fY ws hs t ss last->last∈t::ss.map (·.2.2):=by
        intro ss
        induction ss with
        | nil=>intro t p; rw [show t=last from p]; exact Qm ..
        | cons s1 ss ih=>intro t p; exact Qi _ (ih p.2.2)
       have:=hl p2
       rw [<- z,e1] at this
       exact zh.1 (by rw [Qw]; exact this)
      ·exact ih p2 (by have:=zh.2; rwa [Qw] at this) s g_
    exact this p nd s z1 e.symm
  refine ⟨⟨lv,WM (g0:=last) (λy a b=>?_) (λw g l q1 q2 t ht=>?_) ub⟩,λw g l q1 q2=>?_⟩
  ·have c1:=cn y
   have c2:=L.1 y a b
   by_cases d:h=y
   ·subst d
    have e1:i1 h h=1:=if_pos rfl
    omega
   ·have e1:i1 h y=0:=if_neg d
    omega
  ·rcases wk w g q1 with z | ⟨s,z1,z2,z3,z4⟩
   ·exact L.2 w g l z q2 t ht
   ·have a1:=L.2 w s.2.1 l z4 q2 t ht
    have a2:=pl.2 s z1
    rw [<- z3]
    have a3:lv s.2.1=lv h:=by
     have:=tF L (gY p s z1)
     omega
    omega
  ·rcases wk w g q1 with z | ⟨s,z1,z2,z3,z4⟩
   ·exact u4 w g l z q2
   ·obtain ⟨_,l',q3,q4,_⟩:=gY p s z1
    rw [z2,q2] at q3
    cases q3
    rw [<- z3]; exact q4
theorem aC4 {n:Int} {lv:List Int} (L:nF n ws hs lv):lv.length=n.toNat/\(∀ (h:Nat) v,lv[h]?=some v->v<=(hs.count (h:Int):Nat)/\((hs.count (h:Int):Nat):Int)<=v+1)/\∀ (w:Nat) (g:Nat) (l:List Int),hs[w]?=some (g:Int)->ws[w]?=some l->∀ t:Nat,(t:Int)∈l->∀ u v,lv[g]?=some u->lv[t]?=some v->u<=v:=by
 refine ⟨L.1,λh v q=>?_,λw g l q1 q2 t ht u v h1 h2=>?_⟩
 ·obtain ⟨a,b⟩:=L.2 h v q
  have:=a.le
  omega
 ·by_cases c:(t:Int)=g
  ·have e:t=g:=by omega
   rw [e,h1] at h2
   rw [Option.some.inj h2]; exact Zb _
  ·exact (L.2 g u h1).1.Oh (L.2 t v h2).1 ⟨q1,l,q2,ht,c⟩
theorem aC5 {n:Int} {a b:ae} (h1:d8 K H a [.int n,.ref b]) (h2:d8 K H b ys) (h3:bQ K H (ws.map gH) ys):Den K H (mH n ws) (.ref a) :=
 bC.mpr ⟨a,_,rfl,h1,bH.mpr ⟨_,_,rfl,cG.mpr rfl,bH.mpr ⟨_,_,rfl,bC.mpr ⟨b,ys,rfl,h2,h3⟩,bZ.mpr rfl⟩⟩⟩
theorem rR:∀ {ds:List au} {zs:List V},zs.length=ds.length->(∀ (i:Nat) d z,ds[i]?=some d->zs[i]?=some z->Den K H d z)->bQ K H ds zs
 | [],[],_,_=>bZ.mpr rfl
 | [],_::_,h,_=>by cases h
 | _::_,[],h,_=>by cases h
 | d::ds,z::zs,hl,h=>bH.mpr ⟨z,zs,rfl,h 0 d z rfl rfl,rR (by simpa using hl) λi d' z' h1 h2=>h (i+1) d' z' h1 h2⟩
theorem bK {b:Bool} {A:Prop} (e:b=false) (h:B):if b=true then A else B:=by subst e; exact oH h
theorem eI {b:Bool} {A:Prop} (e:b=true) (h:A):if b=true then A else B:=by subst e; exact kN h
theorem xI:bc "any" = some (.builtin "any"):=by decide +kernel
theorem qS (i:Int) (l:List Int):wu (.int i) (l.map V.int)=decide (i∈l):=by
 rw [yV,Xg,Xb,decide_eq_true_iff]
 exact ⟨λ⟨y,h1,h2⟩=>by have:y=i:=(by simpa using h2); rw [<- this]; exact h1,λh=>⟨i,h,by simp⟩⟩
theorem ff.j8 {r:List (Key×V)} {a:ae} (e:ff t H H') (ht:H t=some (.dK r)) (h:d8 K H a xs):d8 K H' a xs:=by
 rcases h with (h | ⟨o,h⟩) | h
 ·exact .inl (.inl (e a _ (λz=>by rw [z,ht] at h; cases h) h))
 ·exact .inl (.inr ⟨o,e a _ (λz=>by rw [z,ht] at h; cases h) h⟩)
 ·exact .inr h
structure Mt (K:Rb) (C:ae) (m:ax) (st:bg) (ps:List ax) (f:ae) (fd:az):Prop where
 fn:sg K m (("Dealing." : ax)++m) st f fd
 me:Meth K C m f
 bd:jU K fd ps []
structure Dc (K:Rb) (C:ae):Prop where
 cl:xp K C
 n1:iQ K C "many_hands"
 n2:iQ K C "able_of"
 n3:iQ K C "hand_of"
 n4:iQ K C "next_number"
 n5:iQ K C "moved_last"
 n6:iQ K C "moved_in_all"
structure DD where
 n:Int
 nx:Int
 ml:Int
 ma:Int
 nums:List Int
 ws:List (List Int)
 hs:List Int
 dx:ae
 da:ae
 dh:ae
 ts:List ae
end Ab
variable {D:DD}
namespace Ab
open PySem L2
noncomputable def DD.iu (D:DD):List (ax×V):=[("many_hands",.int D.n),("able_of",.ref D.da),("hand_of",.ref D.dh),("next_number",.int D.nx),("moved_last",.int D.ml),("moved_in_all",.int D.ma)]
noncomputable def fe (nums:List Int) (ts:List ae):List (Key×V):=(nums.zip ts).map λp=>(.inl p.1,.ref p.2)
noncomputable def gi (nums hs:List Int):List (Key×V):=(nums.zip hs).map λp=>(.inl p.1,.int p.2)
structure iz (K:Rb) (H:Hp) (C x:ae) (D:DD):Prop where
 ins:H x=some (.ins C D.dx D.iu)
 dr:H D.da=some (.dK (fe D.nums D.ts))
 hand:H D.dh=some (.dK (gi D.nums D.hs))
 tl:D.ts.length=D.nums.length
 wl:D.ws.length=D.nums.length
 hl:D.hs.length=D.nums.length
 tup:∀ (i:Nat) t l,D.ts[i]?=some t->D.ws[i]?=some l->d8 K H t (l.map V.int)
 ne:D.da≠D.dh
structure og (D:DD):Prop where
 bk:iR (mH D.n D.ws)=true
 dl:sF D.ws (xG D.hs)=true
 up:D.nums.Pairwise (· < ·)
 m7:∀ k∈D.nums,0<=k/\k < D.nx
 nx:0<=D.nx
 lv:∃ lv,Lv D.n D.ws D.hs lv
theorem iz.same {x:ae} (h:iz K H C x D) (s:aD H H'):iz K H' C x D :=
 ⟨s _ _ h.ins,s _ _ h.dr,s _ _ h.hand,h.tl,h.wl,h.hl,λi t l a b=>s.dk (h.tup i t l a b),h.ne⟩
theorem aEn {ts:List ae} (h:ts.length=nums.length):(fe nums ts).map (·.2)=ts.map V.ref:=by
 unfold fe
 rw [Xq]
 show (nums.zip ts).map (λp=>V.ref p.2)=_
 rw [show (λp:Int×ae=>V.ref p.2)=V.ref ∘ Prod.snd from rfl,<- Xq,List.map_snd_zip (by omega)]
theorem WL (h:hs.length=nums.length):(gi nums hs).map (·.2)=hs.map V.int:=by
 unfold gi
 rw [Xq]
 show (nums.zip hs).map (λp=>V.int p.2)=_
 rw [show (λp:Int×Int=>V.int p.2)=V.int ∘ Prod.snd from rfl,<- Xq,List.map_snd_zip (by omega)]
def qT (K:Rb) (C:ae):Sp:=λvs H Q _=>∃ (x:ae) (D:DD),vs = [.ref x]/\iz K H C x D/\∀ p H',aD H H'->Den K H' (mH D.n D.ws) (.ref p)->Q (.ref p) H'
theorem aFN:c_ ["self"] ["self"] (aI uV):=.of
theorem aEo (G:Mt K C "book_now" uV ["self"] f fd) (T:Dc K C) (B:Bl mg):b_ P w K mg base d7 1 f fd ["self"] (qT K C):=by
 refine G.fn.oK aFN λfh A outer s H vs Q E hr h=>?_
 ·obtain ⟨x,D,rfl,hD,k⟩:=h
  refine ⟨_,aJ (aR (cC (aA (cM (pv 0) rfl) (aA (cS (mG rfl) rfl B.tuple gG (aA (tV Ti Th Tq lB (cM (pv 0) rfl)) aC)) aC)))),?_⟩
  refine ⟨_,rfl,x,C,D.dx,_,_,rfl,hD.ins,T.cl,T.n1,rfl,_,rfl,x,C,D.dx,_,_,rfl,hD.ins,T.cl,T.n2,rfl,.inr (.inr (.inl ⟨rfl,.inl ⟨_,hD.dr⟩⟩)),D.da,_,rfl,rfl,.inl hD.dr,λv hv=>⟨v,D.da,_,rfl,aB,.inl ((aD.new hv) _ _ hD.dr),λt ht=>⟨kc _ _,λp hp=>?_⟩⟩⟩
  rw [aEn hD.tl] at hp ⊢
  have s1:=(aD.new (o:=mn v D.da) hv).trans ((aD.new (o:=.tup (D.ts.map V.ref)) ht).trans (aD.new (o:=.tup [.int D.n,.ref t]) hp))
  refine k p _ s1 (aC5 (d8.of aB) ((aD.new hp).dk (d8.of aB)) (rR (by rw [Qc,Qc,hD.tl,hD.wl]) λi d z h1 h2=>?_))
  rw [Qh] at h1 h2
  obtain ⟨l,hl,rfl⟩:=Qp.mp h1
  obtain ⟨t',t8,rfl⟩:=Qp.mp h2
  exact cV.mpr ⟨t',rfl,s1.dk (hD.tup i t' l t8 hl)⟩
def oA (K:Rb) (C:ae):Sp:=λvs H Q _=>∃ (x:ae) (D:DD),vs = [.ref x]/\iz K H C x D/\∀ p H',aD H H'->H' p=some (.tup (D.hs.map V.int))->Q (.ref p) H'
theorem aFO:c_ ["self"] ["self"] (aI nC):=.of
theorem aEp (G:Mt K C "deal_now" nC ["self"] f fd) (T:Dc K C) (B:Bl mg):b_ P w K mg base d7 1 f fd ["self"] (oA K C):=by
 refine G.fn.oK aFO λfh A outer s H vs Q E hr h=>?_
 ·obtain ⟨x,D,rfl,hD,k⟩:=h
  refine ⟨_,aJ (aR (cS (mG rfl) rfl B.tuple gG (aA (tV Ti Th Tq lB (cM (pv 0) rfl)) aC))),?_⟩
  refine ⟨_,rfl,x,C,D.dx,_,_,rfl,hD.ins,T.cl,T.n3,rfl,.inr (.inr (.inl ⟨rfl,.inl ⟨_,hD.hand⟩⟩)),D.dh,_,rfl,rfl,.inl hD.hand,λv hv=>⟨v,D.dh,_,rfl,aB,.inl ((aD.new hv) _ _ hD.hand),λt ht=>?_⟩⟩
  rw [WL hD.hl]
  exact k t _ ((aD.new hv).trans (aD.new ht)) aB
noncomputable def DD.moved (D:DD) (m:Int):DD:={ D with ml:=m,ma:=D.ma+m }
def oB (K:Rb) (C:ae):Sp:=λvs H Q _=>∃ (x:ae) (D:DD) (m:Int),vs = [.ref x,.int m]/\H x=some (.ins C D.dx D.iu)/\Q .ft (upd H x (.ins C D.dx (D.moved m).iu))
theorem aFP:c_ ["self", "many"] ["self", "many"] (aI nD):=.of
theorem aEq (G:Mt K C "count_moved" nD ["self", "many"] f fd) (T:Dc K C):b_ P w K mg base d7 1 f fd ["self", "many"] (oB K C):=by
 refine G.fn.oK aFP λfh A outer s H vs Q E hr h=>?_
 ·obtain ⟨x,D,m,rfl,hx,k⟩:=h
  refine ⟨_,aE (pA (pv 0) (pv 1) rfl) (aJ (nJ (pv 0) (pv 1) M0)),?_⟩
  refine ⟨_,rfl,_,rfl,x,C,D.dx,_,rfl,hx,T.cl,T.n5,(show (6:Nat) < 1000 by decide),?_⟩
  refine ⟨_,rfl,x,C,D.dx,_,_,rfl,aB,T.cl,T.n6,rfl,_,rfl,_,_,rfl,rfl,D.dx,_,aB,(show (6:Nat) < 1000 by decide),?_⟩
  rw [kG]
  exact k
def vK (K:Rb) (C:ae):Sp:=λvs H Q _=>∃ (x:ae) (D:DD),vs = [.ref x]/\iz K H C x D/\0<=D.n/\D.n<=6/\∀ p H',aD H H'->H' p=some (.tup ((bT D.n D.hs).map V.int))->Q (.ref p) H'
theorem aEr:c_ ["self"] ["self"] (aI rJ):=.of
theorem aC6 (G:Mt K C "loads" rJ ["self"] f fd) (T:Dc K C) (GD:Mt K C "deal_now" nC ["self"] fD dD) (OD:b_ P w K mg base d7 1 fD dD ["self"] (oA K C)) (GC:Fn K mg "counted" jZ ["hands", "deal"] fC dC) (OC:b_ P w K mg base d7 1 fC dC ["hands", "deal"] (lH K)):b_ P w K mg base d7 2 f fd ["self"] (vK K C):=by
 refine G.fn.oK aEr λfh A outer s H vs Q E hr h=>?_
 ·obtain ⟨x,D,rfl,hD,h0,h6,k⟩:=h
  have r1:dz 1 _:=hr
  refine ⟨_,aJ (aR (aW GC OC r1 rfl (aA (cM (pv 0) rfl) (aA (cW (pv 0) T.cl GD.me OD r1 GD.bd .nil gJ) aC)))),?_⟩
  refine ⟨_,rfl,x,C,D.dx,_,_,rfl,hD.ins,T.cl,T.n1,rfl,_,rfl,x,D.dx,_,rfl,hD.ins,rfl,x,D,rfl,hD,λp H1 s1 hp=>?_⟩
  exact ⟨D.n,p,D.hs,rfl,d8.of hp,h0,h6,λq H2 s2 hq=>k q H2 (s1.trans s2) hq⟩
def zI (K:Rb) (C:ae):Sp:=λvs H Q _=>∃ (x:ae) (D:DD),vs = [.ref x]/\H x=some (.ins C D.dx D.iu)/\∀ p,H p=none->Q (.ref p) (upd H p (.tup [.int D.ml,.int D.ma]))
theorem aFQ:c_ ["self"] ["self"] (aI uY):=.of
theorem aEs (G:Mt K C "moved" uY ["self"] f fd) (T:Dc K C):b_ P w K mg base d7 1 f fd ["self"] (zI K C):=by
 refine G.fn.oK aFQ λfh A outer s H vs Q E hr h=>?_
 ·obtain ⟨x,D,rfl,hx,k⟩:=h
  refine ⟨_,aJ (aR (cC (aA (cM (pv 0) rfl) (aA (cM (pv 0) rfl) aC)))),?_⟩
  exact ⟨_,rfl,x,C,D.dx,_,_,rfl,hx,T.cl,T.n5,rfl,_,rfl,x,C,D.dx,_,_,rfl,hx,T.cl,T.n6,rfl,kc _ _,λp hp=>k p hp⟩
theorem MY:bc "dict" = some (.type "dict"):=by decide +kernel
def zJ (K:Rb) (C:ae):Sp:=λvs H Q _=>∃ (x:ae) (D:DD),vs = [.ref x]/\iz K H C x D/\∀ p,H p=none->Q (.ref p) (upd H p (.dK (gi D.nums D.hs)))
theorem aFR:c_ ["self"] ["self"] (aI Fc):=.of
theorem aEt (G:Mt K C "deal" Fc ["self"] f fd) (T:Dc K C) (B:Bl mg):b_ P w K mg base d7 1 f fd ["self"] (zJ K C):=by
 refine G.fn.oK aFR λfh A outer s H vs Q E hr h=>?_
 ·obtain ⟨x,D,rfl,hD,k⟩:=h
  refine ⟨_,aJ (aR (cS yQ rfl B.dict MY (aA (cM (pv 0) rfl) aC))),?_⟩
  exact ⟨_,rfl,x,C,D.dx,_,_,rfl,hD.ins,T.cl,T.n3,rfl,D.dh,_,rfl,.inl hD.hand,λp hp=>k p hp⟩
section
variable {dK:az}
def xJ (K:Rb) (C Pt:ae):Sp:=λvs H Q _=>∃ (x:ae) (D:DD),vs = [.ref x]/\iz K H C x D/\og D/\H Pt=some (.tab qR)/\∀ q lv H',aD H H'->H' q=some (.tup (lv.map V.int))->nF D.n D.ws D.hs lv->Q (.ref q) H'
theorem aC7:c_ ["self"] ["self"] (aI qK):=.of
theorem aBD {Sn:ae} {SJ:az} (G:Mt K C "levels" qK ["self"] f fd) (T:Dc K C) (GB:Mt K C "book_now" uV ["self"] A2 A5) (OB:b_ P w K mg base d7 1 A2 A5 ["self"] (qT K C)) (GD:Mt K C "deal_now" nC ["self"] A1 A4) (OD:b_ P w K mg base d7 1 A1 A4 ["self"] (oA K C)) (GLw:Fn K mg "levels_or_way" HK ["book", "deal"] Sn SJ) (OLw:b_ P w K mg base d7 8 Sn SJ ["book", "deal"] (LY K Pt)):b_ P w K mg base d7 9 f fd ["self"] (xJ K C Pt):=by
 refine G.fn.oK aC7 λfh A outer s H vs Q E hr h=>?_
 ·obtain ⟨x,D,rfl,hD,hM,hT,k⟩:=h
  have r8:dz 8 _:=hr
  have r1:dz 1 _:=hr.mono (by decide)
  refine ⟨_,aJ (aR (bN cD (aW GLw OLw r8 rfl (aA (cW (pv 0) T.cl GB.me OB r1 GB.bd .nil gJ) (aA (cW (pv 0) T.cl GD.me OD r1 GD.bd .nil gJ) aC))) aH (λ_ _=>rfl))),?_⟩
  refine ⟨_,rfl,x,D.dx,_,rfl,hD.ins,rfl,x,D,rfl,hD,λp H1 s1 hp=>?_⟩
  refine ⟨_,rfl,x,D.dx,_,rfl,s1 _ _ hD.ins,rfl,x,D,rfl,hD.same s1,λq H2 s2 hq=>?_⟩
  have pd:=s1.trans s2
  refine ⟨.ref p,.ref q,D.n,D.ws,D.hs,rfl,⟨s2.den _ _ hp,hM.bk,cV.mpr ⟨q,rfl,d8.of hq⟩,hM.dl⟩,pd _ _ hT,λr H3 s3 TD=>?_⟩
  rcases TD with ⟨q',lv,e1,e2,L⟩ | ⟨q',ps,ss,_,_,_,_,W⟩
  ·exact ⟨r,_,1,.ref q',rfl,rfl,d8.of e1,rfl,k q' lv H3 (pd.trans s3) e2 L⟩
  ·obtain ⟨lv,L⟩:=hM.lv
   exact (aEm L (λw l hl t ht=>(bA ((aZ hM.bk).2.2.2 l (Qd hl))).2.1 t ht) W).elim
noncomputable def DD.sk (D:DD):DD:={ D with n:=D.n+1,ml:=0 }
def VJ (K:Rb) (C:ae):Sp:=λvs H Q _=>∃ (x:ae) (D:DD),vs = [.ref x]/\H x=some (.ins C D.dx D.iu)/\D.n≠6/\Q (.int D.n) (upd H x (.ins C D.dx D.sk.iu))
theorem VI:c_ ["self"] ["self"] (aI uX):=.of
theorem aEu (G:Mt K C "come" uX ["self"] f fd) (T:Dc K C) (B:Bl mg) (GC:Mt K C "count_moved" nD ["self", "many"] fC dC) (OC:b_ P w K mg base d7 1 fC dC ["self", "many"] (oB K C)):b_ P w K mg base d7 2 f fd ["self"] (VJ K C):=by
 obtain ⟨JE,G8⟩:=B.i9
 refine G.fn.oK VI λfh A outer s H vs Q E hr h=>?_
 ·obtain ⟨x,D,rfl,hx,h6,k⟩:=h
  have r1:dz 1 _:=hr
  refine ⟨_,aE (bJ (aP dY (cM (pv 0) rfl) (lM (v:=.int 6) rfl G8 ⟨JE,rfl⟩) (aU _)) dZ aS)
   (aE (nJ (pv 0) aH M0)
   (aE (cL (kH (pv 0) T.cl GC.me OC r1 GC.bd .nil gJ (aA aH aC)))
   (aJ (aR (aY fX (cM (pv 0) rfl) aH))))),?_⟩
  refine ⟨_,rfl,x,C,D.dx,_,_,rfl,hx,T.cl,T.n1,rfl,rfl,_,rfl,bK (decide_eq_false λz=>h6 (by injection z)) ?_⟩
  refine ⟨_,rfl,x,C,D.dx,_,_,rfl,hx,T.cl,T.n1,rfl,_,_,rfl,rfl,D.dx,_,hx,(show (6:Nat) < 1000 by decide),?_⟩
  refine ⟨_,rfl,x,D.dx,_,rfl,aB,rfl,x,{ D with n:=D.n+1 },0,rfl,aB,?_⟩
  rw [kG]
  refine ⟨_,rfl,x,C,D.dx,_,_,rfl,aB,T.cl,T.n1,rfl,_,_,rfl,rfl,?_⟩
  have e:D.n+1 - 1=D.n:=by omega
  have e2:((({ D with n:=D.n+1 }:DD).moved 0).iu)=D.sk.iu:=by
   unfold DD.moved DD.sk DD.iu
   simp
  show Q (.int (D.n+1 - 1)) (upd H x (.ins C D.dx ((({ D with n:=D.n+1 }:DD).moved 0).iu)))
  rw [e,e2]
  exact k
noncomputable def DD.gone (D:DD):DD:={ D with n:=D.n - 1,ml:=0 }
def UD (K:Rb) (C:ae):Sp:=λvs H Q _=>∃ (x:ae) (D:DD),vs = [.ref x]/\iz K H C x D/\D.n≠1/\(∀ l∈D.ws,D.n - 1∉l)/\D.nums.length<=1000/\∀ H',ff x H H'->H' x=some (.ins C D.dx D.gone.iu)->Q .ft H'
theorem HS:c_ ["self", "last"] ["self"] (aI tj):=.of
theorem aHi (G:Mt K C "go" tj ["self"] f fd) (T:Dc K C) (B:Bl mg) (GC:Mt K C "count_moved" nD ["self", "many"] fC dC) (OC:b_ P w K mg base d7 1 fC dC ["self", "many"] (oB K C)):b_ P w K mg base d7 2 f fd ["self"] (UD K C):=by
 refine G.fn.oK HS λfh A outer s H vs Q E hr h=>?_
 ·obtain ⟨x,D,rfl,hD,h1,jq,hlen,k⟩:=h
  have r1:dz 1 _:=hr
  refine ⟨_,aE (aX (i:=1) HS.nd rfl (Or.inr rfl) (aY fX (cM (pv 0) rfl) aH))
   (aE (bJ (PW.pt (gD (aP dY (pv 1) aH (aU _)) (eY (bM (aL (kZ rfl) rfl B.any xI (aA (WS (own:=["able"]) (fr:=[1]) (fk:=["last"]) (bL (aI tj) ["self", "last"] rfl rfl (by decide +kernel)) rfl (tV Ti Th Tq lB (cM (pv 0) rfl))
    (λ_ _ _ _=>(aV (i:=0) (show (["able", "last"]:List ax).Nodup by decide +kernel) rfl (Or.inl rfl))) (λ_ _ _ _=>eO)
    (λ_ _ _ _=>(gQ (hG (K:=K) rfl) (pv 1) (pv 0) (by with_unfolding_all rfl)))) aC)))))) dZ aS)
   (aE (nJ (pv 0) aH aGU)
   (aJ (cL (kH (pv 0) T.cl GC.me OC r1 GC.bd .nil gJ (aA aH aC)))))),?_⟩
  refine ⟨_,rfl,x,C,D.dx,_,_,rfl,hD.ins,T.cl,T.n1,rfl,_,_,rfl,rfl,?_⟩
  dsimp only [bO]
  refine ⟨_,rfl,rfl,_,rfl,bK (decide_eq_false λz=>h1 (by injection z; omega)) ?_⟩
  refine ⟨_,rfl,x,C,D.dx,_,_,rfl,hD.ins,T.cl,T.n2,rfl,.inr (.inr (.inl ⟨rfl,.inl ⟨_,hD.dr⟩⟩)),D.da,_,rfl,rfl,.inl hD.dr,λv hv=>?_⟩
  have s1:=aD.new (o:=mn v D.da) hv
  have ev:upd H v (mn v D.da) v=some (mn v D.da):=aB
  have r_:=hD.same s1
  generalize upd H v (mn v D.da)=H1 at s1 ev r_ ⊢
  refine ⟨v,D.da,_,rfl,ev,r_.dr,λo=>?_⟩
  have z2:upd H1 D.da (.fm o (.dK (fe D.nums D.ts))) D.da=some (.fm o (.dK (fe D.nums D.ts))):=aB
  have b2:ff D.da H1 (upd H1 D.da (.fm o (.dK (fe D.nums D.ts)))):=ff.at
  have oz:(fe D.nums D.ts).length=D.nums.length:=by unfold fe; rw [Qc,Xm,hD.tl,Zo]
  refine xC (a:=D.da) (o:=o) (kvs:=fe D.nums D.ts) (λσ=>∃ u,σ = [u,some (.int (D.n - 1))]) (λi zs H2=>zs=(List.replicate i false).map V.bl/\H2=upd H1 D.da (.fm o (.dK (fe D.nums D.ts)))) (iK (by omega)) ⟨none,rfl⟩ ⟨rfl,rfl⟩ (λi zs H2 h=>by rw [h.1,Qc,Jg]; exact Qg _) (λi zs H2 h=>by rw [h.2]; exact z2) ?_ ?_
  ·rintro i zs σ kv H2 jz ⟨u,rfl⟩ ⟨rfl,rfl⟩ hz
   obtain ⟨num,t,f_,ht,rfl⟩:∃ num t,D.nums[i]?=some num/\D.ts[i]?=some t/\kv=(.inl num,.ref t):=by
    unfold fe at jz
    rw [Qh] at jz
    obtain ⟨p,hp,e⟩:=Qp.mp jz
    rw [Jb] at hp
    exact ⟨p.1,p.2,hp.1,hp.2,e.symm⟩
   have hi:i < D.ts.length:=(Qa.mp ht).1
   have hl:=Qb (show i < D.ws.length by rw [hD.wl,<- hD.tl]; exact hi)
   generalize D.ws[i]'(by rw [hD.wl,<- hD.tl]; exact hi)=l at hl
   have nk:=r_.tup i t l ht hl
   have CD:d8 K (upd H1 D.da (.fm o (.dK (fe D.nums D.ts)))) t (l.map V.int):=b2.j8 r_.dr nk
   refine cR ?_
   refine ⟨_,rfl,_,rfl,t,_,rfl,.inr CD,rfl,jR _,hz,⟨_,rfl⟩,?_,rfl⟩
   rw [Zu,Qt]
   show _++[V.bl (wu (.int (D.n - 1)) (l.map V.int))]=_
   rw [qS,decide_eq_false (jq l (Qd hl))]; rfl
  ·rintro zs H2 ⟨rfl,rfl⟩ pc jf
   have tf:pc≠D.da:=λz=>by rw [z,z2] at jf; cases jf
   refine ⟨pc,List.replicate (fe D.nums D.ts).length false,rfl,d9.of (by rw [aF tf,aB]),_,rfl,?_⟩
   have s3:aD H1 (upd (upd (upd H1 D.da (.fm o (.dK (fe D.nums D.ts)))) pc (.lst ((List.replicate (fe D.nums D.ts).length false).map V.bl))) D.da (.dK (fe D.nums D.ts))):=λb' u ic=>by
    by_cases c:b'=D.da
    ·rw [c] at ic ⊢
     rw [aB,<- r_.dr]; exact ic
    ·have n2:b'≠pc:=λz=>by rw [aF tf] at jf; rw [z,jf] at ic; cases ic
     rw [aF c,aF n2,aF c]; exact ic
   generalize upd (upd (upd H1 D.da (.fm o (.dK (fe D.nums D.ts)))) pc (.lst ((List.replicate (fe D.nums D.ts).length false).map V.bl))) D.da (.dK (fe D.nums D.ts))=H4 at s3 ⊢
   refine bK (by simp) ?_
   have s4:=s1.trans s3
   have PQ:=s4 _ _ hD.ins
   refine ⟨_,rfl,x,C,D.dx,_,_,rfl,PQ,T.cl,T.n1,rfl,_,_,rfl,rfl,D.dx,_,PQ,(show (6:Nat) < 1000 by decide),?_⟩
   refine ⟨_,rfl,x,D.dx,_,rfl,aB,rfl,x,{ D with n:=D.n - 1 },0,rfl,aB,?_⟩
   rw [kG]
   refine k _ (λc' u hc hu=>by rw [aF hc]; exact s4 _ _ hu) ?_
   rw [aB]
   unfold DD.moved DD.gone DD.iu
   simp
end
theorem oC (h:hs.length=nums.length):(gi nums hs).length=nums.length:=by unfold gi; rw [Qc,Xm,h,Zo]
theorem gU {ts:List ae} (h:ts.length=nums.length):(fe nums ts).length=nums.length:=by unfold fe; rw [Qc,Xm,h,Zo]
theorem vL {ts:List ae} (h:ts.length=nums.length) (k:Int) (t:ae):fe (nums++[k]) (ts++[t])=fe nums ts++[(.inl k,.ref t)]:=by
 unfold fe
 rw [List.zip_append h.symm,Qt]; rfl
theorem aEv (h:hs.length=nums.length) (k g:Int):gi (nums++[k]) (hs++[g])=gi nums hs++[(.inl k,.int g)]:=by
 unfold gi
 rw [List.zip_append h.symm,Qt]; rfl
theorem jH {ts:List ae} (h:ts.length=nums.length):((fe nums ts).map λkv=>kV kv.1)=nums.map V.int:=by
 unfold fe
 rw [Xq]
 show (nums.zip ts).map (λp=>V.int p.1)=_
 rw [show (λp:Int×ae=>V.int p.1)=V.int ∘ Prod.fst from rfl,<- Xq,List.map_fst_zip (by omega)]
theorem iU {f:α->V}:∀ {nums:List Int} {xs:List α} {k:Int},k∉nums->bX ((nums.zip xs).map λp=>((Sum.inl p.1:Key),f p.2)) (.inl k)=none
 | [],_,_,_=>rfl
 | _::_,[],_,_=>rfl
 | n::nums,x::xs,k,h=>by
  have ne:¬ (Sum.inl n:Key)=Sum.inl k:=λz=>h (by have:n=k:=(by simpa using z); rw [this]; exact Qm ..)
  show bX (((Sum.inl n:Key),f x)::_) (.inl k)=none
  rw [cQ ne]
  exact iU λz=>h (Qi _ z)
theorem cK {f:α->V}:∀ {nums:List Int} {xs:List α} {k:Int} {i:Nat} {x:α},nums.Nodup->nums[i]?=some k->xs[i]?=some x->bX ((nums.zip xs).map λp=>((Sum.inl p.1:Key),f p.2)) (.inl k)=some (f x)
 | [],_,_,_,_,_,h,_=>by simp at h
 | _::_,[],_,_,_,_,_,h=>by simp at h
 | n::nums,y::xs,k,0,x,_,h1,h2=>by
  have e1:n=k:=by simpa using h1
  have e2:y=x:=by simpa using h2
  subst e1 e2
  show bX (((Sum.inl n:Key),f y)::_) (.inl n)=_
  rw [dQ rfl]
 | n::nums,y::xs,k,i+1,x,nd,h1,h2=>by
  have u9:nums[i]?=some k:=by simpa using h1
  have ne:¬ (Sum.inl n:Key)=Sum.inl k:=λz=>(Jh.mp nd).1 (by have:n=k:=(by simpa using z); rw [this]; exact Qd u9)
  show bX (((Sum.inl n:Key),f y)::_) (.inl k)=_
  rw [cQ ne]
  exact cK (Jh.mp nd).2 u9 (by simpa using h2)
theorem xK (nd:l.Nodup) {x:Int} (a:l[i]?=some x) (b:l[j]?=some x):i=j:=by
 obtain ⟨h1,e1⟩:=Qa.mp a
 obtain ⟨h2,e2⟩:=Qa.mp b
 exact (Za nd).mp (e1.trans e2.symm)
theorem WK:∀ {nums hs:List Int} {k:Nat} {key v:Int},nums.Nodup->hs.length=nums.length->nums[k]?=some key->eR (gi nums hs) (.inl key) (.int v)=gi nums (hs.set k v):=by
 intro nums hs k key v nd hl hk
 have ym:k < hs.length:=by rw [hl]; exact (Qa.mp hk).1
 have g_:(bX (gi nums hs) (.inl key)).isSome=true:=by
  have:=cK (f:=V.int) nd hk (Qb ym)
  unfold gi
  rw [this]; rfl
 unfold eR
 rw [iG,g_,if_pos rfl]
 unfold gi
 rw [Xq]
 refine Yo λj=>?_
 rw [Qh,Qh]
 cases h1:nums[j]? with
 | none =>
  have e1:(nums.zip hs)[j]?=none:=by rw [Yi] at h1 ⊢; rw [Xm]; omega
  have e2:(nums.zip (hs.set k v))[j]?=none:=by rw [Yi] at h1 ⊢; rw [Xm]; omega
  rw [e1,e2]; rfl
 | some m =>
  have hj:j < hs.length:=by rw [hl]; exact (Qa.mp h1).1
  have e1:(nums.zip hs)[j]?=some (m,hs[j]):=Jb.mpr ⟨h1,Qb hj⟩
  rw [e1]
  by_cases c:j=k
  ·subst c
   have em:m=key:=by rw [hk] at h1; exact (Option.some.inj h1).symm
   have e2:(nums.zip (hs.set j v))[j]?=some (m,v):=Jb.mpr ⟨h1,by rw [Jy,if_pos rfl,if_pos hj]⟩
   rw [e2]
   show some (if (Sum.inl m:Key)=Sum.inl key then _ else _)=some _
   rw [if_pos (by rw [em])]
  ·have e2:(nums.zip (hs.set k v))[j]?=some (m,hs[j]):=Jb.mpr ⟨h1,by rw [Jy,if_neg (Ne.symm c)]; exact Qb hj⟩
   rw [e2]
   have nm:¬ (Sum.inl m:Key)=Sum.inl key:=λz=>by
    have z':m=key:=by simpa using z
    rw [z'] at h1
    exact c (xK nd h1 hk)
   show some (if (Sum.inl m:Key)=Sum.inl key then _ else _)=some _
   rw [if_neg nm]
theorem qU {f:α->V}:∀ {nums:List Int} {xs:List α} {k:Nat} {key:Int},nums.Nodup->xs.length=nums.length->nums[k]?=some key->qB ((nums.zip xs).map λp=>((Sum.inl p.1:Key),f p.2)) (.inl key)=((nums.eraseIdx k).zip (xs.eraseIdx k)).map λp=>((Sum.inl p.1:Key),f p.2)
 | [],_,_,_,_,_,h=>by simp at h
 | _::_,[],_,_,_,h,_=>by simp at h
 | n::nums,x::xs,0,key,nd,hl,h=>by
  have e:n=key:=by simpa using h
  subst e
  have hn:=(Jh.mp nd).1
  show List.filter _ (_::_)=_
  rw [Zs,if_neg (by simp)]
  refine List.filter_eq_self.mpr λp hp=>?_
  obtain ⟨q,hq,rfl⟩:=Xp.mp hp
  have:=(Zx hq).1
  simp
  intro z
  exact hn (z ▸ this)
 | n::nums,x::xs,k+1,key,nd,hl,h=>by
  have h':nums[k]?=some key:=by simpa using h
  have ih:=qU (f:=f) (Jh.mp nd).2 (by simpa using hl:xs.length=nums.length) h'
  have ne:¬ n=key:=λz=>(Jh.mp nd).1 (z ▸ Qd h')
  show List.filter _ (_::_)=_::_
  rw [Zs,if_pos (by simp [ne])]
  congr 1
def bU (x a b:ae) (H H':Hp):Prop:=∀ c u,c≠x->c≠a->c≠b->H c=some u->H' c=some u
theorem bU.refl (x a b:ae) (H:Hp):bU x a b H H:=λ_ _ _ _ _ h=>h
theorem bU.trans {x a b:ae} (p:bU x a b H H1) (q:bU x a b H1 H2):bU x a b H H2:=λc u h1 h2 h3 h=>q c u h1 h2 h3 (p c u h1 h2 h3 h)
theorem bU.of {x a b:ae} (s:aD H H'):bU x a b H H':=λc u _ _ _ h=>s c u h
theorem bU.x {x a b:ae} {u:HO}:bU x a b H (upd H x u):=λc v h1 _ _ h=>by rw [aF h1]; exact h
theorem bU.a {x a b:ae} {u:HO}:bU x a b H (upd H a u):=λc v _ h2 _ h=>by rw [aF h2]; exact h
theorem bU.b {x a b:ae} {u:HO}:bU x a b H (upd H b u):=λc v _ _ h3 h=>by rw [aF h3]; exact h
theorem bU.dk {x a b:ae} {fs:List (ax×V)} {k1 k2:List (Key×V)} (p:bU x a b H H') (hx:H x=some (.ins C dx fs)) (ha:H a=some (.dK k1)) (hb:H b=some (.dK k2)) (h:d8 K H t xs):d8 K H' t xs:=by
 have n:∀ u,H t=some u->(∀ C dx fs,u≠.ins C dx fs)->(∀ k,u≠.dK k)->H' t=some u:=λu e h1 h2 =>
  p t u (λz=>by rw [z,hx] at e; exact h1 _ _ _ (Option.some.inj e).symm) (λz=>by rw [z,ha] at e; exact h2 _ (Option.some.inj e).symm) (λz=>by rw [z,hb] at e; exact h2 _ (Option.some.inj e).symm) e
 rcases h with (h | ⟨o,h⟩) | h
 ·exact .inl (.inl (n _ h (by intro _ _ _ z; cases z) (by intro _ z; cases z)))
 ·exact .inl (.inr ⟨o,n _ h (by intro _ _ _ z; cases z) (by intro _ z; cases z)⟩)
 ·exact .inr h
theorem WJ (hs:List Int) {s:Nat×Int×Int} (h:ss[i]?=some s):h_ hs (ss.take (i+1))=(h_ hs (ss.take i)).set s.1 s.2.2:=by
 obtain ⟨h1,h2⟩:=Qa.mp h
 rw [Jw h1,h2]
 unfold h_
 rw [Yp]; rfl
theorem aEw (l:List α) (x y:α):(l++[x]).set l.length y=l++[y]:=by
 rw [List.set_append_right _ _ (Qg _)]; simp
noncomputable def DD.put (D:DD) (l:List Int) (t:ae) (hs:List Int) (m:Int):DD:={ D with nx:=D.nx+1,ml:=m,ma:=D.ma+m,nums:=D.nums++[D.nx],ws:=D.ws++[l],hs:=hs,ts:=D.ts++[t] }
structure Gd (D:DD) (l:List Int) (hs:List Int) (m:Int) (ss:List (Nat×Int×Int)) (last:Int):Prop where
 path:fY (D.ws++[l]) (D.hs++[D.n]) D.n ss last
 nd:(D.n::ss.map (·.2.2)).Nodup
 ne:ss≠[]
 hs:hs=h_ (D.hs++[D.n]) ss
 m:m=(ss.length:Int) - 1
def UC (K:Rb) (C Pt:ae):Sp:=λvs H Q _=>∃ (x t:ae) (D:DD) (l:List Int),vs = [.ref x,.ref t]/\iz K H C x D/\og D/\d8 K H t (l.map V.int)/\cB D.n (gH l)=true/\D.nums.length < 12/\H Pt=some (.tab rQ) /\
 ∀ hs m ss last H',bU x D.da D.dh H H'->Gd D l hs m ss last->iz K H' C x (D.put l t hs m)->og (D.put l t hs m)->Q (.int D.nx) H'
theorem sJ:c_ ["self", "able", "steps", "number", "numbers", "work", "giver", "taker"] ["self", "able"] (aI Ca):=.of
set_option maxHeartbeats 1000000 in
theorem aHj {EL So Sm B4:ae} {EV SK SI B_:az} (G:Mt K C "put" Ca ["self", "able"] f fd) (T:Dc K C) (B:Bl mg) (Nk:Fn K mg "is_work" pJ ["hands", "thing"] EL EV) (M7:b_ P w K mg base d7 2 EL EV ["hands", "thing"] (qQ K)) (GB:Mt K C "book_now" uV ["self"] A2 A5) (OB:b_ P w K mg base d7 1 A2 A5 ["self"] (qT K C)) (GD:Mt K C "deal_now" nC ["self"] A1 A4) (OD:b_ P w K mg base d7 1 A1 A4 ["self"] (oA K C)) (XW:Mt K C "loads" rJ ["self"] So SK) (OLm:b_ P w K mg base d7 2 So SK ["self"] (vK K C)) (Cq:Fn K mg "steps_to_least" lF ["book", "deal", "able", "measures"] Sm SI) (Ci:b_ P w K mg base d7 2 Sm SI ["book", "deal", "able", "measures"] (zG K Pt)) (FE:Mt K C "count_moved" nD ["self", "many"] B4 B_) (Bf:b_ P w K mg base d7 1 B4 B_ ["self", "many"] (oB K C)):b_ P w K mg base d7 3 f fd ["self", "able"] (UC K C Pt):=by
 obtain ⟨JD,KN⟩:=B.gv
 refine G.fn.oK sJ λfh A outer s H vs Q E hr h=>?_
 ·obtain ⟨x,t,D,l,rfl,hD,hM,ht,pj,o7,hT,k⟩:=h
  have r2:dz 2 _:=hr
  have r1:dz 1 _:=hr.mono (by decide)
  refine ⟨_,aE (bJ (bW (bM (aW Nk M7 r2 rfl (aA (cM (pv 0) rfl) (aA (pv 1) aC))))) dZ aS)
   (aE (bJ (aP dY (aL lA rfl B.len eQ (aA (cM (pv 0) rfl) aC)) (lM (v:=.int 12) rfl KN ⟨JD,rfl⟩) (aU _)) dZ aS)
   (aE (aX (i:=2) sJ.nd rfl (Or.inl rfl) (aW Cq Ci r2 rfl (aA (cW (pv 0) T.cl GB.me OB r1 GB.bd .nil gJ) (aA (cW (pv 0) T.cl GD.me OD r1 GD.bd .nil gJ) (aA (pv 1) (aA (cW (pv 0) T.cl XW.me OLm r2 XW.bd .nil gJ) aC))))))
   (aE (aX (i:=3) sJ.nd rfl (Or.inl rfl) (cM (pv 0) rfl))
   (aE (iZ (bV hr) (cM (pv 0) rfl) (pv 3) (pv 1) rfl)
   (aE (aX (i:=4) sJ.nd rfl (Or.inl rfl) (cS (jM rfl) rfl B.list pF (aA (cM (pv 0) rfl) aC)))
   (aE (iA ay.never rfl (hX (pv 2)) (oW rfl (dP (aV (i:=5) sJ.nd rfl (Or.inl rfl)) (dP (aV (i:=6) sJ.nd rfl (Or.inl rfl)) (dP (aV (i:=7) sJ.nd rfl (Or.inl rfl)) lO))))
    (aJ (iZ (bV hr) (cM (pv 0) rfl) (bN cN (pv 4) (pv 5) (λ_ _=>rfl)) (pv 7) rfl)))
   (aE (nJ (pv 0) aH M0)
   (aE (cL (kH (pv 0) T.cl FE.me Bf r1 FE.bd .nil gJ (aA (aY fX (aL bB rfl B.len eQ (aA (pv 2) aC)) aH) aC)))
   (aJ (aR (pv 3))))))))))),?_⟩
  obtain ⟨j7,jc,gk,ip⟩:=aZ hM.bk
  obtain ⟨mw,rn⟩:=fJ hM.dl
  obtain ⟨l0,l1,l2⟩:=bA pj
  have AQ:∀ g∈D.hs,0<=g/\g < D.n:=λg hg=>by
   obtain ⟨i,hi⟩:=Qs.mp hg
   have hl:=Qb (show i < D.ws.length by rw [<- mw]; exact (Qa.mp hi).1)
   exact (bA (ip _ (Qd hl))).2.1 g (rn i _ _ hi hl)
  have gz:D.nums.Nodup:=Ja.mpr (hM.up.imp λh=>Ju h)
  refine ⟨_,rfl,x,C,D.dx,_,_,rfl,hD.ins,T.cl,T.n1,rfl,_,rfl,D.n,.ref t,gH l,rfl,cV.mpr ⟨t,rfl,ht⟩,_,rfl,bK (by rw [pj]; rfl) ?_⟩
  refine ⟨_,rfl,x,C,D.dx,_,_,rfl,hD.ins,T.cl,T.n2,rfl,D.da,_,rfl,hD.dr,rfl,_,rfl,bK (decide_eq_false λz=>?_) ?_⟩
  ·injection z with z
   rw [gU hD.tl] at z
   omega
  refine ⟨_,rfl,x,D.dx,_,rfl,hD.ins,rfl,x,D,rfl,hD,λbp H1 s1 Dy=>?_⟩
  refine ⟨_,rfl,x,D.dx,_,rfl,s1 _ _ hD.ins,rfl,x,D,rfl,hD.same s1,λdp H2 s2 ik=>?_⟩
  have pd:=s1.trans s2
  refine ⟨_,rfl,_,rfl,x,D.dx,_,rfl,pd _ _ hD.ins,rfl,x,D,rfl,hD.same pd,by omega,jc,λmp H3 s3 AU=>?_⟩
  have zb:=pd.trans s3
  refine ⟨.ref bp,dp,t,mp,D.n,D.ws,D.hs,l,bT D.n D.hs,rfl,⟨(s2.trans s3).den _ _ Dy,hM.bk,cV.mpr ⟨dp,rfl,d8.of (s3 _ _ ik)⟩,hM.dl⟩,zb.dk ht,pj,d8.of AU,by unfold bT; rw [Qc,gM],zb _ _ hT,λsp H4 ps ss os last s4 ZG vc SS PT ND NE CL Am pz zq zr G2=>?_⟩
  dsimp only [bO]
  have Bw:=zb.trans s4
  have j1:=hD.same Bw
  have sz:∀ n:Nat,n < 1000->n < ag:=λn h=>Ya h (by decide +kernel)
  have yk:D.da≠x:=λz=>by have:=j1.dr; rw [z,j1.ins] at this; cases this
  have wq:D.dh≠x:=λz=>by have:=j1.hand; rw [z,j1.ins] at this; cases this
  refine ⟨_,rfl,x,C,D.dx,_,_,rfl,j1.ins,T.cl,T.n4,rfl,?_⟩
  dsimp only [bO]
  refine ⟨_,rfl,_,rfl,x,C,D.dx,_,_,rfl,j1.ins,T.cl,T.n2,rfl,_,rfl,D.da,_,rfl,qF.k (k:=.inl D.nx) j1.dr (sz _ (by rw [gU hD.tl]; omega)),?_⟩
  have oj:D.nx∉D.nums:=λz=>by have:=hM.m7 _ z; omega
  have e5:eR (fe D.nums D.ts) (.inl D.nx) (.ref t)=fe (D.nums++[D.nx]) (D.ts++[t]):=by
   rw [vL hD.tl]
   exact jX _ (iU oj)
  rw [e5]
  have x5:upd H4 D.da (.dK (fe (D.nums++[D.nx]) (D.ts++[t]))) x=some (.ins C D.dx D.iu):=by rw [aF yk.symm]; exact j1.ins
  have a5:upd H4 D.da (.dK (fe (D.nums++[D.nx]) (D.ts++[t]))) D.da=some (.dK (fe (D.nums++[D.nx]) (D.ts++[t]))):=aB
  have h5:upd H4 D.da (.dK (fe (D.nums++[D.nx]) (D.ts++[t]))) D.dh=some (.dK (gi D.nums D.hs)):=by rw [aF hD.ne.symm]; exact j1.hand
  have Nu:sp≠D.da:=λz=>by rw [z,j1.dr] at vc; cases vc
  have O0:upd H4 D.da (.dK (fe (D.nums++[D.nx]) (D.ts++[t]))) sp=some (.lst (ps.map V.ref)):=by rw [aF Nu]; exact vc
  have M5:fj (upd H4 D.da (.dK (fe (D.nums++[D.nx]) (D.ts++[t])))) ps ss:=⟨SS.len,λi p s' a b=>by
   have:=SS.at_ i p s' a b
   rw [aF (λz=>by rw [z,j1.dr] at this; cases this)]; exact this⟩
  have b5:bU x D.da D.dh H (upd H4 D.da (.dK (fe (D.nums++[D.nx]) (D.ts++[t])))):=(bU.of Bw).trans bU.a
  generalize upd H4 D.da (.dK (fe (D.nums++[D.nx]) (D.ts++[t])))=H5 at x5 a5 h5 O0 M5 b5 ⊢
  refine ⟨_,rfl,x,C,D.dx,_,_,rfl,x5,T.cl,T.n2,rfl,D.da,_,rfl,.inl a5,λnp KJ=>?_⟩
  dsimp only [bO]
  rw [jH (by rw [Qe,Qe,hD.tl]; rfl)]
  have s6:=aD.new (o:=.lst ((D.nums++[D.nx]).map V.int)) KJ
  have GO:upd H5 np (.lst ((D.nums++[D.nx]).map V.int)) np=some (.lst ((D.nums++[D.nx]).map V.int)):=aB
  have x6:=s6 _ _ x5
  have a6:=s6 _ _ a5
  have h6:=s6 _ _ h5
  have Dd:=s6 _ _ O0
  have WZ:fj (upd H5 np (.lst ((D.nums++[D.nx]).map V.int))) ps ss:=⟨M5.len,λi p s' a b=>s6 _ _ (M5.at_ i p s' a b)⟩
  have b6:=b5.trans (bU.of (x:=x) (a:=D.da) (b:=D.dh) s6)
  generalize upd H5 np (.lst ((D.nums++[D.nx]).map V.int))=H6 at s6 GO x6 a6 h6 Dd WZ b6 ⊢
  have Kb:np≠D.dh:=λz=>by rw [z,h6] at GO; cases GO
  have Di:sp≠D.dh:=λz=>by rw [z,h6] at Dd; cases Dd
  have xf:(D.hs++[D.n]).length=(D.nums++[D.nx]).length:=by rw [Qe,Qe,hD.hl]; rfl
  have NS:(D.nums++[D.nx]).Nodup:=Xe.mpr ⟨gz,by simp,λa ha b hb=>by
   have e:b=D.nx:=by simpa using hb
   rw [e]; exact λz=>oj (z ▸ ha)⟩
  refine ⟨_,rfl,sp,rfl,⟨_,d9.of Dd⟩,jC (K:=K) (a:=sp) (xs:=ps.map V.ref) (λi σ H'=>∃ v5 v6 v7,σ = [some (.ref x),some (.ref t),some (.ref sp),some (.int D.nx),some (.ref np),v5,v6,v7]/\ff D.dh H6 H'/\H' D.dh=some (.dK (if i=0 then gi D.nums D.hs else gi (D.nums++[D.nx]) (h_ (D.hs++[D.n]) (ss.take i))))) ⟨none,none,none,rfl,ff.refl _ _,h6⟩ (λi σ H' _ ⟨_,_,_,_,b,_⟩=>d9.of (b _ _ Di Dd)) ?_ ?_⟩
  ·rintro i y σ H' hy ⟨v5,v6,v7,rfl,b7,h7⟩
   rw [Qh] at hy
   obtain ⟨p,hp,rfl⟩:=Qp.mp hy
   have hi:i < ss.length:=by rw [<- SS.len]; exact (Qa.mp hp).1
   obtain ⟨s',g_⟩:∃ s',ss[i]?=some s':=⟨_,Qb hi⟩
   have BI:=WZ.at_ i p s' hp g_
   have CG:=b7 _ _ (λz=>by rw [z,h6] at BI; cases BI) BI
   have x7:=b7 _ _ wq.symm x6
   have J':=b7 _ _ Kb GO
   have ed:=gY PT s' (Qd g_)
   have i6:s'.1 < (D.nums++[D.nx]).length:=by rw [<- xf]; exact (Qa.mp ed.1).1
   obtain ⟨key,lx⟩:∃ key,(D.nums++[D.nx])[s'.1]?=some key:=⟨_,Qb i6⟩
   refine ⟨p,_,rfl,d8.of CG,rfl,_,_,rfl,_,_,rfl,_,_,rfl,rfl,?_⟩
   dsimp only [bO]
   refine ⟨_,rfl,_,rfl,x,C,D.dx,_,_,rfl,x7,T.cl,T.n3,rfl,_,rfl,_,rfl,np,_,(s'.1:Int),.int key,rfl,rfl,d9.of J',?_,D.dh,_,rfl,qF.k (k:=.inl key) h7 ?_,?_⟩
   ·show ue _ _=_
    exact gE (by rw [Qh,lx]; rfl)
   ·refine sz _ ?_
    by_cases c:i=0
    ·rw [if_pos c,oC hD.hl]; omega
    ·rw [if_neg c,oC (by rw [kK]; exact xf),Qe]
     show D.nums.length+1 < 1000
     omega
   ·refine ⟨_,_,_,rfl,b7.trans ff.at,?_⟩
    rw [aB,if_neg (Nat.succ_ne_zero i),WJ _ g_]
    by_cases c:i=0
    ·subst c
     rw [if_pos rfl]
     have eg:s'.2.1=D.n:=by
      cases ss with
      | nil=>simp at g_
      | cons s0 ss =>
       have e:s0=s':=by simpa using g_
       rw [<- e]; exact PT.1
     have ew:s'.1=D.hs.length:=by
      by_cases d:s'.1 < D.hs.length
      ·have:=ed.1
       rw [Ql d] at this
       have:=AQ _ (Qd this)
       omega
      ·rw [Qe] at i6
       have:s'.1 < D.nums.length+1:=i6
       have:=hD.hl
       omega
     have ek:key=D.nx:=by
      rw [ew,hD.hl,Qo (Qg _),Jt] at lx
      simpa using lx.symm
     rw [ek,Yg]
     show some (HO.dK (eR (gi D.nums D.hs) (.inl D.nx) (.int s'.2.2)))=some (.dK (gi (D.nums++[D.nx]) ((D.hs++[D.n]).set s'.1 s'.2.2)))
     rw [ew,aEw,aEv hD.hl]
     exact congrArg (λz=>some (HO.dK z)) (jX _ (iU oj))
    ·rw [if_neg c]
     exact congrArg (λz=>some (HO.dK z)) (WK NS (by rw [kK]; exact xf) lx)
  ·rintro σ H7 ⟨v5,v6,v7,rfl,b7,h7⟩
   have sl:(ps.map V.ref).length=ss.length:=by rw [Qc,SS.len]
   rw [sl,if_neg (by intro z; exact NE (Zh.mp z)),Jm] at h7
   have x7:=b7 _ _ wq.symm x6
   have a7:=b7 _ _ hD.ne a6
   have DZ:=b7 _ _ Di Dd
   have LL:bU x D.da D.dh H H7:=b6.trans λc u _ _ h3 hu=>b7 _ _ h3 hu
   refine ⟨_,rfl,x,C,D.dx,_,_,rfl,x7,T.cl,T.n4,rfl,_,_,rfl,rfl,D.dx,_,x7,(show (6:Nat) < 1000 by decide),?_⟩
   refine ⟨_,rfl,x,D.dx,_,rfl,aB,rfl,_,rfl,sp,_,rfl,.inl (d9.of (by rw [aF (λz=>by rw [z,x7] at DZ; cases DZ)]; exact DZ)),_,_,rfl,rfl,x,{ D with nx:=D.nx+1 },(ss.length:Int) - 1,?_,aB,?_⟩
   ·rw [sl]; rfl
   rw [kG]
   refine ⟨_,rfl,?_⟩
   have EY:bU x D.da D.dh H (upd H7 x (.ins C D.dx (D.put l t (h_ (D.hs++[D.n]) ss) ((ss.length:Int) - 1)).iu)):=LL.trans bU.x
   have lr:=pz last zq zr
   have ld:∀ o:Int,0<=o->o < D.n->(bT D.n D.hs).getD o.toNat 0=((D.hs.count o:Nat):Int):=λo h1 h2=>by
    rw [Xh,iT (by omega),show ((o.toNat:Nat):Int)=o by omega]; rfl
   obtain ⟨lv,L⟩:=hM.lv
   obtain ⟨⟨zi,L'⟩,CA⟩:=aHh L mw AQ (λl' mf=>(bA (ip l' mf)).2.1) l1 rn PT ND NE CL Am (λo ho jq=>by
    have q:=pz o ho jq
    rw [ld _ lr.1 lr.2.1,ld _ q.1 q.2.1] at q
    exact q) zq zr G2
   have xc:(h_ (D.hs++[D.n]) ss).length=D.nums.length+1:=by rw [kK,xf,Qe]; rfl
   refine k (h_ (D.hs++[D.n]) ss) ((ss.length:Int) - 1) ss last _ EY ⟨PT,ND,NE,rfl,rfl⟩ ⟨aB,(aF yk).trans a7,(aF wq).trans h7,?_,?_,?_,λi t' l' q1 q2=>?_,hD.ne⟩ ⟨?_,?_,?_,?_,?_,zi,L'⟩
   ·show (D.ts++[t]).length=(D.nums++[D.nx]).length
    rw [Qe,Qe,hD.tl]; rfl
   ·show (D.ws++[l]).length=(D.nums++[D.nx]).length
    rw [Qe,Qe,hD.wl]; rfl
   ·show (h_ (D.hs++[D.n]) ss).length=(D.nums++[D.nx]).length
    rw [xc,Qe]; rfl
   ·refine EY.dk hD.ins hD.dr hD.hand ?_
    have oy:(D.ts++[t])[i]?=some t':=q1
    have zg:(D.ws++[l])[i]?=some l':=q2
    by_cases c:i < D.ts.length
    ·rw [Ql c] at oy
     rw [Ql (by rw [hD.wl,<- hD.tl]; exact c)] at zg
     exact hD.tup i t' l' oy zg
    ·have ci:i=D.ts.length:=by
      have:=(Qa.mp oy).1
      rw [Qe] at this
      have:i < D.ts.length+1:=this
      omega
     have cw:D.ts.length=D.ws.length:=by rw [hD.tl,hD.wl]
     rw [ci,Qo (Qg _),Jt] at oy
     rw [ci,cw,Qo (Qg _),Jt] at zg
     have e1:t=t':=by simpa using oy
     have e2:l=l':=by simpa using zg
     rw [<- e1,<- e2]; exact ht
   ·refine jA j7 jc ?_ λl' mf=>?_
    ·show (D.ws++[l]).length<=12
     rw [Qe,hD.wl]
     show D.nums.length+1<=12
     omega
    ·have pk:l'∈D.ws++[l]:=mf
     rcases Jd.mp pk with z | z
     ·exact ip l' z
     ·rw [show l'=l by simpa using z]; exact pj
   ·refine zC ?_ CA
    show (h_ (D.hs++[D.n]) ss).length=(D.ws++[l]).length
    rw [xc,Qe,hD.wl]; rfl
   ·show (D.nums++[D.nx]).Pairwise (· < ·)
    refine Xy.mpr ⟨hM.up,Yq _ _,λa ha b hb=>?_⟩
    rw [show b=D.nx by simpa using hb]
    exact (hM.m7 a ha).2
   ·intro k' ub
    have ym:k'∈D.nums++[D.nx]:=ub
    show 0<=k'/\k' < D.nx+1
    have n0:=hM.nx
    rcases Jd.mp ym with z | z
    ·have:=hM.m7 k' z
     omega
    ·rw [show k'=D.nx by simpa using z]; omega
   ·have:=hM.nx
    show 0<=D.nx+1
    omega
noncomputable def DD.take (D:DD) (k:Nat) (ss:List (Nat×Int×Int)):DD:={ D with ml:=(ss.length:Int),ma:=D.ma+(ss.length:Int),nums:=D.nums.eraseIdx k,ws:=D.ws.eraseIdx k,hs:=(h_ D.hs ss).eraseIdx k,ts:=D.ts.eraseIdx k }
def UT (K:Rb) (C:ae):Sp:=λvs H Q _=>∃ (x:ae) (D:DD) (num:Int) (k:Nat) (last:Int),vs = [.ref x,.int num]/\iz K H C x D/\og D/\D.nums[k]?=some num/\D.hs[k]?=some last /\
 ∀ ss H',bU x D.da D.dh H H'->sI D.n D.ws D.hs last D.n ss->iz K H' C x (D.take k ss)->og (D.take k ss)->Q .ft H'
theorem pO:c_ ["self", "number", "numbers", "steps", "work", "giver", "taker"] ["self", "number"] (aI uW):=.of
set_option maxHeartbeats 1000000 in
theorem aFS {EM Sl B4:ae} {EW SG B_:az} (G:Mt K C "take" uW ["self", "number"] f fd) (T:Dc K C) (B:Bl mg) (DQ:Fn K mg "is_whole" lT ["thing"] EM EW) (Fo:b_ P w K mg base d7 1 EM EW ["thing"] (lW K)) (GB:Mt K C "book_now" uV ["self"] A2 A5) (OB:b_ P w K mg base d7 1 A2 A5 ["self"] (qT K C)) (GD:Mt K C "deal_now" nC ["self"] A1 A4) (OD:b_ P w K mg base d7 1 A1 A4 ["self"] (oA K C)) (GTk:Fn K mg "steps_of_take" qL ["book", "deal", "work"] Sl SG) (OTk:b_ P w K mg base d7 2 Sl SG ["book", "deal", "work"] (zH K)) (FE:Mt K C "count_moved" nD ["self", "many"] B4 B_) (Bf:b_ P w K mg base d7 1 B4 B_ ["self", "many"] (oB K C)):b_ P w K mg base d7 3 f fd ["self", "number"] (UT K C):=by
 refine G.fn.oK pO λfh A outer s H vs Q E hr h=>?_
 ·obtain ⟨x,D,num,kk,last,rfl,hD,hM,f_,jt,k⟩:=h
  have r2:dz 2 _:=hr
  have r1:dz 1 _:=hr.mono (by decide)
  refine ⟨_,aE (bJ (PW.pt (gD (bW (bM (aW DQ Fo r1 rfl (aA (pv 1) aC)))) (eY (rB (nQ (bV hr) (pv 1) (cM (pv 0) rfl)) (by with_unfolding_all rfl))))) dZ aS)
   (aE (aX (i:=2) pO.nd rfl (Or.inl rfl) (cS (jM rfl) rfl B.list pF (aA (cM (pv 0) rfl) aC)))
   (aE (aX (i:=3) pO.nd rfl (Or.inl rfl) (aW GTk OTk r2 rfl (aA (cW (pv 0) T.cl GB.me OB r1 GB.bd .nil gJ) (aA (cW (pv 0) T.cl GD.me OD r1 GD.bd .nil gJ) (aA (kI Rh Ub Iq aCT (pv 2) (aA (pv 1) aC)) aC)))))
   (aE (iA ay.never rfl (hX (pv 3)) (oW rfl (dP (aV (i:=4) pO.nd rfl (Or.inl rfl)) (dP (aV (i:=5) pO.nd rfl (Or.inl rfl)) (dP (aV (i:=6) pO.nd rfl (Or.inl rfl)) lO))))
    (aJ (iZ (bV hr) (cM (pv 0) rfl) (bN cN (pv 2) (pv 4) (λ_ _=>rfl)) (pv 6) rfl)))
   (aE (cL (uN (cM (pv 0) rfl) (pv 1) ⟨rfl,rfl,rfl,rfl⟩))
   (aE (cL (uN (cM (pv 0) rfl) (pv 1) ⟨rfl,rfl,rfl,rfl⟩))
   (aJ (cL (kH (pv 0) T.cl FE.me Bf r1 FE.bd .nil gJ (aA (aL bB rfl B.len eQ (aA (pv 3) aC)) aC))))))))),?_⟩
  obtain ⟨j7,jc,gk,ip⟩:=aZ hM.bk
  obtain ⟨mw,rn⟩:=fJ hM.dl
  have AQ:∀ g∈D.hs,0<=g/\g < D.n:=λg hg=>by
   obtain ⟨i,hi⟩:=Qs.mp hg
   have hl:=Qb (show i < D.ws.length by rw [<- mw]; exact (Qa.mp hi).1)
   exact (bA (ip _ (Qd hl))).2.1 g (rn i _ _ hi hl)
  have gz:D.nums.Nodup:=Ja.mpr (hM.up.imp λh=>Ju h)
  have sz:∀ n:Nat,n < 1000->n < ag:=λn h=>Ya h (by decide +kernel)
  have ki:D.nums.length<=12:=by rw [<- hD.wl]; exact gk
  obtain ⟨t0,uy⟩:∃ t0,D.ts[kk]?=some t0:=⟨_,Qb (by rw [hD.tl]; exact (Qa.mp f_).1)⟩
  have va:bX (fe D.nums D.ts) (.inl num)=some (.ref t0):=cK gz f_ uy
  refine ⟨_,rfl,.int num,.int num,rfl,cG.mpr rfl,_,rfl,bK rfl ?_⟩
  refine ⟨_,rfl,_,rfl,x,C,D.dx,_,_,rfl,hD.ins,T.cl,T.n2,rfl,D.da,_,rfl,kF.k (k:=.inl num) hD.dr,_,rfl,bK (by rw [va]; rfl) ?_⟩
  refine ⟨_,rfl,x,C,D.dx,_,_,rfl,hD.ins,T.cl,T.n2,rfl,D.da,_,rfl,.inl hD.dr,λnp KJ=>?_⟩
  dsimp only [bO]
  rw [jH hD.tl]
  have s1:=aD.new (o:=.lst (D.nums.map V.int)) KJ
  have Pj:upd H np (.lst (D.nums.map V.int)) np=some (.lst (D.nums.map V.int)):=aB
  generalize upd H np (.lst (D.nums.map V.int))=H1 at s1 Pj ⊢
  have r_:=hD.same s1
  refine ⟨_,rfl,x,D.dx,_,rfl,r_.ins,rfl,x,D,rfl,r_,λbp H2 s2 Dy=>?_⟩
  have Hm:=r_.same s2
  refine ⟨_,rfl,x,D.dx,_,rfl,Hm.ins,rfl,x,D,rfl,Hm,λdp H3 s3 ik=>?_⟩
  have Df:=s2.trans s3
  have Ka:=Df _ _ Pj
  refine ⟨_,rfl,.inl ⟨rfl,_,d9.of Ka⟩,_,rfl,np,D.nums,num,kk,rfl,rfl,d9.of Ka,f_,λm hm vq=>Qv hm (xK gz vq f_),?_⟩
  refine ⟨.ref bp,.ref dp,D.n,D.ws,D.hs,kk,last,rfl,⟨s3.den _ _ Dy,hM.bk,cV.mpr ⟨dp,rfl,d8.of ik⟩,hM.dl⟩,jt,λsp H4 ps ss s4 ZG vc SS TK=>?_⟩
  dsimp only [bO]
  have Bw:=s1.trans (Df.trans s4)
  have j1:=hD.same Bw
  have J_:=s4 _ _ Ka
  have yk:D.da≠x:=λz=>by have:=j1.dr; rw [z,j1.ins] at this; cases this
  have wq:D.dh≠x:=λz=>by have:=j1.hand; rw [z,j1.ins] at this; cases this
  have ph:sp≠D.da:=λz=>by rw [z,j1.dr] at vc; cases vc
  have Di:sp≠D.dh:=λz=>by rw [z,j1.hand] at vc; cases vc
  have nsx:sp≠x:=λz=>by rw [z,j1.ins] at vc; cases vc
  have Kb:np≠D.dh:=λz=>by rw [z,j1.hand] at J_; cases J_
  have key:∀ (i:Nat) (s':Nat×Int×Int),ss[i]?=some s'->s'.1 < D.hs.length:=λi s' h=>by
   rcases TK with ⟨e,_⟩ | ⟨h0,_,p,_⟩
   ·subst e; simp at h
   ·exact (Qa.mp (gY p s' (Qd h)).1).1
  refine ⟨_,rfl,sp,rfl,⟨_,d9.of vc⟩,jC (K:=K) (a:=sp) (xs:=ps.map V.ref) (λi σ H'=>∃ v5 v6 v7,σ = [some (.ref x),some (.int num),some (.ref np),some (.ref sp),v5,v6,v7]/\ff D.dh H4 H'/\H' D.dh=some (.dK (gi D.nums (h_ D.hs (ss.take i))))) ⟨none,none,none,rfl,ff.refl _ _,j1.hand⟩ (λi σ H' _ ⟨_,_,_,_,b,_⟩=>d9.of (b _ _ Di vc)) ?_ ?_⟩
  ·rintro i y σ H' hy ⟨v5,v6,v7,rfl,b7,h7⟩
   rw [Qh] at hy
   obtain ⟨p,hp,rfl⟩:=Qp.mp hy
   have hi:i < ss.length:=by rw [<- SS.len]; exact (Qa.mp hp).1
   obtain ⟨s',g_⟩:∃ s',ss[i]?=some s':=⟨_,Qb hi⟩
   have BI:=SS.at_ i p s' hp g_
   have CG:=b7 _ _ (λz=>by rw [z,j1.hand] at BI; cases BI) BI
   have x7:=b7 _ _ wq.symm j1.ins
   have J':=b7 _ _ Kb J_
   have i6:=key i s' g_
   rw [hD.hl] at i6
   obtain ⟨Ah,lx⟩:∃ Ah,D.nums[s'.1]?=some Ah:=⟨_,Qb i6⟩
   refine ⟨p,_,rfl,d8.of CG,rfl,_,_,rfl,_,_,rfl,_,_,rfl,rfl,?_⟩
   dsimp only [bO]
   refine ⟨_,rfl,_,rfl,x,C,D.dx,_,_,rfl,x7,T.cl,T.n3,rfl,_,rfl,_,rfl,np,_,(s'.1:Int),.int Ah,rfl,rfl,d9.of J',?_,D.dh,_,rfl,qF.k (k:=.inl Ah) h7 ?_,?_⟩
   ·show ue _ _=_
    exact gE (by rw [Qh,lx]; rfl)
   ·refine sz _ ?_
    rw [oC (by rw [kK]; exact hD.hl)]; omega
   ·refine ⟨_,_,_,rfl,b7.trans ff.at,?_⟩
    rw [aB,WJ _ g_]
    exact congrArg (λz=>some (HO.dK z)) (WK gz (by rw [kK]; exact hD.hl) lx)
  ·rintro σ H7 ⟨v5,v6,v7,rfl,b7,h7⟩
   have sl:(ps.map V.ref).length=ss.length:=by rw [Qc,SS.len]
   rw [sl,Jm] at h7
   have x7:=b7 _ _ wq.symm j1.ins
   have a7:=b7 _ _ hD.ne j1.dr
   have DZ:=b7 _ _ Di vc
   have LL:bU x D.da D.dh H H7:=(bU.of Bw).trans λc u _ _ h3 hu=>b7 _ _ h3 hu
   have xc:(h_ D.hs ss).length=D.nums.length:=by rw [kK]; exact hD.hl
   obtain ⟨g0,QD⟩:∃ g0,(h_ D.hs ss)[kk]?=some g0:=⟨_,Qb (by rw [xc]; exact (Qa.mp f_).1)⟩
   have vh:bX (gi D.nums (h_ D.hs ss)) (.inl num)=some (.int g0):=cK gz f_ QD
   have da:qB (fe D.nums D.ts) (.inl num)=fe (D.nums.eraseIdx kk) (D.ts.eraseIdx kk):=qU gz hD.tl f_
   have dh:qB (gi D.nums (h_ D.hs ss)) (.inl num)=gi (D.nums.eraseIdx kk) ((h_ D.hs ss).eraseIdx kk):=qU gz xc f_
   refine ⟨_,rfl,x,C,D.dx,_,_,rfl,x7,T.cl,T.n2,rfl,D.da,rfl,.inl ⟨_,.inl a7⟩,_,rfl,_,.inl num,_,a7,rfl,va,?_⟩
   rw [da]
   have x8:upd H7 D.da (.dK (fe (D.nums.eraseIdx kk) (D.ts.eraseIdx kk))) x=some (.ins C D.dx D.iu):=(aF yk.symm).trans x7
   have h8:upd H7 D.da (.dK (fe (D.nums.eraseIdx kk) (D.ts.eraseIdx kk))) D.dh=some (.dK (gi D.nums (h_ D.hs ss))):=(aF hD.ne.symm).trans h7
   have a8:upd H7 D.da (.dK (fe (D.nums.eraseIdx kk) (D.ts.eraseIdx kk))) D.da=some (.dK (fe (D.nums.eraseIdx kk) (D.ts.eraseIdx kk))):=aB
   have OZ:upd H7 D.da (.dK (fe (D.nums.eraseIdx kk) (D.ts.eraseIdx kk))) sp=some (.lst (ps.map V.ref)):=(aF ph).trans DZ
   have EY:bU x D.da D.dh H (upd H7 D.da (.dK (fe (D.nums.eraseIdx kk) (D.ts.eraseIdx kk)))):=LL.trans bU.a
   generalize upd H7 D.da (.dK (fe (D.nums.eraseIdx kk) (D.ts.eraseIdx kk)))=H8 at x8 h8 a8 OZ EY ⊢
   refine ⟨_,rfl,x,C,D.dx,_,_,rfl,x8,T.cl,T.n3,rfl,D.dh,rfl,.inl ⟨_,.inl h8⟩,_,rfl,_,.inl num,_,h8,rfl,vh,?_⟩
   rw [dh]
   have x9:upd H8 D.dh (.dK (gi (D.nums.eraseIdx kk) ((h_ D.hs ss).eraseIdx kk))) x=some (.ins C D.dx D.iu):=(aF wq.symm).trans x8
   have a9:upd H8 D.dh (.dK (gi (D.nums.eraseIdx kk) ((h_ D.hs ss).eraseIdx kk))) D.da=some (.dK (fe (D.nums.eraseIdx kk) (D.ts.eraseIdx kk))):=(aF hD.ne).trans a8
   have h9:upd H8 D.dh (.dK (gi (D.nums.eraseIdx kk) ((h_ D.hs ss).eraseIdx kk))) D.dh=some (.dK (gi (D.nums.eraseIdx kk) ((h_ D.hs ss).eraseIdx kk))):=aB
   have OY:upd H8 D.dh (.dK (gi (D.nums.eraseIdx kk) ((h_ D.hs ss).eraseIdx kk))) sp=some (.lst (ps.map V.ref)):=(aF Di).trans OZ
   have LK:bU x D.da D.dh H (upd H8 D.dh (.dK (gi (D.nums.eraseIdx kk) ((h_ D.hs ss).eraseIdx kk)))):=EY.trans bU.b
   generalize upd H8 D.dh (.dK (gi (D.nums.eraseIdx kk) ((h_ D.hs ss).eraseIdx kk)))=H9 at x9 h9 a9 OY LK ⊢
   refine ⟨_,rfl,x,D.dx,_,rfl,x9,rfl,_,rfl,sp,_,rfl,.inl (d9.of OY),x,D,(ss.length:Int),?_,x9,?_⟩
   ·rw [sl]; rfl
   obtain ⟨lv,L⟩:=hM.lv
   obtain ⟨⟨zi,L'⟩,CA⟩:=aFM L jt AQ rn TK
   refine k ss _ (LK.trans bU.x) TK ⟨aB,(aF yk).trans a9,(aF wq).trans h9,?_,?_,?_,λi t' l' q1 q2=>?_,hD.ne⟩ ⟨?_,?_,?_,?_,hM.nx,zi,L'⟩
   ·show (D.ts.eraseIdx kk).length=(D.nums.eraseIdx kk).length
    rw [Jc,Jc,hD.tl]
   ·show (D.ws.eraseIdx kk).length=(D.nums.eraseIdx kk).length
    rw [Jc,Jc,hD.wl]
   ·show ((h_ D.hs ss).eraseIdx kk).length=(D.nums.eraseIdx kk).length
    rw [Jc,Jc,xc]
   ·exact (LK.trans bU.x).dk hD.ins hD.dr hD.hand (hD.tup _ t' l' (fQ q1) (fQ q2))
   ·refine jA j7 jc (Qx (Yr ..) gk) λl' mf=>ip l' (Xn mf)
   ·refine zC ?_ λj h l q1 q2=>CA _ h l (fQ q1) (fQ q2)
    show ((h_ D.hs ss).eraseIdx kk).length=(D.ws.eraseIdx kk).length
    rw [Jc,Jc,xc,hD.wl]
   ·exact hM.up.sublist (Yz ..)
   ·exact λk' ub=>hM.m7 k' (Xn ub)
end Ab
namespace L2
open PySem
theorem aFT {l:ba} (hK:X.K=K) (hl:PE X l tl):PI X tg l (TU K tl):=by subst hK; exact oX hl
theorem aFU {f:ax} (hK:X.K=K) (he:PE X e ta) (hb:attributeBase e f X.env (eval e X.env)=eval e X.env):PE X (.Attribute e f pos) (TN K ta f):=by subst hK; exact cM he hb
end L2
namespace Ab
open PySem L2
def vM (K:Rb) (C:ae):Sp:=λvs H Q _=>∃ (x:ae) (D:DD),vs = [.ref x]/\iz K H C x D/\og D /\
 ∀ p ts H',aD H H'->H p=none->H' p=some (.dK (fe D.nums ts))->ts.length=D.nums.length->(∀ (i:Nat) t l,ts[i]?=some t->D.ws[i]?=some l->d8 K H' t (l.map V.int))->Q (.ref p) H'
noncomputable def aFV:c8:={ kind:=.function,names:=[(".0",.local),("number",.local),("tuple",.globalImplicit),("self",.free)],isGenerator:=false,isCoroutine:=false }
theorem aEy:c_ ["self"] ["self"] (aI pH):=.of
set_option maxHeartbeats 1000000 in
theorem aC8 (G:Mt K C "works" pH ["self"] f fd) (T:Dc K C) (B:Bl mg):b_ P w K mg base d7 1 f fd ["self"] (vM K C):=by
 refine G.fn.oK aEy λfh A outer s H vs Q E hr h=>?_
 ·obtain ⟨x,D,rfl,hD,hM,k⟩:=h
  refine ⟨_,aJ (aR (aC1 (own:=["number"]) (fr:=[0]) (fk:=["self"]) (bL (aI pH) ["self"] rfl rfl (by decide +kernel)) rfl (cM (pv 0) rfl)
   (λ_ _ _ _=>(aV (i:=0) (show (["number", "self"]:List ax).Nodup by decide +kernel) rfl (Or.inl rfl))) (λ_ _ _ _=>eO)
   (λ_ _ _ _=>pv 0)
   (λ_ _ _ _=>cS (vC (K:=K) rfl) rfl B.tuple gG (aA (gF (own:=["hand"]) (fr:=[]) (fk:=[]) (bL (aIJ aFV (aI pH)) ["number", "self"] rfl rfl (by decide +kernel)) rfl (aFT (K:=K) rfl (aQ (bV hr) (aFU (K:=K) rfl (pv 1) rfl) (pv 0) (λ_ _=>rfl)))
    (λ_ _ _ _=>(aV (i:=0) (show (["hand"]:List ax).Nodup by decide +kernel) rfl (Or.inl rfl))) (λ_ _ _ _=>eO)
    (λ_ _ _ _=>pv 0)) aC)))),?_⟩
  obtain ⟨j7,jc,gk,ip⟩:=aZ hM.bk
  have gz:D.nums.Nodup:=Ja.mpr (hM.up.imp λh=>Ju h)
  have ki:D.nums.length<=12:=by rw [<- hD.wl]; exact gk
  refine ⟨_,rfl,x,C,D.dx,_,_,rfl,hD.ins,T.cl,T.n2,rfl,D.da,_,rfl,hD.dr,λo=>?_⟩
  have z2:upd H D.da (.fm o (.dK (fe D.nums D.ts))) D.da=some (.fm o (.dK (fe D.nums D.ts))):=aB
  have b2:ff D.da H (upd H D.da (.fm o (.dK (fe D.nums D.ts)))):=ff.at
  have back:∀ {H2:Hp} {c:ae} {u:HO},aD (upd H D.da (.fm o (.dK (fe D.nums D.ts)))) H2->c≠D.da->H c=some u->H2 c=some u:=λs hc hu=>s _ _ (b2 _ _ hc hu)
  have oz:(fe D.nums D.ts).length=D.nums.length:=gU hD.tl
  have yk:D.da≠x:=λz=>by have:=hD.dr; rw [z,hD.ins] at this; cases this
  generalize hHf:upd H D.da (.fm o (.dK (fe D.nums D.ts)))=Hf at z2 b2 back
  refine aD7 (a:=D.da) (o:=o) (kvs:=fe D.nums D.ts) (λσ=>∃ u,σ = [u,some (.ref x)]) (λi ys H2=>aD Hf H2/\∃ o_,ys=fe (D.nums.take i) o_/\o_.length=(D.nums.take i).length/\∀ (j:Nat) t l,o_[j]?=some t->D.ws[j]?=some l->d8 K H2 t (l.map V.int)) (iK (by omega)) ⟨none,rfl⟩ ⟨aD.refl _,[],rfl,rfl,λj t l h=>by simp at h⟩ (λi ys H2 h=>by
   obtain ⟨_,o_,e,l,_⟩:=h
   rw [e,gU l,Jf]; omega) (λi ys H2 h=>h.1 _ _ z2) ?_ ?_
  ·rintro i ys σ kv H2 jz ⟨u,rfl⟩ ⟨s2,o_,rfl,w9,BH⟩ hz
   obtain ⟨num,t,f_,ht,rfl⟩:∃ num t,D.nums[i]?=some num/\D.ts[i]?=some t/\kv=(.inl num,.ref t):=by
    unfold fe at jz
    rw [Qh] at jz
    obtain ⟨p,hp,e⟩:=Qp.mp jz
    rw [Jb] at hp
    exact ⟨p.1,p.2,hp.1,hp.2,e.symm⟩
   have hi:i < D.nums.length:=(Qa.mp f_).1
   obtain ⟨l,hl⟩:∃ l,D.ws[i]?=some l:=⟨_,Qb (by rw [hD.wl]; exact hi)⟩
   have nk:=s2.dk (b2.j8 hD.dr (hD.tup i t l ht hl))
   have xb:=(bA (ip l (Qd hl)))
   have ll:l.length<=1000:=by
    have:=iS (by omega) xb.2.1 xb.2.2
    omega
   refine cR ?_
   refine ⟨_,rfl,_,rfl,x,C,D.dx,_,_,rfl,back s2 yk.symm hD.ins,T.cl,T.n2,rfl,_,rfl,D.da,.ref t,rfl,.inl ⟨_,.inl num,.inr ⟨o,s2 _ _ z2⟩,rfl,(cK gz f_ ht).symm⟩,t,rfl,⟨_,nk⟩,uC (K:=K) (a:=t) (xs:=l.map V.int) (vs:=l.map V.int) (λσ=>∃ v,σ = [v]) (by rw [Qc]; exact ll) rfl nk ⟨none,rfl⟩ ?_ ?_⟩
   ·rintro j y v σ H3 h1 h2 ⟨v0,rfl⟩ s3 Q' hq
    rw [h1] at h2
    cases h2
    exact ⟨_,rfl,hq _ _ ⟨_,rfl⟩ (aD.refl _)⟩
   ·intro H3 s3 pc jf
    refine ⟨pc,_,rfl,.inl ⟨d9.of aB,λtp Eh=>?_⟩⟩
    have s4:=(s3.trans (aD.new (o:=.lst (l.map V.int)) jf)).trans (aD.new (o:=.tup (l.map V.int)) Eh)
    have EO:upd (upd H3 pc (.lst (l.map V.int))) tp (.tup (l.map V.int)) tp=some (.tup (l.map V.int)):=aB
    generalize upd (upd H3 pc (.lst (l.map V.int))) tp (.tup (l.map V.int))=H4 at s4 EO ⊢
    have Lu:D.nums.take (i+1)=D.nums.take i++[num]:=by
     obtain ⟨_,e⟩:=Qa.mp f_
     rw [Jw hi,e]
    have oj:num∉D.nums.take i:=λz=>by
     rw [<- Zp (i+1) D.nums,Lu] at gz
     exact (Xe.mp (Xe.mp gz).1).2.2 num z num (by simp) rfl
    refine ⟨.inl num,rfl,hz,⟨_,rfl⟩,s2.trans s4,o_++[tp],?_,?_,λj t' l' q1 q2=>?_⟩
    ·rw [Lu,vL w9]
     exact jX _ (iU oj)
    ·rw [Lu,Qe,Qe,w9]; rfl
    ·have lt:o_.length=i:=by rw [w9,Jf]; omega
     by_cases c:j < o_.length
     ·rw [Ql c] at q1
      exact s4.dk (BH j t' l' q1 q2)
     ·have cj:j=o_.length:=by
       have:=(Qa.mp q1).1
       rw [Qe] at this
       have:j < o_.length+1:=this
       omega
      rw [cj,Qo (Qg _),Jt] at q1
      have e1:tp=t':=by simpa using q1
      rw [cj,lt,hl] at q2
      rw [<- e1,<- Option.some.inj q2]
      exact d8.of EO
  ·rintro ys H2 ⟨s2,o_,rfl,w9,BH⟩ p hp
   rw [oz,Jm] at w9 ⊢
   have Bz:p≠D.da:=λz=>by rw [z,s2 _ _ z2] at hp; cases hp
   have P8:H p=none:=by
    cases e:H p with
    | none=>rfl
    | some u=>rw [back s2 Bz e] at hp; cases hp
   have s5:aD H (upd (upd H2 p (.dK (fe D.nums o_))) D.da (.dK (fe D.nums D.ts))):=λc u hc=>by
    by_cases d:c=D.da
    ·rw [d] at hc ⊢
     rw [aB,<- hD.dr]; exact hc
    ·have n2:c≠p:=λz=>by rw [z,P8] at hc; cases hc
     rw [aF d,aF n2]; exact back s2 d hc
   refine k p o_ _ s5 P8 (by rw [aF Bz,aB]) w9 λj t l q1 q2=>?_
   have q3:=(aD.new (o:=.dK (fe D.nums o_)) hp).dk (BH j t l q1 q2)
   have q4:upd H2 p (.dK (fe D.nums o_)) D.da=some (.fm o (.dK (fe D.nums D.ts))):=(aD.new hp) _ _ (s2 _ _ z2)
   generalize upd H2 p (.dK (fe D.nums o_))=H3 at q3 q4 ⊢
   rcases q3 with (q | ⟨o',q⟩) | q
   ·exact .inl (.inl (by rw [aF (λz=>by rw [z,q4] at q; cases q)]; exact q))
   ·exact .inl (.inr ⟨o',by rw [aF (λz=>by rw [z,q4] at q; cases q)]; exact q⟩)
   ·exact .inr q
noncomputable def DD.begun (n:Int) (dx da dh:ae):DD:=⟨n,0,0,0,[],[],[],dx,da,dh,[]⟩
theorem aFW {n:Int} {da dh:ae} (h1:1<=n) (h2:n<=6):og (DD.begun n dx da dh) :=
 ⟨jA h1 h2 (Jo _) λl hl=>(Qq hl).elim,zC rfl λj h l q=>by simp [DD.begun] at q,List.Pairwise.nil,λk hk=>(Qq hk).elim,Zb _,λ_=>0,λh _ _=>by simp [DD.begun],λw g l q=>by simp [DD.begun] at q⟩
def US (K:Rb) (C:ae):Sp:=λvs H Q _=>∃ (x dx:ae) (n:Int),vs = [.ref x,.int n]/\H x=some (.ins C dx [])/\1<=n/\n<=6 /\
 ∀ da dh H',ff x H H'->H da=none->H dh=none->iz K H' C x (DD.begun n dx da dh)->Q .ft H'
theorem U0:c_ ["self", "hands"] ["self", "hands"] (aI uU):=.of
theorem aFX (G:Mt K C "__init__" uU ["self", "hands"] f fd) (T:Dc K C) (B:Bl mg) (GH:Fn K mg "are_hands" pI ["thing"] fH dH) (OH:b_ P w K mg base d7 2 fH dH ["thing"] (qP K)):b_ P w K mg base d7 3 f fd ["self", "hands"] (US K C):=by
 refine G.fn.oK U0 λfh A outer s H vs Q E hr h=>?_
 ·obtain ⟨x,dx,n,rfl,hx,h1,h6,k⟩:=h
  have r2:dz 2 _:=hr
  refine ⟨_,aE (bJ (bW (bM (aW GH OH r2 rfl (aA (pv 1) aC)))) dZ aS)
   (aE (pA (pv 0) (pv 1) rfl) (aE (pA (pv 0) jY rfl) (aE (pA (pv 0) jY rfl) (aE (pA (pv 0) aH rfl) (aE (pA (pv 0) aH rfl) (aJ (pA (pv 0) aH rfl))))))),?_⟩
  have lt:∀ n:Nat,n<=6->n < 1000:=λn h=>by omega
  refine ⟨_,rfl,.int n,.int n,rfl,cG.mpr rfl,_,rfl,bK ?_ ?_⟩
  ·show (!(eL (.int n)))=false
   rw [show eL (.int n)=true by simp [eL]; omega]; rfl
  refine ⟨_,rfl,_,rfl,x,C,dx,_,rfl,hx,T.cl,T.n1,lt 0 (by decide),λda yo=>⟨_,rfl,x,C,dx,_,rfl,(aD.new yo) _ _ aB,T.cl,T.n2,lt 1 (by decide),λdh v_=>⟨_,rfl,x,C,dx,_,rfl,(aD.new v_) _ _ aB,T.cl,T.n3,lt 2 (by decide),?_⟩⟩⟩
  refine ⟨_,rfl,x,C,dx,_,rfl,aB,T.cl,T.n4,lt 3 (by decide),_,rfl,x,C,dx,_,rfl,aB,T.cl,T.n5,lt 4 (by decide),_,rfl,x,C,dx,_,rfl,aB,T.cl,T.n6,lt 5 (by decide),?_⟩
  rw [kG,kG,kG]
  have GQ:da≠x:=λz=>by rw [z,aB] at yo; cases yo
  have Ke:dh≠x:=λz=>by rw [z,aB] at v_; cases v_
  have Kf:da≠dh:=λz=>by rw [<- z,aF GQ,aB] at v_; cases v_
  have F1:H da=none:=by rw [aF GQ] at yo; exact yo
  have FY:H dh=none:=by rw [aF Ke,aF Kf.symm,aF Ke] at v_; exact v_
  refine k da dh _ (λc u hc hu=>?_) F1 FY ⟨aB,?_,?_,rfl,rfl,rfl,λi t l q=>by simp [DD.begun] at q,Kf⟩
  ·have n1:c≠da:=λz=>by rw [z,F1] at hu; cases hu
   have n2:c≠dh:=λz=>by rw [z,FY] at hu; cases hu
   rw [aF hc,aF n2,aF hc,aF n1,aF hc]; exact hu
  ·show upd _ x _ da=some (.dK [])
   rw [aF GQ,aF Kf,aF GQ,aB]
  ·show upd _ x _ dh=some (.dK [])
   rw [aF Ke,aB]
theorem UB:¬ (Sum.inr "hands" : Key)=.inr "able" := by decide +kernel
theorem UA:¬ (Sum.inr "hands" : Key)=.inr "due" := by decide +kernel
theorem T_:¬ (Sum.inr "able" : Key)=.inr "due" := by decide +kernel
structure SD where
 n:Int
 fg:Int
 nums:List Int
 ws:List (List Int)
 ap:ae
 ts:List ae
end Ab
variable {S:SD}
namespace Ab
open PySem L2
noncomputable def SD.kv (S:SD):List (Key×V):=[(.inr "hands",.int S.n),(.inr "able",.ref S.ap),(.inr "due",.int S.fg)]
theorem cT (S:SD):bX S.kv (.inr "hands")=some (.int S.n):=dQ rfl
theorem cY (S:SD):bX S.kv (.inr "able")=some (.ref S.ap):=by
 unfold SD.kv
 rw [cQ UB,dQ rfl]
theorem lZ (S:SD):bX S.kv (.inr "due")=some (.int S.fg):=by
 unfold SD.kv
 rw [cQ UA,cQ T_,dQ rfl]
theorem xL (S:SD) (m:Int):eR S.kv (.inr "hands") (.int m)=({ S with n:=m }:SD).kv:=by
 unfold eR SD.kv
 rw [if_pos (by simp)]
 simp only [Qw,Xo]
 rw [if_pos trivial,if_neg (by decide +kernel),if_neg (by decide +kernel)]
theorem aFY (S:SD) (m:Int):eR S.kv (.inr "due") (.int m)=({ S with fg:=m }:SD).kv:=by
 unfold eR SD.kv
 rw [if_pos (by simp)]
 simp only [Qw,Xo]
 rw [if_neg (by decide +kernel),if_neg (by decide +kernel),if_pos trivial]
structure jm (K:Rb) (H:Hp) (sp:ae) (S:SD):Prop where
 st:H sp=some (.dK S.kv)
 dr:H S.ap=some (.dK (fe S.nums S.ts))
 tl:S.ts.length=S.nums.length
 wl:S.ws.length=S.nums.length
 tup:∀ (i:Nat) t l,S.ts[i]?=some t->S.ws[i]?=some l->d8 K H t (l.map V.int)
 ne:sp≠S.ap
structure ko (S:SD):Prop where
 bk:iR (mH S.n S.ws)=true
 up:S.nums.Pairwise (· < ·)
 m7:∀ k∈S.nums,0<=k/\k < S.fg
 fg:0<=S.fg
 len:S.ws.length=S.nums.length
theorem jm.same {sp:ae} (h:jm K H sp S) (s:aD H H'):jm K H' sp S:=⟨s _ _ h.st,s _ _ h.dr,h.tl,h.wl,λi t l a b=>s.dk (h.tup i t l a b),h.ne⟩
theorem jm.g9 {sp:ae} {k:Key} (h:jm K H sp S) (e:bX S.kv k=some v):kF H sp (kV k) (some v):=.inl ⟨S.kv,k,.inl h.st,rfl,e.symm⟩
theorem mB {a b:ax} (h:a≠b):decide (V.str a=V.str b)=false:=decide_eq_false λz=>h (by injection z)
theorem qV {a:ax}:decide (V.str a=V.str a)=true:=decide_eq_true rfl
theorem YJ:("put" : ax) ≠ "come" := by decide +kernel
theorem I_:("go" : ax) ≠ "come" := by decide +kernel
theorem YI:("take" : ax) ≠ "come" := by decide +kernel
theorem IZ:("go" : ax) ≠ "put" := by decide +kernel
theorem IY:("take" : ax) ≠ "put" := by decide +kernel
theorem YH:("take" : ax) ≠ "go" := by decide +kernel
theorem OJ:("come" : ax) ≠ "put" := by decide +kernel
theorem OI:("come" : ax) ≠ "take" := by decide +kernel
theorem OG:("go" : ax) ≠ "take" := by decide +kernel
theorem md (n:Nat) (h:n < 1000):n < ag:=Ya h (by decide +kernel)
theorem jm.dk {sp:ae} (h:jm K H sp S) (b:bU sp S.ap S.ap H H') (q:d8 K H t xs):d8 K H' t xs:=by
 have n:∀ u,H t=some u->(∀ k,u≠.dK k)->H' t=some u:=λu e h2 =>
  b t u (λz=>by rw [z,h.st] at e; exact h2 _ (Option.some.inj e).symm) (λz=>by rw [z,h.dr] at e; exact h2 _ (Option.some.inj e).symm) (λz=>by rw [z,h.dr] at e; exact h2 _ (Option.some.inj e).symm) e
 rcases q with (q | ⟨o,q⟩) | q
 ·exact .inl (.inl (n _ q (by intro _ z; cases z)))
 ·exact .inl (.inr ⟨o,n _ q (by intro _ z; cases z)⟩)
 ·exact .inr q
theorem qW {x:Int} (h:x∈l):l[l.idxOf x]?=some x:=by
 have hl:=Zz h
 rw [Qb hl,List.getElem_idxOf hl]
inductive gb where
 | gp
 | go
 | take (num:Int)
 | put (t:ae) (l:List Int)
def gN (K:Rb) (H:Hp) (dp:ae):gb->Prop
 | .gp=>d8 K H dp [.str "come"]
 | .go=>d8 K H dp [.str "go"]
 | .take num=>d8 K H dp [.str "take",.int num]
 | .put t l=>d8 K H dp [.str "put",.ref t]/\d8 K H t (l.map V.int)
def jK (S:SD):gb->Prop
 | .gp=>S.n≠6
 | .go=>S.n≠1/\∀ l∈S.ws,S.n - 1∉l
 | .take num=>num∈S.nums
 | .put _ l=>cB S.n (gH l)=true/\S.nums.length < 12
noncomputable def SD.step (S:SD):gb->SD
 | .gp=>{ S with n:=S.n+1 }
 | .go=>{ S with n:=S.n - 1 }
 | .take num=>{ S with nums:=S.nums.eraseIdx (S.nums.idxOf num),ws:=S.ws.eraseIdx (S.nums.idxOf num),ts:=S.ts.eraseIdx (S.nums.idxOf num) }
 | .put t l=>{ S with fg:=S.fg+1,nums:=S.nums++[S.fg],ws:=S.ws++[l],ts:=S.ts++[t] }
noncomputable def SD.told (S:SD):gb->V
 | .gp=>.int S.n
 | .go=>.ft
 | .take _=>.ft
 | .put _ _=>.int S.fg
def zK:Sp:=λvs H Q _=>∃ n:Int,vs = [.int n]/\∀ p ap H',aD H H'->H p=none->H ap=none->p≠ap->H' p=some (.dK (⟨n,0,[],[],ap,[]⟩:SD).kv)->H' ap=some (.dK [])->Q (.ref p) H'
theorem aFZ:c_ ["hands"] ["hands"] (aI yT):=.of
theorem aEB (G:Fn K mg "_law_e_begun" yT ["hands"] f fd):b_ P w K mg base d7 1 f fd ["hands"] zK:=by
 refine G.fn.oK aFZ λfh A outer s H vs Q E hr h=>?_
 ·obtain ⟨n,rfl,k⟩:=h
  refine ⟨_,aJ (aR (aFy (uK aK (pv 0) (uK aK jY (uK aK aH aFx))) rfl rfl (by simp) (by decide))),?_⟩
  intro p hp
  refine ⟨_,rfl,λap u6=>?_⟩
  have Bz:p≠ap:=λz=>by rw [<- z,aB] at u6; cases u6
  have F3:H ap=none:=by rw [aF Bz.symm] at u6; exact u6
  refine ⟨by rw [aF Bz,aB],[(.inr "hands",.int n),(.inr "able",.ref ap),(.inr "due",.int 0)],rfl,(show (3:Nat)<=15 by decide),?_⟩
  refine k p ap _ (λc u hc=>?_) hp F3 Bz ?_ (by rw [aF Bz.symm,aB])
  ·have n1:c≠p:=λz=>by rw [z,hp] at hc; cases hc
   have n2:c≠ap:=λz=>by rw [z,F3] at hc; cases hc
   rw [aF n1,aF n2,aF n1]; exact hc
  ·rw [aB]
   have e2:eR [((.inr "hands" : Key),V.int n)] (.inr "able") (.ref ap) = [(.inr "hands",.int n),(.inr "able",.ref ap)]:=jX _ (by rw [cQ UB]; rfl)
   have e3:eR [((.inr "hands" : Key),V.int n),(.inr "able",.ref ap)] (.inr "due") (.int 0) = [(.inr "hands",.int n),(.inr "able",.ref ap),(.inr "due",.int 0)]:=jX _ (by rw [cQ UA,cQ T_]; rfl)
   show some (HO.dK (eR (eR [((.inr "hands" : Key),V.int n)] (.inr "able") (.ref ap)) (.inr "due") (.int 0)))=_
   rw [e2,e3]; rfl
def vN (K:Rb):Sp:=λvs H Q _=>∃ (sp dp:ae) (S:SD) (e:gb),vs = [.ref sp,.ref dp]/\jm K H sp S/\ko S/\gN K H dp e/\jK S e /\
 ∀ H',bU sp S.ap S.ap H H'->jm K H' sp (S.step e)->Q (S.told e) H'
theorem aF0:c_ ["state", "deed"] ["state", "deed"] (aI rM):=.of
theorem aF1 (G:Fn K mg "_law_e_step" rM ["state", "deed"] f fd):b_ P w K mg base d7 1 f fd ["state", "deed"] (vN K):=by
 refine G.fn.oK aF0 λfh A outer s H vs Q E hr h=>?_
 ·obtain ⟨sp,dp,S,e,rfl,hS,hM,hE,BZ,k⟩:=h
  have hu:=bV hr
  refine ⟨_,aE (bJ (aP dY (bN cD (pv 1) aH (λ_ _=>rfl)) aK (aU _)) (aE (iZ hu (pv 0) aK (aY eF (aQ hu (pv 0) aK (λ_ _=>rfl)) aH) rfl) (aJ (aR (aY fX (aQ hu (pv 0) aK (λ_ _=>rfl)) aH)))) aS)
   (aE (bJ (aP dY (bN cD (pv 1) aH (λ_ _=>rfl)) aK (aU _)) (aE (iZ hu (aQ hu (pv 0) aK (λ_ _=>rfl)) (aQ hu (pv 0) aK (λ_ _=>rfl)) (bN cD (pv 1) aH (λ_ _=>rfl)) rfl) (aE (iZ hu (pv 0) aK (aY eF (aQ hu (pv 0) aK (λ_ _=>rfl)) aH) rfl) (aJ (aR (aY fX (aQ hu (pv 0) aK (λ_ _=>rfl)) aH))))) aS)
   (aE (bJ (aP dY (bN cD (pv 1) aH (λ_ _=>rfl)) aK (aU _)) (aJ (iZ hu (pv 0) aK (aY fX (aQ hu (pv 0) aK (λ_ _=>rfl)) aH) rfl)) (aJ (cL (uN (aQ hu (pv 0) aK (λ_ _=>rfl)) (bN cD (pv 1) aH (λ_ _=>rfl)) ⟨rfl,rfl,rfl,rfl⟩))))
   (aJ (aR oS)))),?_⟩
  have gz:S.nums.Nodup:=Ja.mpr (hM.up.imp λh=>Ju h)
  have Az:S.kv.length < ag:=md 3 (by decide)
  have ki:S.nums.length<=12:=by rw [<- hS.wl]; exact (aZ hM.bk).2.2.1
  cases e with
  | gp =>
   refine ⟨_,rfl,dp,_,0,_,rfl,rfl,hE,rfl,rfl,_,rfl,eI qV ?_⟩
   refine ⟨_,rfl,sp,_,rfl,hS.g9 (k:=.inr "hands") (cT S),S.n,1,rfl,rfl,_,rfl,sp,_,rfl,qF.k (k:=.inr "hands") hS.st Az,?_⟩
   rw [xL]
   have z_:jm K (upd H sp (.dK ({ S with n:=S.n+1 }:SD).kv)) sp { S with n:=S.n+1 }:=⟨aB,(aF hS.ne.symm).trans hS.dr,hS.tl,hS.wl,λi t l a b=>hS.dk bU.x (hS.tup i t l a b),hS.ne⟩
   refine ⟨_,rfl,sp,_,rfl,z_.g9 (k:=.inr "hands") (cT _),S.n+1,1,rfl,rfl,?_⟩
   have ee:S.n+1 - 1=S.n:=by omega
   have q:=k _ bU.x z_
   show Q (.int (S.n+1 - 1)) _
   rw [ee]; exact q
  | go =>
   refine ⟨_,rfl,dp,_,0,_,rfl,rfl,hE,rfl,rfl,_,rfl,bK (mB I_) ?_⟩
   refine ⟨_,rfl,dp,_,0,_,rfl,rfl,hE,rfl,rfl,_,rfl,bK (mB IZ) ?_⟩
   refine ⟨_,rfl,dp,_,0,_,rfl,rfl,hE,rfl,rfl,_,rfl,eI qV ?_⟩
   refine ⟨_,rfl,sp,_,rfl,hS.g9 (k:=.inr "hands") (cT S),S.n,1,rfl,rfl,_,rfl,sp,_,rfl,qF.k (k:=.inr "hands") hS.st Az,?_⟩
   rw [xL]
   have z_:jm K (upd H sp (.dK ({ S with n:=S.n - 1 }:SD).kv)) sp { S with n:=S.n - 1 }:=⟨aB,(aF hS.ne.symm).trans hS.dr,hS.tl,hS.wl,λi t l a b=>hS.dk bU.x (hS.tup i t l a b),hS.ne⟩
   exact k _ bU.x z_
  | take num =>
   have hi:=qW BZ
   obtain ⟨t0,uy⟩:∃ t0,S.ts[S.nums.idxOf num]?=some t0:=⟨_,Qb (by rw [hS.tl]; exact (Qa.mp hi).1)⟩
   have va:bX (fe S.nums S.ts) (.inl num)=some (.ref t0):=cK gz hi uy
   have da:qB (fe S.nums S.ts) (.inl num)=fe (S.nums.eraseIdx (S.nums.idxOf num)) (S.ts.eraseIdx (S.nums.idxOf num)):=qU gz hS.tl hi
   refine ⟨_,rfl,dp,_,0,_,rfl,rfl,hE,rfl,rfl,_,rfl,bK (mB YI) ?_⟩
   refine ⟨_,rfl,dp,_,0,_,rfl,rfl,hE,rfl,rfl,_,rfl,bK (mB IY) ?_⟩
   refine ⟨_,rfl,dp,_,0,_,rfl,rfl,hE,rfl,rfl,_,rfl,bK (mB YH) ?_⟩
   refine ⟨_,rfl,sp,_,rfl,hS.g9 (k:=.inr "able") (cY S),S.ap,rfl,.inl ⟨_,.inl hS.dr⟩,_,rfl,dp,_,1,_,rfl,rfl,hE,rfl,_,.inl num,_,hS.dr,rfl,va,?_⟩
   rw [da]
   exact k _ bU.a ⟨(aF hS.ne).trans hS.st,aB,by show (S.ts.eraseIdx _).length=(S.nums.eraseIdx _).length; rw [Jc,Jc,hS.tl],by show (S.ws.eraseIdx _).length=(S.nums.eraseIdx _).length; rw [Jc,Jc,hS.wl],λi t l a b=>hS.dk bU.a (hS.tup _ t l (fQ a) (fQ b)),hS.ne⟩
  | put t l =>
   obtain ⟨Dz,EH⟩:=hE
   obtain ⟨hw,o7⟩:=BZ
   have oj:S.fg∉S.nums:=λz=>by have:=hM.m7 _ z; omega
   have e5:eR (fe S.nums S.ts) (.inl S.fg) (.ref t)=fe (S.nums++[S.fg]) (S.ts++[t]):=by
    rw [vL hS.tl]
    exact jX _ (iU oj)
   refine ⟨_,rfl,dp,_,0,_,rfl,rfl,Dz,rfl,rfl,_,rfl,bK (mB YJ) ?_⟩
   refine ⟨_,rfl,dp,_,0,_,rfl,rfl,Dz,rfl,rfl,_,rfl,eI qV ?_⟩
   refine ⟨_,rfl,dp,_,1,_,rfl,rfl,Dz,rfl,_,rfl,sp,_,rfl,hS.g9 (k:=.inr "able") (cY S),_,rfl,sp,_,rfl,hS.g9 (k:=.inr "due") (lZ S),S.ap,_,rfl,qF.k (k:=.inl S.fg) hS.dr (md _ (by rw [gU hS.tl]; omega)),?_⟩
   rw [e5]
   have n9:upd H S.ap (.dK (fe (S.nums++[S.fg]) (S.ts++[t]))) sp=some (.dK S.kv):=(aF hS.ne).trans hS.st
   have g1:kF (upd H S.ap (.dK (fe (S.nums++[S.fg]) (S.ts++[t])))) sp (kV (.inr "due")) (some (.int S.fg)):=.inl ⟨S.kv,_,.inl n9,rfl,(lZ S).symm⟩
   refine ⟨_,rfl,sp,_,rfl,g1,S.fg,1,rfl,rfl,_,rfl,sp,_,rfl,qF.k (k:=.inr "due") n9 Az,?_⟩
   rw [aFY]
   have b2:bU sp S.ap S.ap H (upd (upd H S.ap (.dK (fe (S.nums++[S.fg]) (S.ts++[t])))) sp (.dK ({ S with fg:=S.fg+1 }:SD).kv)):=bU.a.trans bU.x
   have z_:jm K (upd (upd H S.ap (.dK (fe (S.nums++[S.fg]) (S.ts++[t])))) sp (.dK ({ S with fg:=S.fg+1 }:SD).kv)) sp (S.step (.put t l)):=by
    refine ⟨aB,(aF hS.ne.symm).trans aB,?_,?_,λi t' l' q1 q2=>hS.dk b2 ?_,hS.ne⟩
    ·show (S.ts++[t]).length=(S.nums++[S.fg]).length
     rw [Qe,Qe,hS.tl]; rfl
    ·show (S.ws++[l]).length=(S.nums++[S.fg]).length
     rw [Qe,Qe,hS.wl]; rfl
    ·have oy:(S.ts++[t])[i]?=some t':=q1
     have zg:(S.ws++[l])[i]?=some l':=q2
     by_cases c:i < S.ts.length
     ·rw [Ql c] at oy
      rw [Ql (by rw [hS.wl,<- hS.tl]; exact c)] at zg
      exact hS.tup i t' l' oy zg
     ·have ci:i=S.ts.length:=by
       have:=(Qa.mp oy).1
       rw [Qe] at this
       have:i < S.ts.length+1:=this
       omega
      have cw:S.ts.length=S.ws.length:=by rw [hS.tl,hS.wl]
      rw [ci,Qo (Qg _),Jt] at oy
      rw [ci,cw,Qo (Qg _),Jt] at zg
      have e1:t=t':=by simpa using oy
      have e2:l=l':=by simpa using zg
      rw [<- e1,<- e2]; exact EH
   refine ⟨_,rfl,sp,_,rfl,.inl ⟨_,.inr "due",.inl z_.st,rfl,(lZ _).symm⟩,S.fg+1,1,rfl,rfl,?_⟩
   have ee:S.fg+1 - 1=S.fg:=by omega
   have q:=k _ b2 z_
   show Q (.int (S.fg+1 - 1)) _
   rw [ee]; exact q
theorem aHk (h:og D) (h6:D.n≠6):og D.sk:=by
 obtain ⟨j7,jc,gk,ip⟩:=aZ h.bk
 obtain ⟨mw,rn⟩:=fJ h.dl
 have n6:D.n+1<=6:=by omega
 refine ⟨jA (show 1<=D.n+1 by omega) n6 gk λl hl=>?_,h.dl,h.up,h.m7,h.nx,?_⟩
 ·obtain ⟨a,b,c⟩:=bA (ip l hl)
  exact lY a (λx hx=>by have:=b x hx; show 0<=x/\x < D.n+1; omega) c
 ·obtain ⟨lv,L1,L2⟩:=h.lv
  have hr:∀ g∈D.hs,0<=g/\g < D.n:=λg hg=>by
   obtain ⟨i,hi⟩:=Qs.mp hg
   have hl:=Qb (show i < D.ws.length by rw [<- mw]; exact (Qa.mp hi).1)
   exact (bA (ip _ (Qd hl))).2.1 g (rn i _ _ hi hl)
  refine ⟨λx=>if x=D.n then 0 else lv x,λx h0 h1=>?_,λw g l q1 q2 t ht=>?_⟩
  ·have u9:x < D.n+1:=h1
   show (if x=D.n then 0 else lv x)<=((D.hs.count x:Nat):Int)/\((D.hs.count x:Nat):Int)<=(if x=D.n then 0 else lv x)+1
   by_cases c:x=D.n
   ·have c0:D.hs.count x=0:=Yf.mpr λz=>by have:=hr x z; omega
    rw [if_pos c,c0]
    omega
   ·rw [if_neg c]
    exact L1 x h0 (by omega)
  ·have oy:D.hs[w]?=some g:=q1
   have hg:=hr g (Qd oy)
   have t8:=(bA (ip l (Qd q2))).2.1 t ht
   show (if g=D.n then 0 else lv g)<=(if t=D.n then 0 else lv t)
   rw [if_neg (by omega),if_neg (by omega)]
   exact L2 w g l q1 q2 t ht
theorem aHl (h:og D) (h1:D.n≠1) (jq:∀ l∈D.ws,D.n - 1∉l):og D.gone:=by
 obtain ⟨j7,jc,gk,ip⟩:=aZ h.bk
 refine ⟨jA (show 1<=D.n - 1 by omega) (show D.n - 1<=6 by omega) gk λl hl=>?_,h.dl,h.up,h.m7,h.nx,?_⟩
 ·obtain ⟨a,b,c⟩:=bA (ip l hl)
  refine lY a (λx hx=>?_) c
  have:=b x hx
  have:x≠D.n - 1:=λz=>jq l hl (z ▸ hx)
  show 0<=x/\x < D.n - 1
  omega
 ·obtain ⟨lv,L1,L2⟩:=h.lv
  exact ⟨lv,λx h0 h1=>L1 x h0 (by have u9:x < D.n - 1:=h1; omega),L2⟩
theorem pP {e:gb} (h:ko S) (m:jK S e):ko (S.step e):=by
 obtain ⟨j7,jc,gk,ip⟩:=aZ h.bk
 have hd:=h.fg
 cases e with
 | gp =>
  have m':S.n≠6:=m
  have n6:S.n+1<=6:=by omega
  refine ⟨jA (show 1<=S.n+1 by omega) n6 gk λl hl=>?_,h.up,h.m7,h.fg,h.len⟩
  obtain ⟨a,b,c⟩:=bA (ip l hl)
  exact lY a (λx hx=>by have:=b x hx; show 0<=x/\x < S.n+1; omega) c
 | go =>
  obtain ⟨m1,m2⟩:=m
  refine ⟨jA (show 1<=S.n - 1 by omega) (show S.n - 1<=6 by omega) gk λl hl=>?_,h.up,h.m7,h.fg,h.len⟩
  obtain ⟨a,b,c⟩:=bA (ip l hl)
  refine lY a (λx hx=>?_) c
  have:=b x hx
  have:x≠S.n - 1:=λz=>m2 l hl (z ▸ hx)
  show 0<=x/\x < S.n - 1
  omega
 | take num =>
  refine ⟨jA j7 jc (Qx (Yr ..) gk) λl' mf=>ip l' (Xn mf),h.up.sublist (Yz ..),λk' ub=>h.m7 k' (Xn ub),h.fg,?_⟩
  show (S.ws.eraseIdx _).length=(S.nums.eraseIdx _).length
  rw [Jc,Jc,h.len]
 | put t l =>
  obtain ⟨m1,m2⟩:=m
  refine ⟨jA j7 jc ?_ λl' mf=>?_,?_,λk' ub=>?_,show 0<=S.fg+1 by omega,?_⟩
  ·show (S.ws++[l]).length<=12
   rw [Qe,h.len]
   show S.nums.length+1<=12
   omega
  ·have pk:l'∈S.ws++[l]:=mf
   rcases Jd.mp pk with z | z
   ·exact ip l' z
   ·rw [show l'=l by simpa using z]; exact m1
  ·show (S.nums++[S.fg]).Pairwise (· < ·)
   refine Xy.mpr ⟨h.up,Yq _ _,λa ha b hb=>?_⟩
   rw [show b=S.fg by simpa using hb]
   exact (h.m7 a ha).2
  ·have ym:k'∈S.nums++[S.fg]:=ub
   show 0<=k'/\k' < S.fg+1
   rcases Jd.mp ym with z | z
   ·have:=h.m7 k' z
    omega
   ·rw [show k'=S.fg by simpa using z]; omega
  ·show (S.ws++[l]).length=(S.nums++[S.fg]).length
   rw [Qe,Qe,h.len]; rfl
structure vm (D:DD) (S:SD):Prop where
 n:D.n=S.n
 nx:D.nx=S.fg
 nums:D.nums=S.nums
 ws:D.ws=S.ws
def Did (D:DD):gb->DD->Prop
 | .gp,D'=>D'=D.sk
 | .go,D'=>D'=D.gone
 | .take num,D'=>∃ (k:Nat) (last:Int) (ss:List (Nat×Int×Int)),D.nums[k]?=some num/\D.hs[k]?=some last/\sI D.n D.ws D.hs last D.n ss/\D'=D.take k ss
 | .put t l,D'=>∃ (hs:List Int) (m:Int) (ss:List (Nat×Int×Int)) (last:Int),Gd D l hs m ss last/\D'=D.put l t hs m
def HL (K:Rb) (C Pt:ae):Sp:=λvs H Q _=>∃ (x dp:ae) (D:DD) (S:SD) (e:gb),vs = [.ref x,.ref dp]/\iz K H C x D/\og D/\vm D S/\gN K H dp e/\jK S e/\H Pt=some (.tab rQ) /\
 ∀ D' H',bU x D.da D.dh H H'->D'.da=D.da->D'.dh=D.dh->iz K H' C x D'->og D'->vm D' (S.step e)->Did D e D'->Q (S.told e) H'
theorem S9:c_ ["dealing", "deed"] ["dealing", "deed"] (aI AA):=.of
set_option maxHeartbeats 1000000 in
theorem aIc {DE DC B3 B2:ae} {DK DJ B9 B8:az} (G:Fn K mg "_law_e_do" AA ["dealing", "deed"] f fd) (T:Dc K C) (Fz:Mt K C "put" Ca ["self", "able"] DE DK) (Fq:b_ P w K mg base d7 3 DE DK ["self", "able"] (UC K C Pt)) (Fy:Mt K C "take" uW ["self", "number"] DC DJ) (Fp:b_ P w K mg base d7 3 DC DJ ["self", "number"] (UT K C)) (FD:Mt K C "come" uX ["self"] B3 B9) (Fu:b_ P w K mg base d7 2 B3 B9 ["self"] (VJ K C)) (FC:Mt K C "go" tj ["self"] B2 B8) (Ft:b_ P w K mg base d7 2 B2 B8 ["self"] (UD K C)):b_ P w K mg base d7 4 f fd ["dealing", "deed"] (HL K C Pt):=by
 refine G.fn.oK S9 λfh A outer s H vs Q E hr h=>?_
 ·obtain ⟨x,dp,D,S,e,rfl,hD,hM,hL,hE,BZ,hT,k⟩:=h
  have r3:dz 3 _:=hr
  have r2:dz 2 _:=hr.mono (by decide)
  refine ⟨_,aE (bJ (aP dY (bN cD (pv 1) aH (λ_ _=>rfl)) aK (aU _)) (aJ (aR (kH (pv 0) T.cl Fz.me Fq r3 Fz.bd .nil gJ (aA (bN cD (pv 1) aH (λ_ _=>rfl)) aC)))) aS)
   (aE (bJ (aP dY (bN cD (pv 1) aH (λ_ _=>rfl)) aK (aU _)) (aJ (aR (kH (pv 0) T.cl Fy.me Fp r3 Fy.bd .nil gJ (aA (bN cD (pv 1) aH (λ_ _=>rfl)) aC)))) aS)
   (aE (bJ (aP dY (bN cD (pv 1) aH (λ_ _=>rfl)) aK (aU _)) (aJ (aR (cW (pv 0) T.cl FD.me Fu r2 FD.bd .nil gJ))) aS)
   (aJ (aR (cW (pv 0) T.cl FC.me Ft r2 FC.bd .nil gJ))))),?_⟩
  have yk:D.da≠x:=λz=>by have:=hD.dr; rw [z,hD.ins] at this; cases this
  have wq:D.dh≠x:=λz=>by have:=hD.hand; rw [z,hD.ins] at this; cases this
  have ki:D.nums.length<=12:=by rw [<- hD.wl]; exact (aZ hM.bk).2.2.1
  cases e with
  | gp =>
   refine ⟨_,rfl,dp,_,0,_,rfl,rfl,hE,rfl,rfl,_,rfl,bK (mB OJ) ?_⟩
   refine ⟨_,rfl,dp,_,0,_,rfl,rfl,hE,rfl,rfl,_,rfl,bK (mB OI) ?_⟩
   refine ⟨_,rfl,dp,_,0,_,rfl,rfl,hE,rfl,rfl,_,rfl,eI qV ?_⟩
   have h6:D.n≠6:=by rw [hL.n]; exact BZ
   refine ⟨_,rfl,x,D.dx,_,rfl,hD.ins,rfl,x,D,rfl,hD.ins,h6,?_⟩
   have b:bU x D.da D.dh H (upd H x (.ins C D.dx D.sk.iu)):=bU.x
   have q:=k D.sk _ b rfl rfl ⟨aB,(aF yk).trans hD.dr,(aF wq).trans hD.hand,hD.tl,hD.wl,hD.hl,λi t l q1 q2=>b.dk hD.ins hD.dr hD.hand (hD.tup i t l q1 q2),hD.ne⟩ (aHk hM h6) ⟨by show D.n+1=S.n+1; rw [hL.n],hL.nx,hL.nums,hL.ws⟩ rfl
   have e:V.int D.n=S.told .gp:=by rw [hL.n]; rfl
   rw [e]; exact q
  | go =>
   refine ⟨_,rfl,dp,_,0,_,rfl,rfl,hE,rfl,rfl,_,rfl,bK (mB IZ) ?_⟩
   refine ⟨_,rfl,dp,_,0,_,rfl,rfl,hE,rfl,rfl,_,rfl,bK (mB OG) ?_⟩
   refine ⟨_,rfl,dp,_,0,_,rfl,rfl,hE,rfl,rfl,_,rfl,bK (mB I_) ?_⟩
   obtain ⟨m1,m2⟩:=BZ
   have h1:D.n≠1:=by rw [hL.n]; exact m1
   have h2:∀ l∈D.ws,D.n - 1∉l:=by rw [hL.n,hL.ws]; exact m2
   refine ⟨_,rfl,x,D.dx,_,rfl,hD.ins,rfl,x,D,rfl,hD,h1,h2,by omega,λH' b hx=>?_⟩
   have b3:bU x D.da D.dh H H':=λc u z1 _ _ hu=>b c u z1 hu
   exact k D.gone H' b3 rfl rfl ⟨hx,b _ _ yk hD.dr,b _ _ wq hD.hand,hD.tl,hD.wl,hD.hl,λi t l q1 q2=>b3.dk hD.ins hD.dr hD.hand (hD.tup i t l q1 q2),hD.ne⟩ (aHl hM h1 h2) ⟨by show D.n - 1=S.n - 1; rw [hL.n],hL.nx,hL.nums,hL.ws⟩ rfl
  | take num =>
   refine ⟨_,rfl,dp,_,0,_,rfl,rfl,hE,rfl,rfl,_,rfl,bK (mB IY) ?_⟩
   refine ⟨_,rfl,dp,_,0,_,rfl,rfl,hE,rfl,rfl,_,rfl,eI qV ?_⟩
   have hm:num∈D.nums:=by rw [hL.nums]; exact BZ
   have hi:=qW hm
   obtain ⟨last,jt⟩:∃ last,D.hs[D.nums.idxOf num]?=some last:=⟨_,Qb (by rw [hD.hl]; exact (Qa.mp hi).1)⟩
   refine ⟨_,rfl,x,D.dx,_,rfl,hD.ins,rfl,_,rfl,dp,_,1,_,rfl,rfl,hE,rfl,x,D,num,D.nums.idxOf num,last,rfl,hD,hM,hi,jt,λss H' b TK Lk Lg=>?_⟩
   exact k (D.take (D.nums.idxOf num) ss) H' b rfl rfl Lk Lg ⟨hL.n,hL.nx,by show D.nums.eraseIdx _=S.nums.eraseIdx _; rw [hL.nums],by show D.ws.eraseIdx _=S.ws.eraseIdx _; rw [hL.ws,hL.nums]⟩ ⟨D.nums.idxOf num,last,ss,hi,jt,TK,rfl⟩
  | put t l =>
   obtain ⟨Dz,EH⟩:=hE
   obtain ⟨hw,o7⟩:=BZ
   refine ⟨_,rfl,dp,_,0,_,rfl,rfl,Dz,rfl,rfl,_,rfl,eI qV ?_⟩
   refine ⟨_,rfl,x,D.dx,_,rfl,hD.ins,rfl,_,rfl,dp,_,1,_,rfl,rfl,Dz,rfl,x,t,D,l,rfl,hD,hM,EH,by rw [hL.n]; exact hw,by rw [hL.nums]; exact o7,hT,λhs m ss last H' b PS Lk Lg=>?_⟩
   have q:=k (D.put l t hs m) H' b rfl rfl Lk Lg ⟨hL.n,by show D.nx+1=S.fg+1; rw [hL.nx],by show D.nums++[D.nx]=S.nums++[S.fg]; rw [hL.nums,hL.nx],by show D.ws++[l]=S.ws++[l]; rw [hL.ws]⟩ ⟨hs,m,ss,last,PS,rfl⟩
   have e:V.int D.nx=S.told (.put t l):=by rw [hL.nx]; rfl
   rw [e]; exact q
theorem jm.but {sp:ae} (h:jm K H sp S) (e:H t=some (.lst xs)) (b:ff t H H'):jm K H' sp S :=
 ⟨b _ _ (λz=>by have:=h.st; rw [z,e] at this; cases this) h.st,b _ _ (λz=>by have:=h.dr; rw [z,e] at this; cases this) h.dr,h.tl,h.wl,λi t' l q1 q2=>b.dk e (h.tup i t' l q1 q2),h.ne⟩
theorem iz.but {x:ae} (h:iz K H C x D) (e:H t=some (.lst xs)) (b:ff t H H'):iz K H' C x D :=
 ⟨b _ _ (λz=>by have:=h.ins; rw [z,e] at this; cases this) h.ins,b _ _ (λz=>by have:=h.dr; rw [z,e] at this; cases this) h.dr,b _ _ (λz=>by have:=h.hand; rw [z,e] at this; cases this) h.hand,h.tl,h.wl,h.hl,λi t' l q1 q2=>b.dk e (h.tup i t' l q1 q2),h.ne⟩
theorem gq.lst {a:ae} {N:Nat} (h:gq K H t a ns N):∃ xs,H t=some (.lst xs):=by
 obtain ⟨⟨p,q,_,_,e⟩,_⟩:=h
 exact ⟨_,e⟩
def yy (c:TT) (σ:St) (H:Hp) (b:Bool):Prop:=∀ Q':Bool->Hp->Prop,(∀ H',aD H H'->Q' b H')->c σ H Q'
theorem HR {t u:TT} {σ:St} {b c:Bool} (ht:yy t σ H b) (hu:b=true->∀ H1,aD H H1->yy u σ H1 c):yy (LU t u) σ H (b && c):=λQ' q=>ht _ λH1 s1=>by
 cases b with
 | true=>exact kN (hu rfl H1 s1 _ λH2 s2=>q H2 (s1.trans s2))
 | false=>exact oH (q H1 s1)
theorem vO {t u:TT} {σ:St} {b c:Bool} (ht:yy t σ H b) (hu:b=false->∀ H1,aD H H1->yy u σ H1 c):yy (OS t u) σ H (b || c):=λQ' q=>ht _ λH1 s1=>by
 cases b with
 | false=>exact oH (hu rfl H1 s1 _ λH2 s2=>q H2 (s1.trans s2))
 | true=>exact kN (q H1 s1)
theorem sK {t:TT} {σ:St} {b:Bool} (ht:yy t σ H b):yy (S_ t) σ H (!b):=λQ' q=>ht _ q
theorem kM {c:TT} {t u:TS} {D:Ends} {σ:St} (b:Bool) (hc:yy c σ H b) (h1:b=true->∀ H',aD H H'->t D σ H') (h2:b=false->∀ H',aD H H'->u D σ H'):E5 c t u D σ H:=hc _ λH' s=>by
 cases b with
 | true=>exact kN (h1 rfl H' s)
 | false=>exact oH (h2 rfl H' s)
theorem dI {i j:Int}:decide (V.int i=V.int j)=decide (i=j):=by
 by_cases c:i=j
 ·rw [decide_eq_true c,c,decide_eq_true rfl]
 ·rw [decide_eq_false c,decide_eq_false λz=>c (by injection z)]
theorem T9 {σ:St} {sp:ae} {m:Int} (hS:jm K H sp S) (hM:ko S) (h1:σ[1]?=some (some (.ref sp))) (hb:ia 1 fr σ = [none,some (.int m),some (.ref sp)]) :
  yy (tB (Gy (λxs H Q=>∃ (p:ae) (bs:List Bool),xs = [V.ref p]/\d9 K H p (bs.map V.bl)/\Q (V.bl (bs.any id)) H) (iM (VA 1 fr (Ff (pR 1) (tC (.str "able"))) (bO 0) Ba (y_ (D4 K false) (pR 1) (Ff (Ff (pR 2) (tC (.str "able"))) (pR 0)))) oF))) σ H (S.ws.any λl=>decide (m∈l)):=by
 have gz:S.nums.Nodup:=Ja.mpr (hM.up.imp λh=>Ju h)
 have ki:S.nums.length<=12:=by rw [<- hS.wl]; exact (aZ hM.bk).2.2.1
 intro Q' q
 refine ⟨_,h1,sp,_,rfl,hS.g9 (k:=.inr "able") (cY S),S.ap,_,rfl,hS.dr,λo=>?_⟩
 have z2:upd H S.ap (.fm o (.dK (fe S.nums S.ts))) S.ap=some (.fm o (.dK (fe S.nums S.ts))):=aB
 have bf:ff S.ap H (upd H S.ap (.fm o (.dK (fe S.nums S.ts)))):=ff.at
 have za:=bf _ _ hS.ne hS.st
 have oz:(fe S.nums S.ts).length=S.nums.length:=gU hS.tl
 refine nR (a:=S.ap) (o:=o) (kvs:=fe S.nums S.ts) (λσ=>∃ u,σ = [u,some (.int m),some (.ref sp)]) (λi ys H4=>ys=((S.ws.take i).map λl=>decide (m∈l)).map V.bl/\H4=upd H S.ap (.fm o (.dK (fe S.nums S.ts)))) (iK (by omega)) ⟨none,hb⟩ ⟨rfl,rfl⟩ (λi ys H4 h=>by rw [h.1,Qc,Qc,Jf]; omega) (λi ys H4 h=>by rw [h.2]; exact z2) ?_ ?_
 ·rintro i ys σ kv H4 jz ⟨u,rfl⟩ ⟨rfl,rfl⟩ hz
  obtain ⟨num,t',f_,t8,rfl⟩:∃ num t',S.nums[i]?=some num/\S.ts[i]?=some t'/\kv=(.inl num,.ref t'):=by
   unfold fe at jz
   rw [Qh] at jz
   obtain ⟨p,hp,e⟩:=Qp.mp jz
   rw [Jb] at hp
   exact ⟨p.1,p.2,hp.1,hp.2,e.symm⟩
  have hi:i < S.nums.length:=(Qa.mp f_).1
  obtain ⟨l,hl⟩:∃ l,S.ws[i]?=some l:=⟨_,Qb (by rw [hS.wl]; exact hi)⟩
  have nk:d8 K (upd H S.ap (.fm o (.dK (fe S.nums S.ts)))) t' (l.map V.int):=bf.j8 hS.dr (hS.tup i t' l t8 hl)
  refine cR ?_
  refine ⟨_,rfl,_,rfl,sp,_,rfl,.inl ⟨S.kv,.inr "able",.inl za,rfl,(cY S).symm⟩,_,rfl,S.ap,.ref t',rfl,.inl ⟨_,.inl num,.inr ⟨o,z2⟩,rfl,(cK gz f_ t8).symm⟩,t',_,rfl,.inr nk,rfl,jR _,hz,⟨_,rfl⟩,?_,rfl⟩
  obtain ⟨yl,X?⟩:=Qa.mp hl
  rw [Jw yl,X?,Qt,Qt]
  show _++[V.bl (wu (.int m) (l.map V.int))]=_
  rw [qS]; rfl
 ·rintro ys H4 ⟨rfl,rfl⟩ pc jf
  have tf:pc≠S.ap:=λz=>by rw [z,z2] at jf; cases jf
  refine ⟨pc,(S.ws.take (fe S.nums S.ts).length).map λl=>decide (m∈l),rfl,d9.of (by rw [aF tf,aB]),_,rfl,?_⟩
  rw [oz,<- hS.wl,Jm]
  have e:((S.ws.map λl=>decide (m∈l)).any id)=S.ws.any λl=>decide (m∈l):=by
   rw [Yc]; rfl
  rw [e]
  refine q _ λb' u ic=>?_
  by_cases c:b'=S.ap
  ·rw [c] at ic ⊢
   rw [aB,<- hS.dr]; exact ic
  ·have n2:b'≠pc:=λz=>by rw [aF tf] at jf; rw [z,jf] at ic; cases ic
   rw [aF c,aF n2,aF c]; exact ic
def MX (K:Rb):Sp:=λvs H Q _=>∃ (t a:ae) (ns:List Int) (N:Nat) (sp:ae) (S:SD),vs = [.ref t,.ref sp]/\gq K H t a ns N/\N<=700000/\jm K H sp S/\ko S /\
 ∀ dp e H',ff t H H'->gq K H' t a ns (N+20)->gN K H' dp e->jK S e->Q (.ref dp) H'
theorem zL:c_ ["jar", "state", "kind", "last", "numbers"] ["jar", "state"] (aI xF):=.of
set_option maxHeartbeats 1000000 in
theorem aF3 (G:Fn K mg "_law_e_deed" xF ["jar", "state"] f fd) (B:Bl mg) (nc:Fn K mg "_law_e_scoop" kQ ["jar", "many"] fS dS) (m_:b_ P w K mg base d7 2 fS dS ["jar", "many"] (jN K)) (y6:Fn K mg "_law_e_able" qM ["jar", "hands"] fA dA) (yz:b_ P w K mg base d7 3 fA dA ["jar", "hands"] (rP K)):b_ P w K mg base d7 4 f fd ["jar", "state"] (MX K):=by
 refine G.fn.oK zL λfh A outer s H vs Q E hr h=>?_
 ·obtain ⟨t,a,ns,N,sp,S,rfl,hJ,hN,hS,hM,k⟩:=h
  have r3:dz 3 _:=hr
  have r2:dz 2 _:=hr.mono (by decide)
  have hu:=bV hr
  refine ⟨_,aE (aX (i:=2) zL.nd rfl (Or.inl rfl) (aW nc m_ r2 rfl (aA (pv 0) (aA aH aC))))
   (aE (aX (i:=3) zL.nd rfl (Or.inr rfl) (aY fX (aQ hu (pv 1) aK (λ_ _=>rfl)) aH))
   (aE (bJ (PW.pt (mL (aP dY (pv 2) aH (aU _)) (lN (aP wN (aQ hu (pv 1) aK (λ_ _=>rfl)) aH (aU _))))) (aJ (aR (cC (aA aK aC)))) aS)
   (aE (bJ (PW.pt (mL (aP dY (pv 2) aH (aU _)) (mL (aP mM (pv 3) aH (aU _)) (lN (bW (bM (aL (kZ rfl) rfl B.any xI (aA (mY (own:=["number"]) (fr:=[3,1]) (fk:=["last", "state"]) (bL (aI xF) ["jar", "state", "kind", "last", "numbers"] rfl rfl (by decide +kernel)) rfl (aQ hu (pv 1) aK (λ_ _=>rfl))
     (λ_ _ _ _=>(aV (i:=0) (show (["number", "last", "state"]:List ax).Nodup by decide +kernel) rfl (Or.inl rfl))) (λ_ _ _ _=>eO)
     (λ_ _ _ _=>(gQ (hG (K:=K) rfl) (pv 1) (aQ hu (aQ hu (pv 2) aK (λ_ _=>rfl)) (pv 0) (λ_ _=>rfl)) (by with_unfolding_all rfl)))) aC)))))))) (aJ (aR (cC (aA aK aC)))) aS)
   (aE (bJ (PW.pt (gD (PW.pt (mL (aP wN (pv 2) aH (aU _)) (lN (aP mM (aL lA rfl B.len eQ (aA (aQ hu (pv 1) aK (λ_ _=>rfl)) aC)) aH (aU _))))) (eY (aP dY (aL lA rfl B.len eQ (aA (aQ hu (pv 1) aK (λ_ _=>rfl)) aC)) aH (aU _)))))
    (aE (aX (i:=4) zL.nd rfl (Or.inl rfl) (aL (eS rfl) rfl B.sorted lC (aA (aQ hu (pv 1) aK (λ_ _=>rfl)) aC)))
    (aJ (aR (cC (aA aK (aA (bN cN (pv 4) (aW nc m_ r2 rfl (aA (pv 0) (aA (aL bB rfl B.len eQ (aA (pv 4) aC)) aC))) (λ_ _=>rfl)) aC)))))) aS)
   (aJ (aR (cC (aA aK (aA (aW y6 yz r3 rfl (aA (pv 0) (aA (aQ hu (pv 1) aK (λ_ _=>rfl)) aC))) aC))))))))),?_⟩
  obtain ⟨j7,jc,gk,ip⟩:=aZ hM.bk
  have ki:S.nums.length<=12:=by rw [<- hS.wl]; exact gk
  have gz:S.nums.Nodup:=Ja.mpr (hM.up.imp λh=>Ju h)
  obtain ⟨Gr,e0⟩:=hJ.lst
  refine ⟨_,rfl,t,a,ns,N,12,rfl,hJ,by omega,by decide,by decide,λkd H1 k0 k1 b1 J1=>?_⟩
  dsimp only [bO]
  have zz:=hS.but e0 b1
  refine ⟨_,rfl,sp,_,rfl,zz.g9 (k:=.inr "hands") (cT S),S.n,1,rfl,rfl,?_⟩
  dsimp only [bO]
  refine kM (decide (V.int kd=V.int 0) && decide (S.n < 6)) (HR (λQ' q=>⟨_,rfl,rfl,_,rfl,q _ (aD.refl _)⟩) (λ_ H2 s2 Q' q=>⟨_,rfl,sp,_,rfl,(zz.same s2).g9 (k:=.inr "hands") (cT S),S.n,6,rfl,rfl,_,rfl,q _ (aD.refl _)⟩)) (λhb H2 s2=>?_) (λhb H2 s2=>?_)
  ·rw [Qz] at hb
   have h6:=of_decide_eq_true hb.2
   refine ⟨md 1 (by decide) |> Je,λp hp=>?_⟩
   exact k p .gp _ ((b1.trans (ff.of s2)).trans (ff.of (aD.new hp))) (((J1.same s2).same (aD.new hp)).more (by omega)) (d8.of aB) (show S.n≠6 by omega)
  clear hb
  have qw:=zz.same s2
  have J2:=J1.same s2
  have b2:=b1.trans (ff.of s2)
  dsimp only [jT]
  refine kM (decide (V.int kd=V.int 1) && (decide (0 < S.n - 1) && !(S.ws.any λl=>decide (S.n - 1∈l)))) (HR (λQ' q=>⟨_,rfl,rfl,_,rfl,q _ (aD.refl _)⟩) (λ_ H3 s3=>HR (λQ' q=>⟨_,rfl,S.n - 1,0,rfl,rfl,_,rfl,q _ (aD.refl _)⟩) (λ_ H4 s4=>sK ?CW))) (λhb H3 s3=>?yes) (λhb H3 s3=>?no)
  case yes =>
   rw [Qz,Qz] at hb
   have h1:=of_decide_eq_true hb.2.1
   refine ⟨md 1 (by decide) |> Je,λp hp=>?_⟩
   refine k p .go _ ((b2.trans (ff.of s3)).trans (ff.of (aD.new hp))) (((J2.same s3).same (aD.new hp)).more (by omega)) (d8.of aB) ⟨by omega,λl hl z=>?_⟩
   have:=hb.2.2
   rw [Bool.not_eq_true',List.any_eq_false] at this
   exact this l hl (decide_eq_true z)
  case CW =>
   exact T9 ((qw.same s3).same s4) hM rfl rfl
  clear hb
  have r6:=qw.same s3
  have J3:=J2.same s3
  have b3:=b2.trans (ff.of s3)
  dsimp only [jT]
  have oz:(fe S.nums S.ts).length=S.nums.length:=gU hS.tl
  refine kM (decide (kd < 5) && decide (0 < ((fe S.nums S.ts).length:Int)) || decide (V.int ((fe S.nums S.ts).length:Int)=V.int 12)) (vO (HR (λQ' q=>⟨_,rfl,kd,5,rfl,rfl,_,rfl,q _ (aD.refl _)⟩) (λ_ H4 s4 Q' q=>⟨_,rfl,sp,_,rfl,(r6.same s4).g9 (k:=.inr "able") (cY S),S.ap,_,rfl,(r6.same s4).dr,_,0,rfl,rfl,_,rfl,q _ (aD.refl _)⟩)) (λ_ H4 s4 Q' q=>⟨_,rfl,sp,_,rfl,(r6.same s4).g9 (k:=.inr "able") (cY S),S.ap,_,rfl,(r6.same s4).dr,rfl,_,rfl,q _ (aD.refl _)⟩)) (λhb H4 s4=>?take) (λhb H4 s4=>?put)
  case take =>
   have pos:0 < S.nums.length:=by
    rw [oz] at hb
    rcases Yy .. |>.mp hb with z | z
    ·have:=of_decide_eq_true ((Qz ..).mp z).2
     omega
    ·have:=of_decide_eq_true z
     injection this with this
     omega
   have zy:=r6.same s4
   refine ⟨_,rfl,sp,_,rfl,zy.g9 (k:=.inr "able") (cY S),S.ap,_,S.nums,rfl,.inl zy.dr,jH hS.tl,by omega,λp ms hp j9 _=>?_⟩
   dsimp only [bO]
   have s5:=aD.new (o:=.lst (ms.map V.int)) hp
   have J5:=(J3.same s4).same s5
   have ep:upd H4 p (.lst (ms.map V.int)) p=some (.lst (ms.map V.int)):=aB
   have b5:=(b3.trans (ff.of s4)).trans (ff.of s5)
   have GN:p≠t:=(J3.same s4).ne hp
   generalize upd H4 p (.lst (ms.map V.int))=H5 at s5 J5 ep b5 ⊢
   have ml:ms.length=S.nums.length:=j9.length_eq
   refine ⟨_,rfl,_,rfl,_,rfl,p,_,rfl,.inl (d9.of ep),t,a,ns,N+1,_,rfl,J5,by omega,by rw [Qc]; omega,?_,λr H6 r0 r1 b6 J6=>?_⟩
   ·rw [Qc,ml]
    have:(S.nums.length:Int).natAbs<=12:=by omega
    exact Xk this (by decide +kernel)
   rw [Qc,ml] at r1
   obtain ⟨num,f_⟩:∃ num,ms[r.toNat]?=some num:=⟨_,Qb (by omega)⟩
   refine ⟨p,_,r,.int num,rfl,rfl,d9.of (b6 _ _ GN ep),?_,md 2 (by decide) |> Je,λdp ik=>?_⟩
   ·have er:r=((r.toNat:Nat):Int):=by omega
    rw [er]
    exact gE (by rw [Qh,f_]; rfl)
   ·exact k dp (.take num) _ ((b5.trans b6).trans (ff.of (aD.new ik))) ((J6.same (aD.new ik)).more (by omega)) (d8.of aB) (j9.mem_iff.mp (Qd f_))
  case put =>
   have m7:S.nums.length < 12:=by
    rw [Bool.or_eq_false_iff,oz] at hb
    have:=of_decide_eq_false hb.2
    have:¬ (S.nums.length:Int)=12:=λz=>this (by rw [z])
    omega
   have zy:=r6.same s4
   have J4:=J3.same s4
   refine ⟨_,rfl,_,rfl,sp,_,rfl,zy.g9 (k:=.inr "hands") (cT S),t,a,ns,N+1,S.n,rfl,J4,by omega,j7,jc,λl p H5 hw b5 J5 hp=>?_⟩
   refine ⟨md 2 (by decide) |> Je,λdp ik=>?_⟩
   exact k dp (.put p l) _ (((b3.trans (ff.of s4)).trans b5).trans (ff.of (aD.new ik))) ((J5.same (aD.new ik)).more (by omega)) ⟨d8.of aB,(aD.new ik).dk hp⟩ ⟨hw,m7⟩
end Ab
namespace L2
open PySem
theorem oQ (hK:X.K=K):eX X (.builtin "isinstance") (λxs H Q=>∃ x k,xs = [x,.ty "int"]/\Cn K H x k/\Q (.bl (decide (k=.int∨k=.bl))) H):=by subst hK; exact pY
theorem nG (hK:X.K=K):eX X (.builtin "isinstance") (λxs H Q=>∃ x k,xs = [x,.ty "bool"]/\Cn K H x k/\Q (.bl (decide (k=.bl))) H):=by subst hK; exact oM
theorem oR:eX X (.builtin "isinstance") (λxs H Q=>∃ (a:ae) (kvs:List (Key×V)),xs = [.ref a,.ty "dict"]/\H a=some (.dK kvs)/\Q (.bl true) H):=by
 intro a_ s σ H xs us Q I r h
 obtain ⟨a,kvs,rfl,ha,q⟩:=h
 obtain ⟨u,t,rfl,rx,rt⟩:=rZ r
 cases rt
 cases rx
 obtain ⟨o,e,c⟩:=yB I ha
 exact IsiPair.dict_dict e c ⟨.bl true,H,I,rfl,q⟩
end L2
namespace Ab
open PySem L2
theorem aBF (n:Int):bT n []=List.replicate n.toNat 0:=by
 unfold bT
 refine Yo λj=>?_
 by_cases c:j < n.toNat
 ·rw [Qh,vD c,Xc,if_pos c]; rfl
 ·rw [Jp (by rw [Qc,gM]; omega),Jp (by rw [Jg]; omega)]
theorem aAV {n g:Int} (h0:0<=g) (h1:g < n):(bT n hs).set g.toNat (((hs.count g:Nat):Int)+1)=bT n (hs++[g]):=by
 refine Yo λj=>?_
 have ll:∀ hs:List Int,(bT n hs).length=n.toNat:=λhs=>by unfold bT; rw [Qc,gM]
 by_cases c:j < n.toNat
 ·rw [Jy,iT c,iT c,ll]
  by_cases d:g.toNat=j
  ·have e:g=(j:Int):=by omega
   rw [if_pos d,if_pos (by omega),e,Yn,List.count_singleton_self]
   rfl
  ·rw [if_neg d,Yn,Yf.mpr (λz=>d (by have:(j:Int)=g:=(by simpa using z); omega):(j:Int)∉[g])]
   rfl
 ·rw [Jp (by rw [Ze,ll]; omega),Jp (by rw [ll]; omega)]
theorem WG (x:α):∀ n:Nat,(List.replicate n [x]).flatten=List.replicate n x
 | 0=>rfl
 | n+1=>by rw [Jx,Xx,WG x n,Jx]; rfl
theorem rS {kv:Key×V} (h:(gi nums hs)[i]?=some kv):∃ num g,nums[i]?=some num/\hs[i]?=some g/\kv=(.inl num,.int g):=by
 unfold gi at h
 rw [Qh] at h
 obtain ⟨p,hp,e⟩:=Qp.mp h
 rw [Jb] at hp
 exact ⟨p.1,p.2,hp.1,hp.2,e.symm⟩
theorem tH (n:Nat):(List.replicate n true).all id=true:=by
 rw [Jq]; intro x hx; rw [(Zk.mp hx).2]; rfl
def lK (K:Rb):Sp:=λvs H Q _=>∃ (p:ae) (ns:List Int),vs = [.ref p]/\(d9 K H p (ns.map V.int)∨d8 K H p (ns.map V.int))/\ns.length<=1000/\∀ H',aD H H'->Q (.bl true) H'
theorem aC9:c_ ["some"] ["some"] (aI jE):=.of
theorem aBG (G:Fn K mg "_law_e_whole_in" jE ["some"] f fd) (B:Bl mg):b_ P w K mg base d7 1 f fd ["some"] (lK K):=by
 refine G.fn.oK aC9 λfh A outer s H vs Q E hr h=>?_
 ·obtain ⟨p,ns,rfl,hp,hn,k⟩:=h
  rcases hp with hp | hp
  ·refine ⟨_,aJ (aR (aL (kU rfl) rfl B.all xE (aA (gF (own:=["number"]) (fr:=[]) (fk:=[]) (bL (aI jE) ["some"] rfl rfl (by decide +kernel)) rfl (hX (pv 0))
    (λ_ _ _ _=>(aV (i:=0) (show (["number"]:List ax).Nodup by decide +kernel) rfl (Or.inl rfl))) (λ_ _ _ _=>eO)
    (λ_ _ _ _=>oV (aL (oQ (K:=K) rfl) rfl B.isinstance iN (aA (pv 0) (aA (eJ (v:=.ty "int") rfl B.int Fe rfl) aC))) (oU (M3 (aL (nG (K:=K) rfl) rfl B.isinstance iN (aA (pv 0) (aA (eJ (v:=.ty "bool") rfl B.bool MI rfl) aC))))))) aC))),?_⟩
   refine ⟨_,rfl,p,rfl,⟨_,hp⟩,aDP (K:=K) (a:=p) (xs:=ns.map V.int) (vs:=(List.replicate ns.length true).map V.bl) (λσ=>∃ v,σ = [v]) (by rw [Qc]; exact hn) (by rw [Qc,Qc,Jg]) hp ⟨none,rfl⟩ ?_ ?_⟩
   ·rintro j y v σ H3 h1 h2 ⟨v0,rfl⟩ s3 Q' hq
    rw [Qh] at h1 h2
    obtain ⟨m,_,rfl⟩:=Qp.mp h1
    obtain ⟨b,hb,rfl⟩:=Qp.mp h2
    have eb:b=true:=(Zk.mp (Qd hb)).2
    subst eb
    exact ⟨_,rfl,_,.int,rfl,rfl,true,rfl,kN ⟨_,rfl,_,.int,rfl,rfl,false,rfl,hq _ _ ⟨_,rfl⟩ (aD.refl _)⟩⟩
   ·intro H3 s3 pc jf
    refine ⟨pc,_,rfl,d9.of aB,?_⟩
    rw [tH]
    exact k _ (s3.trans (aD.new jf))
  ·refine ⟨_,aJ (aR (aL (kU rfl) rfl B.all xE (aA (gF (own:=["number"]) (fr:=[]) (fk:=[]) (bL (aI jE) ["some"] rfl rfl (by decide +kernel)) rfl (oX (pv 0))
    (λ_ _ _ _=>(aV (i:=0) (show (["number"]:List ax).Nodup by decide +kernel) rfl (Or.inl rfl))) (λ_ _ _ _=>eO)
    (λ_ _ _ _=>oV (aL (oQ (K:=K) rfl) rfl B.isinstance iN (aA (pv 0) (aA (eJ (v:=.ty "int") rfl B.int Fe rfl) aC))) (oU (M3 (aL (nG (K:=K) rfl) rfl B.isinstance iN (aA (pv 0) (aA (eJ (v:=.ty "bool") rfl B.bool MI rfl) aC))))))) aC))),?_⟩
   refine ⟨_,rfl,p,rfl,⟨_,hp⟩,uC (K:=K) (a:=p) (xs:=ns.map V.int) (vs:=(List.replicate ns.length true).map V.bl) (λσ=>∃ v,σ = [v]) (by rw [Qc]; exact hn) (by rw [Qc,Qc,Jg]) hp ⟨none,rfl⟩ ?_ ?_⟩
   ·rintro j y v σ H3 h1 h2 ⟨v0,rfl⟩ s3 Q' hq
    rw [Qh] at h1 h2
    obtain ⟨m,_,rfl⟩:=Qp.mp h1
    obtain ⟨b,hb,rfl⟩:=Qp.mp h2
    have eb:b=true:=(Zk.mp (Qd hb)).2
    subst eb
    exact ⟨_,rfl,_,.int,rfl,rfl,true,rfl,kN ⟨_,rfl,_,.int,rfl,rfl,false,rfl,hq _ _ ⟨_,rfl⟩ (aD.refl _)⟩⟩
   ·intro H3 s3 pc jf
    refine ⟨pc,_,rfl,d9.of aB,?_⟩
    rw [tH]
    exact k _ (s3.trans (aD.new jf))
structure Cd (K:Rb) (H:Hp) (wp:ae) (S:SD) (hs:List Int):Prop where
 at_:H wp=some (.dK (gi S.nums hs))
 len:hs.length=S.nums.length
 rg:∀ g∈hs,0<=g/\g < S.n
theorem Cd.same {wp:ae} (h:Cd K H wp S hs) (s:aD H H'):Cd K H' wp S hs:=⟨s _ _ h.at_,h.len,h.rg⟩
def qX (K:Rb):Sp:=λvs H Q _=>∃ (sp wp:ae) (S:SD) (hs:List Int),vs = [.ref sp,.ref wp]/\jm K H sp S/\ko S/\Cd K H wp S hs/\∀ p H',aD H H'->H p=none->H' p=some (.lst ((bT S.n hs).map V.int))->Q (.ref p) H'
theorem vP:c_ ["state", "where", "found", "number"] ["state", "where"] (aI qN):=.of
set_option maxHeartbeats 1000000 in
theorem aDa (G:Fn K mg "_law_e_heaps" qN ["state", "where"] f fd) (B:Bl mg):b_ P w K mg base d7 1 f fd ["state", "where"] (qX K):=by
 refine G.fn.oK vP λfh A outer s H vs Q E hr h=>?_
 ·obtain ⟨sp,wp,S,hs,rfl,hS,hM,hW,k⟩:=h
  have hu:=bV hr
  refine ⟨_,aE (aX (i:=2) vP.nd rfl (Or.inl rfl) (aY U' (gW (aA aH aC)) (aQ hu (pv 0) aK (λ_ _=>rfl))))
   (aE (yJ (iA ay.never rfl (qH (pv 1)) (aV (i:=3) vP.nd rfl (Or.inl rfl))
    (aJ (tN (aY eF (bN cN (pv 2) (aQ hu (pv 1) (pv 3) (λ_ _=>rfl)) (λ_ _=>rfl)) aH) (xT (pv 2) (aQ hu (pv 1) (pv 3) (λ_ _=>rfl)) pV)))))
   (aJ (aR (pv 2)))),?_⟩
  obtain ⟨j7,jc,gk,ip⟩:=aZ hM.bk
  have ki:S.nums.length<=12:=by rw [<- hS.wl]; exact gk
  have gz:S.nums.Nodup:=Ja.mpr (hM.up.imp λh=>Ju h)
  have oz:(gi S.nums hs).length=S.nums.length:=oC hW.len
  refine ⟨md 1 (by decide) |> Je,λp0 BJ=>?_⟩
  have s1:=aD.new (o:=.lst [V.int 0]) BJ
  have e1:upd H p0 (.lst [V.int 0]) p0=some (.lst [V.int 0]):=aB
  generalize upd H p0 (.lst [V.int 0])=H1 at s1 e1 ⊢
  refine ⟨_,rfl,sp,_,rfl,(hS.same s1).g9 (k:=.inr "hands") (cT S),p0,S.n,_,rfl,rfl,e1,by omega,by omega,?_,λfp rj=>?_⟩
  ·have:([V.int 0]:List V).length*S.n.toNat < ag:=md _ (by show 1*S.n.toNat < 1000; omega)
   exact Je this
  dsimp only [bO]
  have lu:H fp=none:=by
   cases e:H fp with
   | none=>rfl
   | some u=>rw [s1 _ _ e] at rj; cases rj
  have s2:=s1.trans (aD.new (o:=.lst (List.replicate S.n.toNat [V.int 0]).flatten) rj)
  have e2:upd H1 fp (.lst (List.replicate S.n.toNat [V.int 0]).flatten) fp=some (.lst ((bT S.n []).map V.int)):=by rw [aB,WG,aBF,List.map_replicate]
  generalize upd H1 fp (.lst (List.replicate S.n.toNat [V.int 0]).flatten)=H2 at s2 e2 ⊢
  have zx:=hW.same s2
  have BA:fp≠wp:=λz=>by rw [z,hW.at_] at lu; cases lu
  refine ⟨_,rfl,wp,_,rfl,zx.at_,λo nf=>?_⟩
  have z3:upd H2 wp (.fm o (.dK (gi S.nums hs))) wp=some (.fm o (.dK (gi S.nums hs))):=aB
  have b3:ff wp H2 (upd H2 wp (.fm o (.dK (gi S.nums hs)))):=ff.at
  have e3:=b3 _ _ BA e2
  generalize upd H2 wp (.fm o (.dK (gi S.nums hs)))=H3 at z3 b3 e3 ⊢
  have bb:bU wp fp fp H H3:=λc u h1 h2 h3 hu=>b3 _ _ h1 (s2 _ _ hu)
  refine uI (a:=wp) (o:=o) (kvs:=gi S.nums hs) (λi σ H4=>∃ v,σ = [some (.ref sp),some (.ref wp),some (.ref fp),v]/\H4 wp=some (.fm o (.dK (gi S.nums hs)))/\H4 fp=some (.lst ((bT S.n (hs.take i)).map V.int))/\bU wp fp fp H H4) ⟨none,rfl,z3,e3,bb⟩ (λi σ H4 _ ⟨_,_,h,_⟩=>h) ?_ ?_
  ·rintro i kv σ H4 jz ⟨v,rfl,z4,e4,b4⟩
   obtain ⟨num,g,f_,hg,rfl⟩:=rS jz
   have gr:=hW.rg g (Qd hg)
   have dg:kF H4 wp (kV (.inl num)) (some (.int g)):=.inl ⟨_,.inl num,.inr ⟨o,z4⟩,rfl,(cK (f:=V.int) gz f_ hg).symm⟩
   have lg:(bT S.n (hs.take i))[g.toNat]?=some (((hs.take i).count g:Nat):Int):=by rw [iT (by omega),show ((g.toNat:Nat):Int)=g by omega]
   have eg:g=((g.toNat:Nat):Int):=by omega
   refine ⟨_,rfl,_,rfl,_,rfl,wp,_,rfl,dg,fp,_,g,.int (((hs.take i).count g:Nat):Int),rfl,rfl,d9.of e4,?_,(((hs.take i).count g:Nat):Int),1,rfl,rfl,_,rfl,_,rfl,_,rfl,wp,_,rfl,dg,fp,_,g,g.toNat,rfl,rfl,e4,?_,?_⟩
   ·rw [eg]
    exact gE (by rw [Qh,<- eg,lg]; rfl)
   ·rw [Qc,show (bT S.n (hs.take i)).length=S.n.toNat by unfold bT; rw [Qc,gM]]
    exact UU gr.1 (by omega)
   ·refine ⟨_,rfl,(aF BA.symm).trans z4,?_,b4.trans bU.a⟩
    obtain ⟨fu,ee⟩:=Qa.mp hg
    rw [aB,Jw fu,ee,<- aAV gr.1 gr.2,List.map_set]
  ·rintro σ H4 ⟨v,rfl,z4,e4,b4⟩
   rw [oz,<- hW.len,Jm] at e4
   refine ⟨wp,o,_,z4,nf,_,rfl,k fp _ (λc u hc=>?_) lu ((aF BA).trans e4)⟩
   by_cases d:c=wp
   ·rw [d] at hc ⊢
    rw [aB,<- hW.at_]; exact hc
   ·have n2:c≠fp:=λz=>by rw [z,lu] at hc; cases hc
    rw [aF d]; exact b4 c u d n2 n2 hc
theorem WE (h:hs.length=nums.length):((gi nums hs).map λkv=>kV kv.1)=nums.map V.int:=by
 unfold gi
 rw [Xq]
 show (nums.zip hs).map (λp=>V.int p.1)=_
 rw [show (λp:Int×Int=>V.int p.1)=V.int ∘ Prod.fst from rfl,<- Xq,List.map_fst_zip (by omega)]
theorem T2 (h:HO.dK S.kv=HO.dK (gi nums hs)):False:=by
 injection h with h
 cases nums with
 | nil=>cases h
 | cons n nums => cases hs with
   | nil=>cases h
   | cons g hs=>cases h
theorem xM {a b c:List Int} (h1:a.Perm c) (h2:b.Perm c) (p1:a.Pairwise (·<=·)) (p2:b.Pairwise (·<=·)):a=b :=
 (h1.trans h2.symm).eq_of_pairwise (λx y _ _ h h'=>Int.le_antisymm h h') p1 p2
def xN (K:Rb):Sp:=λvs H Q _=>∃ (sp wp:ae) (S:SD) (hs:List Int),vs = [.ref sp,.ref wp]/\jm K H sp S/\ko S/\Cd K H wp S hs/\(∀ (i:Nat) g l,hs[i]?=some g->S.ws[i]?=some l->g∈l)/\wp≠S.ap/\∀ H',aD H H'->Q (.bl true) H'
theorem aDb:c_ ["state", "where"] ["state", "where"] (aI nE):=.of
set_option maxHeartbeats 1000000 in
theorem aBH (G:Fn K mg "_law_e_is_deal" nE ["state", "where"] f fd) (B:Bl mg) (Bi:Fn K mg "_law_e_whole_in" jE ["some"] fW dW) (Be:b_ P w K mg base d7 1 fW dW ["some"] (lK K)):b_ P w K mg base d7 2 f fd ["state", "where"] (xN K):=by
 refine G.fn.oK aDb λfh A outer s H vs Q E hr h=>?_
 ·obtain ⟨sp,wp,S,hs,rfl,hS,hM,hW,u4,AI,k⟩:=h
  have hu:=bV hr
  have r1:dz 1 _:=hr
  refine ⟨_,aE (bJ (PW.pt (gD (bW (bM (aL oR rfl B.isinstance iN (aA (pv 1) (aA (eJ (v:=.ty "dict") rfl B.dict MY rfl) aC))))) (eY (aP (MO hr.Gw) (aL (eS rfl) rfl B.sorted lC (aA (pv 1) aC)) (aL (eS rfl) rfl B.sorted lC (aA (aQ hu (pv 0) aK (λ_ _=>rfl)) aC)) (aU _))))) (aJ (aR gA)) aS)
   (aE (bJ (bW (bM (aW Bi Be r1 rfl (aA (aY iD (cS (jM rfl) rfl B.list pF (aA (pv 1) aC)) (cS (uQ rfl) rfl B.list pF (aA (tV Ti Th Tq lB (pv 1)) aC))) aC)))) (aJ (aR gA)) aS)
   (aJ (aR (aL (kU rfl) rfl B.all xE (aA (mY (own:=["number"]) (fr:=[0,1]) (fk:=["state", "where"]) (bL (aI nE) ["state", "where"] rfl rfl (by decide +kernel)) rfl (pv 1)
     (λ_ _ _ _=>(aV (i:=0) (show (["number", "state", "where"]:List ax).Nodup by decide +kernel) rfl (Or.inl rfl))) (λ_ _ _ _=>eO)
     (λ_ _ _ _=>(gQ (hG (K:=K) rfl) (aQ hu (pv 2) (pv 0) (λ_ _=>rfl)) (aQ hu (aQ hu (pv 1) aK (λ_ _=>rfl)) (pv 0) (λ_ _=>rfl)) (by with_unfolding_all rfl)))) aC))))),?_⟩
  obtain ⟨j7,jc,gk,ip⟩:=aZ hM.bk
  have ki:S.nums.length<=12:=by rw [<- hS.wl]; exact gk
  have gz:S.nums.Nodup:=Ja.mpr (hM.up.imp λh=>Ju h)
  have oz:(gi S.nums hs).length=S.nums.length:=oC hW.len
  refine kM false (vO (b:=false) (c:=false) (λQ' q=>⟨_,rfl,wp,_,rfl,hW.at_,true,rfl,q _ (aD.refl _)⟩) (λ_ H1 s1 Q' q=>?_)) (λhb=>by cases hb) (λ_ H1 s1=>?_)
  ·refine ⟨_,rfl,wp,_,S.nums,rfl,.inl (hW.same s1).at_,WE hW.len,by omega,λp ms hp e? pm=>?_⟩
   have s2:=aD.new (o:=.lst (ms.map V.int)) hp
   have ep:upd H1 p (.lst (ms.map V.int)) p=some (.lst (ms.map V.int)):=aB
   generalize upd H1 p (.lst (ms.map V.int))=H2 at s2 ep ⊢
   have qw:=hS.same (s1.trans s2)
   refine ⟨_,rfl,sp,_,rfl,qw.g9 (k:=.inr "able") (cY S),S.ap,_,S.nums,rfl,.inl qw.dr,jH hS.tl,by omega,λp' Z7 G6 NN Y'=>?_⟩
   have em:Z7=ms:=xM NN e? Y' pm
   rw [em]
   have s3:=aD.new (o:=.lst (ms.map V.int)) G6
   refine ⟨.list (ms.map .int),.list (ms.map .int),nM.mpr ⟨p,rfl,d9.of (s3 _ _ ep)⟩,nM.mpr ⟨p',rfl,d9.of aB⟩,jF _,jF _,hU _,hU _,_,rfl,?_⟩
   rw [Ug _ (SeqAt.canLay_of_shaped (hU _))]
   exact q _ (s2.trans s3)
  dsimp only [jT]
  refine kM false (sK (b:=true) λQ' q=>?_) (λhb=>by cases hb) (λ_ H2 s2=>?_)
  ·have QP:=hW.same s1
   refine ⟨_,rfl,wp,_,rfl,.inl QP.at_,λp hp=>?_⟩
   rw [WE hW.len]
   have s2:=aD.new (o:=.lst (S.nums.map V.int)) hp
   have ep:upd H1 p (.lst (S.nums.map V.int)) p=some (.lst (S.nums.map V.int)):=aB
   generalize upd H1 p (.lst (S.nums.map V.int))=H2 at s2 ep ⊢
   have zx:=QP.same s2
   refine ⟨_,rfl,.inr (.inr (.inl ⟨rfl,.inl ⟨_,zx.at_⟩⟩)),wp,_,rfl,rfl,.inl zx.at_,λv hv=>⟨v,wp,_,rfl,aB,.inl ((aD.new hv) _ _ zx.at_),λp2 rh=>?_⟩⟩
   rw [WL hW.len]
   have s3:=(aD.new (o:=mn v wp) hv).trans (aD.new (o:=.lst (hs.map V.int)) rh)
   have Sv:upd (upd H2 v (mn v wp)) p2 (.lst (hs.map V.int)) p2=some (.lst (hs.map V.int)):=aB
   generalize upd (upd H2 v (mn v wp)) p2 (.lst (hs.map V.int))=H3 at s3 Sv ⊢
   refine ⟨p,p2,_,_,rfl,rfl,s3 _ _ ep,Sv,?_,λp3 AR=>?_⟩
   ·have:(S.nums.map V.int).length+(hs.map V.int).length < ag:=md _ (by rw [Qc,Qc,hW.len]; omega)
    exact Je this
   rw [<- Qt]
   have s4:=aD.new (o:=.lst ((S.nums++hs).map V.int)) AR
   refine ⟨p3,S.nums++hs,rfl,.inl (d9.of aB),by rw [Qe,hW.len]; omega,λH4 s5=>⟨true,rfl,q _ ?_⟩⟩
   exact ((s2.trans s3).trans s4).trans s5
  dsimp only [jT]
  have pd:=s1.trans s2
  have qw:=hS.same pd
  have zx:=hW.same pd
  refine ⟨_,rfl,wp,_,rfl,zx.at_,λo=>?_⟩
  have z3:upd H2 wp (.fm o (.dK (gi S.nums hs))) wp=some (.fm o (.dK (gi S.nums hs))):=aB
  have b3:ff wp H2 (upd H2 wp (.fm o (.dK (gi S.nums hs)))):=ff.at
  have JX:sp≠wp:=λz=>by have:=hS.st; rw [z,hW.at_] at this; exact T2 (Option.some.inj this).symm
  have za:=b3 _ _ JX qw.st
  have a3:=b3 _ _ AI.symm qw.dr
  refine nR (a:=wp) (o:=o) (kvs:=gi S.nums hs) (λσ=>∃ u,σ = [u,some (.ref sp),some (.ref wp)]) (λi ys H4=>ys=(List.replicate i true).map V.bl/\H4=upd H2 wp (.fm o (.dK (gi S.nums hs)))) (iK (by omega)) ⟨none,rfl⟩ ⟨rfl,rfl⟩ (λi ys H4 h=>by rw [h.1,Qc,Jg]; exact Qg _) (λi ys H4 h=>by rw [h.2]; exact z3) ?_ ?_
  ·rintro i ys σ kv H4 jz ⟨u,rfl⟩ ⟨rfl,rfl⟩ hz
   obtain ⟨num,g,f_,hg,rfl⟩:=rS jz
   have hi:i < S.nums.length:=(Qa.mp f_).1
   obtain ⟨l,hl⟩:∃ l,S.ws[i]?=some l:=⟨_,Qb (by rw [hS.wl]; exact hi)⟩
   obtain ⟨t',t8⟩:∃ t',S.ts[i]?=some t':=⟨_,Qb (by rw [hS.tl]; exact hi)⟩
   have nk:d8 K (upd H2 wp (.fm o (.dK (gi S.nums hs)))) t' (l.map V.int):=b3.j8 zx.at_ (qw.tup i t' l t8 hl)
   refine cR ?_
   refine ⟨_,rfl,_,rfl,wp,_,rfl,.inl ⟨_,.inl num,.inr ⟨o,z3⟩,rfl,(cK (f:=V.int) gz f_ hg).symm⟩,_,rfl,sp,_,rfl,.inl ⟨S.kv,.inr "able",.inl za,rfl,(cY S).symm⟩,_,rfl,S.ap,.ref t',rfl,.inl ⟨_,.inl num,.inl a3,rfl,(cK gz f_ t8).symm⟩,t',_,rfl,.inr nk,rfl,jR _,hz,⟨_,rfl⟩,?_,rfl⟩
   rw [Zu,Qt]
   show _++[V.bl (wu (.int g) (l.map V.int))]=_
   rw [qS,decide_eq_true (u4 i g l hg hl)]; rfl
  ·rintro ys H4 ⟨rfl,rfl⟩ pc jf
   have tf:pc≠wp:=λz=>by rw [z,z3] at jf; cases jf
   refine ⟨pc,List.replicate (gi S.nums hs).length true,rfl,d9.of (by rw [aF tf,aB]),?_⟩
   rw [tH]
   refine k _ λb' u ic=>?_
   have qv:=pd _ _ ic
   by_cases c:b'=wp
   ·rw [c] at qv ⊢
    rw [aB,<- zx.at_]; exact qv
   ·have n2:b'≠pc:=λz=>by rw [aF tf] at jf; rw [z,jf] at qv; cases qv
    rw [aF c,aF n2,aF c]; exact qv
def vQ (K:Rb):Sp:=λvs H Q _=>∃ (sp wp p:ae) (S:SD) (hs lv:List Int),vs = [.ref sp,.ref wp,.ref p]/\jm K H sp S/\ko S/\Cd K H wp S hs/\wp≠S.ap/\d8 K H p (lv.map V.int)/\nF S.n S.ws hs lv/\∀ H',aD H H'->Q (.bl true) H'
theorem vR:c_ ["state", "where", "heights", "heaps", "number"] ["state", "where", "heights"] (aI lU):=.of
set_option maxHeartbeats 1000000 in
theorem aDc (G:Fn K mg "_law_e_are_levels" lU ["state", "where", "heights"] f fd) (B:Bl mg) (Bi:Fn K mg "_law_e_whole_in" jE ["some"] fW dW) (Be:b_ P w K mg base d7 1 fW dW ["some"] (lK K)) (Nn:Fn K mg "_law_e_heaps" qN ["state", "where"] fH dH) (Nb:b_ P w K mg base d7 1 fH dH ["state", "where"] (qX K)):b_ P w K mg base d7 2 f fd ["state", "where", "heights"] (vQ K):=by
 refine G.fn.oK vR λfh A outer s H vs Q E hr h=>?_
 ·obtain ⟨sp,wp,p,S,hs,lv,rfl,hS,hM,hW,AI,hp,H!,k⟩:=h
  have hu:=bV hr
  have r1:dz 1 _:=hr
  refine ⟨_,aE (aX (i:=3) vR.nd rfl (Or.inr rfl) (aW Nn Nb r1 rfl (aA (pv 0) (aA (pv 1) aC))))
   (aE (bJ (PW.pt (gD (bW (bM (aL cX rfl B.isinstance iN (aA (pv 2) (aA (eJ (v:=.ty "tuple") rfl B.tuple gG rfl) aC))))) (gD (aP oJ (aL bB rfl B.len eQ (aA (pv 2) aC)) (aL bB rfl B.len eQ (aA (pv 3) aC)) (aU _)) (eY (bW (bM (aW Bi Be r1 rfl (aA (pv 2) aC)))))))) (aJ (aR gA)) aS)
   (aE (bJ (bM (aL (kZ rfl) rfl B.any xI (aA (gF (own:=["hand"]) (fr:=[3,2]) (fk:=["heaps", "heights"]) (bL (aI lU) ["state", "where", "heights", "heaps", "number"] rfl rfl (by decide +kernel)) rfl (eD rfl B.range (aA (aL bB rfl B.len eQ (aA (pv 3) aC)) aC))
    (λ_ _ _ _=>(aV (i:=0) (show (["hand", "heaps", "heights"]:List ax).Nodup by decide +kernel) rfl (Or.inl rfl))) (λ_ _ _ _=>eO)
    (λ_ _ _ _=>(gQ (wG (K:=K) rfl) (aY fX (bN (aDR (K:=K) rfl) (pv 1) (pv 0) (λ_ _=>rfl)) (bN (yW (K:=K) rfl) (pv 2) (pv 0) (λ_ _=>rfl))) (cC (aA aH (aA aH aC))) (by with_unfolding_all rfl)))) aC))) (aJ (aR gA)) aS)
   (aE (yJ (iA ay.never rfl (qH (pv 1)) (aV (i:=4) vR.nd rfl (Or.inr rfl)) (aJ (bJ (bM (aL (kZ rfl) rfl B.any xI (aA (gF (own:=["hand"]) (fr:=[2,1,4]) (fk:=["heights", "where", "number"]) (bL (aI lU) ["state", "where", "heights", "heaps", "number"] rfl rfl (by decide +kernel)) rfl (oX (aQ hu (aQ hu (pv 0) aK (λ_ _=>rfl)) (pv 4) (λ_ _=>rfl)))
    (λ_ _ _ _=>(aV (i:=0) (show (["hand", "heights", "where", "number"]:List ax).Nodup by decide +kernel) rfl (Or.inl rfl))) (λ_ _ _ _=>eO)
    (λ_ _ _ _=>(gQ mM (bN (yW (K:=K) rfl) (pv 1) (aQ hu (pv 2) (pv 3) (λ_ _=>rfl)) (λ_ _=>rfl)) (bN (yW (K:=K) rfl) (pv 1) (pv 0) (λ_ _=>rfl)) (aU _)))) aC))) (aJ (aR gA)) aS))))
   (aJ (aR gA))))),?_⟩
  obtain ⟨j7,jc,gk,ip⟩:=aZ hM.bk
  have ki:S.nums.length<=12:=by rw [<- hS.wl]; exact gk
  have gz:S.nums.Nodup:=Ja.mpr (hM.up.imp λh=>Ju h)
  have oz:(gi S.nums hs).length=S.nums.length:=oC hW.len
  obtain ⟨Dq,n?,n!⟩:=aC4 H!
  have ll:(bT S.n hs).length=S.n.toNat:=by unfold bT; rw [Qc,gM]
  have Cz:∀ h:Int,0<=h->h < S.n->∃ v,lv[h.toNat]?=some v/\ue (lv.map V.int) h=some (.int v):=λh h0 h1=>by
   have ev:lv[h.toNat]?=some lv[h.toNat]:=Qb (by omega)
   have z:=gE (xs:=lv.map V.int) (j:=h.toNat) (v:=.int lv[h.toNat]) (by rw [Qh,ev]; rfl)
   rw [show ((h.toNat:Nat):Int)=h by omega] at z
   exact ⟨_,ev,z⟩
  refine ⟨_,rfl,_,rfl,sp,wp,S,hs,rfl,hS,hM,hW,λq H1 s1 nq e1=>?_⟩
  dsimp only [bO]
  refine kM false (vO (b:=false) (c:=false) (λQ' h=>⟨_,rfl,_,.tup,rfl,.inr (.inl ⟨rfl,_,s1.dk hp⟩),true,rfl,h _ (aD.refl _)⟩) (λ_ H2 s2=>vO (b:=false) (c:=false) (λQ' h=>⟨_,rfl,p,_,rfl,.inr (s2.dk (s1.dk hp)),_,rfl,q,_,rfl,.inl (d9.of (s2 _ _ e1)),rfl,false,?_,h _ (aD.refl _)⟩) (λ_ H3 s3=>sK (b:=true) λQ' h=>⟨_,rfl,p,lv,rfl,.inr (s3.dk (s2.dk (s1.dk hp))),by omega,λH4 s4=>⟨true,rfl,h _ s4⟩⟩))) (λhb=>by cases hb) (λ_ H2 s2=>?_)
  ·rw [Qc,Qc,ll,Dq,show (!decide (V.int (S.n.toNat:Nat)=V.int (S.n.toNat:Nat)))=false by simp]
  dsimp only [jT]
  have Dg:=s1.trans s2
  have e2:=s2 _ _ e1
  have rh:=Dg.dk hp
  refine kM false (λQ' h=>?_) (λhb=>by cases hb) (λ_ H3 s3=>?_)
  ·refine ⟨_,rfl,q,_,rfl,.inl (d9.of e2),_,rfl,by rw [Qc,ll]; omega,by rw [Qc,ll]; omega,aDQ (lo:=0) (n:=((((bT S.n hs).map V.int).length:Int)).toNat) (vs:=(List.replicate ((((bT S.n hs).map V.int).length:Int)).toNat false).map V.bl) (λσ=>∃ v,σ = [v,some (.ref q),some (.ref p)]) (by rw [Qc,ll]; omega) (by rw [Qc,Jg]) ⟨none,rfl⟩ ?_ ?_⟩
   ·rintro i v σ H3 hi hv ⟨v0,rfl⟩ s3 Q2 Le
    rw [Qc,ll] at hi
    have ev:v=.bl false:=by
     obtain ⟨b,hb,rfl⟩:∃ b,b∈List.replicate ((((bT S.n hs).map V.int).length:Int)).toNat false/\V.bl b=v:=Xp.mp (Qd hv)
     rw [List.eq_of_mem_replicate hb]
    subst ev
    have i0:(0:Int)<=0+(i:Int):=by omega
    have i1:0+(i:Int) < S.n:=by omega
    obtain ⟨u,Φ,Ξ⟩:=Cz _ i0 i1
    obtain ⟨m1,m2⟩:=n? _ u Φ
    rw [show (((0+(i:Int)).toNat:Nat):Int)=0+(i:Int) by omega] at m1 m2
    refine ⟨_,rfl,_,rfl,q,_,_,_,rfl,rfl,d9.of (s3 _ _ e2),lJ i0 i1,_,rfl,_,rfl,p,_,_,_,rfl,rfl,s3.dk rh,Ξ,_,_,rfl,rfl,kc _ _,λz hz=>⟨z,_,rfl,.inr (d8.of aB),rfl,rfl,?_⟩⟩
    have u4:wu (.int (((hs.count (0+(i:Int)):Nat):Int) - u)) [.int 0,.int 1]=true:=by
     have e:=yV (((hs.count (0+(i:Int)):Nat):Int) - u) [0,1]
     have:((hs.count (0+(i:Int)):Nat):Int) - u=0∨((hs.count (0+(i:Int)):Nat):Int) - u=1:=by omega
     refine e.trans ?_
     rcases this with z | z <;> rw [z] <;> rfl
    rw [u4]
    exact Le _ _ ⟨_,rfl⟩ (aD.new hz)
   ·rintro H3 s3 z hz
    refine ⟨z,_,rfl,d9.of aB,false,?_,h _ (s3.trans (aD.new hz))⟩
    rw [show (List.replicate ((((bT S.n hs).map V.int).length:Int)).toNat false).any id=false by simp]
  dsimp only [jT]
  have AG:=Dg.trans s3
  have r6:=hS.same AG
  have He:=hW.same AG
  have AR:=AG.dk hp
  refine ⟨_,rfl,wp,_,rfl,He.at_,λo nf=>?_⟩
  have z4:upd H3 wp (.fm o (.dK (gi S.nums hs))) wp=some (.fm o (.dK (gi S.nums hs))):=aB
  have b4:ff wp H3 (upd H3 wp (.fm o (.dK (gi S.nums hs)))):=ff.at
  have JX:sp≠wp:=λz=>by have:=hS.st; rw [z,hW.at_] at this; exact T2 (Option.some.inj this).symm
  have OV:=b4 _ _ JX r6.st
  have a4:=b4 _ _ AI.symm r6.dr
  have p4:=b4.j8 He.at_ AR
  have OP:∀ (i:Nat) t l,S.ts[i]?=some t->S.ws[i]?=some l->d8 K (upd H3 wp (.fm o (.dK (gi S.nums hs)))) t (l.map V.int):=λi t l a b=>b4.j8 He.at_ (r6.tup i t l a b)
  generalize upd H3 wp (.fm o (.dK (gi S.nums hs)))=H4 at z4 b4 OV a4 p4 OP ⊢
  refine uI (a:=wp) (o:=o) (kvs:=gi S.nums hs) (λi σ H5=>(∃ v,σ = [some (.ref sp),some (.ref wp),some (.ref p),some (.ref q),v])/\aD H4 H5) ⟨⟨none,rfl⟩,aD.refl _⟩ (λi σ H5 _ h=>h.2 _ _ z4) ?_ ?_
  ·rintro i kv σ H5 jz ⟨⟨v,rfl⟩,s5⟩
   obtain ⟨num,g,f_,hg,rfl⟩:=rS jz
   have hi:i < S.nums.length:=(Qa.mp f_).1
   obtain ⟨l,hl⟩:∃ l,S.ws[i]?=some l:=⟨_,Qb (by rw [hS.wl]; exact hi)⟩
   obtain ⟨t',t8⟩:∃ t',S.ts[i]?=some t':=⟨_,Qb (by rw [hS.tl]; exact hi)⟩
   have gr:=hW.rg g (Qd hg)
   obtain ⟨ug,Θ,NJ⟩:=Cz g gr.1 gr.2
   obtain ⟨w1,w2,w3⟩:=bA (ip l (Qd hl))
   have l6:=iS (by omega) w2 w3
   have nk:=s5.dk (OP i t' l t8 hl)
   dsimp only [bO]
   refine kM false (λQ' h=>?_) (λhb=>by cases hb) (λ_ H6 s6=>⟨⟨_,rfl⟩,s5.trans s6⟩)
   refine ⟨_,rfl,sp,_,rfl,.inl ⟨S.kv,.inr "able",.inl (s5 _ _ OV),rfl,(cY S).symm⟩,_,rfl,S.ap,.ref t',rfl,.inl ⟨_,.inl num,.inl (s5 _ _ a4),rfl,(cK gz f_ t8).symm⟩,t',rfl,⟨_,nk⟩,uC (K:=K) (a:=t') (xs:=l.map V.int) (vs:=(List.replicate l.length false).map V.bl) (λσ=>∃ v,σ = [v,some (.ref p),some (.ref wp),some (.int num)]) (by rw [Qc]; omega) (by rw [Qc,Jg,Qc]) nk ⟨none,rfl⟩ ?_ ?_⟩
   ·rintro j y v2 σ H6 h1 h2 ⟨v0,rfl⟩ s6 Q2 Le
    rw [Qh] at h1 h2
    obtain ⟨m,hm,rfl⟩:=Qp.mp h1
    obtain ⟨b,hb,rfl⟩:=Qp.mp h2
    have eb:b=false:=(Zk.mp (Qd hb)).2
    subst eb
    have mr:=w2 m (Qd hm)
    obtain ⟨um,Δ,NI⟩:=Cz m mr.1 mr.2
    have JO:=s5.trans s6
    refine ⟨_,rfl,_,rfl,_,rfl,wp,_,rfl,.inl ⟨_,.inl num,.inr ⟨o,JO _ _ z4⟩,rfl,(cK (f:=V.int) gz f_ hg).symm⟩,p,_,g,_,rfl,rfl,JO.dk p4,NJ,_,rfl,_,rfl,p,_,m,_,rfl,rfl,JO.dk p4,NI,ug,um,rfl,rfl,?_⟩
    have le:ug<=um:=by
     have eg:((g.toNat:Nat):Int)=g:=by omega
     have em:((m.toNat:Nat):Int)=m:=by omega
     exact n! i g.toNat l (by rw [eg]; exact hg) hl m.toNat (by rw [em]; exact Qd hm) ug um Θ Δ
    dsimp only
    rw [show decide (um < ug)=false from decide_eq_false (by omega)]
    exact Le _ _ ⟨_,rfl⟩ (aD.refl _)
   ·intro H6 s6 pc jf
    refine ⟨pc,_,rfl,d9.of aB,false,?_,h _ (s6.trans (aD.new jf))⟩
    rw [show (List.replicate l.length false).any id=false by simp]
  ·rintro σ H5 ⟨⟨v,rfl⟩,s5⟩
   refine ⟨wp,o,_,s5 _ _ z4,nf,?_⟩
   refine k _ λc u hc=>?_
   have K6:=AG _ _ hc
   by_cases d:c=wp
   ·rw [d] at K6 ⊢
    rw [aB,<- He.at_]; exact K6
   ·rw [aF d]; exact s5 _ _ (b4 _ _ d K6)
inductive Wd where
 | gv | kg | i7 | levels | moved
 deriving DecidableEq
noncomputable def Wd.str:Wd->ax
 | .gv => "works" | .kg => "deal" | .i7 => "loads" | .levels => "levels" | .moved => "moved"
def jO (K:Rb) (D:DD) (H0 H:Hp):Wd->V->Prop
 | .gv,v=>∃ p ts,v=.ref p/\H0 p=none/\H p=some (.dK (fe D.nums ts))/\ts.length=D.nums.length/\∀ (i:Nat) t l,ts[i]?=some t->D.ws[i]?=some l->d8 K H t (l.map V.int)
 | .kg,v=>∃ p,v=.ref p/\H0 p=none/\H p=some (.dK (gi D.nums D.hs))
 | .i7,v=>∃ p,v=.ref p/\d8 K H p ((bT D.n D.hs).map V.int)
 | .levels,v=>∃ p lv,v=.ref p/\d8 K H p (lv.map V.int)/\nF D.n D.ws D.hs lv
 | .moved,v=>∃ p,v=.ref p/\d8 K H p [.int D.ml,.int D.ma]
def NT (H:Hp) (c:ae):Prop:=(∀ xs,H c≠some (.tup xs))/\∀ o xs,H c≠some (.fm o (.tup xs))
theorem NT.lst (h:H c=some (.lst xs)):NT H c:=⟨λ_ z=>(by rw [h] at z; cases z),λ_ _ z=>(by rw [h] at z; cases z)⟩
theorem NT.dK {xs:List (Key×V)} (h:H c=some (.dK xs)):NT H c:=⟨λ_ z=>(by rw [h] at z; cases z),λ_ _ z=>(by rw [h] at z; cases z)⟩
theorem NT.ins {fs:List (ax×V)} (h:H c=some (.ins C dx fs)):NT H c:=⟨λ_ z=>(by rw [h] at z; cases z),λ_ _ z=>(by rw [h] at z; cases z)⟩
theorem bU.wm {x a b:ae} (e:bU x a b H H') (hx:NT H x) (ha:NT H a) (hb:NT H b) (h:d8 K H p xs):d8 K H' p xs:=by
 rcases h with (h | ⟨o,h⟩) | h
 ·exact .inl (.inl (e p _ (λz=>hx.1 _ (z ▸ h)) (λz=>ha.1 _ (z ▸ h)) (λz=>hb.1 _ (z ▸ h)) h))
 ·exact .inl (.inr ⟨o,e p _ (λz=>hx.2 _ _ (z ▸ h)) (λz=>ha.2 _ _ (z ▸ h)) (λz=>hb.2 _ _ (z ▸ h)) h⟩)
 ·exact .inr h
theorem jO.keep {x a b:ae} (e:bU x a b H H') (hx:NT H x) (ha:NT H a) (hb:NT H b) (nx:H0 x≠none) (na:H0 a≠none) (nb:H0 b≠none):∀ {wd:Wd} {v:V},jO K D H0 H wd v->jO K D H0 H' wd v
 | .gv,v,⟨p,ts,h1,h2,h3,h4,h5⟩=>⟨p,ts,h1,h2,e p _ (λz=>nx (z ▸ h2)) (λz=>na (z ▸ h2)) (λz=>nb (z ▸ h2)) h3,h4,λi t l q1 q2=>e.wm hx ha hb (h5 i t l q1 q2)⟩
 | .kg,v,⟨p,h1,h2,h3⟩=>⟨p,h1,h2,e p _ (λz=>nx (z ▸ h2)) (λz=>na (z ▸ h2)) (λz=>nb (z ▸ h2)) h3⟩
 | .i7,v,⟨p,h1,h2⟩=>⟨p,h1,e.wm hx ha hb h2⟩
 | .levels,v,⟨p,lv,h1,h2,h3⟩=>⟨p,lv,h1,e.wm hx ha hb h2,h3⟩
 | .moved,v,⟨p,h1,h2⟩=>⟨p,h1,e.wm hx ha hb h2⟩
theorem jO.same (e:aD H H'):∀ {wd:Wd} {v:V},jO K D H0 H wd v->jO K D H0 H' wd v
 | .gv,v,⟨p,ts,h1,h2,h3,h4,h5⟩=>⟨p,ts,h1,h2,e p _ h3,h4,λi t l q1 q2=>e.dk (h5 i t l q1 q2)⟩
 | .kg,v,⟨p,h1,h2,h3⟩=>⟨p,h1,h2,e p _ h3⟩
 | .i7,v,⟨p,h1,h2⟩=>⟨p,h1,e.dk h2⟩
 | .levels,v,⟨p,lv,h1,h2,h3⟩=>⟨p,lv,h1,e.dk h2,h3⟩
 | .moved,v,⟨p,h1,h2⟩=>⟨p,h1,e.dk h2⟩
theorem jO.old (e:∀ c,H1 c=none->H0 c=none):∀ {wd:Wd} {v:V},jO K D H1 H wd v->jO K D H0 H wd v
 | .gv,v,⟨p,ts,h1,h2,h3,h4,h5⟩=>⟨p,ts,h1,e p h2,h3,h4,h5⟩
 | .kg,v,⟨p,h1,h2,h3⟩=>⟨p,h1,e p h2,h3⟩
 | .i7,v,⟨p,h1,h2⟩=>⟨p,h1,h2⟩
 | .levels,v,⟨p,lv,h1,h2,h3⟩=>⟨p,lv,h1,h2,h3⟩
 | .moved,v,⟨p,h1,h2⟩=>⟨p,h1,h2⟩
def UR (K:Rb) (C Pl:ae):Sp:=λvs H Q _=>∃ (x:ae) (D:DD) (wd:Wd),vs = [.ref x,.str wd.str]/\iz K H C x D/\og D/\H Pl=some (.tab qR)/\∀ v H',aD H H'->jO K D H H' wd v->Q v H'
theorem aId:c_ ["dealing", "word"] ["dealing", "word"] (aI HJ):=.of
set_option maxHeartbeats 1000000 in
theorem aHm {Ht Hv Lq Lr Hu:ae} {HA HE LF LG HB:az} (G:Fn K mg "_law_e_ask" HJ ["dealing", "word"] f fd) (T:Dc K C) (XS:Mt K C "works" pH ["self"] Ht HA) (M6:b_ P w K mg base d7 1 Ht HA ["self"] (vM K C)) (XZ:Mt K C "deal" Fc ["self"] Hv HE) (Nd:b_ P w K mg base d7 1 Hv HE ["self"] (zJ K C)) (XU:Mt K C "loads" rJ ["self"] Lq LF) (IH:b_ P w K mg base d7 2 Lq LF ["self"] (vK K C)) (XX:Mt K C "levels" qK ["self"] Lr LG) (Na:b_ P w K mg base d7 9 Lr LG ["self"] (xJ K C Pl)) (XT:Mt K C "moved" uY ["self"] Hu HB) (M_:b_ P w K mg base d7 1 Hu HB ["self"] (zI K C)):b_ P w K mg base d7 10 f fd ["dealing", "word"] (UR K C Pl):=by
 refine G.fn.oK aId λfh A outer s H vs Q E hr h=>?_
 ·obtain ⟨x,D,wd,rfl,hD,hM,hT,k⟩:=h
  have r9:dz 9 _:=hr
  have r1:dz 1 _:=hr.mono (by decide)
  have r2:dz 2 _:=hr.mono (by decide)
  refine ⟨_,aE (bJ (aP dY (pv 1) aK (aU _)) (aJ (aR (cW (pv 0) T.cl XS.me M6 r1 XS.bd .nil gJ))) aS)
   (aE (bJ (aP dY (pv 1) aK (aU _)) (aJ (aR (cW (pv 0) T.cl XZ.me Nd r1 XZ.bd .nil gJ))) aS)
   (aE (bJ (aP dY (pv 1) aK (aU _)) (aJ (aR (cW (pv 0) T.cl XU.me IH r2 XU.bd .nil gJ))) aS)
   (aE (bJ (aP dY (pv 1) aK (aU _)) (aJ (aR (cW (pv 0) T.cl XX.me Na r9 XX.bd .nil gJ))) aS)
   (aJ (aR (cW (pv 0) T.cl XT.me M_ r1 XT.bd .nil gJ)))))),?_⟩
  obtain ⟨j7,jc,_,_⟩:=aZ hM.bk
  have F:∀ {a b:ax},a≠b->decide (V.str a=V.str b)=false:=mB
  cases wd with
  | gv =>
   refine ⟨_,rfl,rfl,_,rfl,eI qV ?_⟩
   refine ⟨_,rfl,x,D.dx,_,rfl,hD.ins,rfl,x,D,rfl,hD,hM,λp ts H' s1 h0 h1 h2 h3=>k _ H' s1 ⟨p,ts,rfl,h0,h1,h2,h3⟩⟩
  | kg =>
   refine ⟨_,rfl,rfl,_,rfl,bK (F (by decide +kernel)) ⟨_,rfl,rfl,_,rfl,eI qV ?_⟩⟩
   refine ⟨_,rfl,x,D.dx,_,rfl,hD.ins,rfl,x,D,rfl,hD,λp hp=>k _ _ (aD.new hp) ⟨p,rfl,hp,aB⟩⟩
  | i7 =>
   refine ⟨_,rfl,rfl,_,rfl,bK (F (by decide +kernel)) ⟨_,rfl,rfl,_,rfl,bK (F (by decide +kernel)) ⟨_,rfl,rfl,_,rfl,eI qV ?_⟩⟩⟩
   refine ⟨_,rfl,x,D.dx,_,rfl,hD.ins,rfl,x,D,rfl,hD,by omega,jc,λp H' s1 hp=>k _ H' s1 ⟨p,rfl,d8.of hp⟩⟩
  | levels =>
   refine ⟨_,rfl,rfl,_,rfl,bK (F (by decide +kernel)) ⟨_,rfl,rfl,_,rfl,bK (F (by decide +kernel)) ⟨_,rfl,rfl,_,rfl,bK (F (by decide +kernel)) ⟨_,rfl,rfl,_,rfl,eI qV ?_⟩⟩⟩⟩
   refine ⟨_,rfl,x,D.dx,_,rfl,hD.ins,rfl,x,D,rfl,hD,hM,hT,λp lv H' s1 hp L=>k _ H' s1 ⟨p,lv,rfl,d8.of hp,L⟩⟩
  | moved =>
   refine ⟨_,rfl,rfl,_,rfl,bK (F (by decide +kernel)) ⟨_,rfl,rfl,_,rfl,bK (F (by decide +kernel)) ⟨_,rfl,rfl,_,rfl,bK (F (by decide +kernel)) ⟨_,rfl,rfl,_,rfl,bK (F (by decide +kernel)) ?_⟩⟩⟩⟩
   refine ⟨_,rfl,x,D.dx,_,rfl,hD.ins,rfl,x,D,rfl,hD.ins,λp hp=>k _ _ (aD.new hp) ⟨p,rfl,d8.of aB⟩⟩
noncomputable def wj (ls:List Wd):au:=.list (ls.map λwd=>.str wd.str)
theorem aHn {a b:Wd} (h:(Sum.inr a.str:Key)=.inr b.str):a=b:=by
 have h':a.str=b.str:=by injection h
 revert h'
 cases a <;> cases b <;> decide +kernel
theorem xO (f:α->β):∀ (l:List α) (k:Nat),(l.map f).eraseIdx k=(l.eraseIdx k).map f
 | [],_=>rfl
 | _::_,0=>rfl
 | x::l,k+1=>by rw [Qw,Xr,Xr,Qw,xO f l k]
theorem gq.fresh {H5:Hp} {a lp:ae} {N M:Nat} {u:HO} (hJ:gq K H t a ns N) (hl:H lp=none) (J5:gq K H5 t a ns M) (nt:t≠lp):gq K (upd H5 lp u) t a ns M:=by
 obtain ⟨⟨p,q,h1,h2,e5⟩,q5⟩:=J5
 refine ⟨⟨p,q,h1,h2,(aF nt).trans e5⟩,?_⟩
 rcases hJ.2 with (h | ⟨o,h⟩) | h
 ·exact ff.lj ff.at (λz=>by rw [z,hl] at h; cases h) q5
 ·exact ff.lj ff.at (λz=>by rw [z,hl] at h; cases h) q5
 ·exact .inr h
theorem xP (ls:List Wd):eP (wj ls)=true:=by
 unfold wj eP
 induction ls with
 | nil=>unfold List.map jL; rfl
 | cons n r ih=>rw [Qw]; unfold jL; rw [ih]; unfold eP; rfl
theorem xQ (ls:List Wd):SeqAt.shaped (wj ls)=true:=nU (by unfold wj au.canLay0; exact lX _ (λx=>by unfold au.canLay0; cases x <;> decide +kernel) ls) (Qx (by unfold wj au.depth; exact Zr (nS (k:=0) _ (λ_=>by unfold au.depth; exact Qg _) ls)) (by decide))
theorem UZ {a:ae} {ls:List Wd} (h:H a=some (.lst (ls.map λwd=>.str wd.str))):Den K H (wj ls) (.ref a):=by
 refine kW.mpr ⟨a,_,rfl,d9.of h,rR (by rw [Qc,Qc]) λi d z h1 h2=>?_⟩
 rw [Qh] at h1 h2
 obtain ⟨x,hx,rfl⟩:=Qp.mp h1
 obtain ⟨y,hy,rfl⟩:=Qp.mp h2
 rw [hx] at hy
 cases hy
 exact sT.mpr rfl
theorem aHo (ls:List Wd):au.eqv (wj ls) (wj [])=ls.isEmpty:=by
 unfold wj
 cases ls with
 | nil=>rw [Xo,au.eqv,au.eqvAll]; rfl
 | cons x r=>rw [Qw,Xo,au.eqv,au.eqvAll]; rfl
theorem iz.keep {x a b:ae} (h:iz K H C x D) (e:bU a b c H H') (ha:NT H a) (hb:NT H b) (hc:NT H c) (n:∀ q,q=x∨q=D.da∨q=D.dh->q≠a/\q≠b/\q≠c):iz K H' C x D:=by
 obtain ⟨x1,x2,x3⟩:=n x (.inl rfl)
 obtain ⟨y1,y2,y3⟩:=n D.da (.inr (.inl rfl))
 obtain ⟨z1,z2,z3⟩:=n D.dh (.inr (.inr rfl))
 exact ⟨e _ _ x1 x2 x3 h.ins,e _ _ y1 y2 y3 h.dr,e _ _ z1 z2 z3 h.hand,h.tl,h.wl,h.hl,λi t l q1 q2=>e.wm ha hb hc (h.tup i t l q1 q2),h.ne⟩
def zM (K:Rb) (C Pl:ae):Sp:=λvs H Q _=>∃ (t a:ae) (ns:List Int) (N:Nat) (x:ae) (D:DD),vs = [.ref t,.ref x]/\gq K H t a ns N/\N<=700000/\iz K H C x D/\og D/\H Pl=some (.tab qR) /\
 ∀ fp kvs H',ff t H H'->gq K H' t a ns (N+5)->H fp=none->H' fp=some (.dK kvs)->(∀ wd:Wd,∃ v,bX kvs (.inr wd.str)=some v/\jO K D H H' wd v)->Q (.ref fp) H'
theorem tI:c_ ["jar", "dealing", "left", "found", "word"] ["jar", "dealing"] (aI vA):=.of
set_option maxHeartbeats 1000000 in
theorem aED (G:Fn K mg "_law_e_asked" vA ["jar", "dealing"] f fd) (B:Bl mg) (nc:Fn K mg "_law_e_scoop" kQ ["jar", "many"] fS dS) (m_:b_ P w K mg base d7 2 fS dS ["jar", "many"] (jN K)) (GAk:Fn K mg "_law_e_ask" HJ ["dealing", "word"] fA dA) (OAk:b_ P w K mg base d7 10 fA dA ["dealing", "word"] (UR K C Pl)):b_ P w K mg base d7 11 f fd ["jar", "dealing"] (zM K C Pl):=by
 refine G.fn.oK tI λfh A outer s H vs Q E hr h=>?_
 ·obtain ⟨t,a,ns,N,x,D,rfl,hJ,hN,hD,hM,hT,k⟩:=h
  have Pa:dz 10 _:=hr
  have r2:dz 2 _:=hr.mono (by decide)
  have hu:=bV hr
  refine ⟨_,aE (aX (i:=2) tI.nd rfl (Or.inl rfl) (gW (aA aK (aA aK (aA aK (aA aK (aA aK aC)))))))
   (aE (aX (i:=3) tI.nd rfl (Or.inl rfl) jY)
   (aE (tO ay.never (aP (MO hr.Gw) (pv 2) (gW aC) (aU _))
    (aE (aX (i:=4) tI.nd rfl (Or.inl rfl) (kI Rh Mb Mc Wz (pv 2) (aA (aW nc m_ r2 rfl (aA (pv 0) (aA (aL bB rfl B.len eQ (aA (pv 2) aC)) aC))) aC)))
    (aJ (iZ hu (pv 3) (pv 4) (aW GAk OAk Pa rfl (aA (pv 1) (aA (pv 4) aC))) rfl))))
   (aJ (aR (pv 3))))),?_⟩
  obtain ⟨Gr,e0⟩:=hJ.lst
  refine ⟨md 5 (by decide) |> Je,λlp i5=>?_⟩
  dsimp only [bO]
  have s1:=aD.new (o:=.lst [.str "works",.str "deal",.str "loads",.str "levels",.str "moved"]) i5
  have l1:upd H lp (.lst [.str "works",.str "deal",.str "loads",.str "levels",.str "moved"]) lp=some (.lst (([.gv,.kg,.i7,.levels,.moved]:List Wd).map λwd=>.str wd.str)):=aB
  generalize upd H lp (.lst [.str "works",.str "deal",.str "loads",.str "levels",.str "moved"])=H1 at s1 l1 ⊢
  intro fp rj
  dsimp only [bO]
  have lu:H fp=none:=s1.free rj
  have s2:=s1.trans (aD.new (o:=.dK []) rj)
  have l2:=(aD.new (o:=.dK []) rj) _ _ l1
  have f2:upd H1 fp (.dK []) fp=some (.dK []):=aB
  generalize upd H1 fp (.dK [])=H2 at s2 l2 f2 ⊢
  have D8:lp≠fp:=λz=>by rw [z,f2] at l2; cases l2
  have D5:t≠lp:=λz=>by rw [z,i5] at e0; cases e0
  have Ph:t≠fp:=λz=>by rw [z,lu] at e0; cases e0
  have Hm:=hD.same s2
  have own:∀ q,q=x∨q=D.da∨q=D.dh->q≠t/\q≠lp/\q≠fp:=λq hq=>by
   have hs:∃ u,H q=some u/\∀ xs,u≠.lst xs:=by
    rcases hq with rfl | rfl | rfl
    ·exact ⟨_,hD.ins,λ_ z=>by cases z⟩
    ·exact ⟨_,hD.dr,λ_ z=>by cases z⟩
    ·exact ⟨_,hD.hand,λ_ z=>by cases z⟩
   obtain ⟨u,hu,nu⟩:=hs
   exact ⟨λz=>(by rw [z,e0] at hu; exact nu _ (Option.some.inj hu).symm),λz=>(by rw [z,i5] at hu; cases hu),λz=>(by rw [z,lu] at hu; cases hu)⟩
  have Kg:Pl≠t/\Pl≠lp/\Pl≠fp:=⟨λz=>(by rw [z,e0] at hT; cases hT),λz=>(by rw [z,i5] at hT; cases hT),λz=>(by rw [z,lu] at hT; cases hT)⟩
  have JW:∀ {H3:Hp} {xs ys:List V} {kvs:List (Key×V)},H3 t=some (.lst xs)->H3 lp=some (.lst ys)->H3 fp=some (.dK kvs)->NT H3 t/\NT H3 lp/\NT H3 fp:=λh1 h2 h3=>⟨NT.lst h1,NT.lst h2,NT.dK h3⟩
  have SV:H2 t≠none:=by rw [s2 _ _ e0]; exact λz=>by cases z
  have SW:H2 lp≠none:=by rw [l2]; exact λz=>by cases z
  have SY:H2 fp≠none:=by rw [f2]; exact λz=>by cases z
  refine ⟨λm σ H3=>∃ (v:Option V) (ls:List Wd) (kvs:List (Key×V)),σ = [some (.ref t),some (.ref x),some (.ref lp),some (.ref fp),v]/\m=ls.length/\H3 lp=some (.lst (ls.map λwd=>.str wd.str))/\H3 fp=some (.dK kvs)/\kvs.length+ls.length<=5/\gq K H3 t a ns (N+(5 - ls.length))/\bU t lp fp H2 H3/\∀ wd:Wd,wd∈ls∨∃ v,bX kvs (.inr wd.str)=some v/\jO K D H2 H3 wd v,
   ⟨5,none,[.gv,.kg,.i7,.levels,.moved],[],rfl,rfl,l2,f2,Qg _,(hJ.same s2).more (Xj ..),bU.refl _ _ _ _,λwd=>.inl (by cases wd <;> decide)⟩,?_⟩
  rintro m σ H3 ⟨v,ls,kvs,rfl,rfl,l3,f3,h5,J3,b3,vf⟩
  refine ⟨_,rfl,Jo _,λpe KA=>?_⟩
  have s4:=aD.new (o:=.lst []) KA
  refine ⟨wj ls,wj [],UZ (s4 _ _ l3),UZ aB,xP _,xP _,xQ _,xQ _,_,rfl,?_⟩
  rw [aHo]
  generalize upd H3 pe (.lst [])=H4 at s4 ⊢
  have J4:=J3.same s4
  have l4:=s4 _ _ l3
  have f4:=s4 _ _ f3
  have b4:=b3.trans (bU.of (x:=t) (a:=lp) (b:=fp) s4)
  have Au:∀ wd:Wd,wd∈ls∨∃ v,bX kvs (.inr wd.str)=some v/\jO K D H2 H4 wd v:=λwd=>(vf wd).imp id λ⟨v,h1,h2⟩=>⟨v,h1,h2.same s4⟩
  cases G9:ls with
  | nil =>
   subst G9
   refine oH ?_
   refine ⟨_,rfl,k fp kvs H4 (λc u hc hu=>?_) (J4.more (by simp)) lu f4 λwd=>?_⟩
   ·exact b4 c u hc (λz=>by rw [z,i5] at hu; cases hu) (λz=>by rw [z,lu] at hu; cases hu) (s2 _ _ hu)
   ·rcases Au wd with z | ⟨v,h1,h2⟩
    ·cases z
    ·exact ⟨v,h1,h2.old λc hc=>s2.free hc⟩
  | cons w0 ls0 =>
   rw [<- G9]
   have pos:0 < ls.length:=by rw [G9]; exact Nat.succ_pos _
   rw [show (!ls.isEmpty)=true by rw [G9]; rfl]
   refine kN ⟨λd6 H'=>∃ m',m' < ls.length/\∃ (v:Option V) (ls:List Wd) (kvs:List (Key×V)),d6 = [some (.ref t),some (.ref x),some (.ref lp),some (.ref fp),v]/\m'=ls.length/\H' lp=some (.lst (ls.map λwd=>.str wd.str))/\H' fp=some (.dK kvs)/\kvs.length+ls.length<=5/\gq K H' t a ns (N+(5 - ls.length))/\bU t lp fp H2 H'/\∀ wd:Wd,wd∈ls∨∃ v,bX kvs (.inr wd.str)=some v/\jO K D H2 H' wd v,λd6 H' h=>h,?_⟩
   have h5l:ls.length<=5:=by omega
   refine ⟨_,rfl,.inl ⟨rfl,_,d9.of l4⟩,_,rfl,_,rfl,lp,_,rfl,.inl (d9.of l4),t,a,ns,N+(5 - ls.length),_,rfl,J4,by omega,by rw [Qc]; omega,?_,λr H5 r0 r1 b5 J5=>?_⟩
   ·rw [Qc]
    exact Xk (show ((ls.length:Int)).natAbs<=5 by omega) (by decide +kernel)
   rw [Qc] at r1
   obtain ⟨wd,AM⟩:∃ wd,ls[r.toNat]?=some wd:=⟨_,Qb (by omega)⟩
   have l5:=b5 _ _ D5.symm l4
   have f5:=b5 _ _ Ph.symm f4
   refine ⟨lp,_,r,r.toNat,.str wd.str,rfl,rfl,l5,by omega,by omega,(xX (UU r0 (by rw [Qc]; omega))).1,by rw [Qh,AM]; rfl,?_⟩
   dsimp only [bO]
   have el:(ls.map λwd=>V.str wd.str).eraseIdx r.toNat=(ls.eraseIdx r.toNat).map λwd=>V.str wd.str:=xO _ _ _
   rw [el]
   have l6:upd H5 lp (.lst ((ls.eraseIdx r.toNat).map λwd=>V.str wd.str)) lp=some (.lst ((ls.eraseIdx r.toNat).map λwd=>V.str wd.str)):=aB
   have f6:upd H5 lp (.lst ((ls.eraseIdx r.toNat).map λwd=>V.str wd.str)) fp=some (.dK kvs):=(aF D8.symm).trans f5
   obtain ⟨YD,e5⟩:=J5.lst
   have J6:gq K (upd H5 lp (.lst ((ls.eraseIdx r.toNat).map λwd=>V.str wd.str))) t a ns (N+(5 - ls.length)+1):=hJ.fresh i5 J5 D5
   have LH:bU t lp fp H4 (upd H5 lp (.lst ((ls.eraseIdx r.toNat).map λwd=>V.str wd.str))):=λc u h1 h2 h3 hu=>by rw [aF h2]; exact b5 _ _ h1 hu
   have t6:upd H5 lp (.lst ((ls.eraseIdx r.toNat).map λwd=>V.str wd.str)) t=some (.lst YD):=(aF D5).trans e5
   generalize upd H5 lp (.lst ((ls.eraseIdx r.toNat).map λwd=>V.str wd.str))=H6 at l6 f6 J6 LH t6 ⊢
   have LJ:=b4.trans LH
   obtain ⟨Z3,Z4,Z5⟩:=JW (s2 _ _ e0) l2 f2
   have Lj:iz K H6 C x D:=Hm.keep LJ Z3 Z4 Z5 own
   have C!:=LJ _ _ Kg.1 Kg.2.1 Kg.2.2 (s2 _ _ hT)
   refine ⟨_,rfl,_,rfl,x,D,wd,rfl,Lj,hM,C!,λv' H7 s7 A7=>?_⟩
   have f7:=s7 _ _ f6
   refine ⟨_,rfl,_,rfl,fp,_,rfl,qF.k (k:=.inr wd.str) f7 (md _ (by omega)),?_⟩
   have l7:=s7 _ _ l6
   have t7:=s7 _ _ t6
   have SR:bU t lp fp H7 (upd H7 fp (.dK (eR kvs (.inr wd.str) v'))):=bU.b
   have SU:=(LH.trans (bU.of s7)).trans SR
   have hle:(ls.eraseIdx r.toNat).length=ls.length - 1:=by rw [Jc,if_pos (by omega)]
   refine ⟨(ls.eraseIdx r.toNat).length,by omega,_,ls.eraseIdx r.toNat,eR kvs (.inr wd.str) v',rfl,rfl,(aF D8).trans l7,aB,?_,?_,b4.trans SU,λGu=>?_⟩
   ·have:=gL kvs (.inr wd.str) v'
    omega
   ·exact (hJ.fresh lu (J6.same s7) Ph).more (by omega)
   ·rw [uD]
    by_cases c:Gu=wd
    ·subst c
     obtain ⟨ZV,ZW,ZX⟩:=JW t7 l7 f7
     refine .inr ⟨v',if_pos rfl,?_⟩
     refine (A7.old λc hc=>?_).keep SR ZV ZW ZX SV SW SY
     cases e:H2 c with
     | none=>rfl
     | some u =>
      by_cases c1:c=t
      ·rw [c1,t6] at hc; cases hc
      ·by_cases c2:c=lp
       ·rw [c2,l6] at hc; cases hc
       ·by_cases c3:c=fp
        ·rw [c3,f6] at hc; cases hc
        ·rw [LJ _ _ c1 c2 c3 e] at hc; cases hc
    ·rcases Au Gu with z | ⟨v0,h1,h2⟩
     ·left
      obtain ⟨j,hj⟩:=Qs.mp z
      have p?:j≠r.toNat:=λz=>c (by rw [z,AM] at hj; exact (Option.some.inj hj).symm)
      exact Zq.mpr ⟨j,p?,hj⟩
     ·right
      obtain ⟨xs4,e4⟩:=J4.lst
      obtain ⟨ZZ,Z0,Z1⟩:=JW e4 l4 f4
      refine ⟨v0,?_,h2.keep SU ZZ Z0 Z1 SV SW SY⟩
      rw [if_neg (λz=>c (aHn z))]
      exact h1
end Ab
namespace L2
open PySem
theorem sQ (hK:X.K=K):eX X (.builtin "isinstance") (λxs H Q=>∃ x k,xs = [x,.ty "tuple"]/\Cn K H x k/\Q (.bl (decide (k=.tup))) H):=by subst hK; exact cX
end L2
namespace Ab
open PySem L2
theorem zN {ts:List ae} {kv:Key×V} (h:(fe nums ts)[i]?=some kv):∃ num t,nums[i]?=some num/\ts[i]?=some t/\kv=(.inl num,.ref t):=by
 unfold fe at h
 rw [Qh] at h
 obtain ⟨p,hp,e⟩:=Qp.mp h
 rw [Jb] at hp
 exact ⟨p.1,p.2,hp.1,hp.2,e.symm⟩
theorem VH {t1 t2:List ae} (nd:nums.Nodup) (l1:t1.length=nums.length) (l2:t2.length=nums.length) (lw:ws.length=nums.length) (h1:∀ (i:Nat) t l,t1[i]?=some t->ws[i]?=some l->d8 K H t (l.map V.int)) (h2:∀ (i:Nat) t l,t2[i]?=some t->ws[i]?=some l->d8 K H t (l.map V.int)):uj K H (fe nums t1) (fe nums t2):=by
 refine ⟨by rw [gU l1,gU l2],λkv hk=>?_,λkv hk=>?_,λkv hk=>?_⟩
 ·obtain ⟨i,hi⟩:=Qs.mp hk
  obtain ⟨num,t,_,_,rfl⟩:=zN hi
  exact ⟨num,rfl⟩
 ·obtain ⟨i,hi⟩:=Qs.mp hk
  obtain ⟨num,t,_,_,rfl⟩:=zN hi
  exact ⟨num,rfl⟩
 ·obtain ⟨i,hi⟩:=Qs.mp hk
  obtain ⟨num,t,hn,ht,rfl⟩:=zN hi
  have fu:=(Qa.mp hn).1
  obtain ⟨u,hu⟩:∃ u,t2[i]?=some u:=⟨_,Qb (by omega)⟩
  obtain ⟨l,hl⟩:∃ l,ws[i]?=some l:=⟨_,Qb (by omega)⟩
  exact ⟨.ref u,.tuple (l.map .int),cK nd hn hu,cV.mpr ⟨t,rfl,h1 i t l ht hl⟩,cV.mpr ⟨u,rfl,h2 i u l hu hl⟩,iJ _,iI _⟩
theorem aF4 (nd:nums.Nodup) (l1:hs.length=nums.length):uj K H (gi nums hs) (gi nums hs):=by
 refine ⟨rfl,λkv hk=>?_,λkv hk=>?_,λkv hk=>?_⟩
 ·obtain ⟨i,hi⟩:=Qs.mp hk
  obtain ⟨num,t,_,_,rfl⟩:=rS hi
  exact ⟨num,rfl⟩
 ·obtain ⟨i,hi⟩:=Qs.mp hk
  obtain ⟨num,t,_,_,rfl⟩:=rS hi
  exact ⟨num,rfl⟩
 ·obtain ⟨i,hi⟩:=Qs.mp hk
  obtain ⟨num,g,hn,hg,rfl⟩:=rS hi
  exact ⟨.int g,.int g,cK nd hn hg,cG.mpr rfl,cG.mpr rfl,by unfold eP; rfl,nU (pL g) (Qx (rO g) (by decide))⟩
def vS (K:Rb):Sp:=λvs H Q _=>∃ (fp sp:ae) (kvs:List (Key×V)) (H0:Hp) (S:SD) (D:DD),vs = [.ref fp,.ref sp]/\H fp=some (.dK kvs)/\(∀ wd:Wd,∃ v,bX kvs (.inr wd.str)=some v/\jO K D H0 H wd v)/\vm D S/\og D/\D.hs.length=D.nums.length/\jm K H sp S/\ko S/\H0 S.ap≠none/\∀ H',aD H H'->Q (.bl true) H'
theorem nH:c_ ["found", "state", "able", "where", "heaps", "many"] ["found", "state"] (aI lV):=.of
set_option maxHeartbeats 2000000 in
theorem aDd {dI:az} (G:Fn K mg "_law_e_stands" lV ["found", "state"] f fd) (B:Bl mg) (Bi:Fn K mg "_law_e_whole_in" jE ["some"] fW dW) (Be:b_ P w K mg base d7 1 fW dW ["some"] (lK K)) (Nn:Fn K mg "_law_e_heaps" qN ["state", "where"] fH dH) (Nb:b_ P w K mg base d7 1 fH dH ["state", "where"] (qX K)) (GId:Fn K mg "_law_e_is_deal" nE ["state", "where"] fI dI) (OId:b_ P w K mg base d7 2 fI dI ["state", "where"] (xN K)) (GLv:Fn K mg "_law_e_are_levels" lU ["state", "where", "heights"] fL dL) (OLv:b_ P w K mg base d7 2 fL dL ["state", "where", "heights"] (vQ K)):b_ P w K mg base d7 3 f fd ["found", "state"] (vS K):=by
 refine G.fn.oK nH λfh A outer s H vs Q E hr h=>?_
 ·obtain ⟨fp,sp,kvs,H0,S,D,rfl,hf,vf,hL,RX,r?,hS,hM,n0,k⟩:=h
  have hu:=bV hr
  have r2:dz 2 _:=hr
  have r1:dz 1 _:=hr.mono (by decide)
  have yb:(A.deeper (PyProof.Rows.envOfC "_law_e_stands" (aI lV) s.heap.objs.size f fh)).units+100 < cm:=by have:=r1.un; omega
  refine ⟨_,aE (aX (i:=2) nH.nd rfl (Or.inr rfl) (aQ hu (pv 0) aK (λ_ _=>rfl)))
   (aE (aX (i:=3) nH.nd rfl (Or.inl rfl) (aQ hu (pv 0) aK (λ_ _=>rfl)))
   (aE (aX (i:=4) nH.nd rfl (Or.inl rfl) (aQ hu (pv 0) aK (λ_ _=>rfl)))
   (aE (aX (i:=5) nH.nd rfl (Or.inl rfl) (aQ hu (pv 0) aK (λ_ _=>rfl)))
   (aE (bJ (PW.pt (gD (bW (bM (aL oR rfl B.isinstance iN (aA (pv 2) (aA (eJ (v:=.ty "dict") rfl B.dict MY rfl) aC))))) (gD (aP (aBt yb) (pv 2) (aQ hu (pv 1) aK (λ_ _=>rfl)) (aU _)) (eY (bW (bM (aW GId OId r2 rfl (aA (pv 1) (aA (pv 3) aC))))))))) (aJ (aR gA)) aS)
   (aE (bJ (bW (bM (aW Bi Be r1 rfl (aA (cS (jM rfl) rfl B.list pF (aA (pv 2) aC)) aC)))) (aJ (aR gA)) aS)
   (aE (bJ (bW (bM (aL (kU rfl) rfl B.all xE (aA (mY (own:=["number"]) (fr:=[2]) (fk:=["able"]) (bL (aI lV) ["found", "state", "able", "where", "heaps", "many"] rfl rfl (by decide +kernel)) rfl (pv 2)
     (λ_ _ _ _=>(aV (i:=0) (show (["number", "able"]:List ax).Nodup by decide +kernel) rfl (Or.inl rfl))) (λ_ _ _ _=>eO)
     (λ_ _ _ _=>oV (aL (sQ (K:=K) rfl) rfl B.isinstance iN (aA (aQ hu (pv 1) (pv 0) (λ_ _=>rfl)) (aA (eJ (v:=.ty "tuple") rfl B.tuple gG rfl) aC))) (oU (aW Bi Be r1 rfl (aA (aQ hu (pv 1) (pv 0) (λ_ _=>rfl)) aC))))) aC)))) (aJ (aR gA)) aS)
   (aE (bJ (PW.pt (gD (bW (bM (aL cX rfl B.isinstance iN (aA (pv 4) (aA (eJ (v:=.ty "tuple") rfl B.tuple gG rfl) aC))))) (gD (aP (MO hr.Gw) (cS pX rfl B.list pF (aA (pv 4) aC)) (aW Nn Nb r1 rfl (aA (pv 1) (aA (pv 3) aC))) (aU _)) (eY (bW (bM (aW Bi Be r1 rfl (aA (pv 4) aC)))))))) (aJ (aR gA)) aS)
   (aE (bJ (PW.pt (gD (bW (bM (aL cX rfl B.isinstance iN (aA (pv 5) (aA (eJ (v:=.ty "tuple") rfl B.tuple gG rfl) aC))))) (gD (aP oJ (aL bB rfl B.len eQ (aA (pv 5) aC)) aH (aU _)) (eY (bW (bM (aW Bi Be r1 rfl (aA (pv 5) aC)))))))) (aJ (aR gA)) aS)
   (aJ (aR (aW GLv OLv r2 rfl (aA (pv 1) (aA (pv 3) (aA (aQ hu (pv 0) aK (λ_ _=>rfl)) aC)))))))))))))),?_⟩
  obtain ⟨j7,jc,gk,ip⟩:=aZ hM.bk
  obtain ⟨mw,rn⟩:=fJ RX.dl
  have ki:S.nums.length<=12:=by rw [<- hS.wl]; exact gk
  have gz:S.nums.Nodup:=Ja.mpr (hM.up.imp λh=>Ju h)
  obtain ⟨_,aw,ap,ts,rfl,h0p,u6,w9,BH⟩:=vf .gv
  obtain ⟨_,ad,wp,rfl,Hr,Eg⟩:=vf .kg
  obtain ⟨_,al,lp,rfl,i5⟩:=vf .i7
  obtain ⟨_,av,vp,lv,rfl,Ku,EF⟩:=vf .levels
  obtain ⟨_,am,mp,rfl,AU⟩:=vf .moved
  rw [hL.nums] at u6 w9 Eg
  rw [hL.ws] at BH
  rw [hL.n] at i5
  rw [hL.n,hL.ws] at EF
  have AQ:∀ g∈D.hs,0<=g/\g < S.n:=λg hg=>by
   obtain ⟨i,hi⟩:=Qs.mp hg
   have hl:=Qb (show i < D.ws.length by rw [<- mw]; exact (Qa.mp hi).1)
   have:=(bA ((aZ RX.bk).2.2.2 _ (Qd hl))).2.1 g (rn i _ _ hi hl)
   rw [hL.n] at this; exact this
  have N0:D.hs.length=S.nums.length:=by rw [r?,hL.nums]
  have hW:Cd K H wp S D.hs:=⟨Eg,N0,AQ⟩
  have AI:wp≠S.ap:=λz=>n0 (z ▸ Hr)
  have N5:∀ (i:Nat) g l,D.hs[i]?=some g->S.ws[i]?=some l->g∈l:=by rw [<- hL.ws]; exact rn
  have ll:(bT S.n D.hs).length=S.n.toNat:=wK _ _
  refine ⟨_,rfl,fp,_,rfl,.inl ⟨kvs,.inr "works",.inl hf,rfl,aw.symm⟩,?_⟩
  dsimp only [bO]
  refine ⟨_,rfl,fp,_,rfl,.inl ⟨kvs,.inr "deal",.inl hf,rfl,ad.symm⟩,?_⟩
  dsimp only [bO]
  refine ⟨_,rfl,fp,_,rfl,.inl ⟨kvs,.inr "loads",.inl hf,rfl,al.symm⟩,?_⟩
  dsimp only [bO]
  refine ⟨_,rfl,fp,_,rfl,.inl ⟨kvs,.inr "moved",.inl hf,rfl,am.symm⟩,?_⟩
  dsimp only [bO]
  refine kM false (vO (b:=false) (c:=false) (λQ' q=>⟨_,rfl,ap,_,rfl,u6,true,rfl,q _ (aD.refl _)⟩) (λ_ H1 s1=>vO (b:=false) (c:=false) (λQ' q=>⟨_,rfl,_,rfl,sp,_,rfl,(hS.same s1).g9 (k:=.inr "able") (cY S),ap,S.ap,_,_,rfl,rfl,.inl (s1 _ _ u6),.inl (hS.same s1).dr,VH gz w9 hS.tl hS.wl (λi t l a b=>s1.dk (BH i t l a b)) (hS.same s1).tup,false,rfl,q _ (aD.refl _)⟩)
   (λ_ H2 s2=>sK (b:=true) λQ' q=>⟨_,rfl,_,rfl,sp,wp,S,D.hs,rfl,(hS.same s1).same s2,hM,(hW.same s1).same s2,N5,AI,λH3 s3=>⟨true,rfl,q _ s3⟩⟩))) (λhb=>by cases hb) (λ_ H1 s1=>?_)
  dsimp only [jT]
  refine kM false (sK (b:=true) λQ' q=>?_) (λhb=>by cases hb) (λ_ H2 s2=>?_)
  ·refine ⟨_,rfl,ap,_,rfl,.inl (s1 _ _ u6),λp hp=>?_⟩
   rw [jH w9]
   exact ⟨p,S.nums,rfl,.inl (d9.of aB),by omega,λH3 s3=>⟨true,rfl,q _ ((aD.new hp).trans s3)⟩⟩
  dsimp only [jT]
  have Dg:=s1.trans s2
  have CS:=Dg _ _ u6
  have oz:(fe S.nums ts).length=S.nums.length:=gU w9
  refine kM false (sK (b:=true) λQ' q=>?_) (λhb=>by cases hb) (λ_ H3 s3=>?_)
  ·refine ⟨_,rfl,ap,_,rfl,CS,λo=>?_⟩
   have z3:upd H2 ap (.fm o (.dK (fe S.nums ts))) ap=some (.fm o (.dK (fe S.nums ts))):=aB
   have b3:ff ap H2 (upd H2 ap (.fm o (.dK (fe S.nums ts)))):=ff.at
   have OO:∀ (i:Nat) t l,ts[i]?=some t->S.ws[i]?=some l->d8 K (upd H2 ap (.fm o (.dK (fe S.nums ts)))) t (l.map V.int):=λi t l a b=>b3.j8 CS (Dg.dk (BH i t l a b))
   generalize upd H2 ap (.fm o (.dK (fe S.nums ts)))=Hf at z3 b3 OO ⊢
   refine nR (a:=ap) (o:=o) (kvs:=fe S.nums ts) (λσ=>∃ u,σ = [u,some (.ref ap)]) (λi ys H4=>ys=(List.replicate i true).map V.bl/\aD Hf H4) (iK (by omega)) ⟨none,rfl⟩ ⟨rfl,aD.refl _⟩ (λi ys H4 h=>by rw [h.1,Qc,Jg]; exact Qg _) (λi ys H4 h=>h.2 _ _ z3) ?_ ?_
   ·rintro i ys σ kv H4 jz ⟨u,rfl⟩ ⟨rfl,s4⟩ hz
    obtain ⟨num,t',f_,t8,rfl⟩:=zN jz
    have hi:i < S.nums.length:=(Qa.mp f_).1
    obtain ⟨l,hl⟩:∃ l,S.ws[i]?=some l:=⟨_,Qb (by rw [hS.wl]; exact hi)⟩
    obtain ⟨w1,w2,w3⟩:=bA (ip l (Qd hl))
    have l6:=iS (by omega) w2 w3
    have nk:=s4.dk (OO i t' l t8 hl)
    have dg:∀ {H5:Hp},aD H4 H5->kF H5 ap (kV (.inl num)) (some (.ref t')):=λs5=>.inl ⟨_,.inl num,.inr ⟨o,s5 _ _ (s4 _ _ z3)⟩,rfl,(cK gz f_ t8).symm⟩
    refine cR ?_
    refine ⟨_,rfl,_,rfl,ap,_,rfl,dg (aD.refl _),_,.tup,rfl,.inr (.inl ⟨rfl,_,nk⟩),true,rfl,kN ?_⟩
    refine ⟨_,rfl,_,rfl,ap,_,rfl,dg (aD.refl _),t',l,rfl,.inr nk,by omega,λH5 s5=>⟨hz,⟨_,rfl⟩,?_,s4.trans s5⟩⟩
    rw [Zu,Qt]; rfl
   ·rintro ys H4 ⟨rfl,s4⟩ pc jf
    have tf:pc≠ap:=λz=>by rw [z,s4 _ _ z3] at jf; cases jf
    refine ⟨pc,List.replicate (fe S.nums ts).length true,rfl,d9.of (by rw [aF tf,aB]),true,by rw [tH],q _ λc u hc=>?_⟩
    by_cases d:c=ap
    ·rw [d] at hc ⊢
     rw [aB,<- CS]; exact hc
    ·have n2:c≠pc:=λz=>by rw [z] at hc; rw [s4 _ _ (b3 _ _ tf hc)] at jf; cases jf
     rw [aF d,aF n2]; exact s4 _ _ (b3 _ _ d hc)
  dsimp only [jT]
  have AG:=Dg.trans s3
  have CJ:=AG.dk i5
  refine kM false (vO (b:=false) (c:=false) (λQ' q=>⟨_,rfl,_,.tup,rfl,.inr (.inl ⟨rfl,_,CJ⟩),true,rfl,q _ (aD.refl _)⟩) (λ_ H4 s4=>vO (b:=false) (c:=false) (λQ' q=>?_) (λ_ H5 s5=>sK (b:=true) λQ' q=>⟨_,rfl,lp,_,rfl,.inr (s5.dk (s4.dk CJ)),by rw [ll]; omega,λH6 s6=>⟨true,rfl,q _ s6⟩⟩))) (λhb=>by cases hb) (λ_ H4 s4=>?_)
  ·refine ⟨_,rfl,lp,_,rfl,.inr (s4.dk CJ),λp hp=>?_⟩
   have s5:=aD.new (o:=.lst ((bT S.n D.hs).map V.int)) hp
   have ep:upd H4 p (.lst ((bT S.n D.hs).map V.int)) p=some (.lst ((bT S.n D.hs).map V.int)):=aB
   generalize upd H4 p (.lst ((bT S.n D.hs).map V.int))=H5 at s5 ep ⊢
   have AF:=(AG.trans s4).trans s5
   refine ⟨_,rfl,_,rfl,sp,wp,S,D.hs,rfl,hS.same AF,hM,hW.same AF,λp2 H6 s6 _ e6=>?_⟩
   refine ⟨.list ((bT S.n D.hs).map .int),.list ((bT S.n D.hs).map .int),nM.mpr ⟨p,rfl,d9.of (s6 _ _ ep)⟩,nM.mpr ⟨p2,rfl,d9.of e6⟩,jF _,jF _,hU _,hU _,false,?_,q _ (s5.trans s6)⟩
   rw [Ug _ (SeqAt.canLay_of_shaped (hU _))]; rfl
  dsimp only [jT]
  have O9:=AG.trans s4
  have CI:d8 K H4 mp (([D.ml,D.ma]:List Int).map V.int):=O9.dk AU
  refine kM false (vO (b:=false) (c:=false) (λQ' q=>⟨_,rfl,_,.tup,rfl,.inr (.inl ⟨rfl,_,CI⟩),true,rfl,q _ (aD.refl _)⟩) (λ_ H5 s5=>vO (b:=false) (c:=false) (λQ' q=>⟨_,rfl,mp,_,rfl,.inr (s5.dk CI),rfl,false,rfl,q _ (aD.refl _)⟩) (λ_ H6 s6=>sK (b:=true) λQ' q=>⟨_,rfl,mp,[D.ml,D.ma],rfl,.inr (s6.dk (s5.dk CI)),by simp,λH7 s7=>⟨true,rfl,q _ s7⟩⟩))) (λhb=>by cases hb) (λ_ H5 s5=>?_)
  dsimp only [jT]
  have AF:=O9.trans s5
  refine ⟨_,rfl,_,rfl,_,rfl,fp,_,rfl,.inl ⟨kvs,.inr "levels",.inl (AF _ _ hf),rfl,av.symm⟩,sp,wp,vp,S,D.hs,lv,rfl,hS.same AF,hM,hW.same AF,AI,AF.dk Ku,EF,λH6 s6=>k _ (AF.trans s6)⟩
end Ab
namespace L2
open PySem PySem.Spec PyProof.Rows
section
variable {k:Nat} {O1:Sp}
end
end L2
namespace Ab
open PySem L2
noncomputable def Pk:List ax:=["NoBook", "NoCosts", "NoDeal", "NoHand", "NoRooms", "NoRow", "NoText", "NoWay", "NoWeights", "NoWork", "TooMany"]
structure Cl (K:Rb) (mg:ax->Option aa) (cE:ae) (c:Nat->ae):Prop where
 mc:∀ (i:Nat) (n:ax),Pk[i]?=some n->mg n=some (.ref (c i))
 ec:∀ i,i < 11->∀ h:af,K.In h->mq h (c i) (.ref cE::kh)
 inj:∀ i j,i < 11->j < 11->c i=c j->i=j
 ne:∀ i,i < 11->c i≠cE
 mE:mg "DealError" = some (.ref cE)
 eE:∀ h:af,K.In h->mq h cE kh
section
variable {c:Nat->ae}
theorem Cl.has (Z:Cl K mg cE c) (hi:i < 11) (hj:j < 11):(aa.ref (c j)::.ref cE::kh).contains (.ref (c i))=decide (j=i):=by
 by_cases e:j=i
 ·subst e; simp
 ·have h1:(aa.ref (c i)==aa.ref (c j))=false:=by
   rw [beq_eq_false_iff_ne]
   intro z
   injection z with z
   exact e (Z.inj j i hj hi z.symm)
  have h2:(aa.ref (c i)==aa.ref cE)=false:=by
   rw [beq_eq_false_iff_ne]
   intro z
   injection z with z
   exact Z.ne i hi z
  rw [Yb,Yb,h1,h2,decide_eq_false e]
  rfl
theorem Cl.up (Z:Cl K mg cE c):(aa.ref (c j)::.ref cE::kh).contains (.ref cE)=true:=by simp
def aIP (c:Nat->ae) (i:Nat):TE:=λσ H Q=>∃ (a:ae) (j:Nat),σ[0]?=some (some (.ref a))/\H a=some (Bj (c j) a)/\j < 11/\Q (.bl (decide (j=i))) H
theorem kC {n x:ax} {p:Pos} (Z:Cl K mg cE c) (B:Bl mg) (hK:X.K=K) (AV:X.mg=mg) (hN:Pk[i]?=some n) (hg:Gl X "isinstance") (KU:Gl X n) (h0:X.N[0]?=some x) (hx:X.env.scope.names.lookup x=some .local) (hd:autoParam ((x==("__debug__" : ax))=false) L2.jd) (mi:autoParam ((x==("__classdict__" : ax))=false) L2.jd) (x!:autoParam ((n==("__debug__" : ax))=false) L2.jd) (he:autoParam (ao [.Name x p1,.Name n p2] X.env=(false,eval (.Name x p1) X.env)::ao [.Name n p2] X.env) L2.gc) (nr:autoParam ((cb pos (ao [.Name n p2] X.env)).any (·.1)=false) L2.gc) :
  PE X (.Call (.Name "isinstance" p) [.Name x p1,.Name n p2] [] pos) (aIP c i):=by
 have hi:i < 11:=(Qa.mp hN).1
 have xg:∀ h:af,K.In h->∃ dd cd sl,h.get? (c i)=some { cls:=.type "type",dict:=dd,data:=.cls cd,slots:=sl }:=λh u4=>by
  obtain ⟨N,nm,q,bs,hdct,sn,sub,ab,col,dd,k0,k1,k2,k3,k5,mN,hC,_⟩:=Z.ec i hi h u4
  exact ⟨_,_,_,hC⟩
 have J:PE X (.Call (.Name "isinstance" p) [.Name x p1,.Name n p2] [] pos) _:=aL (yH (X:=X) (K:=K) (C':=c i) hK xg) hg (by rw [AV]; exact B.isinstance) iN (aA (pv 0 h0 (.inl hx) hd mi) (aA (lM (v:=.ref (c i)) KU (by rw [AV]; exact Z.mc i n hN) rfl x!) aC)) (by decide) (by decide) he nr
 intro a_ s σ H Q I h
 obtain ⟨a,j,e0,hH,hj,q⟩:=h
 refine J a_ s σ H Q I ⟨_,e0,a,c j,_,rfl,hH,Z.ec j hj,?_⟩
 rw [Z.has hi hj]
 exact q
noncomputable def DM (j:Nat):List Bool:=[decide (j=0),decide (j=1),decide (j=2),decide (j=3),decide (j=4),decide (j=5),decide (j=6),decide (j=7),decide (j=8),decide (j=9),decide (j=10)]
theorem Az (x y z:V) : [x,y,z].length<=ag:=by rw [Rf]; simp
theorem OT (x y z u:V) : [x,y,z,u].length<=ag:=by rw [Rf]; simp
theorem aIQ:bc "ValueError" = some (.type "ValueError"):=by decide +kernel
noncomputable def sL:List ax:=["book", "costs", "deal", "hand", "rooms", "row", "text", "way", "weights", "work", "many"]
theorem aEE:∀ j,j < 11->(DM j).count true=1:=by decide +kernel
theorem aIe:∀ j,j < 11->(DM j)[j]?=some true:=by decide +kernel
theorem aIf:∀ j,j < 11->∀ m,m < j->(DM j)[m]?≠some true:=by decide +kernel
def MW (c:Nat->ae):Sp:=λvs H Q _=>∃ (a:ae) (j:Nat) (t:ax),vs = [.ref a]/\H a=some (Bj (c j) a)/\j < 11/\sL[j]?=some t/\∀ H',aD H H'->Q (.str t) H'
theorem rT:c_ ["caught", "names", "kinds"] ["caught"] (aI HV):=.of
set_option maxHeartbeats 10000000 in
theorem aF5 (G:Fn K mg "_law_e_kind" HV ["caught"] f fd) (B:Bl mg) (Z:Cl K mg cE c):b_ P w K mg base d7 1 f fd ["caught"] (MW c):=by
 refine G.fn.oK rT λfh A outer s H vs Q E hr h=>?_
 ·obtain ⟨a,j,t,rfl,hH,hj,ht,k⟩:=h
  refine ji.ex (aM (cP (i:=1) rT.nd rfl (Or.inl rfl) (eK (aG cH (aG cH (aG cH (aG cH (aG cH (aG cH (aG cH (aG cH (aG cH (aG cH (aG cH bD aO) aO) aO) aO) aO) aO) aO) aO) aO) aO) aO)))
   (aM ⟨aX (i:=2) rT.nd rfl (Or.inl rfl) (gW (aA (kC (i:=0) Z B rfl rfl rfl rfl rfl rfl rfl) (aA (kC (i:=1) Z B rfl rfl rfl rfl rfl rfl rfl) (aA (kC (i:=2) Z B rfl rfl rfl rfl rfl rfl rfl) aC))))⟩
   (aM ⟨aX (i:=2) rT.nd rfl (Or.inl rfl) (aY iD (pv 2) (gW (aA (kC (i:=3) Z B rfl rfl rfl rfl rfl rfl rfl) (aA (kC (i:=4) Z B rfl rfl rfl rfl rfl rfl rfl) (aA (kC (i:=5) Z B rfl rfl rfl rfl rfl rfl rfl) aC)))))⟩
   (aM ⟨aX (i:=2) rT.nd rfl (Or.inl rfl) (aY iD (pv 2) (gW (aA (kC (i:=6) Z B rfl rfl rfl rfl rfl rfl rfl) (aA (kC (i:=7) Z B rfl rfl rfl rfl rfl rfl rfl) (aA (kC (i:=8) Z B rfl rfl rfl rfl rfl rfl rfl) aC)))))⟩
   (aM ⟨aX (i:=2) rT.nd rfl (Or.inl rfl) (aY iD (pv 2) (gW (aA (kC (i:=9) Z B rfl rfl rfl rfl rfl rfl rfl) (aA (kC (i:=10) Z B rfl rfl rfl rfl rfl rfl rfl) aC))))⟩
   (aM ⟨bJ (PW.pt (gD (aP oJ (MZ (K:=K) rfl Rh Ip PySem.F.type_list_count (aBm (K:=K) rfl) (pv 2) (aA gA aC)) aH (aU _))
    (eY (bW (bM (aL (aAw (K:=K) rfl) rfl B.isinstance iN (aA (pv 0) (aA (eJ (v:=.ty "ValueError") rfl B.ve aIQ rfl) aC)))))))) (aJ (aR aK)) aS⟩
   (bE ⟨aR (bN cN (pv 1) (MZ (K:=K) rfl Rh Ub Iq (aBn (K:=K) rfl) (pv 2) (aA gA aC)) (λ_ _=>rfl))⟩))))))) ?_
  refine ⟨by rw [Rf]; decide,λp0 BJ=>?_⟩
  have s0:=aD.new (o:=.lst (sL.map V.str)) BJ
  have e0:upd H p0 (.lst (sL.map V.str)) p0=some (.lst (sL.map V.str)):=aB
  have h0:=s0 _ _ hH
  refine ⟨a,j,rfl,h0,hj,a,j,rfl,h0,hj,a,j,rfl,h0,hj,Az _ _ _,λp1 Dm=>?_⟩
  have h1:=λo=>(aD.new (o:=o) Dm) _ _ h0
  refine ⟨_,rfl,a,j,rfl,h1 _,hj,a,j,rfl,h1 _,hj,a,j,rfl,h1 _,hj,Az _ _ _,λp2 rh=>?_⟩
  refine ⟨_,_,_,_,rfl,rfl,(aD.new rh) _ _ aB,aB,by rw [Rf]; simp,λp3 AR=>?_⟩
  have s3:=λo=>(aD.new Dm).trans ((aD.new rh).trans (aD.new (o:=o) AR))
  have h3:=λo=>s3 o _ _ h0
  refine ⟨_,rfl,a,j,rfl,h3 _,hj,a,j,rfl,h3 _,hj,a,j,rfl,h3 _,hj,Az _ _ _,λp4 P'=>?_⟩
  refine ⟨_,_,_,_,rfl,rfl,(aD.new P') _ _ aB,aB,by rw [Rf]; simp,λp5 G5=>?_⟩
  have s5:=λo=>(s3 _).trans ((aD.new P').trans (aD.new (o:=o) G5))
  have h5:=λo=>s5 o _ _ h0
  refine ⟨_,rfl,a,j,rfl,h5 _,hj,a,j,rfl,h5 _,hj,kc _ _,λp6 P9=>?_⟩
  refine ⟨_,_,_,_,rfl,rfl,(aD.new P9) _ _ aB,aB,by rw [Rf]; simp,λp7 g?=>?_⟩
  have s7:=λo=>(s5 _).trans ((aD.new P9).trans (aD.new (o:=o) g?))
  have h7:=λo=>s7 o _ _ h0
  have w7:=λo=>s7 o _ _ e0
  have ec:((DM j).count true:Int)=1:=by rw [aEE j hj]; rfl
  refine ⟨_,rfl,.inl ⟨rfl,_,d9.of aB⟩,p7,DM j,true,rfl,rfl,d9.of aB,rfl,_,rfl,?_⟩
  rw [ec]
  refine oH ?_
  refine ⟨_,rfl,a,c j,_,rfl,h7 _,Z.ec j hj,_,rfl,?_⟩
  refine oH ?_
  refine ⟨_,rfl,_,rfl,.inl ⟨rfl,_,d9.of aB⟩,p7,DM j,true,j,rfl,rfl,d9.of aB,aIe j hj,aIf j hj,p0,sL.map V.str,j,.str t,rfl,rfl,d9.of (w7 _),gE ?_,?_⟩
  ·rw [Qh,ht]; rfl
  ·exact k _ (s0.trans (s7 _))
def VG (K:Rb) (c:Nat->ae):Sp:=λvs H _ E=>∃ (x:ae) (v:V) (d:au),vs = [.ref x,v]/\Den K H d v/\eL d=false/\∀ H',aD H H'->E (.ref (c 0)) none H'
theorem aEF (G:Mt K C "__init__" uU ["self", "hands"] f fd) (Z:Cl K mg cE c) (GH:Fn K mg "are_hands" pI ["thing"] fH dH) (OH:b_ P w K mg base d7 2 fH dH ["thing"] (qP K)):b_ P w K mg base (ir P w) 3 f fd ["self", "hands"] (VG K c):=by
 refine G.fn.AH U0 λfh A outer s H vs Q E hr h=>?_
 ·obtain ⟨x,v,d,rfl,hd,hb,k⟩:=h
  have r2:dz 2 _:=hr
  refine ⟨_,aE (bJ (bW (bM (aW GH OH r2 rfl (aA (pv 1) aC)))) (aJ (kY (Z.ec 0 (by decide)) rfl (Z.mc 0 _ rfl) rfl (λ_ _ _ _ _ _ _ I m q=>nO I m q))) aS) dZ,?_⟩
  refine ⟨_,rfl,v,d,rfl,hd,_,rfl,eI (by rw [hb]; rfl) ?_⟩
  exact k H (aD.refl _)
def zO (C:ae) (c:Nat->ae):Sp:=λvs H _ E=>∃ (x:ae) (D:DD),vs = [.ref x]/\H x=some (.ins C D.dx D.iu)/\D.n=6/\∀ H',aD H H'->E (.ref (c 10)) none H'
theorem aEG (G:Mt K C "come" uX ["self"] f fd) (T:Dc K C) (B:Bl mg) (Z:Cl K mg cE c):b_ P w K mg base (ir P w) 2 f fd ["self"] (zO C c):=by
 obtain ⟨JE,G8⟩:=B.i9
 refine G.fn.AH VI λfh A outer s H vs Q E hr h=>?_
 ·obtain ⟨x,D,rfl,hx,h6,k⟩:=h
  refine ⟨_,aE (bJ (aP dY (cM (pv 0) rfl) (lM (v:=.int 6) rfl G8 ⟨JE,rfl⟩) (aU _)) (aJ (kY (Z.ec 10 (by decide)) rfl (Z.mc 10 _ rfl) rfl (λ_ _ _ _ _ _ _ I m q=>nO I m q))) aS) dZ,?_⟩
  refine ⟨_,rfl,x,C,D.dx,_,_,rfl,hx,T.cl,T.n1,rfl,rfl,_,rfl,eI (decide_eq_true (by rw [h6])) ?_⟩
  exact k H (aD.refl _)
def UY (K:Rb) (C:ae) (c:Nat->ae):Sp:=λvs H _ E=>∃ (x:ae) (D:DD) (v:V) (d:au) (j:Nat),vs = [.ref x,v]/\iz K H C x D/\Den K H d v/\(cB D.n d=false/\j=0∨cB D.n d=true/\D.nums.length=12/\j=10)/\∀ H',aD H H'->E (.ref (c j)) none H'
theorem aF6 {EL:ae} {EV:az} (G:Mt K C "put" Ca ["self", "able"] f fd) (T:Dc K C) (B:Bl mg) (Z:Cl K mg cE c) (Nk:Fn K mg "is_work" pJ ["hands", "thing"] EL EV) (M7:b_ P w K mg base d7 2 EL EV ["hands", "thing"] (qQ K)):b_ P w K mg base (ir P w) 3 f fd ["self", "able"] (UY K C c):=by
 obtain ⟨JD,KN⟩:=B.gv
 refine G.fn.AH sJ λfh A outer s H vs Q E hr h=>?_
 ·obtain ⟨x,D,v,d,j,rfl,hD,hd,hc,k⟩:=h
  have r2:dz 2 _:=hr
  refine ⟨_,aE (bJ (bW (bM (aW Nk M7 r2 rfl (aA (cM (pv 0) rfl) (aA (pv 1) aC))))) (aJ (kY (Z.ec 0 (by decide)) rfl (Z.mc 0 _ rfl) rfl (λ_ _ _ _ _ _ _ I m q=>nO I m q))) aS)
   (aE (bJ (aP dY (aL lA rfl B.len eQ (aA (cM (pv 0) rfl) aC)) (lM (v:=.int 12) rfl KN ⟨JD,rfl⟩) (aU _)) (aJ (kY (Z.ec 10 (by decide)) rfl (Z.mc 10 _ rfl) rfl (λ_ _ _ _ _ _ _ I m q=>nO I m q))) aS) dZ),?_⟩
  refine ⟨_,rfl,x,C,D.dx,_,_,rfl,hD.ins,T.cl,T.n1,rfl,_,rfl,D.n,v,d,rfl,hd,_,rfl,?_⟩
  rcases hc with ⟨hb,rfl⟩ | ⟨hb,o7,rfl⟩
  ·exact eI (by rw [hb]; rfl) (k H (aD.refl _))
  refine bK (by rw [hb]; rfl) ?_
  exact ⟨_,rfl,x,C,D.dx,_,_,rfl,hD.ins,T.cl,T.n2,rfl,D.da,_,rfl,hD.dr,rfl,_,rfl,eI (decide_eq_true (by rw [gU hD.tl,o7]; rfl)) (k H (aD.refl _))⟩
def VF (K:Rb) (C:ae) (c:Nat->ae):Sp:=λvs H _ E=>∃ (x:ae) (D:DD) (v:V) (d:au),vs = [.ref x,v]/\iz K H C x D/\Den K H d v/\(∀ num,d=.int num->num∉D.nums)/\∀ H',aD H H'->E (.ref (c 9)) none H'
theorem aEI {EM:ae} {EW:az} (G:Mt K C "take" uW ["self", "number"] f fd) (T:Dc K C) (Z:Cl K mg cE c) (DQ:Fn K mg "is_whole" lT ["thing"] EM EW) (Fo:b_ P w K mg base d7 1 EM EW ["thing"] (lW K)):b_ P w K mg base (ir P w) 3 f fd ["self", "number"] (VF K C c):=by
 refine G.fn.AH pO λfh A outer s H vs Q E hr h=>?_
 ·obtain ⟨x,D,v,d,rfl,hD,hd,jq,k⟩:=h
  have r1:dz 1 _:=hr.mono (by decide)
  refine ⟨_,aE (bJ (PW.pt (gD (bW (bM (aW DQ Fo r1 rfl (aA (pv 1) aC)))) (eY (rB (nQ (bV hr) (pv 1) (cM (pv 0) rfl)) (by with_unfolding_all rfl))))) (aJ (kY (Z.ec 9 (by decide)) rfl (Z.mc 9 _ rfl) rfl (λ_ _ _ _ _ _ _ I m q=>nO I m q))) aS) dZ,?_⟩
  refine ⟨_,rfl,v,d,rfl,hd,_,rfl,?_⟩
  cases hw:gZ d with
  | false=>exact eI rfl (eI rfl (k H (aD.refl _)))
  | true =>
   obtain ⟨num,rfl⟩:∃ num,d=.int num:=by cases d <;> first | exact ⟨_,rfl⟩ | (simp [gZ] at hw)
   obtain rfl:=cG.mp hd
   have va:bX (fe D.nums D.ts) (.inl num)=none:=iU (f:=V.ref) (jq num rfl)
   exact bK rfl ⟨_,rfl,_,rfl,x,C,D.dx,_,_,rfl,hD.ins,T.cl,T.n2,rfl,D.da,_,rfl,kF.k (k:=.inl num) hD.dr,_,rfl,eI (by rw [va]; rfl) (k H (aD.refl _))⟩
def L0 (K:Rb) (C:ae) (c:Nat->ae):Sp:=λvs H _ E=>∃ (x:ae) (D:DD),vs = [.ref x]/\iz K H C x D/\(D.n=1∨∃ l∈D.ws,D.n - 1∈l)/\D.nums.length<=1000/\∀ H',aD H H'->E (.ref (c 3)) none H'
theorem aHp (G:Mt K C "go" tj ["self"] f fd) (T:Dc K C) (B:Bl mg) (Z:Cl K mg cE c):b_ P w K mg base (ir P w) 2 f fd ["self"] (L0 K C c):=by
 refine G.fn.AH HS λfh A outer s H vs Q E hr h=>?_
 ·obtain ⟨x,D,rfl,hD,xu,hlen,k⟩:=h
  have r1:dz 1 _:=hr
  refine ⟨_,aE (aX (i:=1) HS.nd rfl (Or.inr rfl) (aY fX (cM (pv 0) rfl) aH))
   (aE (bJ (PW.pt (gD (aP dY (pv 1) aH (aU _)) (eY (bM (aL (kZ rfl) rfl B.any xI (aA (WS (own:=["able"]) (fr:=[1]) (fk:=["last"]) (bL (aI tj) ["self", "last"] rfl rfl (by decide +kernel)) rfl (tV Ti Th Tq lB (cM (pv 0) rfl))
    (λ_ _ _ _=>(aV (i:=0) (show (["able", "last"]:List ax).Nodup by decide +kernel) rfl (Or.inl rfl))) (λ_ _ _ _=>eO)
    (λ_ _ _ _=>(gQ (hG (K:=K) rfl) (pv 1) (pv 0) (by with_unfolding_all rfl)))) aC)))))) (aJ (kY (Z.ec 3 (by decide)) rfl (Z.mc 3 _ rfl) rfl (λ_ _ _ _ _ _ _ I m q=>nO I m q))) aS)
   dZ),?_⟩
  refine ⟨_,rfl,x,C,D.dx,_,_,rfl,hD.ins,T.cl,T.n1,rfl,_,_,rfl,rfl,?_⟩
  dsimp only [bO]
  refine ⟨_,rfl,rfl,_,rfl,?_⟩
  by_cases h1:D.n=1
  ·exact eI (decide_eq_true (by rw [h1]; rfl)) (eI rfl (k H (aD.refl _)))
  have xu:=xu.resolve_left h1
  refine bK (decide_eq_false λz=>h1 (by injection z; omega)) ?_
  refine ⟨_,rfl,x,C,D.dx,_,_,rfl,hD.ins,T.cl,T.n2,rfl,.inr (.inr (.inl ⟨rfl,.inl ⟨_,hD.dr⟩⟩)),D.da,_,rfl,rfl,.inl hD.dr,λv hv=>?_⟩
  have s1:=aD.new (o:=mn v D.da) hv
  have ev:upd H v (mn v D.da) v=some (mn v D.da):=aB
  have r_:=hD.same s1
  generalize upd H v (mn v D.da)=H1 at s1 ev r_ ⊢
  refine ⟨v,D.da,_,rfl,ev,r_.dr,λo=>?_⟩
  have z2:upd H1 D.da (.fm o (.dK (fe D.nums D.ts))) D.da=some (.fm o (.dK (fe D.nums D.ts))):=aB
  have b2:ff D.da H1 (upd H1 D.da (.fm o (.dK (fe D.nums D.ts)))):=ff.at
  have oz:(fe D.nums D.ts).length=D.nums.length:=by unfold fe; rw [Qc,Xm,hD.tl,Zo]
  refine xC (a:=D.da) (o:=o) (kvs:=fe D.nums D.ts) (λσ=>∃ u,σ = [u,some (.int (D.n - 1))]) (λi zs H2=>zs=((D.ws.take i).map λl=>decide (D.n - 1∈l)).map V.bl/\H2=upd H1 D.da (.fm o (.dK (fe D.nums D.ts)))) (iK (by omega)) ⟨none,rfl⟩ ⟨rfl,rfl⟩ (λi zs H2 h=>by rw [h.1,Qc,Qc,Jf]; exact Nat.min_le_left _ _) (λi zs H2 h=>by rw [h.2]; exact z2) ?_ ?_
  ·rintro i zs σ kv H2 jz ⟨u,rfl⟩ ⟨rfl,rfl⟩ hz
   obtain ⟨num,t,f_,ht,rfl⟩:∃ num t,D.nums[i]?=some num/\D.ts[i]?=some t/\kv=(.inl num,.ref t):=by
    unfold fe at jz
    rw [Qh] at jz
    obtain ⟨p,hp,e⟩:=Qp.mp jz
    rw [Jb] at hp
    exact ⟨p.1,p.2,hp.1,hp.2,e.symm⟩
   have hi:i < D.ts.length:=(Qa.mp ht).1
   have hl:=Qb (show i < D.ws.length by rw [hD.wl,<- hD.tl]; exact hi)
   generalize D.ws[i]'(by rw [hD.wl,<- hD.tl]; exact hi)=l at hl
   have nk:=r_.tup i t l ht hl
   have CD:d8 K (upd H1 D.da (.fm o (.dK (fe D.nums D.ts)))) t (l.map V.int):=b2.j8 r_.dr nk
   refine cR ?_
   refine ⟨_,rfl,_,rfl,t,_,rfl,.inr CD,rfl,jR _,hz,⟨_,rfl⟩,?_,rfl⟩
   rw [Jr,hl,Qt,Qt]
   show _++[V.bl (wu (.int (D.n - 1)) (l.map V.int))]=_
   rw [qS]; rfl
  ·rintro zs H2 ⟨rfl,rfl⟩ pc jf
   have tf:pc≠D.da:=λz=>by rw [z,z2] at jf; cases jf
   refine ⟨pc,((D.ws.take (fe D.nums D.ts).length).map λl=>decide (D.n - 1∈l)),rfl,d9.of (by rw [aF tf,aB]),_,rfl,?_⟩
   have s3:aD H1 (upd (upd (upd H1 D.da (.fm o (.dK (fe D.nums D.ts)))) pc (.lst (((D.ws.take (fe D.nums D.ts).length).map λl=>decide (D.n - 1∈l)).map V.bl))) D.da (.dK (fe D.nums D.ts))):=λb' u ic=>by
    by_cases c:b'=D.da
    ·rw [c] at ic ⊢
     rw [aB,<- r_.dr]; exact ic
    ·have n2:b'≠pc:=λz=>by rw [aF tf] at jf; rw [z,jf] at ic; cases ic
     rw [aF c,aF n2,aF c]; exact ic
   generalize upd (upd (upd H1 D.da (.fm o (.dK (fe D.nums D.ts)))) pc (.lst (((D.ws.take (fe D.nums D.ts).length).map λl=>decide (D.n - 1∈l)).map V.bl))) D.da (.dK (fe D.nums D.ts))=H4 at s3 ⊢
   refine eI ?_ (k _ (s1.trans s3))
   obtain ⟨l,hl,hm⟩:=xu
   rw [oz,<- hD.wl,Jm,Yc,Xb]
   exact ⟨l,hl,decide_eq_true hm⟩
def zP (K:Rb) (H:Hp) (dp:ae) (D:DD) (j:Nat):Prop :=
 (∃ v d,d8 K H dp [.str "put",v]/\Den K H d v/\(cB D.n d=false/\j=0∨cB D.n d=true/\D.nums.length=12/\j=10)) ∨
 (∃ v d,d8 K H dp [.str "take",v]/\Den K H d v/\(∀ num,d=.int num->num∉D.nums)/\j=9) ∨
 (d8 K H dp [.str "come"]/\D.n=6/\j=10)∨(d8 K H dp [.str "go"]/\(D.n=1∨∃ l∈D.ws,D.n - 1∈l)/\j=3)
def UQ (K:Rb) (C:ae) (c:Nat->ae):Sp:=λvs H _ E=>∃ (x dp:ae) (D:DD) (j:Nat),vs = [.ref x,.ref dp]/\iz K H C x D/\D.nums.length<=12/\zP K H dp D j/\∀ H',aD H H'->E (.ref (c j)) none H'
theorem aHq {DE DC B3 B2:ae} {DK DJ B9 B8:az} (G:Fn K mg "_law_e_do" AA ["dealing", "deed"] f fd) (T:Dc K C) (Fz:Mt K C "put" Ca ["self", "able"] DE DK) (Fq:b_ P w K mg base (ir P w) 3 DE DK ["self", "able"] (UY K C c)) (Fy:Mt K C "take" uW ["self", "number"] DC DJ) (Fp:b_ P w K mg base (ir P w) 3 DC DJ ["self", "number"] (VF K C c)) (FD:Mt K C "come" uX ["self"] B3 B9) (Fu:b_ P w K mg base (ir P w) 2 B3 B9 ["self"] (zO C c)) (FC:Mt K C "go" tj ["self"] B2 B8) (Ft:b_ P w K mg base (ir P w) 2 B2 B8 ["self"] (L0 K C c)):b_ P w K mg base (ir P w) 4 f fd ["dealing", "deed"] (UQ K C c):=by
 refine G.fn.AH S9 λfh A outer s H vs Q E hr h=>?_
 ·obtain ⟨x,dp,D,j,rfl,hD,ki,hB,k⟩:=h
  have r3:dz 3 _:=hr
  have r2:dz 2 _:=hr.mono (by decide)
  refine ⟨_,aE (bJ (aP dY (bN cD (pv 1) aH (λ_ _=>rfl)) aK (aU _)) (aJ (aR (kH (pv 0) T.cl Fz.me Fq r3 Fz.bd .nil HY (aA (bN cD (pv 1) aH (λ_ _=>rfl)) aC)))) aS)
   (aE (bJ (aP dY (bN cD (pv 1) aH (λ_ _=>rfl)) aK (aU _)) (aJ (aR (kH (pv 0) T.cl Fy.me Fp r3 Fy.bd .nil HY (aA (bN cD (pv 1) aH (λ_ _=>rfl)) aC)))) aS)
   (aE (bJ (aP dY (bN cD (pv 1) aH (λ_ _=>rfl)) aK (aU _)) (aJ (aR (cW (pv 0) T.cl FD.me Fu r2 FD.bd .nil HY))) aS)
   (aJ (aR (cW (pv 0) T.cl FC.me Ft r2 FC.bd .nil HY))))),?_⟩
  rcases hB with ⟨v,d,hE,hd,hc⟩ | ⟨v,d,hE,hd,jq,rfl⟩ | ⟨hE,h6,rfl⟩ | ⟨hE,hg,rfl⟩
  ·refine ⟨_,rfl,dp,_,0,_,rfl,rfl,hE,rfl,rfl,_,rfl,eI qV ?_⟩
   exact ⟨_,rfl,x,D.dx,_,rfl,hD.ins,rfl,_,rfl,dp,_,1,_,rfl,rfl,hE,rfl,x,D,v,d,j,rfl,hD,hd,hc,k⟩
  ·refine ⟨_,rfl,dp,_,0,_,rfl,rfl,hE,rfl,rfl,_,rfl,bK (mB IY) ?_⟩
   refine ⟨_,rfl,dp,_,0,_,rfl,rfl,hE,rfl,rfl,_,rfl,eI qV ?_⟩
   exact ⟨_,rfl,x,D.dx,_,rfl,hD.ins,rfl,_,rfl,dp,_,1,_,rfl,rfl,hE,rfl,x,D,v,d,rfl,hD,hd,jq,k⟩
  ·refine ⟨_,rfl,dp,_,0,_,rfl,rfl,hE,rfl,rfl,_,rfl,bK (mB OJ) ?_⟩
   refine ⟨_,rfl,dp,_,0,_,rfl,rfl,hE,rfl,rfl,_,rfl,bK (mB OI) ?_⟩
   refine ⟨_,rfl,dp,_,0,_,rfl,rfl,hE,rfl,rfl,_,rfl,eI qV ?_⟩
   exact ⟨_,rfl,x,D.dx,_,rfl,hD.ins,rfl,x,D,rfl,hD.ins,h6,k⟩
  ·refine ⟨_,rfl,dp,_,0,_,rfl,rfl,hE,rfl,rfl,_,rfl,bK (mB IZ) ?_⟩
   refine ⟨_,rfl,dp,_,0,_,rfl,rfl,hE,rfl,rfl,_,rfl,bK (mB OG) ?_⟩
   refine ⟨_,rfl,dp,_,0,_,rfl,rfl,hE,rfl,rfl,_,rfl,bK (mB I_) ?_⟩
   exact ⟨_,rfl,x,D.dx,_,rfl,hD.ins,rfl,x,D,rfl,hD,hg,by omega,k⟩
end
end Ab
namespace L2
open PySem PySem.Spec PyProof.Rows
section
variable {k:Nat} {ds:List aa} {x:ax} {p:Pos} {t:TA}
theorem aF7 {σ:St} {Q:VK} {EX:XK} (M:Mk X.K C f) (F:b_ X.prog X.w X.K X.mg X.base (ir X.prog X.w) k f fd ps sp) (hr:dz (k+1) X.A) (hb:jU X.K fd ps ds) (hd:bI iw ds) (I:Inv X a_ σ H s) (r:bI vs us) (h:∀ x dx,H x=none->H dx=none->dx≠x->sp (.ref x::(vs++iw)) (upd (upd H dx (.own x)) x (.ins C dx [])) (λv H2=>v=.ft/\Q (.ref x) H2) EX) :
  ai (ak X.prog X.w) X.A (call (.ref C) us) (EP X a_ σ Q) (FX X a_ σ EX) s:=by
 have hq:=h (s.heap.objs.size+1) s.heap.objs.size (I.d_.fresh (Zw _)) (I.d_.fresh (Qg _)) (Qv (Xi _))
 have I2:=Inv.made (C:=C) I
 have r2:bI (V.ref (s.heap.objs.size+1)::(vs++iw)) (aa.ref (s.heap.objs.size+1)::(us++ds)):=.cons rfl (r.append hd)
 have hl:(aa.ref (s.heap.objs.size+1)::us++ds).length=ps.length:=by
  have e:=r2.length
  rw [F.len _ _ _ _ hq] at e
  exact e.symm
 refine Vg (WB (f:=f) I.kj M.makes M.init (beq_iff_eq.mp M.fn) (Uv (F.run _ X.stack _ _ ⟨aa.ref (s.heap.objs.size+1)::us,[]⟩ (aa.ref (s.heap.objs.size+1)::(us++ds)) _ _ EX (hr.make C us [])
  (I2.Ar.make C us []) (hb _ (aa.ref (s.heap.objs.size+1)::us) I2.kj hl) r2 hq) λr s' uz=>?_))
 cases r with
 | error e=>exact ⟨_,_,I2,uz⟩
 | ok fl =>
  cases fl with
  | ret u =>
   obtain ⟨v,H',I3,rv,ev,q3⟩:=I2.after uz
   subst ev
   exact ⟨rv,⟨V.ref (s.heap.objs.size+1),H',I3,rfl,q3⟩⟩
  | next=>exact False.elim uz
  | brk=>exact False.elim uz
  | cont=>exact False.elim uz
def aHr (C:ae) (sp:Sp) (iw:List V) (t:TA):TB:=λD EX σ H=>UM C sp iw EX t σ H λ_ H2=>D.nx σ H2
theorem aF8 (M:Mk X.K C f) (F:b_ X.prog X.w X.K X.mg X.base (ir X.prog X.w) k f fd ps sp) (hr:dz (k+1) X.A) (hg:Gl X x) (hm:X.mg x=some (.ref C)) (hb:jU X.K fd ps ds) (hd:bI iw ds) (ha:PA X.wo (e::es) t) (oa:autoParam ((x==("__debug__" : ax))=false) L2.jd) (he:autoParam (ao (e::es) X.env=(false,eval e X.env)::ao es X.env) L2.gc) (nr:autoParam ((cb pos (ao es X.env)).any (·.1)=false) L2.gc) (hs:autoParam (cq (.Call (.Name x p) (e::es) [] pos) none pos'.line X.env=pure false) L2.gc):PB X [.Expr (.Call (.Name x p) (e::es) [] pos) pos'] (aHr C sp iw t):=by
 intro a_ s σ H D EX I h
 refine Up (Mf ?_ I.quiet hs)
 refine fi (Q:=EP X a_ σ λ_ H2=>D.nx σ H2) (To (lL I hg hm ?_ oa)) λv s1 e_=>?_
 ·refine Tx (h₀:=X.base) I.ok.mod.zj M.kp (Rj (ha pos a_ s σ H _ (I.j2 _) h) (λus s1 ⟨vs,H1,Co,r,q⟩=>⟨Co.kj,?_⟩) λ_ _ z=>False.elim z) he nr
  exact aF7 M F hr hb hd Co.gw r q
 ·obtain ⟨x,H1,I1,r1,q1⟩:=e_
  exact Tr ⟨σ,H1,I1,q1⟩
end
end L2
namespace Ab
open PySem L2
section
variable {c:Nat->ae}
def zQ (K:Rb) (C:ae):Sp:=λvs H Q _=>∃ (y v:V) (j:Nat) (t:ax),vs = [y,v]/\j < 11/\sL[j]?=some t /\
 ((y=.ft/\j=0/\∃ d,Den K H d v/\eL d=false)∨∃ (x dp:ae) (D:DD),y=.ref x/\v=.ref dp/\iz K H C x D/\D.nums.length<=12/\zP K H dp D j)/\∀ H',aD H H'->Q (.str t) H'
theorem zR:c_ ["dealing", "deed", "caught", "e"] ["dealing", "deed"] (aI uS):=.of
theorem aEK {dI dK:az} (G:Fn K mg "_law_e_word" uS ["dealing", "deed"] f fd) (Z:Cl K mg cE c) (MK:Mk K C fI) (Dp:mg "Dealing" = some (.ref C)) (Nm:Mt K C "__init__" uU ["self", "hands"] fI dI) (Fs:b_ P w K mg base (ir P w) 3 fI dI ["self", "hands"] (VG K c)) (Af:Fn K mg "_law_e_do" AA ["dealing", "deed"] fO dO) (Ck:b_ P w K mg base (ir P w) 4 fO dO ["dealing", "deed"] (UQ K C c)) (GKi:Fn K mg "_law_e_kind" HV ["caught"] fK dK) (OKi:b_ P w K mg base d7 1 fK dK ["caught"] (MW c)):b_ P w K mg base d7 5 f fd ["dealing", "deed"] (zQ K C):=by
 refine G.fn.oK zR λfh A outer s H vs Q E hr h=>?_
 ·obtain ⟨y,v,j,t,rfl,hj,ht,hc,k⟩:=h
  have r4:dz 4 _:=hr
  have r1:dz 1 _:=hr.mono (by decide)
  refine ⟨_,aE (aX (i:=2) zR.nd rfl (Or.inl rfl) oS)
   (aE (aG6 (i:=2) (j:=3) (aHU (aP U4 (pv 0) oS (aU _)) (aF8 MK Fs r4 rfl Dp Nm.bd .nil (aA (pv 1) aC)) (aFp Ck r4 rfl Af.Kh Af.kp Af.bd .nil (aA (pv 0) (aA (pv 1) aC)))) rfl rfl rfl rfl Z.mE Z.eE zR.nd rfl rfl (by decide) rfl rfl)
   (aE (bJ (aP U4 (pv 2) oS (aU _)) (aJ (aR aK)) aS)
   (aJ (aR (aW GKi OKi r1 rfl (aA (pv 2) aC)))))),?_⟩
  rcases hc with ⟨rfl,rfl,d,hd,hb⟩ | ⟨x,dp,D,rfl,rfl,hD,ki,hB⟩
  ·refine ⟨_,rfl,rfl,_,rfl,eI (decide_eq_true rfl) ?_⟩
   refine ⟨_,rfl,λx dx hx Ew ne=>?_⟩
   have s0:aD H (upd (upd H dx (.own x)) x (.ins C dx [])):=(aD.new Ew).trans (aD.new (by rw [aF ne.symm]; exact hx))
   refine ⟨x,v,d,rfl,s0.den _ _ hd,hb,λH1 s1=>⟨c 0,_,rfl,Z.ec 0 hj,Z.up,λa ha=>?_⟩⟩
   refine ⟨_,rfl,rfl,_,rfl,bK (decide_eq_false λz=>by cases z) ?_⟩
   exact ⟨_,rfl,a,0,t,rfl,aB,hj,ht,λH2 s2=>k H2 (s0.trans (s1.trans ((aD.new ha).trans s2)))⟩
  ·refine ⟨_,rfl,rfl,_,rfl,bK (decide_eq_false λz=>by cases z) ?_⟩
   refine ⟨_,rfl,_,rfl,x,dp,D,j,rfl,hD,ki,hB,λH1 s1=>⟨c j,_,rfl,Z.ec j hj,Z.up,λa ha=>?_⟩⟩
   refine ⟨_,rfl,rfl,_,rfl,bK (decide_eq_false λz=>by cases z) ?_⟩
   exact ⟨_,rfl,a,j,t,rfl,aB,hj,ht,λH2 s2=>k H2 (s1.trans ((aD.new ha).trans s2))⟩
end
structure Pair (K:Rb) (H:Hp) (C x sp:ae) (D:DD) (S:SD):Prop where
 dh:iz K H C x D
 dm:og D
 sh:jm K H sp S
 sm:ko S
 lk:vm D S
theorem Pair.but {x sp:ae} (h:Pair K H C x sp D S) (e:H t=some (.lst xs)) (b:ff t H H'):Pair K H' C x sp D S:=⟨h.dh.but e b,h.dm,h.sh.but e b,h.sm,h.lk⟩
theorem HQ {L:List ae} (nd:L.Nodup) {a b:ae} (hi:L[i]?=some a) (hj:L[j]?=some b) (n:i≠j):a≠b:=λz=>by
 obtain ⟨h1,e1⟩:=Qa.mp hi
 obtain ⟨h2,e2⟩:=Qa.mp hj
 exact n ((Za nd).mp (e1.trans (z.trans e2.symm)))
theorem jm.keep {sp a b:ae} (h:jm K H sp S) (e:bU a b c H H') (ha:NT H a) (hb:NT H b) (hc:NT H c) (n1:sp≠a/\sp≠b/\sp≠c) (n2:S.ap≠a/\S.ap≠b/\S.ap≠c):jm K H' sp S :=
 ⟨e _ _ n1.1 n1.2.1 n1.2.2 h.st,e _ _ n2.1 n2.2.1 n2.2.2 h.dr,h.tl,h.wl,λi t l q1 q2=>e.wm ha hb hc (h.tup i t l q1 q2),h.ne⟩
theorem kS {a b d:ae} {fs:List (ax×V)} {k:List (Key×V)} (h1:H a=some (.ins c d fs)) (h2:H b=some (.dK k)):a≠b:=λz=>by rw [z,h2] at h1; cases h1
theorem gN.keep {a b:ae} (e3:bU a b c H H1) (ha:NT H a) (hb:NT H b) (hc:NT H c):∀ {e:gb},gN K H dp e->gN K H1 dp e
 | .gp,h=>e3.wm ha hb hc h
 | .go,h=>e3.wm ha hb hc h
 | .take _,h=>e3.wm ha hb hc h
 | .put _ _,h=>⟨e3.wm ha hb hc h.1,e3.wm ha hb hc h.2⟩
theorem aF9 (S:SD) (e:gb):LP (S.told e) (S.told e)=true:=by cases e <;> rfl
def Md (H:Hp) (c:ae):Prop:=(∃ C dx fs,H c=some (.ins C dx fs))∨∃ k,H c=some (.dK k)
theorem bU.u_ {x a b:ae} {u:HO} (e:bU x a b H H') (hx:Md H x) (ha:Md H a) (hb:Md H b) (hc:H c=some u) (n1:∀ C dx fs,u≠.ins C dx fs) (n2:∀ k,u≠.dK k):H' c=some u:=by
 have f:∀ y,Md H y->c≠y:=λy hy z=>by
  rcases hy with ⟨_,_,_,h⟩ | ⟨_,h⟩
  ·rw [z,h] at hc; exact n1 _ _ _ (Option.some.inj hc).symm
  ·rw [z,h] at hc; exact n2 _ (Option.some.inj hc).symm
 exact e c u (f x hx) (f a ha) (f b hb) hc
theorem bU.lst {x a b:ae} (e:bU x a b H H') (hx:Md H x) (ha:Md H a) (hb:Md H b) (hc:H c=some (.lst xs)):H' c=some (.lst xs):=e.u_ hx ha hb hc (λ_ _ _ z=>by cases z) (λ_ z=>by cases z)
theorem bU.tab {x a b:ae} (e:bU x a b H H') (hx:Md H x) (ha:Md H a) (hb:Md H b) (hc:H c=some (.tab q)):H' c=some (.tab q):=e.u_ hx ha hb hc (λ_ _ _ z=>by cases z) (λ_ z=>by cases z)
theorem bU.gm {x a b sa:ae} {N:Nat} (e:bU x a b H H') (hx:Md H x) (ha:Md H a) (hb:Md H b) (J:gq K H t sa ns N):gq K H' t sa ns N:=by
 obtain ⟨⟨p,q,h1,h2,h3⟩,h4⟩:=J
 refine ⟨⟨p,q,h1,h2,e.lst hx ha hb h3⟩,?_⟩
 rcases h4 with (h | ⟨o,h⟩) | h
 ·exact .inl (.inl (e.lst hx ha hb h))
 ·exact .inl (.inr ⟨o,e.u_ hx ha hb h (λ_ _ _ z=>by cases z) (λ_ z=>by cases z)⟩)
 ·exact .inr h
theorem Md.nt (h:Md H c):NT H c:=by
 rcases h with ⟨_,_,_,h⟩ | ⟨_,h⟩
 ·exact NT.ins h
 ·exact NT.dK h
structure Wn (K:Rb) (H:Hp) (C t a:ae) (ns:List Int) (N:Nat) (Pt Pl x sp:ae) (D:DD) (S:SD):Prop where
 gm:gq K H t a ns N
 pt:H Pt=some (.tab rQ)
 pl:H Pl=some (.tab qR)
 p:Pair K H C x sp D S
 nd : [D.da,D.dh,sp,S.ap].Nodup
section
variable {a x sp:ae} {N M:Nat} {Dn:DD} {e:gb}
theorem Wn.more (h:Wn K H C t a ns N Pt Pl x sp D S) (le:N<=M):Wn K H C t a ns M Pt Pl x sp D S:=⟨h.gm.more le,h.pt,h.pl,h.p,h.nd⟩
theorem Wn.same (h:Wn K H C t a ns N Pt Pl x sp D S) (q:aD H H1):Wn K H1 C t a ns N Pt Pl x sp D S:=⟨h.gm.same q,q _ _ h.pt,q _ _ h.pl,⟨h.p.dh.same q,h.p.dm,h.p.sh.same q,h.p.sm,h.p.lk⟩,h.nd⟩
theorem Wn.but (h:Wn K H C t a ns N Pt Pl x sp D S) (b:ff t H H1) (J:gq K H1 t a ns M):Wn K H1 C t a ns M Pt Pl x sp D S:=by
 obtain ⟨xs,et⟩:=h.gm.lst
 have n:∀ {c:ae} {u:HO},H c=some u->(∀ xs,u≠.lst xs)->H1 c=some u:=λhc hu=>b _ _ (λz=>by rw [z,et] at hc; exact hu _ (Option.some.inj hc).symm) hc
 exact ⟨J,n h.pt (λ_ z=>by cases z),n h.pl (λ_ z=>by cases z),h.p.but et b,h.nd⟩
theorem Wn.mid (h:Wn K H C t a ns N Pt Pl x sp D S) (b:bU x D.da D.dh H H1):jm K H1 sp S/\Md H x/\Md H D.da/\Md H D.dh:=by
 have n1:=NT.ins h.p.dh.ins
 have n2:=NT.dK h.p.dh.dr
 have n3:=NT.dK h.p.dh.hand
 have N:∀ {i j:Nat} {a b:ae},[D.da,D.dh,sp,S.ap][i]?=some a->[D.da,D.dh,sp,S.ap][j]?=some b->i≠j->a≠b:=λa b c=>HQ h.nd a b c
 exact ⟨h.p.sh.keep b n1 n2 n3 ⟨(kS h.p.dh.ins h.p.sh.st).symm,N (i:=2) (j:=0) rfl rfl (by decide),N (i:=2) (j:=1) rfl rfl (by decide)⟩ ⟨(kS h.p.dh.ins h.p.sh.dr).symm,N (i:=3) (j:=0) rfl rfl (by decide),N (i:=3) (j:=1) rfl rfl (by decide)⟩,
  .inl ⟨_,_,_,h.p.dh.ins⟩,.inr ⟨_,h.p.dh.dr⟩,.inr ⟨_,h.p.dh.hand⟩⟩
theorem Wn.done (h:Wn K H C t a ns N Pt Pl x sp D S) (b:bU x D.da D.dh H H1) (da:Dn.da=D.da) (dh:Dn.dh=D.dh) (hD:iz K H1 C x Dn) (hM:og Dn) (lk:vm Dn (S.step e)) (b2:bU sp S.ap S.ap H1 H2) (hS:jm K H2 sp (S.step e)) (m:jK S e):Wn K H2 C t a ns N Pt Pl x sp Dn (S.step e):=by
 obtain ⟨h1,mx,ma,mh⟩:=h.mid b
 have n1:=NT.dK h1.st
 have n2:=NT.dK h1.dr
 have ms:Md H1 sp:=.inr ⟨_,h1.st⟩
 have mp:Md H1 S.ap:=.inr ⟨_,h1.dr⟩
 have N:∀ {i j:Nat} {a b:ae},[D.da,D.dh,sp,S.ap][i]?=some a->[D.da,D.dh,sp,S.ap][j]?=some b->i≠j->a≠b:=λa b c=>HQ h.nd a b c
 have ea:(S.step e).ap=S.ap:=by cases e <;> rfl
 refine ⟨b2.gm ms mp mp (b.gm mx ma mh h.gm),b2.tab ms mp mp (b.tab mx ma mh h.pt),b2.tab ms mp mp (b.tab mx ma mh h.pl),⟨hD.keep b2 n1 n2 n2 λq hq=>?_,hM,hS,pP h.p.sm m,lk⟩,?_⟩
 ·rcases hq with rfl | rfl | rfl
  ·exact ⟨kS hD.ins h1.st,kS hD.ins h1.dr,kS hD.ins h1.dr⟩
  ·rw [da]; exact ⟨N (i:=0) (j:=2) rfl rfl (by decide),N (i:=0) (j:=3) rfl rfl (by decide),N (i:=0) (j:=3) rfl rfl (by decide)⟩
  ·rw [dh]; exact ⟨N (i:=1) (j:=2) rfl rfl (by decide),N (i:=1) (j:=3) rfl rfl (by decide),N (i:=1) (j:=3) rfl rfl (by decide)⟩
 ·rw [da,dh,ea]; exact h.nd
def iL:SD->List gb->Prop
 | _,[]=>True
 | S,e::es=>jK S e/\iL (S.step e) es
theorem gN.but (et:H t=some (.lst xs)) (b:ff t H H1):∀ {e:gb},gN K H dp e->gN K H1 dp e
 | .gp,h=>b.dk et h
 | .go,h=>b.dk et h
 | .take _,h=>b.dk et h
 | .put _ _,h=>⟨b.dk et h.1,b.dk et h.2⟩
theorem gN.same (q:aD H H1):∀ {e:gb},gN K H dp e->gN K H1 dp e
 | .gp,h=>q.dk h
 | .go,h=>q.dk h
 | .take _,h=>q.dk h
 | .put _ _,h=>⟨q.dk h.1,q.dk h.2⟩
theorem iL.at:∀ {es:List gb} {S:SD} {i:Nat} {e:gb},iL S es->es[i]?=some e->jK ((es.take i).foldl SD.step S) e
 | e0::es,S,0,e,h,q=>by cases (show e0=e by simpa using q); exact h.1
 | e0::es,S,i+1,e,h,q=>by
  have:=iL.at (es:=es) (S:=S.step e0) (i:=i) h.2 (by simpa using q)
  simpa using this
structure oq (K:Rb) (H:Hp) (l:ae) (f9:List ae) (es:List gb):Prop where
 l:H l=some (.lst (f9.map V.ref))
 len:f9.length=es.length
 all:∀ (i:Nat) dp e,f9[i]?=some dp->es[i]?=some e->gN K H dp e
def rV (K:Rb) (C Pt Pl:ae):Sp:=λvs H Q _=>∃ (t a:ae) (ns:List Int) (N:Nat) (x sp l:ae) (D:DD) (S:SD) (f9:List ae) (es:List gb),vs = [.ref t,.ref x,.ref sp,.ref l]/\Wn K H C t a ns N Pt Pl x sp D S/\N+5*es.length<=600000/\t≠l/\oq K H l f9 es/\iL S es /\
 ∀ D' H',Wn K H' C t a ns (N+5*es.length) Pt Pl x sp D' (es.foldl SD.step S)->Q (.bl true) H'
theorem rW:c_ ["jar", "dealing", "state", "deeds", "deed", "told"] ["jar", "dealing", "state", "deeds"] (aI nB):=.of
set_option maxHeartbeats 1000000 in
theorem aBJ {fN:ae} {dN:az} (G:Fn K mg "_law_e_all_done" nB ["jar", "dealing", "state", "deeds"] f fd) (Af:Fn K mg "_law_e_do" AA ["dealing", "deed"] fO dO) (Ck:b_ P w K mg base d7 4 fO dO ["dealing", "deed"] (HL K C Pt)) (Cq:Fn K mg "_law_e_step" rM ["state", "deed"] fT dT) (Ci:b_ P w K mg base d7 1 fT dT ["state", "deed"] (vN K)) (IQ:Fn K mg "_law_e_asked" vA ["jar", "dealing"] fA dA) (IK:b_ P w K mg base d7 11 fA dA ["jar", "dealing"] (zM K C Pl)) (Nl:Fn K mg "_law_e_stands" lV ["found", "state"] fN dN) (M9:b_ P w K mg base d7 3 fN dN ["found", "state"] (vS K)):b_ P w K mg base d7 12 f fd ["jar", "dealing", "state", "deeds"] (rV K C Pt Pl):=by
 refine G.fn.oK rW λfh A outer s H vs Q E hr h=>?_
 ·obtain ⟨t,a,ns,N,x,sp,l,D,S,f9,es,rfl,W,hN,D5,hE,hM,k⟩:=h
  have GI:dz 11 _:=hr
  have r4:dz 4 _:=hr.mono (by decide)
  have r3:dz 3 _:=hr.mono (by decide)
  have r1:dz 1 _:=hr.mono (by decide)
  refine ⟨_,aE (iA ay.never rfl (hX (pv 3)) (aV (i:=4) rW.nd rfl (Or.inl rfl))
    (aE (aX (i:=5) rW.nd rfl (Or.inl rfl) (aW Af Ck r4 rfl (aA (pv 1) (aA (pv 4) aC))))
    (aJ (bJ (PW.pt (gD (aP oJ (pv 5) (aW Cq Ci r1 rfl (aA (pv 2) (aA (pv 4) aC))) (aU _)) (eY (bW (bM (aW Nl M9 r3 rfl (aA (aW IQ IK GI rfl (aA (pv 0) (aA (pv 1) aC))) (aA (pv 2) aC)))))))) (aJ (aR gA)) aS))))
   (aJ (aR gA)),?_⟩
  refine ⟨_,rfl,l,rfl,⟨_,d9.of hE.l⟩,jC (K:=K) (a:=l) (xs:=f9.map V.ref) (λi σ H1=>∃ (v4 v5:Option V) (D1:DD),σ = [some (.ref t),some (.ref x),some (.ref sp),some (.ref l),v4,v5]/\Wn K H1 C t a ns (N+5*i) Pt Pl x sp D1 ((es.take i).foldl SD.step S)/\oq K H1 l f9 es) ⟨none,none,D,rfl,W,hE⟩ (λi σ H1 _ ⟨_,_,_,_,_,h⟩=>d9.of h.l) ?_ ?_⟩
  ·rintro i xv σ H1 hx ⟨v4,v5,D1,rfl,W1,E1⟩
   rw [Qh] at hx
   obtain ⟨dp,ik,rfl⟩:=Qp.mp hx
   obtain ⟨e,he⟩:∃ e,es[i]?=some e:=⟨_,Qb (by rw [<- E1.len]; exact (Qa.mp ik).1)⟩
   have hi:i < es.length:=(Qa.mp he).1
   have RS:=E1.all i dp e ik he
   have Hj:=hM.at he
   have et:(es.take (i+1)).foldl SD.step S=((es.take i).foldl SD.step S).step e:=by rw [Jr,he,Yp]; rfl
   rw [et]
   generalize (es.take i).foldl SD.step S=Si at W1 Hj ⊢
   dsimp only [bO]
   refine ⟨_,rfl,_,rfl,x,dp,D1,Si,e,rfl,W1.p.dh,W1.p.dm,W1.p.lk,RS,Hj,W1.pt,λDn H2 b2 da dh A0 EE Ec SA=>?_⟩
   dsimp only [bO]
   obtain ⟨jn,mx,ma,mh⟩:=W1.mid b2
   have EH:=RS.keep b2 mx.nt ma.nt mh.nt
   refine ⟨_,rfl,_,rfl,_,rfl,sp,dp,Si,e,rfl,jn,W1.p.sm,EH,Hj,λH3 b3 r6=>⟨aF9 Si e,_,rfl,bK (by simp) ?_⟩⟩
   have n1:=NT.dK jn.st
   have n2:=NT.dK jn.dr
   have W3:=W1.done b2 da dh A0 EE Ec b3 r6 Hj
   have E3:oq K H3 l f9 es:=⟨b3.lst (.inr ⟨_,jn.st⟩) (.inr ⟨_,jn.dr⟩) (.inr ⟨_,jn.dr⟩) (b2.lst mx ma mh E1.l),E1.len,λj dq e' q1 q2=>((E1.all j dq e' q1 q2).keep b2 mx.nt ma.nt mh.nt).keep b3 n1 n2 n2⟩
   refine ⟨_,rfl,_,rfl,t,a,ns,N+5*i,x,Dn,rfl,W3.gm,by omega,W3.p.dh,W3.p.dm,W3.pl,λfp kf H4 b4 J4 nf hf vf=>?_⟩
   have W4:=W3.but b4 J4
   obtain ⟨ts,DG⟩:=W3.gm.lst
   have E4:oq K H4 l f9 es:=⟨b4 _ _ D5.symm E3.l,E3.len,λj dq e' q1 q2=>(E3.all j dq e' q1 q2).but DG b4⟩
   refine ⟨_,rfl,fp,sp,kf,H3,Si.step e,Dn,rfl,hf,vf,W4.p.lk,W4.p.dm,W4.p.dh.hl,W4.p.sh,W4.p.sm,by rw [W3.p.sh.dr]; exact λz=>(by cases z),λH5 s5=>⟨true,rfl,bK rfl ?_⟩⟩
   exact ⟨_,_,Dn,rfl,(W4.same s5).more (by omega),s5 _ _ E4.l,E4.len,λj dq e' q1 q2=>(E4.all j dq e' q1 q2).same s5⟩
  ·rintro σ H1 ⟨v4,v5,D1,rfl,W1,E1⟩
   rw [Qc,E1.len,Jm] at W1
   exact k D1 H1 W1
theorem Wn.ot (h:Wn K H C t a ns N Pt Pl x sp D S) (b:bU sp S.ap S.ap H H1):iz K H1 C x D/\Md H sp/\Md H S.ap:=by
 have N:∀ {i j:Nat} {a b:ae},[D.da,D.dh,sp,S.ap][i]?=some a->[D.da,D.dh,sp,S.ap][j]?=some b->i≠j->a≠b:=λa b c=>HQ h.nd a b c
 refine ⟨h.p.dh.keep b (NT.dK h.p.sh.st) (NT.dK h.p.sh.dr) (NT.dK h.p.sh.dr) λq hq=>?_,.inr ⟨_,h.p.sh.st⟩,.inr ⟨_,h.p.sh.dr⟩⟩
 rcases hq with rfl | rfl | rfl
 ·exact ⟨kS h.p.dh.ins h.p.sh.st,kS h.p.dh.ins h.p.sh.dr,kS h.p.dh.ins h.p.sh.dr⟩
 ·exact ⟨N (i:=0) (j:=2) rfl rfl (by decide),N (i:=0) (j:=3) rfl rfl (by decide),N (i:=0) (j:=3) rfl rfl (by decide)⟩
 ·exact ⟨N (i:=1) (j:=2) rfl rfl (by decide),N (i:=1) (j:=3) rfl rfl (by decide),N (i:=1) (j:=3) rfl rfl (by decide)⟩
theorem Wn.Bu (h:Wn K H C t a ns N Pt Pl x sp D S) (b2:bU sp S.ap S.ap H H1) (hS:jm K H1 sp (S.step e)) (b:bU x D.da D.dh H1 H2) (da:Dn.da=D.da) (dh:Dn.dh=D.dh) (hD:iz K H2 C x Dn) (hM:og Dn) (lk:vm Dn (S.step e)) (m:jK S e):Wn K H2 C t a ns N Pt Pl x sp Dn (S.step e):=by
 obtain ⟨h1,ms,mp⟩:=h.ot b2
 have N:∀ {i j:Nat} {a b:ae},[D.da,D.dh,sp,S.ap][i]?=some a->[D.da,D.dh,sp,S.ap][j]?=some b->i≠j->a≠b:=λa b c=>HQ h.nd a b c
 have ea:(S.step e).ap=S.ap:=by cases e <;> rfl
 have mx:Md H1 x:=.inl ⟨_,_,_,h1.ins⟩
 have ma:Md H1 D.da:=.inr ⟨_,h1.dr⟩
 have mh:Md H1 D.dh:=.inr ⟨_,h1.hand⟩
 refine ⟨b.gm mx ma mh (b2.gm ms mp mp h.gm),b.tab mx ma mh (b2.tab ms mp mp h.pt),b.tab mx ma mh (b2.tab ms mp mp h.pl),⟨hD,hM,hS.keep b mx.nt ma.nt mh.nt ⟨(kS h.p.dh.ins h.p.sh.st).symm,N (i:=2) (j:=0) rfl rfl (by decide),N (i:=2) (j:=1) rfl rfl (by decide)⟩ ?_,pP h.p.sm m,lk⟩,by rw [da,dh,ea]; exact h.nd⟩
 rw [ea]
 exact ⟨(kS h.p.dh.ins h.p.sh.dr).symm,N (i:=3) (j:=0) rfl rfl (by decide),N (i:=3) (j:=1) rfl rfl (by decide)⟩
end
def MV (K:Rb) (C Pt Pl:ae):Sp:=λvs H Q _=>∃ (t a:ae) (ns:List Int) (N:Nat) (x sp:ae) (D:DD) (S:SD),vs = [.ref t,.ref sp,.ref x]/\Wn K H C t a ns N Pt Pl x sp D S/\N<=500000/\S.nums = []/\∀ D' S' H',S'.nums.length=12->S'.n=S.n->S'.fg=S.fg+12->Wn K H' C t a ns (N+96) Pt Pl x sp D' S'->Q .ft H'
theorem MU:c_ ["jar", "state", "dealing", "turn", "deed"] ["jar", "state", "dealing"] (aI HU):=.of
set_option maxHeartbeats 1000000 in
theorem aGa (G:Fn K mg "_law_e_full" HU ["jar", "state", "dealing"] f fd) (B:Bl mg) (Af:Fn K mg "_law_e_do" AA ["dealing", "deed"] fO dO) (Ck:b_ P w K mg base d7 4 fO dO ["dealing", "deed"] (HL K C Pt)) (Cq:Fn K mg "_law_e_step" rM ["state", "deed"] fT dT) (Ci:b_ P w K mg base d7 1 fT dT ["state", "deed"] (vN K)) (y6:Fn K mg "_law_e_able" qM ["jar", "hands"] fA dA) (yz:b_ P w K mg base d7 3 fA dA ["jar", "hands"] (rP K)):b_ P w K mg base d7 5 f fd ["jar", "state", "dealing"] (MV K C Pt Pl):=by
 refine G.fn.oK MU λfh A outer s H vs Q E hr h=>?_
 ·obtain ⟨t,a,ns,N,x,sp,D,S,rfl,W,hN,h0,k⟩:=h
  have hu:=bV hr
  have r4:dz 4 _:=hr
  have r3:dz 3 _:=hr.mono (by decide)
  have r1:dz 1 _:=hr.mono (by decide)
  refine ⟨_,aJ (iA ay.never rfl (eD rfl B.range (aA aH aC)) (aV (i:=3) MU.nd rfl (Or.inl rfl))
    (aE (aX (i:=4) MU.nd rfl (Or.inl rfl) (cC (aA aK (aA (aW y6 yz r3 rfl (aA (pv 0) (aA (aQ hu (pv 1) aK (λ_ _=>rfl)) aC))) aC))))
    (aE (cL (aW Cq Ci r1 rfl (aA (pv 1) (aA (pv 4) aC))))
    (aJ (cL (aW Af Ck r4 rfl (aA (pv 2) (aA (pv 4) aC)))))))),?_⟩
  refine ⟨12,rfl,by decide,by decide,iP (lo:=0) (n:=(12:Int).toNat) (λi σ H1=>∃ (v3 v4:Option V) (D1:DD) (S1:SD),σ = [some (.ref t),some (.ref sp),some (.ref x),v3,v4]/\Wn K H1 C t a ns (N+8*i) Pt Pl x sp D1 S1/\S1.nums.length=i/\S1.n=S.n/\S1.fg=S.fg+i) ⟨none,none,D,S,rfl,W,by rw [h0]; rfl,rfl,by simp⟩ ?_ ?_⟩
  ·rintro i σ H1 hi ⟨v3,v4,D1,S1,rfl,W1,hl,hn,hd⟩
   have hi:i < 12:=hi
   dsimp only [bO]
   obtain ⟨hb1,hb6,_,_⟩:=aZ W1.p.sm.bk
   refine ⟨_,rfl,_,rfl,sp,_,rfl,W1.p.sh.g9 (k:=.inr "hands") (cT S1),t,a,ns,N+8*i,S1.n,rfl,W1.gm,by omega,by omega,by omega,λl p H2 pj b2 J2 hp=>?_⟩
   refine ⟨kc _ _,λdp ik=>?_⟩
   dsimp only [bO]
   have W2:=(W1.but b2 J2).same (aD.new (o:=.tup [.str "put",.ref p]) ik)
   have hE:gN K (upd H2 dp (.tup [.str "put",.ref p])) dp (.put p l):=⟨d8.of aB,(aD.new ik).dk hp⟩
   have hM:jK S1 (.put p l):=⟨pj,by omega⟩
   generalize upd H2 dp (.tup [.str "put",.ref p])=H3 at W2 hE ⊢
   refine ⟨_,rfl,_,rfl,sp,dp,S1,.put p l,rfl,W2.p.sh,W2.p.sm,hE,hM,λH4 b4 zy=>?_⟩
   obtain ⟨j1,ms,mp⟩:=W2.ot b4
   refine ⟨_,rfl,_,rfl,x,dp,D1,S1,.put p l,rfl,j1,W2.p.dm,W2.p.lk,hE.keep b4 ms.nt mp.nt mp.nt,hM,b4.tab ms mp mp W2.pt,λDn H5 b5 da dh A0 EE Ec SA=>?_⟩
   exact ⟨_,_,Dn,S1.step (.put p l),rfl,(W2.Bu b4 zy b5 da dh A0 EE Ec hM).more (by omega),by show (S1.nums++[S1.fg]).length=_; rw [Qe,hl]; rfl,hn,by show S1.fg+1=_; rw [hd]; omega⟩
  ·rintro σ H1 ⟨v3,v4,D1,S1,rfl,W1,hl,hn,hd⟩
   exact k D1 S1 H1 hl hn hd W1
structure ib (K:Rb) (H:Hp) (f9:List ae) (es:List gb):Prop where
 len:f9.length=es.length
 all:∀ (i:Nat) dp e,f9[i]?=some dp->es[i]?=some e->gN K H dp e
section
variable {a x sp:ae} {N:Nat} {f9 Sz:List ae} {es fs:List gb} {e:gb}
theorem ib.nil:ib K H [] []:=⟨rfl,λi dp e h=>by simp at h⟩
theorem ib.one (h:gN K H dp e):ib K H [dp] [e]:=⟨rfl,λi dq e' h1 h2=>by
 cases i with
 | zero=>cases h1; cases h2; exact h
 | succ i=>simp at h1⟩
theorem ib.append (h:ib K H f9 es) (g:ib K H Sz fs):ib K H (f9++Sz) (es++fs):=⟨by rw [Qe,Qe,h.len,g.len],λi dp e h1 h2=>by
 by_cases c:i < f9.length
 ·rw [Ql c] at h1
  rw [Ql (by rw [<- h.len]; exact c)] at h2
  exact h.all i dp e h1 h2
 ·rw [Qo (by omega)] at h1
  rw [Qo (by rw [<- h.len]; omega),<- h.len] at h2
  exact g.all _ dp e h1 h2⟩
theorem ib.same (h:ib K H f9 es) (q:aD H H1):ib K H1 f9 es:=⟨h.len,λi dp e h1 h2=>(h.all i dp e h1 h2).same q⟩
theorem ib.but (h:ib K H f9 es) (et:H t=some (.lst xs)) (b:ff t H H1):ib K H1 f9 es:=⟨h.len,λi dp e h1 h2=>(h.all i dp e h1 h2).but et b⟩
theorem ib.cons (h:gN K H dp e) (g:ib K H f9 es):ib K H (dp::f9) (e::es):=(ib.one h).append g
theorem Wn.jb {ms:List Int} (W:Wn K H C t a ns N Pt Pl x sp D S) (hp:ms.Perm S.nums) (hs:ms.Pairwise (·<=·)):ms=S.nums:=xM hp (List.Perm.refl _) hs (W.p.sm.up.imp λh=>Int.le_of_lt h)
theorem Wn.ki (W:Wn K H C t a ns N Pt Pl x sp D S):S.nums.length<=12/\1<=S.n/\S.n<=6:=by
 obtain ⟨h1,h6,o7,_⟩:=aZ W.p.sm.bk
 exact ⟨by rw [<- W.p.sm.len]; exact o7,h1,h6⟩
theorem aEL {x y:Int} (nd:l.Nodup) (hi:l[i]?=some x) (hj:l[j]?=some y) (n:i≠j):y∈l.eraseIdx (l.idxOf x):=by
 refine Zq.mpr ⟨j,λz=>?_,hj⟩
 have:=qW (Qd hi)
 rw [<- z,hj] at this
 have e:y=x:=Option.some.inj this
 obtain ⟨h1,e1⟩:=Qa.mp hi
 obtain ⟨h2,e2⟩:=Qa.mp hj
 exact n ((Za nd).mp (by rw [e1,e2,e]))
theorem vT {x:Int} (h:x∈l):(l.eraseIdx (l.idxOf x)).length=l.length - 1:=by
 rw [Jc,if_pos (Zz h)]
end
def VE (K:Rb) (C Pt Pl:ae):Sp:=λvs H Q _=>∃ (t a:ae) (ns:List Int) (N:Nat) (x sp:ae) (D:DD) (S:SD),vs = [.ref t,.ref sp,.ref x]/\Wn K H C t a ns N Pt Pl x sp D S/\N<=500000/\S.nums.length=12/\∀ D' S' H',Wn K H' C t a ns (N+60) Pt Pl x sp D' S'->Q (.bl true) H'
theorem tJ:c_ ["jar", "state", "dealing", "some", "deeds"] ["jar", "state", "dealing"] (aI uT):=.of
set_option maxHeartbeats 1000000 in
theorem aEM (G:Fn K mg "_law_e_full_again" uT ["jar", "state", "dealing"] f fd) (B:Bl mg) (nc:Fn K mg "_law_e_scoop" kQ ["jar", "many"] fS dS) (m_:b_ P w K mg base d7 2 fS dS ["jar", "many"] (jN K)) (y6:Fn K mg "_law_e_able" qM ["jar", "hands"] fA dA) (yz:b_ P w K mg base d7 3 fA dA ["jar", "hands"] (rP K)) (IS:Fn K mg "_law_e_all_done" nB ["jar", "dealing", "state", "deeds"] fD dD) (IL:b_ P w K mg base d7 12 fD dD ["jar", "dealing", "state", "deeds"] (rV K C Pt Pl)) (IP:Fn K mg "_law_e_word" uS ["dealing", "deed"] fW dW) (IG:b_ P w K mg base d7 5 fW dW ["dealing", "deed"] (zQ K C)):b_ P w K mg base d7 13 f fd ["jar", "state", "dealing"] (VE K C Pt Pl):=by
 refine G.fn.oK tJ λfh A outer s H vs Q E hr h=>?_
 ·obtain ⟨t,a,ns,N,x,sp,D,S,rfl,W,hN,o7,k⟩:=h
  have GG:dz 12 _:=hr
  have r5:dz 5 _:=hr.mono (by decide)
  have r3:dz 3 _:=hr.mono (by decide)
  have r2:dz 2 _:=hr.mono (by decide)
  refine ⟨_,(aE (aX (i:=3) tJ.nd rfl (Or.inl rfl) (aL (eS rfl) rfl B.sorted lC (aA (aQ (bV hr) (pv 1) aK (λ_ _=>rfl)) aC)))
  (aE (aX (i:=4) tJ.nd rfl (Or.inl rfl) (gW (aA (cC (aA aK (aA (bN cN (pv 3) (aW nc m_ r2 rfl (aA (pv 0) (aA aH aC))) (λ_ _=>rfl)) aC))) (aA (cC (aA aK (aA (bN cN (pv 3) (aY eF aH (aW nc m_ r2 rfl (aA (pv 0) (aA aH aC)))) (λ_ _=>rfl)) aC))) aC))))
  (aE (aX (i:=4) tJ.nd rfl (Or.inl rfl) (aY iD (pv 4) (gF (own:=["turn"]) (fr:=[0,1]) (fk:=["jar", "state"]) (bL (aI uT) ["jar", "state", "dealing", "some", "deeds"] rfl rfl (by decide +kernel)) rfl (eD rfl B.range (aA aH aC))
    (λ_ _ _ _=>(aV (i:=0) (show (["turn", "jar", "state"]:List ax).Nodup by decide +kernel) rfl (Or.inl rfl))) (λ_ _ _ _=>eO)
    (λ_ _ _ _=>(cC (aA aK (aA (aW y6 yz r3 rfl (aA (pv 1) (aA (aQ (bV hr) (pv 2) aK (λ_ _=>rfl)) aC))) aC)))))))
  (aE (bJ (bW (bM (aW IS IL GG rfl (aA (pv 0) (aA (pv 2) (aA (pv 1) (aA (pv 4) aC)))))))
   (aJ (aR gA))
   aS)
  (aJ (aR (gQ dY (aW IP IG r5 rfl (aA (pv 2) (aA (cC (aA aK (aA (aW y6 yz r3 rfl (aA (pv 0) (aA (aQ (bV hr) (pv 1) aK (λ_ _=>rfl)) aC))) aC))) aC))) aK (aU _)))))))),?_⟩
  obtain ⟨ki,n1,n6⟩:=W.ki
  refine ⟨_,rfl,sp,_,rfl,W.p.sh.g9 (k:=.inr "able") (cY S),S.ap,_,S.nums,rfl,.inl W.p.sh.dr,jH W.p.sh.tl,by omega,λp ms hp j9 qa=>?_⟩
  dsimp only [bO]
  have em:=W.jb j9 qa
  subst em
  have W1:=W.same (aD.new (o:=.lst (S.nums.map V.int)) hp)
  have e1:upd H p (.lst (S.nums.map V.int)) p=some (.lst (S.nums.map V.int)):=aB
  have GN:p≠t:=W.gm.ne hp
  generalize upd H p (.lst (S.nums.map V.int))=H1 at W1 e1 ⊢
  have gz:S.nums.Nodup:=Ja.mpr (W.p.sm.up.imp λh=>Ju h)
  refine ⟨_,rfl,_,rfl,t,a,ns,N,6,rfl,W1.gm,by omega,by decide,by decide,λr1 H2 Pa r16 b2 J2=>?_⟩
  have W2:=W1.but b2 J2
  have e2:=b2 _ _ GN e1
  obtain ⟨k1,AX⟩:∃ k1,S.nums[r1.toNat]?=some k1:=⟨_,Qb (by omega)⟩
  refine ⟨p,_,r1,.int k1,rfl,rfl,d9.of e2,?_,kc _ _,λd1 my=>?_⟩
  ·rw [show r1=((r1.toNat:Nat):Int) by omega]
   exact gE (by rw [Qh,AX]; rfl)
  have W3:=W2.same (aD.new (o:=.tup [.str "take",.int k1]) my)
  have e3:=aD.new (o:=.tup [.str "take",.int k1]) my _ _ e2
  have g3:gN K (upd H2 d1 (.tup [.str "take",.int k1])) d1 (.take k1):=d8.of aB
  generalize upd H2 d1 (.tup [.str "take",.int k1])=H3 at W3 e3 g3 ⊢
  refine ⟨_,rfl,_,rfl,t,a,ns,N+1,6,rfl,W3.gm,by omega,by decide,by decide,λze H4 r20 r26 b4 J4=>?_⟩
  have W4:=W3.but b4 J4
  have e4:=b4 _ _ GN e3
  obtain ⟨YE,DG⟩:=W3.gm.lst
  have g4:=g3.but DG b4
  obtain ⟨k2,ym⟩:∃ k2,S.nums[6+ze.toNat]?=some k2:=⟨_,Qb (by omega)⟩
  refine ⟨6,ze,rfl,rfl,p,_,6+ze,.int k2,rfl,rfl,d9.of e4,?_,kc _ _,λd2 hd2=>?_⟩
  ·rw [show 6+ze=((6+ze.toNat:Nat):Int) by omega]
   exact gE (by rw [Qh,ym]; rfl)
  have s5:=aD.new (o:=.tup [.str "take",.int k2]) hd2
  have W5:=W4.same s5
  have g5:=g4.same s5
  have q5:gN K (upd H4 d2 (.tup [.str "take",.int k2])) d2 (.take k2):=d8.of aB
  generalize upd H4 d2 (.tup [.str "take",.int k2])=H5 at W5 g5 q5 ⊢
  refine ⟨kc _ _,λl1 zt=>?_⟩
  dsimp only [bO]
  have s6:=aD.new (o:=.lst [.ref d1,.ref d2]) zt
  have W6:=W5.same s6
  have Sy:ib K (upd H5 l1 (.lst [.ref d1,.ref d2])) [d1,d2] [.take k1,.take k2]:=ib.cons (g5.same s6) (ib.one (q5.same s6))
  have ZO:l1≠t:=W5.gm.ne zt
  have e6:upd H5 l1 (.lst [.ref d1,.ref d2]) l1=some (.lst [.ref d1,.ref d2]):=aB
  generalize upd H5 l1 (.lst [.ref d1,.ref d2])=H6 at W6 Sy e6 ⊢
  refine ⟨_,rfl,2,rfl,by decide,by decide,?_⟩
  refine jW (n:=2) (lo:=0) (λσ=>∃ u,σ = [u,some (.ref t),some (.ref sp)]) (λi ys H7=>Wn K H7 C t a ns (N+2+8*i) Pt Pl x sp D S/\H7 l1=some (.lst [.ref d1,.ref d2])/\ib K H7 [d1,d2] [.take k1,.take k2]/\∃ f9 es,ys=f9.map V.ref/\ib K H7 f9 es/\es.length=i/\∀ e∈es,∃ p l,e=.put p l/\cB S.n (gH l)=true) (iK (by decide)) ⟨none,rfl⟩ ⟨W6,e6,Sy,[],[],rfl,ib.nil,rfl,λe he=>by simp at he⟩ ?_ ?_ ?_
  ·rintro i ys H7 ⟨_,_,_,f9,es,rfl,h1,h2,_⟩
   rw [Qc,h1.len,h2]; exact Qg _
  ·rintro i ys σ H7 hi ⟨u,rfl⟩ ⟨W7,e7,LC,f9,es,rfl,hA,hl,hw⟩ hz
   refine cR ?_
   refine ⟨_,rfl,_,rfl,sp,_,rfl,W7.p.sh.g9 (k:=.inr "hands") (cT S),t,a,ns,_,S.n,rfl,W7.gm,by omega,n1,n6,λl p H8 pj b8 J8 g!=>?_⟩
   obtain ⟨xs7,Hx⟩:=W7.gm.lst
   refine ⟨kc _ _,λdp ik=>⟨hz,⟨_,rfl⟩,((W7.but b8 J8).same (aD.new ik)).more (by omega),aD.new ik _ _ (b8 _ _ ZO e7),(LC.but Hx b8).same (aD.new ik),f9++[dp],es++[.put p l],by rw [Qt]; rfl,((hA.but Hx b8).same (aD.new ik)).append (ib.one (e:=.put p l) ⟨d8.of aB,(aD.new ik).dk g!⟩),by rw [Qe,hl]; rfl,λe he=>?_⟩⟩
   rcases Jd.mp he with h | h
   ·exact hw e h
   ·exact ⟨p,l,Qu.mp h,pj⟩
  ·rintro ys H7 ⟨W7,e7,LC,f9,es,rfl,hA,hl,hw⟩ l2 pk
   have s8:=aD.new (o:=.lst (f9.map V.ref)) pk
   have nl2:l2≠l1:=λz=>by rw [z,e7] at pk; cases pk
   refine ⟨l1,l2,_,_,rfl,rfl,s8 _ _ e7,aB,by rw [Qc,hA.len,hl,Rf]; simp,λl3 BO=>?_⟩
   dsimp only [bO]
   have s9:=s8.trans (aD.new (o:=.lst ([V.ref d1,.ref d2]++f9.map V.ref)) BO)
   have W9:=W7.same s9
   have Pm:l3≠t:=(W7.same s8).gm.ne BO
   have LB:=(LC.append hA).same s9
   have e9:upd (upd H7 l2 (.lst (f9.map V.ref))) l3 (.lst ([V.ref d1,.ref d2]++f9.map V.ref)) l3=some (.lst (([d1,d2]++f9).map V.ref)):=aB
   generalize upd (upd H7 l2 (.lst (f9.map V.ref))) l3 (.lst ([V.ref d1,.ref d2]++f9.map V.ref))=H9 at W9 LB e9 ⊢
   obtain ⟨a1,a2,rfl⟩:∃ a1 a2,es = [a1,a2]:=by
    match es,hl with
    | [a1,a2],_=>exact ⟨a1,a2,rfl⟩
   obtain ⟨p1,m1,rfl,w1⟩:=hw a1 (by simp)
   obtain ⟨p2,m2,rfl,w2⟩:=hw a2 (by simp)
   have Pu:k1∈S.nums:=Qd AX
   have Pq:k2∈(S.step (.take k1)).nums:=aEL gz AX ym (by omega)
   have L1:(S.step (.take k1)).nums.length=S.nums.length - 1:=vT Pu
   have L2:((S.step (.take k1)).step (.take k2)).nums.length=(S.step (.take k1)).nums.length - 1:=vT Pq
   have hM:iL S ([.take k1,.take k2]++[.put p1 m1,.put p2 m2]):=⟨Pu,Pq,⟨w1,by show ((S.step (.take k1)).step (.take k2)).nums.length < 12; rw [L2,L1]; omega⟩,⟨w2,by show (((S.step (.take k1)).step (.take k2)).nums++[_]).length < 12; rw [Qe,L2,L1]; simp; omega⟩,trivial⟩
   refine ⟨_,rfl,_,rfl,_,rfl,_,rfl,t,a,ns,N+2+8*2,x,sp,l3,D,S,_,_,rfl,W9,by simp; omega,Pm.symm,⟨e9,LB.len,LB.all⟩,hM,λD' XR yx=>⟨true,rfl,bK rfl ?_⟩⟩
   have Kl:((List.foldl SD.step S ([.take k1,.take k2]++[.put p1 m1,.put p2 m2])).nums).length=12:=by
    show ((((S.step (.take k1)).step (.take k2)).nums++[_])++[_]).length=12
    rw [Qe,Qe,L2,L1,o7]; rfl
   have l5:(N+2+8*2)+5*([gb.take k1,gb.take k2]++[gb.put p1 m1,gb.put p2 m2]).length=N+38:=by simp
   rw [l5] at yx
   generalize List.foldl SD.step S ([.take k1,.take k2]++[.put p1 m1,.put p2 m2])=Fi at yx Kl
   obtain ⟨_,Z6,ZY⟩:=yx.ki
   refine ⟨_,rfl,_,rfl,_,rfl,sp,_,rfl,yx.p.sh.g9 (k:=.inr "hands") (cT Fi),t,a,ns,_,Fi.n,rfl,yx.gm,by omega,Z6,ZY,λl q H11 pj b11 J11 hq=>?_⟩
   refine ⟨kc _ _,λdp ik=>?_⟩
   have Fg:=(yx.but b11 J11).same (aD.new (o:=.tup [.str "put",.ref q]) ik)
   have hB:zP K (upd H11 dp (.tup [.str "put",.ref q])) dp D' 10:=.inl ⟨.ref q,gH l,d8.of aB,bC.mpr ⟨q,_,rfl,(aD.new ik).dk hq,cJ.mpr rfl⟩,.inr ⟨by rw [Fg.p.lk.n]; exact pj,by rw [Fg.p.lk.nums]; exact Kl,rfl⟩⟩
   exact ⟨.ref x,.ref dp,10, "many",rfl,by decide,rfl,.inr ⟨x,dp,D',rfl,rfl,Fg.p.dh,by rw [Fg.p.lk.nums,Kl]; exact Qg _,hB⟩,λH13 zb=>⟨rfl,by rw [qV]; exact k D' Fi H13 ((Fg.same zb).more (by omega))⟩⟩
end Ab
namespace L2
open PySem
theorem aGb {S:List ae} {σ:St}:Al H0 S (tC v) σ (λ_ x=>x=v):=E7 rfl
theorem VD {S:List ae} {σ:St} {i:Int}:Al H0 S (Gx (rU λi=>.int (-i)) (tC (.int i))) σ λ_ v=>v=.int (-i):=λH s f Q k=>⟨i,rfl,k _ H (aD.refl H) rfl⟩
theorem Vw.grow {S:List ae} {o:HO} (h:H p=none):aD (Vw S H) (Vw (p::S) (upd H p o)):=λb u e=>by
 have hb:b∉S:=λz=>by unfold Vw at e; rw [if_pos z] at e; cases e
 rw [Vw.out hb] at e
 have n:b≠p:=λz=>by rw [z,h] at e; cases e
 rw [Vw.out (λz=>by rcases Qj.mp z with z | z; exact n z; exact hb z),aF n]
 exact e
theorem VC {st:ba} (hK:X.K=K) (he:PE X e te) (j0:PE X st ts):PE X (.Subscript e (.Slice none none (some st) p2) pos) (HG K te ts):=by subst hK; exact aG1 he j0
theorem vU:∀ {ds:List au} {zs:List V},bQ K H ds zs->bQ K H ds.reverse zs.reverse
 | [],zs,h=>by rw [bZ.mp h]; exact bZ.mpr rfl
 | d::ds,zs,h=>by
  obtain ⟨v,vs,rfl,h1,h2⟩:=bH.mp h
  rw [Zl,Zl]
  exact kO (vU h2) (bH.mpr ⟨v,[],rfl,h1,bZ.mpr rfl⟩)
section
variable {S:List ae} {σ:St} {t:TA} {tl th:TO} {es:List au}
def ED (K:Rb) (S:List ae) (d:au):Hp->V->Prop:=λH v=>Den K (Vw S H) d v
instance:Mo (ED K S d):=⟨λe h=>(Vw.same e).den _ _ h⟩
def FF (H0:Hp) (K:Rb) (S:List ae) (ds:List au) (t:TA) (σ:St):Prop:=∀ H,aD H0 H->Fx S H->∀ Q:List V->Hp->Prop,(∀ vs H',aD H H'->bQ K (Vw S H') ds vs->Q vs H')->t σ H Q
theorem eM:FF H0 K S [] oF σ:=λH _ _ Q k=>k [] H (aD.refl H) (bZ.mpr rfl)
theorem cF (h:Al H0 S te σ (ED K S d)) (r:FF H0 K S ds tr σ):FF H0 K S (d::ds) (iM te tr) σ:=λH s f Q k=>h H s f _ λv H1 s1 d1=>r H1 (s.trans s1) (f.same s1) _ λvs H2 s2 d2=>k _ _ (s1.trans s2) (bH.mpr ⟨v,vs,rfl,(Vw.same s2).den _ _ d1,d2⟩)
theorem dJ {i:Int}:Al H0 S (tC (.int i)) σ (ED K S (.int i)):=E7 (R:=ED K S (.int i)) (cG.mpr rfl)
theorem zS:Al H0 S (tC .ft) σ (ED K S .none):=E7 (R:=ED K S .none) (tX.mpr rfl)
theorem sM {b:Bool}:Al H0 S (tC (.bl b)) σ (ED K S (.bool b)):=E7 (R:=ED K S (.bool b)) (tW.mpr rfl)
theorem vV {b:ax}:Al H0 S (tC (.str b)) σ (ED K S (.str b)):=E7 (R:=ED K S (.str b)) (sT.mpr rfl)
theorem jB {a:Int} (h:σ[i]?=some (some (.int a))):Al H0 S (pR i) σ (ED K S (.int a)):=rG (R:=ED K S (.int a)) h (cG.mpr rfl)
theorem vW {g:Int->Int->Int} {a b:Int} (ha:Al H0 S ta σ (ED K S (.int a))) (hb:Al H0 S tb σ (ED K S (.int b))):Al H0 S (y_ (zd λi j=>.int (g i j)) ta tb) σ (ED K S (.int (g a b))):=λH s f Q k=>ha H s f _ λv H1 s1 d1=>hb H1 (s.trans s1) (f.same s1) _ λu H2 s2 d2=>⟨a,b,cG.mp d1,cG.mp d2,k _ H2 (s1.trans s2) (cG.mpr rfl)⟩
theorem E_ {g:Int->Int} {a:Int} (ha:Al H0 S ta σ (ED K S (.int a))):Al H0 S (Gx (rU λi=>.int (g i)) ta) σ (ED K S (.int (g a))):=λH s f Q k=>ha H s f _ λv H1 s1 d1=>⟨a,cG.mp d1,k _ H1 s1 (cG.mpr rfl)⟩
theorem iV (h:FF H0 K S ds t σ) (hn:autoParam (ds.length<=1000) L2.Oy):Al H0 S (Bb t) σ (ED K S (.tuple ds)):=λH s f Q k=>h H s f _ λvs H1 s1 d=>⟨by rw [cA d,Rf]; omega,λp hp=>k _ _ (s1.trans (aD.new hp)) (bC.mpr ⟨p,vs,rfl,d8.of (Vw.at (f.same s1) hp),(Vw.same (aD.new hp)).gh _ _ d⟩)⟩
theorem zT (h:FF H0 K S ds t σ) (hn:autoParam (ds.length<=1000) L2.Oy):Al H0 S (E2 t) σ (ED K S (.list ds)):=λH s f Q k=>h H s f _ λvs H1 s1 d=>⟨by rw [cA d,Rf]; omega,λp hp=>k _ _ (s1.trans (aD.new hp)) (kW.mpr ⟨p,vs,rfl,d9.of (Vw.at (f.same s1) hp),(Vw.same (aD.new hp)).gh _ _ d⟩)⟩
theorem vX (ha:Al H0 S ta σ (ED K S (.tuple ds))) (hb:Al H0 S tb σ (ED K S (.tuple es))) (hn:ds.length+es.length<=1000):Al H0 S (y_ (UH K) ta tb) σ (ED K S (.tuple (ds++es))):=λH s f Q k=>ha H s f _ λv H1 s1 d1=>hb H1 (s.trans s1) (f.same s1) _ λu H2 s2 d2=>by
 obtain ⟨p,xs,rfl,g,wy⟩:=bC.mp ((Vw.same s2).den _ _ d1)
 obtain ⟨q,ys,rfl,g',tm⟩:=bC.mp d2
 exact ⟨p,q,xs,ys,rfl,rfl,Vw.sub.dk g,Vw.sub.dk g',by rw [Rf,cA wy,cA tm]; omega,λr H3 s3 g3=>k _ _ (s1.trans (s2.trans s3)) (bC.mpr ⟨r,_,rfl,(((f.same s1).same s2).same s3).dk g3,kO ((Vw.same s3).gh _ _ wy) ((Vw.same s3).gh _ _ tm)⟩)⟩
theorem UP (ha:Al H0 S ta σ (ED K S (.tuple ds))) (hm:Al H0 S tb σ λ_ v=>v=.int m):Al H0 S (JG (LX K) ta xW (L5 tb)) σ (ED K S (.tuple (ds.take m))):=λH s f Q k=>ha H s f _ λv H1 s1 d1=>hm H1 (s.trans s1) (f.same s1) _ λu H2 s2 e=>by
 obtain ⟨p,xs,rfl,g,wy⟩:=bC.mp ((Vw.same s2).den _ _ d1)
 exact ⟨m,e,p,xs,rfl,Vw.sub.dk g,λr H3 s3 g3=>k _ _ (s1.trans (s2.trans s3)) (bC.mpr ⟨r,_,rfl,(((f.same s1).same s2).same s3).dk (by rw [<- V6]; exact g3),L2.sD m ((Vw.same s3).gh _ _ wy)⟩)⟩
theorem aGc (ha:Al H0 S ta σ (ED K S (.tuple ds))) (hm:Al H0 S tb σ λ_ v=>v=.int m):Al H0 S (JG (LX K) ta (L5 tb) xW) σ (ED K S (.tuple (ds.drop m))):=λH s f Q k=>ha H s f _ λv H1 s1 d1=>hm H1 (s.trans s1) (f.same s1) _ λu H2 s2 e=>by
 obtain ⟨p,xs,rfl,g,wy⟩:=bC.mp ((Vw.same s2).den _ _ d1)
 exact ⟨m,e,p,xs,rfl,Vw.sub.dk g,λr H3 s3 g3=>k _ _ (s1.trans (s2.trans s3)) (bC.mpr ⟨r,_,rfl,(((f.same s1).same s2).same s3).dk (by rw [<- wX]; exact g3),sE m ((Vw.same s3).gh _ _ wy)⟩)⟩
theorem aDf (ha:Al H0 S ta σ (ED K S (.tuple ds))):Al H0 S (Gy (V4 K) (iM ta oF)) σ (ED K S (.list ds)):=λH s f Q k=>ha H s f _ λv H1 s1 d1=>by
 obtain ⟨p,xs,rfl,g,wy⟩:=bC.mp d1
 exact ⟨p,xs,rfl,.inr (Vw.sub.dk g),λq hq=>k _ _ (s1.trans (aD.new hq)) (kW.mpr ⟨q,xs,rfl,d9.of (Vw.at (f.same s1) hq),(Vw.same (aD.new hq)).gh _ _ wy⟩)⟩
theorem kT (h:σ[i]?=some (some v)) (r:Den K (Vw S H0) d v):Al H0 S (pR i) σ (ED K S d):=rG (R:=ED K S d) h r
theorem VB:Al H0 S U7 σ (ED K S (.dict [])):=λH s f Q k p hp=>k (.ref p) _ (aD.new hp) (Wv.mpr ⟨rfl,p,rfl,Vw.at f hp⟩)
theorem UX (ha:Al H0 S ta σ (ED K S (.tuple ds))) (hs:Al H0 S tb σ λ_ v=>v=.int (-1)):Al H0 S (HG K ta tb) σ (ED K S (.tuple ds.reverse)):=λH s f Q k=>ha H s f _ λv H1 s1 d1=>hs H1 (s.trans s1) (f.same s1) _ λu H2 s2 e=>by
 obtain ⟨p,vs,rfl,g,dv⟩:=bC.mp d1
 have dv2:=(Vw.same s2).gh _ _ dv
 exact ⟨e,p,vs,rfl,s2.dk (Vw.sub.dk g),λq hq=>k _ _ (s1.trans (s2.trans (aD.new hq))) (bC.mpr ⟨q,_,rfl,d8.of (Vw.at ((f.same s1).same s2) hq),vU ((Vw.same (aD.new hq)).gh _ _ dv2)⟩)⟩
end
section
variable {t u:TS} {D:Ends} {σ:St}
theorem gO (h:te σ H λv H1=>u D (σ.set i (some v)) H1):Bc (Cb te (bO i)) u D σ H:=h
theorem pQ (h:t { D with nx:=u D } σ H):Bc t u D σ H:=h
theorem qY {tb:TS} (h:tl σ H λx H1=>∃ a,x=.ref a/\(∃ xs,d9 K H1 a xs)/\∃ W:Nat->Nat->St->Hp->Prop,(∃ m,W 0 m σ H1)/\∀ i m σ H,W i m σ H ->
 ((y4 K a).stop i H/\D.nx σ H)∨((y4 K a).go i H/\∃ N:St->Hp->Prop,(∀ d6 H',N d6 H'->∃ m',m' < m/\W (i+1) m' d6 H')/\∀ x H',(y4 K a).s_ i H x H'->g x σ H' λfc H2=>tb { D with nx:=N,ct:=N,bk:=D.nx } fc H2)):HN (L8 K tl) g tb D σ H:=h
theorem qZ {c:TT} (R:St->Hp->Prop) (body:(∀ d6 H',R d6 H'->u D d6 H')->E5 c t jT { D with nx:=λd6 H'=>u D d6 H' } σ H) (bP:∀ d6 H',R d6 H'->u D d6 H'):Bc (E5 c t jT) u D σ H:=body bP
end
end L2
namespace L2
open PySem PySem.Spec PyProof.Rows
theorem cZ:ji X [] jT:=⟨aS⟩
theorem fZ {c:ba} {a b:List bg} {t u:TS} (hc:PT X c tc) (ha:ji X a t) (hb:ji X b u):Cg X (.If c a b pos) (E5 tc t u):=⟨bJ hc ha.go hb.go⟩
theorem oE {wi:TI} {tb:TS} (hp:ay (ak X.prog X.w) X.A X.env X.xe) (hc:X.calm=true) (hi:PI X tg iter wi) (hg:PG X tg g) (hb:ji X body tb) (hs:∀ x,foldedSetIterable iter X.env x=pure x):Cg X (.For tg iter body [] pos) (HN wi g tb):=⟨iA hp hc hi hg hb.go hs⟩
theorem bG {t u:TS} {D:Ends} {σ:St} (h:∀ u',u'=u->Bc t u' D σ H):Bc t u D σ H:=h u rfl
theorem eV {t u:TS} {D:Ends} {σ:St} (I:St->Hp->Prop) (h1:∀ N:St->Hp->Prop,(∀ d6 H',I d6 H'->N d6 H')->t { D with nx:=N } σ H) (h2:∀ d6 H',I d6 H'->u D d6 H'):Bc t u D σ H:=h1 _ h2
end L2
namespace Ab
open PySem L2
theorem ff.vw {S:List ae} (e:ff t H H') (h:t∈S):aD (Vw S H) (Vw S H'):=Vw.keep λb o n q=>e b o (λz=>n (z ▸ h)) q
section
variable {S:List ae} {σ:St} {t:TA} {tl th:TO}
def ku (K:Rb) (R:au->Prop) (S:List ae) (H:Hp) (z:V):Prop:=∃ d,Den K (Vw S H) d z/\R d
theorem ku.keep {R:au->Prop} {S S':List ae} {z:V} (h:ku K R S H z) (e:aD (Vw S H) (Vw S' H')):ku K R S' H' z:=let ⟨d,h1,h2⟩:=h; ⟨d,e.den _ _ h1,h2⟩
instance {R:au->Prop}:Mo (ku K R S):=⟨λe h=>h.keep (Vw.same e)⟩
theorem ED.dep {R:au->Prop} (h:Al H0 S te σ (ED K S d)) (r:R d):Al H0 S te σ (ku K R S):=h.mono λ_ _ x=>⟨d,x,r⟩
def FH (H0:Hp) (K:Rb) (R:au->Prop) (S:List ae) (n:Nat) (t:TA) (σ:St):Prop:=∀ H,aD H0 H->Fx S H->∀ Q:List V->Hp->Prop,(∀ vs H',aD H H'->vs.length=n->(∀ v∈vs,ku K R S H' v)->Q vs H')->t σ H Q
theorem mC {R:au->Prop}:FH H0 K R S 0 oF σ:=λH _ _ Q k=>k [] H (aD.refl H) rfl (λ_ h=>(Qq h).elim)
theorem aT {R:au->Prop} (h:Al H0 S te σ (ku K R S)) (r:FH H0 K R S n tr σ):FH H0 K R S (n+1) (iM te tr) σ:=λH s f Q k=>h H s f _ λv H1 s1 d1=>r H1 (s.trans s1) (f.same s1) _ λvs H2 s2 l d2 =>
 k (v::vs) H2 (s1.trans s2) (by rw [Jk,l]) λx hx=>by
  rcases Qj.mp hx with rfl | hx
  ·exact d1.keep (Vw.same s2)
  ·exact d2 x hx
structure LI (K:Rb) (R:au->Prop) (S0:List ae) (H0:Hp) (fl:ae) (N:Nat) (H:Hp):Prop where
 same:aD H0 H
 f0:Fx S0 H0
 has:∃ xs,H fl=some (.lst xs)/\xs.length<=N/\∀ z∈xs,ku K R (fl::S0) H z
variable {R:au->Prop} {S0:List ae} {fl:ae} {N M:Nat}
theorem LI.fx (I:LI K R S0 H0 fl N H):Fx (fl::S0) H:=λb hb=>by
 rcases Qj.mp hb with rfl | hb
 ·obtain ⟨xs,h,_⟩:=I.has; exact ⟨_,h⟩
 ·exact (I.f0.same I.same) b hb
theorem LI.next (I:LI K R S0 H0 fl N H) (s:aD H H') (h:N<=M):LI K R S0 H0 fl M H' :=
 ⟨I.same.trans s,I.f0,let ⟨xs,h1,h2,h3⟩:=I.has; ⟨xs,s _ _ h1,Qx h2 h,λz hz=>(h3 z hz).keep (Vw.same s)⟩⟩
theorem LI.app {z:V} (hf:H0 fl=none) (I:LI K R S0 H0 fl N H) (s:aD H H1) (hz:ku K R (fl::S0) H1 z) (hN:N<=1000) :
  ∃ xs,H1 fl=some (.lst xs)/\xs.length < ag/\LI K R S0 H0 fl (N+1) (upd H1 fl (.lst (xs++[z]))):=by
 obtain ⟨xs,h1,h2,h3⟩:=I.has
 refine ⟨xs,s _ _ h1,by rw [Rf]; omega,λb o h=>?_,I.f0,_,aB,by rw [Qe]; show _+1<=_; omega,λy hy=>?_⟩
 ·rw [aF (λe=>by rw [e,hf] at h; cases h)]
  exact s _ _ (I.same _ _ h)
 ·have kp:aD (Vw (fl::S0) H1) (Vw (fl::S0) (upd H1 fl (.lst (xs++[z])))):=ff.vw (t:=fl) ff.at (Qm ..)
  rcases Jd.mp hy with hy | hy
  ·exact ((h3 y hy).keep (Vw.same s)).keep kp
  ·rw [Qu.mp hy]
   exact hz.keep kp
theorem UW {D:Ends} {q:Nat} (hf:H0 fl=none) (I:LI K R S0 H0 fl N H) (hN:N<=1000) (hq:σ[q]?=some (some (.ref fl)))
  (he:Al H (fl::S0) te σ (ku K R (fl::S0))) (k:∀ H',ff fl H H'->LI K R S0 H0 fl (N+1) H'->D.nx σ H'):L9 (Gz K "list" sS (pR q) (iM te oF)) D σ H:=by
 obtain ⟨Gr,h1,_⟩:=I.has
 refine ⟨_,hq,.inl ⟨rfl,_,d9.of h1⟩,IC I.fx he λz H1 s1 hz=>?_⟩
 obtain ⟨xs,e1,e2,I2⟩:=LI.app hf I s1 hz hN
 exact ⟨fl,xs,z,rfl,rfl,e1,e2,k _ ((ff.of s1).trans ff.at) I2⟩
theorem tK {Q:VK} {t:TA} (f:Fx S H) (h:FH H K R S n t σ) (k:∀ p xs H1,aD H H1->H1 p=none->xs.length=n->(∀ x∈xs,ku K R S H1 x)->Q (.ref p) (upd H1 p (.lst xs))) (hn:autoParam (n<=1000) L2.jd):E2 t σ H Q :=
 h H (aD.refl H) f _ λvs H1 s1 l d=>⟨by rw [l]; exact Je (wW hn),λp hp=>k p vs H1 s1 hp l d⟩
theorem LI.begin (f0:Fx S0 H0) (s:aD H0 H1) (hp:H1 p=none) (hN:xs.length<=N) (h:∀ x∈xs,ku K R S0 H1 x):LI K R S0 H0 p N (upd H1 p (.lst xs)):=⟨s.trans (aD.new hp),f0,xs,aB,hN,λz hz=>(h z hz).keep (Vw.grow hp)⟩
theorem Vw.less {S:List ae}:aD (Vw (p::S) H) (Vw S H):=λb o h=>by
 have n:b∉p::S:=λz=>by unfold Vw at h; rw [if_pos z] at h; cases h
 rw [Vw.out n] at h
 rw [Vw.out λz=>n (Qi _ z)]
 exact h
theorem Vw.OU {o:HO} {S:List ae} (hp:H p=none):aD (Vw (fl::S) H) (Vw (p::S) (upd H p o)):=λb u e=>by
 have hb:b∉fl::S:=λz=>by unfold Vw at e; rw [if_pos z] at e; cases e
 rw [Vw.out hb] at e
 have n:b≠p:=λz=>by rw [z,hp] at e; cases e
 rw [Vw.out λz=>by
  rcases Qj.mp z with z | z
  ·exact n z
  ·exact hb (Qi _ z),aF n]
 exact e
def XO (K:Rb) (R:au->Prop) (S:List ae) (m:Nat):Hp->V->Prop:=λH v=>∃ q ys,v=.ref q/\H q=some (.lst ys)/\ys.length<=m/\∀ y∈ys,ku K R S H y
theorem MT {S:List ae} {t:TA} (h:FH H0 K R S n t σ) (hn:autoParam (n<=1000) L2.jd):Al H0 S (E2 t) σ (XO K R S n):=λH s f Q k=>h H s f _ λvs H1 s1 l d=>⟨by rw [l]; exact Je (wW hn),λp hp=>k _ _ (s1.trans (aD.new hp)) ⟨p,vs,rfl,aB,Zn l,λy hy=>(d y hy).keep (Vw.same (aD.new hp))⟩⟩
theorem MS {Q:VK} (hf:H0 fl=none) (I:LI K R S0 H0 fl N H) (hb:Al H (fl::S0) tb σ (XO K R (fl::S0) m)) (hN:N+m<=1000) (k:∀ p H',H0 p=none->aD H H'->LI K R S0 H0 p (N+m) H'->Q (.ref p) H'):tb σ H λy H2=>TJ (.ref fl) y H2 Q :=
 IC I.fx hb λv H1 s1 ⟨q,ys,e,hq,hl,hy⟩=>by
  obtain ⟨xs,h1,h2,h3⟩:=(I.next s1 (Qg _)).has
  refine ⟨fl,q,xs,ys,rfl,e,h1,hq,by rw [Rf]; omega,λp hp=>?_⟩
  have p0:H0 p=none:=by
   cases z:H0 p with
   | none=>rfl
   | some o=>rw [s1 _ _ (I.same _ _ z)] at hp; cases hp
  refine k p _ p0 (s1.trans (aD.new hp)) ⟨I.same.trans (s1.trans (aD.new hp)),I.f0,_,aB,by rw [Qe]; omega,λz hz=>?_⟩
  rcases Jd.mp hz with hz | hz
  ·exact (h3 z hz).keep (Vw.OU hp)
  ·exact (hy z hz).keep (Vw.OU hp)
end
def zU (n:Int) (d:au):Prop:=cB n d=false
def EZ (n:Int) (d:au):Prop:=∀ i,d=.int i->¬ (0<=i/\i < n)
theorem xR {n:Int}:∀ {ds:List au} {last:Int},cU n last ds=true->∀ d∈ds,∃ i,d=.int i/\last < i/\i < n
 | [],_,_,d,hd=>absurd hd (by simp)
 | e::r,last,h,d,hd=>by
  cases e with
  | int i =>
   simp only [cU,Qz,decide_eq_true_eq] at h
   rcases Qj.mp hd with rfl | hd
   ·exact ⟨i,rfl,h.1.1,h.1.2⟩
   ·obtain ⟨j,e,h1,h2⟩:=xR h.2 d hd
    exact ⟨j,e,by omega,h2⟩
  | none=>simp [cU] at h
  | bool b=>simp [cU] at h
  | str b=>simp [cU] at h
  | list b=>simp [cU] at h
  | tuple b=>simp [cU] at h
  | dict b=>simp [cU] at h
theorem zV {n:Int} (hd:d∈ds) (h:EZ n d):zU n (.tuple ds):=by
 refine Bool.eq_false_iff.mpr λe=>?_
 have e2:cU n (-1) ds=true:=by
  have:(!ds.isEmpty && cU n (-1) ds)=true:=e
  rw [Qz] at this
  exact this.2
 obtain ⟨i,ei,h1,h2⟩:=xR e2 d hd
 exact h i ei ⟨by omega,h2⟩
theorem mF {n:Int} (e:ds=l.map .int) (h:¬ l.Pairwise (· < ·)):zU n (.tuple ds):=by
 subst e
 exact Bool.eq_false_iff.mpr λe=>h (bA (l:=l) e).2.2
theorem WC {a b:List Int} {x:Int} (ha:x∈a) (hb:x∈b):¬ (a++b).Pairwise (· < ·):=λh=>by
 have:=(Xy.mp h).2.2 x ha x hb
 omega
theorem aEQ (h:l.Pairwise (· < ·)) (h2:1 < l.length):¬ l.reverse.Pairwise (· < ·):=λg=>by
 match l,h,h2,g with
 | x::y::r,h,_,g =>
  have h1:x < y:=(Jv.mp h).1 y (by simp)
  have h2:=List.pairwise_reverse.mp g
  have h3:y < x:=(Jv.mp h2).1 y (by simp)
  omega
theorem aHs {n:Int} (hn:n<=6) (h:cB n (gH l)=true):l.length<=6:=by
 obtain ⟨_,h2,h3⟩:=bA h
 refine nW 6 l (h3.imp λz=>Ju z) λx hx=>?_
 have:=h2 x hx
 omega
def xS (K:Rb):Sp:=λvs H Q _=>∃ (S:List ae) (t a:ae) (ns:List Int) (N:Nat) (n:Int),vs = [.ref t,.int n]/\Fx S H/\t∈S/\gq K H t a ns N/\N<=700000/\1<=n/\n<=6/\∀ p xs H',H p=none->ff t H H'->gq K H' t a ns (N+10)->H' p=some (.lst xs)->xs.length<=100->(∀ z∈xs,ku K (zU n) (p::S) H' z)->Q (.ref p) H'
theorem hV:c_ ["jar", "hands", "far", "good", "at", "found", "bad"] ["jar", "hands"] (aI qJ):=.of
set_option maxHeartbeats 2000000 in
theorem aBO (G:Fn K mg "_law_e_no_works" qJ ["jar", "hands"] f fd) (B:Bl mg) (nc:Fn K mg "_law_e_scoop" kQ ["jar", "many"] fS dS) (m_:b_ P w K mg base d7 2 fS dS ["jar", "many"] (jN K)) (y6:Fn K mg "_law_e_able" qM ["jar", "hands"] fA dA) (yz:b_ P w K mg base d7 3 fA dA ["jar", "hands"] (rP K)):b_ P w K mg base d7 4 f fd ["jar", "hands"] (xS K):=by
 refine G.fn.oK hV λfh A outer s H vs Q E hr h=>?_
 ·obtain ⟨S,t,a,ns,N,n,rfl,fS,tS,J,hN,n1,n6,k⟩:=h
  have r3:dz 3 _:=hr
  have r2:dz 2 _:=hr.mono (by decide)
  refine ji.ex (aM (cP (i:=2) hV.nd rfl (Or.inl rfl) ⟨(aW nc m_ r2 rfl (aA (pv 0) (aA (aY xU aH aH) aC)))⟩)
   (aM (cP (i:=3) hV.nd rfl (Or.inl rfl) ⟨(aW y6 yz r3 rfl (aA (pv 0) (aA (pv 1) aC)))⟩)
   (aM (cP (i:=4) hV.nd rfl (Or.inl rfl) ⟨(aW nc m_ r2 rfl (aA (pv 0) (aA (aY eF (aL (kR (K:=K) rfl) rfl B.len eQ (aA (pv 3) aC)) aH) aC)))⟩)
   (aM (cP (i:=5) hV.nd rfl (Or.inl rfl) (eK (aG (cO bD) (aG sU (aG dF (aG fF (aG cH (aG ⟨jY⟩ (aG (eK bD) (aG ⟨(cS (wE (K:=K) rfl) rfl B.list pF (aA (pv 3) aC))⟩ (aG (cO (aG (cO (aG dF bD aO)) bD eG)) (aG ⟨(aY (mV (K:=K) rfl) (pv 3) (cC (aA (pv 1) aC)))⟩ (aG ⟨(aY (mV (K:=K) rfl) (pv 3) (mQ (tZ (K:=K) rfl) (pv 3) pT (pU aH)))⟩ (aG cH (aG (cO (aG fF bD aO)) bD eG) aO) jI) jI) eG) aFj) yE) V3) aO) aO) aO) aO) eG)))
   (aM ⟨(cL (kI Rh Ro Rp fP (pv 5) (aA (aY (mV (K:=K) rfl) (VC (K:=K) rfl (pv 3) (pS lP aH)) (pv 3)) aC)))⟩
   (aM (fZ (aP mM (pv 1) aH (aU _)) (bE (cP (i:=5) hV.nd rfl (Or.inl rfl) (mW iD (mW iD ⟨(pv 5)⟩ (eK (aG (cO (aG dF (aG dF bD aO) aO)) (aG (cO (aG ⟨(aY fX (pv 1) aH)⟩ (aG dF bD aO) jI)) bD eG) eG))) (mW U' (eK (aG ⟨(VC (K:=K) rfl (pv 3) (pS lP aH))⟩ bD MN)) ⟨(cS wO rfl B.int Fe (aA (gQ mM (aL (kR (K:=K) rfl) rfl B.len eQ (aA (pv 3) aC)) aH (aU _)) aC))⟩)))) cZ)
   (aM (fZ (aP mM (pv 1) aH (aU _)) (bE (cP (i:=5) hV.nd rfl (Or.inl rfl) (mW iD ⟨(pv 5)⟩ (eK (aG (cO (aG dF (aG dF (aG ⟨(aY fX (pv 1) aH)⟩ bD jI) aO) aO)) (aG (cO (aG dF (aG ⟨(aY fX (pv 1) aH)⟩ (aG dF bD aO) jI) aO)) bD eG) eG))))) cZ)
   (aM (mX ay.never rfl (eK (aG ⟨(pS lP aH)⟩ (aG ⟨(pv 1)⟩ (aG ⟨(aY eF (pv 1) (pv 2))⟩ (aG ⟨(aY fX (pS lP aH) (pv 2))⟩ (aG fF (aG fF (aG sU (aG cH (aG (cO (aG dF bD aO)) (aG (eK (aG dF bD aO)) bD yE) eG) aO) aO) aO) aO) jI) jI) yF) MC)) (aV (i:=6) hV.nd rfl (Or.inl rfl)) (bE ⟨(cL (kI Rh Ro Rp fP (pv 5) (aA (aY (mV (K:=K) rfl) (aY (mV (K:=K) rfl) (mQ (tZ (K:=K) rfl) (pv 3) pT (pU (pv 4))) (cC (aA (pv 6) aC))) (mQ (tZ (K:=K) rfl) (pv 3) (pU (pv 4)) pT)) aC)))⟩) (λ_=>rfl))
   (bE (gR ⟨(pv 5)⟩)))))))))) ?_
  refine bG λu hu=>?_
  refine gO ⟨_,rfl,10,20,rfl,rfl,⟨by decide,by decide,by decide⟩,t,a,ns,N,_,rfl,J,by omega,by decide,by decide,λu_ H1 f0 _ b1 J1=>?_⟩
  subst hu
  refine bG λu hu=>?_
  refine gO ⟨_,rfl,_,rfl,t,a,ns,_,n,rfl,J1,by omega,n1,n6,λl p H2 pj b2 J2 rh=>?_⟩
  obtain ⟨l0,lb,lp⟩:=bA pj
  have l6:=aHs n6 pj
  subst hu
  refine bG λu hu=>?_
  refine gO ⟨_,rfl,_,rfl,p,_,rfl,.inr rh,_,1,rfl,rfl,t,a,ns,_,_,rfl,J2,by omega,by omega,Xk (show (((l.map V.int).length:Int)+1).natAbs<=7 by rw [Qc]; omega) (by decide +kernel),λS5 H3 a0 aN b3 J3=>?_⟩
  obtain ⟨m,rfl⟩:∃ m:Nat,S5=m:=⟨S5.toNat,by omega⟩
  obtain ⟨OF,U?⟩:=J2.lst
  have hp:=b3.dk U? rh
  have LM:ff t H H3:=(b1.trans b2).trans b3
  obtain ⟨YE,DG⟩:=J3.lst
  have fx:Fx S H3:=λb hb=>by
   by_cases c:b=t
   ·rw [c]; exact ⟨_,DG⟩
   ·obtain ⟨ys,hy⟩:=fS b hb; exact ⟨ys,LM _ _ c hy⟩
  have dg:∀ {T:List ae} {H4:Hp},aD H3 H4->Fx T H4->Den K (Vw T H4) (.tuple (l.map .int)) (.ref p):=λs f=>bC.mpr ⟨p,_,rfl,f.dk (s.dk hp),cJ.mpr rfl⟩
  obtain ⟨x0,r0,rfl⟩:∃ x r,l=x::r:=by
   cases l with
   | nil=>exact absurd rfl l0
   | cons x r=>exact ⟨x,r,rfl⟩
  have hn:EZ n (.int n):=λi e=>by injection e with e; omega
  have Hz:Den K (Vw S H3) (.tuple ((x0::r0).map .int)) (.ref p):=dg (aD.refl _) fx
  have lz:((x0::r0).map au.int).length<=6:=by rw [Qc]; exact l6
  generalize mf:x0::r0=l at *
  have IW:x0∈l:=by rw [<- mf]; simp
  subst hu
  refine bG λu hu=>?_
  refine gO (tK (K:=K) (R:=zU n) (n:=13) fx
   (aT (ED.dep (iV eM) rfl) (aT (ED.dep zS rfl) (aT (ED.dep dJ rfl) (aT (ED.dep sM rfl) (aT (ED.dep vV rfl) (aT (ED.dep VB rfl) (aT (ED.dep (zT eM) rfl)
   (aT (ED.dep (aDf (kT rfl Hz)) rfl) (aT (ED.dep (iV (cF (iV (cF dJ eM)) eM)) rfl)
   (aT (ED.dep (vX (kT rfl Hz) (iV (cF (jB rfl) eM)) (by simp; omega)) (zV (d:=.int n) (by simp) hn))
   (aT (ED.dep (vX (kT rfl Hz) (UP (m:=1) (kT rfl Hz) aGb) (by simp; omega)) (mF (l:=l++l.take 1) (by rw [Qt,List.map_take]) (WC IW (by rw [<- mf]; simp))))
   (aT (ED.dep vV rfl) (aT (ED.dep (iV (cF sM eM)) (zV (d:=.bool false) (by simp) (λi e=>by cases e))) mC))))))))))))) λfl xs H4 s4 Es hl hx=>?_)
  have I:=LI.begin (N:=13) fx s4 Es (Zn hl) hx
  have f0:H3 fl=none:=by
   cases z:H3 fl with
   | none=>rfl
   | some o=>rw [s4 _ _ z] at Es; cases Es
  generalize upd H4 fl (.lst xs)=H5 at I ⊢
  subst hu
  refine bG λu hu=>?_
  refine pQ (UW f0 I (by omega) rfl (ED.dep (vX (UX (kT rfl (dg I.same I.fx)) VD) (kT rfl (dg I.same I.fx)) (by simp; omega)) (mF (l:=l.reverse++l) (by rw [Qt,Yt]) (WC (List.mem_reverse.mpr IW) IW))) λH6 b6 I6=>?_)
  have I6:=I6.next (aD.refl _) (show 14<=14 by omega)
  have GF:∀ {T:List ae} {H7:Hp},aD H3 H7->Fx T H7->Al H7 T (HG K (pR 3) (Gx (rU λi=>.int (-i)) (tC (.int 1)))) [some (.ref t),some (.int n),some (.int u_),some (.ref p),some (.int m),some (.ref fl),none] (ED K T (.tuple (l.map .int).reverse)):=λs f=>UX (kT rfl (dg s f)) VD
  dsimp only
  subst hu
  refine bG λu hu=>?_
  refine qZ (λd6 H'=>∃ fl,H3 fl=none/\d6 = [some (.ref t),some (.int n),some (.int u_),some (.ref p),some (.int m),some (.ref fl),none]/\LI K (zU n) S H3 fl 17 H') (λbP=>?_) ?_
  ·refine ⟨_,rfl,n,1,rfl,rfl,_,rfl,?_⟩
   by_cases h1:1 < n
   ·refine eI (decide_eq_true h1) ⟨_,rfl,MS (m:=2) f0 I6 (MT (aT (ED.dep (iV (cF dJ (cF dJ eM))) (mF (l:=[1,0]) rfl (by simp))) (aT (ED.dep (iV (cF (vW (jB rfl) dJ) (cF dJ eM))) (mF (l:=[n - 1,0]) rfl (by simp; omega))) mC))) (by omega) λp1 H7 JT s7 I7=>?_⟩
    refine MS (m:=1) JT I7 (λH8 s8 f8 Q8 k8=>?_) (by omega) λp2 H8 ZC s8 I8=>?_
    ·dsimp only [y_]
     refine IC f8 (MT (R:=λd=>1 < l.length->zU n d) (n:=1) (aT (ED.dep (GF (I7.same.trans s8) f8) λh=>mF (l:=l.reverse) (by rw [Yt]) (aEQ lp h)) mC)) λv H9 s9 ⟨q,ys,ev,hq,PL,hy⟩=>?_
     subst ev
     refine ⟨_,rfl,p,_,rfl,.inr ((I7.same.trans (s8.trans s9)).dk hp),_,1,rfl,rfl,.inr ⟨_,rfl,?_⟩⟩
     refine ⟨q,_,ys,rfl,rfl,hq,?_,?_,?_,λr hr=>?_⟩
     ·split <;> decide
     ·split <;> decide
     ·rw [Rf]; split <;> simp <;> omega
     ·refine k8 _ _ (s9.trans (aD.new hr)) ⟨r,_,rfl,aB,?_,λy rf=>?_⟩
      ·split <;> simp <;> omega
      ·by_cases h2:1 < l.length
       ·rw [decide_eq_true (by rw [Qc]; omega)] at rf
        obtain ⟨d,my,hd2⟩:=hy y (by simpa using rf)
        exact ⟨d,(Vw.same (aD.new hr)).den _ _ my,hd2 h2⟩
       ·rw [decide_eq_false (by rw [Qc]; omega)] at rf
        simp at rf
    ·exact bP _ _ ⟨p2,ZC,rfl,I8⟩
   ·exact bK (decide_eq_false h1) (bP _ _ ⟨fl,f0,rfl,I6.next (aD.refl _) (by omega)⟩)
  clear I6 GF
  rintro d6 H7 ⟨fl,f0,rfl,I7⟩
  subst hu
  refine bG λu hu=>?_
  refine qZ (λd6 H'=>∃ fl,H3 fl=none/\d6 = [some (.ref t),some (.int n),some (.int u_),some (.ref p),some (.int m),some (.ref fl),none]/\LI K (zU n) S H3 fl 19 H') (λbP=>?_) ?_
  ·refine ⟨_,rfl,n,2,rfl,rfl,_,rfl,?_⟩
   by_cases h1:2 < n
   ·exact eI (decide_eq_true h1) ⟨_,rfl,MS (m:=2) f0 I7 (MT (aT (ED.dep (iV (cF dJ (cF dJ (cF (vW (jB rfl) dJ) eM)))) (mF (l:=[1,0,n - 1]) rfl (λh=>by have:=(Jv.mp h).1 0 (by simp); omega))) (aT (ED.dep (iV (cF dJ (cF (vW (jB rfl) dJ) (cF dJ eM)))) (mF (l:=[0,n - 1,1]) rfl (λh=>by have:=(Jv.mp (Jv.mp h).2).1 1 (by simp); omega))) mC))) (by omega) λp1 H8 JT s8 I8=>bP _ _ ⟨p1,JT,rfl,I8⟩⟩
   ·exact bK (decide_eq_false h1) (bP _ _ ⟨fl,f0,rfl,I7.next (aD.refl _) (by omega)⟩)
  clear I7 H7
  rintro d6 H7 ⟨fl,f0,rfl,I7⟩
  subst hu
  refine pQ (qY ?_)
  refine tK (K:=K) (R:=EZ n) (n:=10) I7.fx (aT (ED.dep (E_ (g:=λi=>-i) dJ) (λi e=>by injection e with e; omega)) (aT (ED.dep (jB rfl) hn) (aT (ED.dep (vW (jB rfl) (jB rfl)) (λi e=>by injection e with e; omega)) (aT (ED.dep (vW (E_ (g:=λi=>-i) dJ) (jB rfl)) (λi e=>by injection e with e; omega))
   (aT (ED.dep sM (λi e=>by cases e)) (aT (ED.dep sM (λi e=>by cases e)) (aT (ED.dep zS (λi e=>by cases e)) (aT (ED.dep vV (λi e=>by cases e)) (aT (ED.dep (iV (cF dJ eM)) (λi e=>by cases e)) (aT (ED.dep (zT (cF dJ eM)) (λi e=>by cases e)) mC)))))))))) λlp ys H8 s8 i5 PL hy=>?_
  have I8:=I7.next (s8.trans (aD.new (o:=.lst ys) i5)) (Qg _)
  have nl:lp≠fl:=λz=>by
   obtain ⟨Gs,h1,_⟩:=I7.has
   rw [z,s8 _ _ h1] at i5; cases i5
  have PM:∀ y∈ys,ku K (EZ n) (fl::S) (upd H8 lp (.lst ys)) y:=λy h=>(hy y h).keep (Vw.same (aD.new i5))
  have e8:upd H8 lp (.lst ys) lp=some (.lst ys):=aB
  generalize upd H8 lp (.lst ys)=H9 at I8 PM e8 ⊢
  refine ⟨lp,rfl,⟨_,d9.of e8⟩,jC (K:=K) (a:=lp) (xs:=ys) (λi σ H'=>∃ v6,σ = [some (.ref t),some (.int n),some (.int u_),some (.ref p),some (.int m),some (.ref fl),v6]/\LI K (zU n) S H3 fl (19+i) H'/\H' lp=some (.lst ys)/\∀ y∈ys,ku K (EZ n) (fl::S) H' y) ⟨none,rfl,I8,e8,PM⟩ (λi σ H' _ ⟨_,_,_,h,_⟩=>d9.of h) ?_ ?_⟩
  ·rintro i x σ H' hx ⟨v6,rfl,I',e',rf⟩
   have hi:i < ys.length:=(Qa.mp hx).1
   obtain ⟨d,hd,jq⟩:=rf x (Qd hx)
   dsimp only [bO]
   have SE:=dg I'.same I'.fx
   refine UW f0 I' (by omega) rfl (ED.dep (vX (vX (UP (m:=m) (kT rfl SE) (rG (R:=λ_ v=>v=.int m) rfl rfl)) (iV (cF (kT rfl hd) eM)) (by simp; omega)) (aGc (m:=m) (kT rfl SE) (rG (R:=λ_ v=>v=.int m) rfl rfl)) (by simp; omega)) (zV (d:=d) (by simp) jq)) λNj A' Cp=>?_
   exact ⟨_,rfl,Cp,A' _ _ nl e',λy h=>(rf y h).keep (ff.vw A' (by simp))⟩
  ·rintro σ H' ⟨v6,rfl,I',_,_⟩
   obtain ⟨Gs,h1,h2,h3⟩:=I'.has
   have nt:fl≠t:=λz=>by rw [z,DG] at f0; cases f0
   refine ⟨_,rfl,k fl Gs H' ?_ (LM.trans (ff.of I'.same)) ((J3.same I'.same).more (by omega)) h1 (by omega) h3⟩
   cases z:H fl with
   | none=>rfl
   | some o=>rw [LM _ _ nt z] at f0; cases f0
end Ab
namespace L2
open PySem PySem.Spec PyProof.Rows
def LZ (K:Rb) (H:Hp) (v u:V):Prop:=(∃ d,Den K H d v/\Den K H d u/\eP d=true/\SeqAt.shaped d=true)∨∃ (a b:ae) (k1 k2:List (Key×V)),v=.ref a/\u=.ref b/\Rd H a (.dK k1)/\Rd H b (.dK k2)/\uj K H k1 k2
theorem aES {σ:St} {u:V} {x y:aa} (I:Inv X a_ σ H s) (hu:X.A.units+100 < cm) (h:LZ X.K H v u) (rx:bR v x) (ry:bR u y):SeqAt.EqAt X.A.in1 s x y true:=by
 rcases h with ⟨d,d1,d2,nd,sh⟩ | ⟨a1,b1,k1,k2,rfl,rfl,e1,e2,S⟩
 ·obtain ⟨as,ra⟩:=Den.reads I d _ _ nd d1 rx
  obtain ⟨bs,rb⟩:=Den.reads I d _ _ nd d2 ry
  have q1:=Mv (A:=X.A) ra rb sh sh (by show X.A.units+1+64 < cm; omega)
  rw [Ug d (SeqAt.canLay_of_shaped sh)] at q1
  exact q1
 ·cases rx
  cases ry
  obtain ⟨z1,my,v1,r1,d1⟩:=jD I.d_ e1
  obtain ⟨z2,hd2,v2,r2,d2⟩:=jD I.d_ e2
  have hl:v1.length=v2.length:=by rw [<- r1.length,<- r2.length,S.len]
  by_cases c:a1=b1
  ·rw [c]; exact SeqAt.EqAt.same _
  ·refine SeqAt.EqAt.of_refs c λprog w E Q hq=>?_
   refine PySem.W.keq_eq (knd:=bF prog w) (A:=X.A.in1) my hd2 (uR d1 (U_ r1 S.int)) (uR d2 (U_ r2 S.NC)) (by show X.A.units+1 < cm; omega) (λ_=>xD I r2 (by show X.A.units+1+1+64 < cm; omega) r1 S.val) ?_
   rw [hl,beq_self_eq_true]; exact hq
def WX (K:Rb):R2:=λx y H Q=>∃ (a b:ae) (xs ys:List V),x=.ref a/\y=.ref b/\d9 K H a xs/\d9 K H b ys/\xs.length=ys.length/\(∀ (i:Nat) v u,xs[i]?=some v->ys[i]?=some u->LZ K H v u)/\Q (.bl false) H
theorem aBP (hu:X.A.units+100 < cm):iy X (bh .NotEq) (WX X.K):=by
 intro a_ s σ H x y v u Q I rx ry h
 obtain ⟨a,b,xs,ys,rfl,rfl,t1,t2,hl,hs,q⟩:=h
 cases rx
 cases ry
 obtain ⟨dj,rv,p1,_⟩:=I.list t1
 obtain ⟨ni,By,p2,_⟩:=I.list t2
 have el:dj.length=ni.length:=by rw [<- rv.length,<- By.length,hl]
 have he:∀ j (h1:j < dj.toArray.size) (h2:j < ni.toArray.size),SeqAt.EqAt X.A.in1 s dj.toArray[j] ni.toArray[j] ((λ_=>true) j):=λj h1 h2=>by
  have u9:j < dj.length:=by simpa using h1
  have pq:j < ni.length:=by simpa using h2
  obtain ⟨v,hv⟩:∃ v,xs[j]?=some v:=⟨_,Qb (by rw [rv.length]; exact u9)⟩
  obtain ⟨u,PY⟩:∃ u,ys[j]?=some u:=⟨_,Qb (by rw [By.length]; exact pq)⟩
  obtain ⟨x,hx,r1⟩:=rv.get hv
  obtain ⟨y,hy,r2⟩:=By.get PY
  have e1:dj.toArray[j]=x:=by
   rw [Qb u9] at hx
   simpa using hx
  have e2:ni.toArray[j]=y:=by
   rw [Qb pq] at hy
   simpa using hy
  rw [e1,e2]
  exact aES I hu (hs j v u hv PY) r1 r2
 have:=SeqAt.RcNeAt.lists (e:=λ_=>true) p1.isList p2.isList (by simpa using el) (by omega) he X.prog X.w (E:=X.xe) (Q:=EP X a_ σ Q)
 refine this ?_
 have e:(!(List.range dj.toArray.size).all (λ_=>true))=false:=by simp
 rw [e]
 exact ⟨.bl false,H,I,rfl,q⟩
end L2
namespace Ab
open PySem L2
theorem aET (hD:D.nums.Nodup) (hh:D.hs.length=D.nums.length) (hw:D.ws.length=D.nums.length):∀ {wd:Wd} {v u:V},wd≠.levels->jO K D H0 H wd v->jO K D H1 H wd u->LZ K H v u
 | .gv,v,u,_,⟨p,ts,e1,_,h1,l1,g1⟩,⟨q,o_,e2,_,h2,l2,g2⟩=>.inr ⟨p,q,_,_,e1,e2,.inl h1,.inl h2,VH hD l1 l2 hw g1 g2⟩
 | .kg,v,u,_,⟨p,e1,_,h1⟩,⟨q,e2,_,h2⟩=>.inr ⟨p,q,_,_,e1,e2,.inl h1,.inl h2,aF4 hD hh⟩
 | .i7,v,u,_,⟨p,e1,h1⟩,⟨q,e2,h2⟩=>.inl ⟨.tuple ((bT D.n D.hs).map .int),bC.mpr ⟨p,_,e1,h1,cJ.mpr rfl⟩,bC.mpr ⟨q,_,e2,h2,cJ.mpr rfl⟩,iJ _,iI _⟩
 | .levels,_,_,n,_,_=>absurd rfl n
 | .moved,v,u,_,⟨p,e1,h1⟩,⟨q,e2,h2⟩=>.inl ⟨.tuple ([D.ml,D.ma].map .int),bC.mpr ⟨p,_,e1,h1,cJ.mpr rfl⟩,bC.mpr ⟨q,_,e2,h2,cJ.mpr rfl⟩,iJ _,iI _⟩
noncomputable def BB:List Wd:=[.gv,.kg,.i7,.moved]
def MR:Sp:=λvs H Q _=>∃ (fp:ae) (kvs:List (Key×V)),vs = [.ref fp]/\H fp=some (.dK kvs)/\(∀ wd:Wd,∃ v,bX kvs (.inr wd.str)=some v)/\∀ l xs H',aD H H'->H l=none->H' l=some (.lst xs)->(xs.length=4/\∀ (i:Nat) wd x,BB[i]?=some wd->xs[i]?=some x->bX kvs (.inr wd.str)=some x)->Q (.ref l) H'
theorem aHt:c_ ["found"] ["found"] (aI Fd):=.of
theorem aGd (G:Fn K mg "_law_e_kept" Fd ["found"] f fd) (B:Bl mg):b_ P w K mg base d7 1 f fd ["found"] MR:=by
 refine G.fn.oK aHt λfh A outer s H vs Q E hr h=>?_
 ·obtain ⟨fp,kvs,rfl,hf,hv,k⟩:=h
  refine ⟨_,(aJ (aR (gF (own:=["word"]) (fr:=[0]) (fk:=["found"]) (bL (aI Fd) ["found"] rfl rfl (by decide +kernel)) rfl (hX (gW (aA aK (aA aK (aA aK (aA aK aC))))))
    (λ_ _ _ _=>(aV (i:=0) (show (["word", "found"]:List ax).Nodup by decide +kernel) rfl (Or.inl rfl))) (λ_ _ _ _=>eO)
    (λ_ _ _ _=>(aQ (bV hr) (pv 1) (pv 0) (λ_ _=>rfl)))))),?_⟩
  refine ⟨OT _ _ _ _,λlw yl=>⟨lw,rfl,⟨_,d9.of aB⟩,?_⟩⟩
  have s1:=aD.new (o:=.lst [.str "works",.str "deal",.str "loads",.str "moved"]) yl
  have e1:upd H lw (.lst [.str "works",.str "deal",.str "loads",.str "moved"]) lw=some (.lst (BB.map λwd=>V.str wd.str)):=aB
  generalize upd H lw (.lst [.str "works",.str "deal",.str "loads",.str "moved"])=H1 at s1 e1 ⊢
  refine nN (K:=K) (a:=lw) (xs:=BB.map λwd=>V.str wd.str) (λσ=>∃ u,σ = [u,some (.ref fp)]) (λi ys H'=>H'=H1/\ys.length=i/\∀ (j:Nat) wd x,BB[j]?=some wd->ys[j]?=some x->bX kvs (.inr wd.str)=some x) (by rw [Rf]; decide) ⟨none,rfl⟩ ⟨rfl,rfl,λj wd x _ h=>by simp at h⟩ (λi ys H' h=>Zn h.2.1) (λi ys H' h=>by rw [h.1]; exact d9.of e1) ?_ ?_
  ·rintro i ys σ x H' hx ⟨u,rfl⟩ ⟨rfl,hl,hy⟩ hz
   rw [Qh] at hx
   obtain ⟨wd,AM,rfl⟩:=Qp.mp hx
   obtain ⟨v,ev⟩:=hv wd
   refine cR ?_
   have dg:kF H' fp (V.str wd.str) (some v):=by rw [<- ev]; exact kF.k (k:=.inr wd.str) (s1 _ _ hf)
   refine ⟨_,rfl,_,rfl,fp,v,rfl,dg,hz,⟨_,rfl⟩,rfl,by rw [Qe,hl]; rfl,λj Gu x hj e_=>?_⟩
   rcases Nat.lt_or_ge j ys.length with c | c
   ·rw [Ql c] at e_
    exact hy j Gu x hj e_
   ·rw [Qo c] at e_
    have ej:j - ys.length=0:=by
     have:=(Qa.mp e_).1
     simp at this
     omega
    rw [ej] at e_
    have:j=i:=by omega
    subst this
    rw [AM] at hj
    cases hj
    cases (show v=x by simpa using e_)
    exact ev
  ·rintro ys H' ⟨rfl,hl,hy⟩ l mf
   have Dr:H l=none:=by
    cases z:H l with
    | none=>rfl
    | some o=>rw [s1 _ _ z] at mf; cases mf
   exact k l ys _ (s1.trans (aD.new mf)) Dr aB ⟨by rw [hl]; rfl,hy⟩
theorem zP.same (s:aD H H') (h:zP K H dp D j):zP K H' dp D j:=by
 rcases h with ⟨v,d,h1,h2,h3⟩ | ⟨v,d,h1,h2,h3⟩ | ⟨h1,h2⟩ | ⟨h1,h2⟩
 ·exact .inl ⟨v,d,s.dk h1,s.den _ _ h2,h3⟩
 ·exact .inr (.inl ⟨v,d,s.dk h1,s.den _ _ h2,h3⟩)
 ·exact .inr (.inr (.inl ⟨s.dk h1,h2⟩))
 ·exact .inr (.inr (.inr ⟨s.dk h1,h2⟩))
def wL (K:Rb) (D:DD) (S:List ae) (H:Hp) (x:V):Prop:=∃ r dp j t,x=.ref r/\d8 K (Vw S H) r [.ref dp,.str t]/\j < 11/\sL[j]?=some t/\zP K (Vw S H) dp D j
theorem wL.keep {S S':List ae} {x:V} (s:aD (Vw S H) (Vw S' H')) (h:wL K D S H x):wL K D S' H' x:=let ⟨r,dp,j,t,h1,h2,h3,h4,h5⟩:=h; ⟨r,dp,j,t,h1,s.dk h2,h3,h4,h5.same s⟩
section
variable {S:List ae} {σ:St} {tu:TE} {w:ax} {a rl:ae} {N N' M M':Nat}
def FG (K:Rb) (D:DD) (S:List ae) (j:Nat) (H:Hp) (v:V):Prop:=∃ dp,v=.ref dp/\zP K (Vw S H) dp D j
theorem aHu (h:Al H0 S te σ (ku K (λd=>cB D.n d=false) S)):Al H0 S (Bb (iM (tC (.str "put")) (iM te oF))) σ (FG K D S 0):=λH s f Q k=>h H s f _ λv H1 s1 ⟨d,hd,hn⟩=>⟨kc _ _,λp hp=>k _ _ (s1.trans (aD.new hp)) ⟨p,rfl,.inl ⟨v,d,d8.of (Vw.at (f.same s1) hp),(Vw.same (aD.new hp)).den _ _ hd,.inl ⟨hn,rfl⟩⟩⟩⟩
theorem aGe (h:Al H0 S te σ (ku K (λd=>∀ num,d=.int num->num∉D.nums) S)):Al H0 S (Bb (iM (tC (.str "take")) (iM te oF))) σ (FG K D S 9):=λH s f Q k=>h H s f _ λv H1 s1 ⟨d,hd,hn⟩=>⟨kc _ _,λp hp=>k _ _ (s1.trans (aD.new hp)) ⟨p,rfl,.inr (.inl ⟨v,d,d8.of (Vw.at (f.same s1) hp),(Vw.same (aD.new hp)).den _ _ hd,hn,rfl⟩)⟩⟩
theorem aGf (h:D.n=6):Al H0 S (Bb (iM (tC (.str "come")) oF)) σ (FG K D S 10):=λH s f Q k=>⟨md 1 (by decide) |> Je,λp hp=>k _ _ (aD.new hp) ⟨p,rfl,.inr (.inr (.inl ⟨d8.of (Vw.at f hp),h,rfl⟩))⟩⟩
theorem aGg (h:D.n=1∨∃ l∈D.ws,D.n - 1∈l):Al H0 S (Bb (iM (tC (.str "go")) oF)) σ (FG K D S 3):=λH s f Q k=>⟨md 1 (by decide) |> Je,λp hp=>k _ _ (aD.new hp) ⟨p,rfl,.inr (.inr (.inr ⟨d8.of (Vw.at f hp),h,rfl⟩))⟩⟩
theorem tL (h:Al H0 S tu σ (FG K D S j)) (hj:j < 11) (ht:sL[j]?=some w):Al H0 S (Bb (iM tu (iM (tC (.str w)) oF))) σ (wL K D S):=λH s f Q k=>h H s f _ λv H1 s1 ⟨dp,e,hb⟩=>⟨kc _ _,λr hr=>k _ _ (s1.trans (aD.new hr)) ⟨r,dp,j,w,rfl,by rw [<- e]; exact d8.of (Vw.at (f.same s1) hr),hj,ht,hb.same (Vw.same (aD.new hr))⟩⟩
structure RI (K:Rb) (D:DD) (t a:ae) (ns:List Int) (rl:ae) (H0:Hp) (N M:Nat) (H:Hp):Prop where
 but:ff t H0 H
 gm:gq K H t a ns N
 has:∃ xs,H rl=some (.lst xs)/\xs.length<=M/\∀ x∈xs,wL K D [rl,t] H x
theorem RI.fx (I:RI K D t a ns rl H0 N M H):Fx [rl,t] H:=λb hb=>by
 rcases Qj.mp hb with rfl | hb
 ·obtain ⟨xs,h,_⟩:=I.has; exact ⟨_,h⟩
 ·rw [Qu.mp hb]; exact I.gm.lst
theorem RI.same (I:RI K D t a ns rl H0 N M H) (s:aD H H'):RI K D t a ns rl H0 N M H':=⟨I.but.trans (ff.of s),I.gm.same s,let ⟨xs,h1,h2,h3⟩:=I.has; ⟨xs,s _ _ h1,h2,λx hx=>(h3 x hx).keep (Vw.same s)⟩⟩
theorem RI.up (I:RI K D t a ns rl H0 N M H) (h:N<=N'/\M<=M':=by omega):RI K D t a ns rl H0 N' M' H:=⟨I.but,I.gm.more h.1,let ⟨xs,h1,h2,h3⟩:=I.has; ⟨xs,h1,Qx h2 h.2,h3⟩⟩
theorem RI.Ct (I:RI K D t a ns rl H0 N M H) (n:rl≠t) (b:ff t H H') (J:gq K H' t a ns N'):RI K D t a ns rl H0 N' M H':=⟨I.but.trans b,J,let ⟨xs,h1,h2,h3⟩:=I.has; ⟨xs,b _ _ n h1,h2,λx hx=>(h3 x hx).keep (ff.vw b (by simp))⟩⟩
theorem aBR {o:HO} (J0:gq K H0 t a ns M) (J:gq K H t a ns N) (h0:H0 rl=none) (n:rl≠t):gq K (upd H rl o) t a ns N:=by
 obtain ⟨⟨p,q,h1,h2,h3⟩,g⟩:=J
 refine ⟨⟨p,q,h1,h2,(aF n.symm).trans h3⟩,?_⟩
 by_cases c:a=rl
 ·subst c
  rcases J0.2 with (z | ⟨_,z⟩) | z
  ·rw [h0] at z; cases z
  ·rw [h0] at z; cases z
  ·exact .inr z
 ·rcases g with (z | ⟨o,z⟩) | z
  ·exact .inl (.inl ((aF c).trans z))
  ·exact .inl (.inr ⟨o,(aF c).trans z⟩)
  ·exact .inr z
theorem VW {x:V} {R:V->Hp->Prop} (J0:gq K H0 t a ns M') (h0:H0 rl=none) (n:rl≠t) (I:RI K D t a ns rl H0 N M H) (hM:M<=1000) (hx:wL K D [rl,t] H x) (k:∀ H2,ff rl H H2->RI K D t a ns rl H0 N (M+1) H2->R .ft H2):sS (.ref rl) [x] H R:=by
 obtain ⟨xs,h1,h2,h3⟩:=I.has
 have b:ff rl H (upd H rl (.lst (xs++[x]))):=ff.at
 refine ⟨rl,xs,x,rfl,rfl,h1,by rw [Rf]; omega,k _ b ⟨λc u hc he=>?_,aBR J0 I.gm h0 n,_,aB,by rw [Qe]; show _+1<=_; omega,λy hy=>?_⟩⟩
 ·exact b c u (λz=>by rw [z,h0] at he; cases he) (I.but c u hc he)
 ·have kp:aD (Vw [rl,t] H) (Vw [rl,t] (upd H rl (.lst (xs++[x])))):=ff.vw b (by simp)
  rcases Jd.mp hy with hy | hy
  ·exact (h3 y hy).keep kp
  ·rw [Qu.mp hy]; exact hx.keep kp
theorem zW {q:Nat} {Dn:Ends} (J0:gq K H0 t a ns M') (h0:H0 rl=none) (n:rl≠t) (I:RI K D t a ns rl H0 N M H) (hM:M<=1000) (hq:σ[q]?=some (some (.ref rl))) (he:Al H [rl,t] te σ (wL K D [rl,t])) (k:∀ H2,ff rl H H2->RI K D t a ns rl H0 N (M+1) H2->Dn.nx σ H2):L9 (Gz K "list" sS (pR q) (iM te oF)) Dn σ H:=by
 obtain ⟨Gr,e0,_⟩:=I.has
 exact ⟨_,hq,.inl ⟨rfl,_,d9.of e0⟩,IC I.fx he λz H1 s1 hz=>VW J0 h0 n (I.same s1) hM hz λH2 b2 I2=>k H2 ((ff.of s1).trans b2) I2⟩
end
def rX (K:Rb) (C:ae):Sp:=λvs H Q _=>∃ (t a:ae) (ns:List Int) (N:Nat) (Pt Pl x sp:ae) (D:DD) (S:SD),vs = [.ref t,.ref sp]/\Wn K H C t a ns N Pt Pl x sp D S/\N<=500000/\S.fg<=100/\∀ rl xs H',H rl=none->ff t H H'->gq K H' t a ns (N+40)->H' rl=some (.lst xs)->xs.length<=400->(∀ x∈xs,wL K D [rl,t] H' x)->Q (.ref rl) H'
theorem iW:c_ ["jar", "state", "rows", "some", "far", "taken", "number", "last"] ["jar", "state"] (aI lD):=.of
set_option maxHeartbeats 2000000 in
theorem aBS (G:Fn K mg "_law_e_refused" lD ["jar", "state"] f fd) (B:Bl mg) (nc:Fn K mg "_law_e_scoop" kQ ["jar", "many"] fS dS) (m_:b_ P w K mg base d7 2 fS dS ["jar", "many"] (jN K)) (y6:Fn K mg "_law_e_able" qM ["jar", "hands"] fA dA) (yz:b_ P w K mg base d7 3 fA dA ["jar", "hands"] (rP K)) (GNw:Fn K mg "_law_e_no_works" qJ ["jar", "hands"] fW dW) (ONw:b_ P w K mg base d7 4 fW dW ["jar", "hands"] (xS K)):b_ P w K mg base d7 5 f fd ["jar", "state"] (rX K C):=by
 refine G.fn.oK iW λfh A outer s H vs Q E hr h=>?_
 ·obtain ⟨t,a,ns,N,Pt,Pl,x,sp,D,S,rfl,W,hN,aag,k⟩:=h
  have r4:dz 4 _:=hr
  have r3:dz 3 _:=hr.mono (by decide)
  have r2:dz 2 _:=hr.mono (by decide)
  have hu:=bV hr
  refine ji.ex (aM (cP (i:=2) iW.nd rfl (Or.inl rfl) (eK bD))
   (aM (oE ay.never rfl (hX (aW GNw ONw r4 rfl (aA (pv 0) (aA (aQ (bV hr) (pv 1) aK (λ_ _=>rfl)) aC)))) (aV (i:=3) iW.nd rfl (Or.inl rfl)) (bE ⟨(cL (kI Rh Ro Rp fP (pv 2) (aA (cC (aA (cC (aA aK (aA (pv 3) aC))) (aA aK aC))) aC)))⟩) (λ_=>rfl))
   (aM (fZ (aP dY (aL lA rfl B.len eQ (aA (aQ (bV hr) (pv 1) aK (λ_ _=>rfl)) aC)) aH (aU _)) (bE ⟨(cL (kI Rh Ro Rp fP (pv 2) (aA (cC (aA (cC (aA aK (aA (aW y6 yz r3 rfl (aA (pv 0) (aA (aQ (bV hr) (pv 1) aK (λ_ _=>rfl)) aC))) aC))) (aA aK aC))) aC)))⟩) cZ)
   (aM (cP (i:=4) iW.nd rfl (Or.inl rfl) ⟨(aW nc m_ r2 rfl (aA (pv 0) (aA (aY xU aH aH) aC)))⟩)
   (aM ⟨(lR (i:=5) (own:=["number"]) (fr:=[1]) (fk:=["state"]) (bL (aI lD) ["jar", "state", "rows", "some", "far", "taken", "number", "last"] rfl rfl (by decide +kernel)) rfl iW.nd rfl rfl rfl (eD rfl B.range (aA (aQ (bV hr) (pv 1) aK (λ_ _=>rfl)) aC)) (λ_ _ _ _=>(aV (i:=0) (show (["number", "state"]:List ax).Nodup by decide +kernel) rfl (Or.inl rfl))) (λ_ _ _ _=>yA (rB (nQ (bV hr) (pv 0) (aQ (bV hr) (pv 1) aK (λ_ _=>rfl))) (by with_unfolding_all rfl))) (λ_ _ _ _=>(pv 0)))⟩
   (aM (mX ay.never rfl (mW iD ⟨(pv 5)⟩ (eK (aG ⟨(aQ (bV hr) (pv 1) aK (λ_ _=>rfl))⟩ (aG ⟨(aY eF (aQ (bV hr) (pv 1) aK (λ_ _=>rfl)) (pv 4))⟩ (aG ⟨(pS lP aH)⟩ (aG ⟨(aY fX (pS lP aH) (pv 4))⟩ (aG fF (aG fF (aG sU (aG cH (aG (cO (aG dF bD aO)) (aG (eK (aG dF bD aO)) bD yE) eG) aO) aO) aO) aO) jI) MC) jI) MN))) (aV (i:=6) iW.nd rfl (Or.inl rfl)) (bE ⟨(cL (kI Rh Ro Rp fP (pv 2) (aA (cC (aA (cC (aA aK (aA (pv 6) aC))) (aA aK aC))) aC)))⟩) (λ_=>rfl))
   (aM (cP (i:=7) iW.nd rfl (Or.inr rfl) ⟨(aY fX (aQ (bV hr) (pv 1) aK (λ_ _=>rfl)) aH)⟩)
   (aM (fZ (aP dY (aQ (bV hr) (pv 1) aK (λ_ _=>rfl)) aH (aU _)) (bE ⟨(cL (kI Rh Ro Rp fP (pv 2) (aA (cC (aA (cC (aA aK aC)) (aA aK aC))) aC)))⟩) cZ)
   (aM (fZ (PW.pt (gD (aP dY (pv 7) aH (aU _)) (eY (bM (aL (kZ rfl) rfl B.any xI (aA (mY (own:=["number"]) (fr:=[7,1]) (fk:=["last", "state"]) (bL (aI lD) ["jar", "state", "rows", "some", "far", "taken", "number", "last"] rfl rfl (by decide +kernel)) rfl (aQ (bV hr) (pv 1) aK (λ_ _=>rfl)) (λ_ _ _ _=>(aV (i:=0) (show (["number", "last", "state"]:List ax).Nodup by decide +kernel) rfl (Or.inl rfl))) (λ_ _ _ _=>eO) (λ_ _ _ _=>(gQ (hG (K:=K) rfl) (pv 1) (aQ (bV hr) (aQ (bV hr) (pv 2) aK (λ_ _=>rfl)) (pv 0) (λ_ _=>rfl)) (by with_unfolding_all rfl)))) aC)))))) (bE ⟨(cL (kI Rh Ro Rp fP (pv 2) (aA (cC (aA (cC (aA aK aC)) (aA aK aC))) aC)))⟩) cZ)
   (bE (gR ⟨(pv 2)⟩))))))))))) ?_
  obtain ⟨ki,n1,n6⟩:=W.ki
  obtain ⟨eN,_,eU,eW⟩:=W.p.lk
  have hM:=W.p.sm
  have gz:S.nums.Nodup:=Ja.mpr (hM.up.imp λh=>Ju h)
  obtain ⟨Gr,e0⟩:=W.gm.lst
  refine bG λu hu=>?_
  refine gO ⟨by rw [Rf]; simp,λrl w_=>?_⟩
  have nt:rl≠t:=W.gm.ne w_
  have J0:=W.gm
  have I:RI K D t a ns rl H N 0 (upd H rl (.lst [])):=⟨ff.of (aD.new w_),W.gm.same (aD.new w_),[],aB,Qg _,λx hx=>absurd hx (by simp)⟩
  generalize upd H rl (.lst [])=H1 at I ⊢
  have st:∀ {N M:Nat} {H2:Hp},RI K D t a ns rl H N M H2->jm K H2 sp S:=λI=>W.p.sh.but e0 I.but
  have kd:∀ {N M:Nat} {H2 H3:Hp} {key:ax} {v:V},RI K D t a ns rl H N M H2->aD H2 H3->bX S.kv (.inr key)=some v->kF H3 sp (.str key) (some v):=λI s e=>((st I).same s).g9 (k:=.inr _) e
  subst hu
  refine bG λu hu=>?_
  refine pQ (qY ⟨_,rfl,_,rfl,sp,_,rfl,kd I (aD.refl _) (cT S),[rl,t],t,a,ns,N,S.n,rfl,I.fx,by simp,I.gm,by omega,n1,n6,λp xs H2 hp b2 J2 ep hl hx=>?_⟩)
  have I2:=(I.Ct nt b2 J2)
  have ZK:p≠rl:=λz=>by
   obtain ⟨ys,h1,_⟩:=I.has
   rw [z,h1] at hp; cases hp
  refine ⟨p,rfl,⟨_,d9.of ep⟩,jC (K:=K) (a:=p) (xs:=xs) (λi σ H'=>∃ v3,σ = [some (.ref t),some (.ref sp),some (.ref rl),v3,none,none,none,none]/\RI K D t a ns rl H (N+10) i H'/\H' p=some (.lst xs)/\∀ z∈xs,ku K (zU S.n) [p,rl,t] H' z) ⟨none,rfl,I2,ep,hx⟩ (λi σ H' _ ⟨_,_,_,h,_⟩=>d9.of h) ?_ ?_⟩
  ·rintro i z σ H' hz ⟨v3,rfl,I',e',ux⟩
   have hi:i < xs.length:=(Qa.mp hz).1
   obtain ⟨d,hd,jq⟩:=ux z (Qd hz)
   dsimp only [bO]
   refine zW J0 w_ nt I' (by omega) rfl (tL (aHu (rG (R:=ku K (λd=>cB D.n d=false) [rl,t]) rfl ⟨d,Vw.less.den _ _ hd,by rw [eN]; exact jq⟩)) (by decide) rfl) λNj A' Cp=>?_
   exact ⟨_,rfl,Cp,A' _ _ ZK e',λy h=>(ux y h).keep (ff.vw A' (by simp))⟩
  clear I I2 ep hx
  rintro σ H3 ⟨v3,rfl,I3,_,_⟩
  replace I3:=I3.up (N':=N+10) (M':=100)
  dsimp only
  subst hu
  refine bG λu hu=>?_
  refine qZ (λd6 H'=>d6 = [some (.ref t),some (.ref sp),some (.ref rl),v3,none,none,none,none]/\RI K D t a ns rl H (N+18) 101 H') (λbP=>?_) ?_
  ·refine ⟨_,rfl,sp,_,rfl,kd I3 (aD.refl _) (cY S),S.ap,_,rfl,(st I3).dr,rfl,_,rfl,?_⟩
   have oz:(fe S.nums S.ts).length=S.nums.length:=gU W.p.sh.tl
   by_cases o7:S.nums.length=12
   ·obtain ⟨ys,ey,_⟩:=I3.has
    refine eI (decide_eq_true (by rw [oz,o7]; rfl)) ⟨_,rfl,.inl ⟨rfl,_,d9.of ey⟩,?_⟩
    refine ⟨_,rfl,_,rfl,sp,_,rfl,kd I3 (aD.refl _) (cT S),t,a,ns,_,S.n,rfl,I3.gm,by omega,n1,n6,λl q H5 pj b5 J5 hq=>?_⟩
    have I5:=I3.Ct nt b5 J5
    refine ⟨kc _ _,λdp ik=>⟨kc _ _,λr hr=>?_⟩⟩
    have s6:=aD.new (o:=.tup [.str "put",.ref q]) ik
    have s7:=aD.new (o:=.tup [.ref dp,.str "many"]) hr
    refine VW J0 w_ nt ((I5.same s6).same s7) (by omega) ⟨r,dp,10, "many",rfl,d8.of (Vw.at (I5.same s6).fx hr),by decide,rfl,(zP.same (H:=Vw [rl,t] (upd H5 dp (.tup [.str "put",.ref q]))) (Vw.same s7) (.inl ⟨.ref q,gH l,d8.of (Vw.at I5.fx ik),bC.mpr ⟨q,_,rfl,(I5.same s6).fx.dk (s6.dk hq),cJ.mpr rfl⟩,.inr ⟨by rw [eN]; exact pj,by rw [eU]; exact o7,rfl⟩⟩))⟩ λH8 _ I8=>bP _ _ ⟨rfl,I8.up⟩
   ·exact bK (decide_eq_false λz=>o7 (by rw [oz] at z; injection z with z; omega)) (bP _ _ ⟨rfl,I3.up⟩)
  rintro σ H3 ⟨rfl,I3⟩
  subst hu
  refine bG λu hu=>?_
  refine gO ⟨_,rfl,10,20,rfl,rfl,⟨by decide,by decide,by decide⟩,t,a,ns,_,_,rfl,I3.gm,by omega,by decide,by decide +kernel,λu_ H4 f0 _ b4 J4=>?_⟩
  have I4:=I3.Ct nt b4 J4
  have aaj:=hM.fg
  have oz:(fe S.nums S.ts).length=S.nums.length:=gU W.p.sh.tl
  have zy:=st I4
  subst hu
  refine bG λu hu=>?_
  refine gO ⟨_,rfl,sp,_,rfl,kd I4 (aD.refl _) (lZ S),S.fg,rfl,by omega,by omega,?_⟩
  refine jW (n:=S.fg.toNat) (lo:=0) (λσ=>∃ u,σ = [u,some (.ref sp)]) (λi ys H'=>H'=H4/\ys.length<=i/\∀ y∈ys,∃ k,y=.int k/\k∉S.nums) (iK (by omega)) ⟨none,rfl⟩ ⟨rfl,Qg _,λy h=>absurd h (by simp)⟩ (λi ys H' h=>h.2.1) ?_ ?_
  ·rintro i ys σ H' hi ⟨u,rfl⟩ ⟨rfl,hl,hy⟩ hz
   dsimp only [bO]; rw [Wo]
   refine ⟨_,rfl,_,rfl,sp,_,rfl,kd I4 (aD.refl _) (cY S),S.ap,_,rfl,kF.k (k:=.inl (i:Int)) zy.dr,_,rfl,?_⟩
   by_cases hk:(i:Int)∈S.nums
   ·have yn:=qW hk
    obtain ⟨t0,uy⟩:∃ t0,S.ts[S.nums.idxOf (i:Int)]?=some t0:=⟨_,Qb (by rw [zy.tl]; exact (Qa.mp yn).1)⟩
    have va:bX (fe S.nums S.ts) (.inl (i:Int))=some (.ref t0):=cK gz yn uy
    exact bK (by rw [va]; rfl) ⟨⟨_,rfl⟩,rfl,by omega,hy⟩
   ·have va:bX (fe S.nums S.ts) (.inl (i:Int))=none:=iU (f:=V.ref) hk
    refine eI (by rw [va]; rfl) ⟨_,rfl,hz,⟨_,rfl⟩,rfl,by rw [Qe]; show _+1<=_; omega,λy rf=>?_⟩
    rcases Jd.mp rf with rf | rf
    ·exact hy y rf
    ·exact ⟨i,Qu.mp rf,hk⟩
  rintro ur H' ⟨rfl,tl,tk⟩ tp Eh
  have s5:=aD.new (o:=.lst ur) Eh
  have I5:=I4.same s5
  have EO:upd H' tp (.lst ur) tp=some (.lst ur):=aB
  have ntp:∀ {xs},H' rl=some (.lst xs)->tp≠rl:=λh z=>by rw [z,h] at Eh; cases Eh
  generalize upd H' tp (.lst ur)=H5 at s5 I5 EO ⊢
  have ad:Al H5 [rl,t] (Ff (pR 1) (tC (V.str "due"))) [some (.ref t),some (.ref sp),some (.ref rl),v3,some (.int u_),some (.ref tp),none,none] (ED K [rl,t] (.int S.fg)):=λH6 s6 f6 Q6 k6=>⟨_,rfl,sp,_,rfl,kd I5 s6 (lZ S),k6 _ _ (aD.refl _) (cG.mpr rfl)⟩
  have Ag:∀ {k:Int},k < 0∨S.fg<=k->∀ num,au.int k=.int num->num∉D.nums:=λh num e z=>by
   injection e with e
   subst e
   rw [eU] at z
   have:=hM.m7 _ z
   omega
  have Dj:∀ {d:au},(∀ num,d≠.int num)->∀ num,d=.int num->num∉D.nums:=λh num e=>absurd e (h num)
  subst hu
  refine bG λu hu=>?_
  refine pQ (qY ⟨_,rfl,tK (K:=K) (R:=λd=>∀ num,d=.int num->num∉D.nums) (S:=[rl,t]) (n:=10) I5.fx (aT (ED.dep ad (Ag (by omega))) (aT (ED.dep (vW ad (jB rfl)) (Ag (by omega))) (aT (ED.dep (E_ (g:=λi=>-i) dJ) (Ag (by omega))) (aT (ED.dep (vW (E_ (g:=λi=>-i) dJ) (jB rfl)) (Ag (by omega)))
   (aT (ED.dep sM (Dj (λn e=>by cases e))) (aT (ED.dep sM (Dj (λn e=>by cases e))) (aT (ED.dep zS (Dj (λn e=>by cases e))) (aT (ED.dep vV (Dj (λn e=>by cases e))) (aT (ED.dep (iV (cF dJ eM)) (Dj (λn e=>by cases e))) (aT (ED.dep (zT (cF dJ eM)) (Dj (λn e=>by cases e))) mC)))))))))) λq ys H6 s6 hq PL hy=>?_⟩)
  have JM:=aD.new (o:=.lst ys) hq
  refine ⟨tp,q,ur,ys,rfl,rfl,JM _ _ (s6 _ _ EO),aB,by rw [Rf]; omega,λlp i5=>?_⟩
  have s7:=JM.trans (aD.new (o:=.lst (ur++ys)) i5)
  have I7:=I5.same (s6.trans s7)
  have e7:upd (upd H6 q (.lst ys)) lp (.lst (ur++ys)) lp=some (.lst (ur++ys)):=aB
  have ZN:lp≠rl:=λz=>by
   obtain ⟨zs,h1,_⟩:=(I5.same (s6.trans JM)).has
   rw [z,h1] at i5; cases i5
  have Kr:∀ y∈ur++ys,ku K (λd=>∀ num,d=.int num->num∉D.nums) [rl,t] (upd (upd H6 q (.lst ys)) lp (.lst (ur++ys))) y:=λy rf=>by
   rcases Jd.mp rf with h | h
   ·obtain ⟨k,rfl,hk⟩:=tk y h
    exact ⟨.int k,cG.mpr rfl,λnum e=>by injection e with e; rw [<- e,eU]; exact hk⟩
   ·exact (hy y h).keep (Vw.same s7)
  generalize upd (upd H6 q (.lst ys)) lp (.lst (ur++ys))=H7 at I7 e7 Kr ⊢
  have xl:(ur++ys).length<=110:=by rw [Qe]; omega
  generalize ur++ys=xs at e7 Kr xl ⊢
  refine ⟨lp,rfl,⟨_,d9.of e7⟩,jC (K:=K) (a:=lp) (xs:=xs) (λi σ H'=>∃ v6,σ = [some (.ref t),some (.ref sp),some (.ref rl),v3,some (.int u_),some (.ref tp),v6,none]/\RI K D t a ns rl H (N+18+1) (101+i) H'/\H' lp=some (.lst xs)/\∀ y∈xs,ku K (λd=>∀ num,d=.int num->num∉D.nums) [rl,t] H' y) ⟨none,rfl,I7,e7,Kr⟩ (λi σ H' _ ⟨_,_,_,h,_⟩=>d9.of h) ?_ ?_⟩
  ·rintro i z σ H' hz ⟨v6,rfl,I',e',ux⟩
   have hi:i < xs.length:=(Qa.mp hz).1
   dsimp only [bO]
   refine zW J0 w_ nt I' (by omega) rfl (tL (aGe (rG (R:=ku K (λd=>∀ num,d=.int num->num∉D.nums) [rl,t]) rfl (ux z (Qd hz)))) (by decide) rfl) λNj A' Cp=>?_
   exact ⟨_,rfl,Cp,A' _ _ ZN e',λy h=>(ux y h).keep (ff.vw A' (by simp))⟩
  rintro σ H8 ⟨v6,rfl,I8,_,_⟩
  replace I8:=I8.up (N':=N+19) (M':=300)
  dsimp only
  subst hu
  refine bG λu hu=>?_
  refine gO ⟨_,rfl,sp,_,rfl,kd I8 (aD.refl _) (cT S),S.n,1,rfl,rfl,?_⟩
  subst hu
  refine bG λu hu=>?_
  refine qZ (λd6 H'=>d6 = [some (.ref t),some (.ref sp),some (.ref rl),v3,some (.int u_),some (.ref tp),v6,some (.int (S.n - 1))]/\RI K D t a ns rl H (N+19) 301 H') (λbP=>?_) ?_
  ·refine ⟨_,rfl,sp,_,rfl,kd I8 (aD.refl _) (cT S),rfl,_,rfl,?_⟩
   by_cases h6:S.n=6
   ·exact eI (decide_eq_true (by rw [h6])) (zW J0 w_ nt I8 (by omega) rfl (tL (aGf (by rw [eN]; exact h6)) (by decide) rfl) λH9 _ I9=>bP _ _ ⟨rfl,I9.up⟩)
   ·exact bK (decide_eq_false λz=>h6 (by injection z)) (bP _ _ ⟨rfl,I8.up⟩)
  rintro σ H9 ⟨rfl,I9⟩
  subst hu
  refine qZ (λd6 H'=>d6 = [some (.ref t),some (.ref sp),some (.ref rl),v3,some (.int u_),some (.ref tp),v6,some (.int (S.n - 1))]/\RI K D t a ns rl H (N+19) 302 H') (λbP=>?_) ?_
  ·refine kM (decide (V.int (S.n - 1)=V.int 0) || (S.ws.any λl=>decide (S.n - 1∈l))) (vO (λQ' q=>⟨_,rfl,rfl,_,rfl,q _ (aD.refl _)⟩) (λ_ H3 s3=>?CW)) (λhb Ha sa=>?yes) (λhb Ha sa=>bP _ _ ⟨rfl,(I9.same sa).up⟩)
   case yes =>
    refine zW J0 w_ nt (I9.same sa) (by omega) rfl (tL (aGg ?_) (by decide) rfl) λHb _ Ib=>bP _ _ ⟨rfl,Ib.up⟩
    rw [eN,eW]
    rcases Yy .. |>.mp hb with z | z
    ·have:=of_decide_eq_true z
     injection this with this
     exact .inl (by omega)
    ·obtain ⟨l,hl,hm⟩:=Xb.mp z
     exact .inr ⟨l,hl,of_decide_eq_true hm⟩
   case CW=>exact T9 ((st I9).same s3) hM rfl rfl
  rintro σ Ha ⟨rfl,Ia⟩
  obtain ⟨zs,h1,h2,h3⟩:=Ia.has
  exact ⟨_,rfl,k rl zs Ha w_ Ia.but (Ia.gm.more (by omega)) h1 (by omega) h3⟩
theorem kD:∀ {a b:List gb} {S:SD},iL S a->iL (a.foldl SD.step S) b->iL S (a++b)
 | [],_,_,_,h=>h
 | e::a,b,S,h,g=>⟨h.1,kD h.2 g⟩
def Cf (S:SD) (k:Int) (l:List Int):Prop:=∃ i:Nat,S.nums[i]?=some k/\S.ws[i]?=some l
theorem ko.nd (h:ko S):S.nums.Nodup:=Ja.mpr (h.up.imp λh=>Ju h)
theorem vY {k x:Int} (h:ko S):x∈(S.step (.take k)).nums↔x∈S.nums/\x≠k:=by
 show x∈S.nums.eraseIdx (S.nums.idxOf k)↔_
 rw [<- List.erase_eq_eraseIdx_of_idxOf rfl,h.nd.mem_erase_iff,and_comm]
theorem aGh {k x:Int} (h:Cf (S.step (.take k)) x l):Cf S x l:=by
 obtain ⟨i,h1,h2⟩:=h
 exact ⟨_,fQ h1,fQ h2⟩
structure Tks (S S':SD) (ks:List Int):Prop where
 n:S'.n=S.n
 fg:S'.fg=S.fg
 len:S'.nums.length+ks.length=S.nums.length
 m:ko S'
 mem:∀ k,k∈S'.nums↔k∈S.nums/\k∉ks
 pr:∀ k l,Cf S' k l->Cf S k l
theorem vZ:∀ {ks:List Int} {S:SD},ko S->ks.Nodup->(∀ k∈ks,k∈S.nums)->iL S (ks.map .take)/\Tks S ((ks.map .take).foldl SD.step S) ks
 | [],S,h,_,_=>⟨trivial,rfl,rfl,rfl,h,λk=>⟨λhk=>⟨hk,by simp⟩,λhk=>hk.1⟩,λ_ _ h=>h⟩
 | k::ks,S,h,nd,hk=>by
  have k0:k∈S.nums:=hk k (by simp)
  have GS:=Jh.mp nd
  obtain ⟨d,T⟩:=vZ (S:=S.step (.take k)) (pP h (show jK S (.take k) from k0)) GS.2 λx hx=>(vY h).mpr ⟨hk x (by simp [hx]),λz=>GS.1 (z ▸ hx)⟩
  have l1:(S.step (.take k)).nums.length=S.nums.length - 1:=vT k0
  have l0:0 < S.nums.length:=Yv k0
  refine ⟨⟨k0,d⟩,T.n,T.fg,?_,T.m,λx=>?_,λx l p=>aGh (T.pr x l p)⟩
  ·have:=T.len
   rw [Jk]
   show ((List.map gb.take ks).foldl SD.step (S.step (.take k))).nums.length+_=_
   omega
  ·refine ⟨λhx=>?_,λhx=>(T.mem x).mpr ⟨(vY h).mpr ⟨hx.1,λz=>hx.2 (by simp [z])⟩,λz=>hx.2 (by simp [z])⟩⟩
   obtain ⟨h1,h2⟩:=(T.mem x).mp hx
   obtain ⟨h3,h4⟩:=(vY h).mp h1
   exact ⟨h3,λz=>(Qj.mp z).elim h4 h2⟩
theorem pD (l:List α) (x:α):(l++[x]).eraseIdx l.length=l:=by
 rw [List.eraseIdx_append_of_length_le (Qg _),Jt]; simp
theorem WW (h:ko S):((S.step (.put p l)).step (.take S.fg)).nums=S.nums/\((S.step (.put p l)).step (.take S.fg)).ws=S.ws:=by
 have e:(S.nums++[S.fg]).idxOf S.fg=S.nums.length:=by
  rw [List.idxOf_append,if_neg (λz=>by have:=(h.m7 _ z).2; omega)]
  simp
 refine ⟨?_,?_⟩
 ·show (S.nums++[S.fg]).eraseIdx ((S.nums++[S.fg]).idxOf S.fg)=_
  rw [e,pD]
 ·show (S.ws++[l]).eraseIdx ((S.nums++[S.fg]).idxOf S.fg)=_
  rw [e,<- h.len,pD]
theorem wA {n x:Int} (h0:0<=x) (h1:x < n):cB n (gH [x])=true:=lY (by simp) (λy hy=>by rw [Qu.mp hy]; exact ⟨h0,h1⟩) (by simp)
theorem ko.i9 (h:ko S):1<=S.n/\S.n<=6/\S.nums.length<=12:=by
 obtain ⟨h1,h6,o7,_⟩:=aZ h.bk
 exact ⟨h1,h6,by rw [<- h.len]; exact o7⟩
noncomputable def nI (S:SD) (p:ae):List gb:=(S.nums.take 2).map .take++[.put p [0],.take S.fg]
structure Ga (S S':SD):Prop where
 n:S'.n=S.n
 fg:S'.fg=S.fg+1
 len:S'.nums.length<=10
 m:ko S'
 mem:∀ k,k∈S'.nums↔k∈S.nums.drop 2
 pr:∀ k l,Cf S' k l->Cf S k l
theorem aEU (h:ko S):iL S (nI S p)/\Ga S ((nI S p).foldl SD.step S):=by
 obtain ⟨d,T⟩:=vZ (ks:=S.nums.take 2) h (h.nd.sublist (List.take_sublist ..)) λk hk=>List.mem_of_mem_take hk
 unfold nI
 rw [Yp]
 generalize zz:((S.nums.take 2).map gb.take).foldl SD.step S=S1 at T ⊢
 obtain ⟨n1,n6,ki⟩:=h.i9
 have Z9:S1.nums.length<=10:=by
  have:=T.len
  rw [Jf] at this
  omega
 have dm:jK S1 (.put p [0]):=⟨wA (by decide) (by rw [T.n]; omega),by omega⟩
 have m2:=pP T.m dm
 have dt:jK (S1.step (.put p [0])) (.take S.fg):=by
  show S.fg∈S1.nums++[S1.fg]
  rw [T.fg]; simp
 have m3:=pP m2 dt
 rw [<- T.fg] at m3
 obtain ⟨e1,e2⟩:=WW (p:=p) (l:=[0]) T.m
 refine ⟨kD d (by rw [zz]; exact ⟨dm,dt,trivial⟩),T.n,?_,?_,?_,?_,?_⟩
 ·show S1.fg+1=_
  rw [T.fg]
 ·show (((S1.step (.put p [0])).step (.take S.fg)).nums).length<=10
  rw [<- T.fg,e1]; exact Z9
 ·show ko ((S1.step (.put p [0])).step (.take S.fg))
  rw [<- T.fg]; exact m3
 ·intro k
  show k∈((S1.step (.put p [0])).step (.take S.fg)).nums↔_
  rw [<- T.fg,e1,T.mem k]
  have nd:(S.nums.take 2++S.nums.drop 2).Nodup:=by rw [Zp]; exact h.nd
  have GS:=(Xe.mp nd).2.2
  refine ⟨λ⟨h1,h2⟩=>?_,λhk=>⟨List.mem_of_mem_drop hk,λz=>GS k z k hk rfl⟩⟩
  rw [<- Zp 2 S.nums] at h1
  exact (Jd.mp h1).resolve_left h2
 ·rintro k l ⟨i,h1,h2⟩
  have u9:((S1.step (.put p [0])).step (.take S.fg)).nums[i]?=some k:=h1
  have pq:((S1.step (.put p [0])).step (.take S.fg)).ws[i]?=some l:=h2
  rw [<- T.fg,e1] at u9
  rw [<- T.fg,e2] at pq
  exact T.pr k l ⟨i,u9,pq⟩
theorem aEV (h:ko S) (h6:S.n < 6) (Sf:S.nums.length<=10):iL S [.gp,.put p [S.n],.take S.fg,.go]:=by
 obtain ⟨n1,_,_⟩:=h.i9
 have d1:jK S .gp:=show S.n≠6 by omega
 have m1:=pP h d1
 have d2:jK (S.step .gp) (.put p [S.n]):=⟨wA (show (0:Int)<=S.n by omega) (show S.n < S.n+1 by omega),show S.nums.length < 12 by omega⟩
 have m2:=pP m1 d2
 have d3:jK ((S.step .gp).step (.put p [S.n])) (.take S.fg):=by show S.fg∈S.nums++[S.fg]; simp
 obtain ⟨_,e2⟩:=WW (p:=p) (l:=[S.n]) m1
 refine ⟨d1,d2,d3,⟨show S.n+1≠1 by omega,λl hl=>?_⟩,trivial⟩
 have mf:l∈S.ws:=by
  have:l∈(((S.step .gp).step (.put p [S.n])).step (.take (S.step .gp).fg)).ws:=hl
  rw [e2] at this
  exact this
 intro hm
 have:=(bA ((aZ h.bk).2.2.2 l mf)).2.1 _ hm
 have e:(((S.step .gp).step (.put p [S.n])).step (.take S.fg)).n=S.n+1:=rfl
 rw [e] at this
 omega
theorem aEW {ks:List Int} (h:ko S) (h6:S.n=6) (Sf:S.nums.length<=10) (nd:ks.Nodup) (hk:∀ k∈ks,k∈S.nums) (hl:∀ k l,Cf S k l->S.n - 1∈l->k∈ks):iL S (ks.map .take++[.go,.gp,.put p [S.n - 1]]):=by
 obtain ⟨d,T⟩:=vZ h nd hk
 refine kD d ?_
 generalize (ks.map gb.take).foldl SD.step S=S1 at T ⊢
 have en:=T.n
 have d1:jK S1 .go:=by
  refine ⟨by omega,λl mf hm=>?_⟩
  obtain ⟨i,hi⟩:=Qs.mp mf
  obtain ⟨k,ub⟩:∃ k,S1.nums[i]?=some k:=⟨_,Qb (by rw [<- T.m.len]; exact (Qa.mp hi).1)⟩
  rw [en] at hm
  exact ((T.mem k).mp (Qd ub)).2 (hl k l (T.pr k l ⟨i,ub,hi⟩) hm)
 have hlen:=T.len
 refine ⟨d1,show S1.n - 1≠6 by omega,⟨wA (show (0:Int)<=S.n - 1 by omega) (show S.n - 1 < S1.n - 1+1 by omega),show S1.nums.length < 12 by omega⟩,trivial⟩
def BL (K:Rb) (lp:ae) (es:List gb) (H:Hp):Prop:=∃ f9,H lp=some (.lst (f9.map V.ref))/\ib K H f9 es
noncomputable def fM (S:SD) (m:Int) (k:Int):Bool:=match S.ws[S.nums.idxOf k]? with
 | some l=>decide (m∈l)
 | none=>false
theorem UO {m k:Int} (nd:S.nums.Nodup) (h1:S.nums[j]?=some k) (h2:S.ws[j]?=some l):fM S m k=decide (m∈l):=by
 have hk:=qW (Qd h1)
 have e:S.nums.idxOf k=j:=by
  obtain ⟨a1,b1⟩:=Qa.mp h1
  obtain ⟨a2,b2⟩:=Qa.mp hk
  exact (Za nd).mp (b2.trans b1.symm)
 unfold fM
 rw [e,h2]
section
variable {lp:ae} {es fs:List gb}
theorem BL.same (h:BL K lp es H) (s:aD H H'):BL K lp es H':=let ⟨d,h1,h2⟩:=h; ⟨d,s _ _ h1,h2.same s⟩
end
def VU (K:Rb) (C Pt Pl:ae):Sp:=λvs H Q _=>∃ (t a:ae) (ns:List Int) (N:Nat) (x sp:ae) (D:DD) (S:SD),vs = [.ref t,.ref x,.ref sp]/\Wn K H C t a ns N Pt Pl x sp D S/\N<=500000/\∀ D' S' H',Wn K H' C t a ns (N+300) Pt Pl x sp D' S'->Q (.bl true) H'
theorem jP:c_ ["jar", "dealing", "state", "deeds", "hands", "some", "turn"] ["jar", "dealing", "state"] (aI pG):=.of
set_option maxHeartbeats 2000000 in
theorem aEX {fE:ae} {dE:az} (G:Fn K mg "_law_e_good_behind" pG ["jar", "dealing", "state"] f fd) (B:Bl mg) (IS:Fn K mg "_law_e_all_done" nB ["jar", "dealing", "state", "deeds"] fD dD) (IL:b_ P w K mg base d7 12 fD dD ["jar", "dealing", "state", "deeds"] (rV K C Pt Pl)) (Np:Fn K mg "_law_e_deed" xF ["jar", "state"] fE dE) (Nf:b_ P w K mg base d7 4 fE dE ["jar", "state"] (MX K)):b_ P w K mg base d7 13 f fd ["jar", "dealing", "state"] (VU K C Pt Pl):=by
 refine G.fn.oK jP λfh A outer s H vs Q E hr h=>?_
 ·obtain ⟨t,a,ns,N,x,sp,D,S,rfl,W,hN,k⟩:=h
  have GG:dz 12 _:=hr
  have r4:dz 4 _:=hr.mono (by decide)
  have hu:=bV hr
  refine ji.ex (aM ⟨(lR (i:=3) (own:=["number"]) (fr:=[]) (fk:=[]) (bL (aI pG) ["jar", "dealing", "state", "deeds", "hands", "some", "turn"] rfl rfl (by decide +kernel)) rfl jP.nd rfl rfl rfl (hX (mQ V8 (aL (eS rfl) rfl B.sorted lC (aA (aQ (bV hr) (pv 2) aK (λ_ _=>rfl)) aC)) pT (pU aH))) (λ_ _ _ _=>(aV (i:=0) (show (["number"]:List ax).Nodup by decide +kernel) rfl (Or.inl rfl))) (λ_ _ _ _=>eO) (λ_ _ _ _=>(cC (aA aK (aA (pv 0) aC)))))⟩
   (aM (cP (i:=3) jP.nd rfl (Or.inl rfl) (mW iD ⟨(pv 3)⟩ (eK (aG (cO (aG cH (aG (cO (aG dF bD aO)) bD eG) aO)) (aG (cO (aG cH (aG ⟨(aQ (bV hr) (pv 2) aK (λ_ _=>rfl))⟩ bD MN) aO)) bD eG) eG))))
   (aM (cP (i:=4) jP.nd rfl (Or.inr rfl) ⟨(aQ (bV hr) (pv 2) aK (λ_ _=>rfl))⟩)
   (aM (fZ (aP wN (pv 4) aH (aU _)) (bE (cP (i:=3) jP.nd rfl (Or.inl rfl) (mW iD ⟨(pv 3)⟩ (eK (aG (cO (aG cH bD aO)) (aG (cO (aG cH (aG (cO (aG ⟨(pv 4)⟩ bD yF)) bD eG) aO)) (aG (cO (aG cH (aG ⟨(aY eF (aQ (bV hr) (pv 2) aK (λ_ _=>rfl)) aH)⟩ bD jI) aO)) (aG (cO (aG cH bD aO)) bD eG) eG) eG) eG))))) (aM ⟨(lR (i:=5) (own:=["number"]) (fr:=[4,2]) (fk:=["hands", "state"]) (bL (aI pG) ["jar", "dealing", "state", "deeds", "hands", "some", "turn"] rfl rfl (by decide +kernel)) rfl jP.nd rfl rfl rfl (hX (mQ V8 (aL (eS rfl) rfl B.sorted lC (aA (aQ (bV hr) (pv 2) aK (λ_ _=>rfl)) aC)) (pU aH) pT)) (λ_ _ _ _=>(aV (i:=0) (show (["number", "hands", "state"]:List ax).Nodup by decide +kernel) rfl (Or.inl rfl))) (λ_ _ _ _=>yA (aP (hG (K:=K) rfl) (aY fX (pv 1) aH) (aQ (bV hr) (aQ (bV hr) (pv 2) aK (λ_ _=>rfl)) (pv 0) (λ_ _=>rfl)) (by with_unfolding_all rfl))) (λ_ _ _ _=>(pv 0)))⟩
   (aM (cP (i:=3) jP.nd rfl (Or.inl rfl) ⟨(aY iD (pv 3) (gF (own:=["number"]) (fr:=[]) (fk:=[]) (bL (aI pG) ["jar", "dealing", "state", "deeds", "hands", "some", "turn"] rfl rfl (by decide +kernel)) rfl (hX (pv 5)) (λ_ _ _ _=>(aV (i:=0) (show (["number"]:List ax).Nodup by decide +kernel) rfl (Or.inl rfl))) (λ_ _ _ _=>eO) (λ_ _ _ _=>(cC (aA aK (aA (pv 0) aC))))))⟩)
   (bE (cP (i:=3) jP.nd rfl (Or.inl rfl) (mW iD ⟨(pv 3)⟩ (eK (aG (cO (aG cH bD aO)) (aG (cO (aG cH bD aO)) (aG (cO (aG cH (aG (cO (aG ⟨(aY fX (pv 4) aH)⟩ bD jI)) bD eG) aO)) bD eG) eG) eG))))))))
   (aM (fZ (bW (bM (aW IS IL GG rfl (aA (pv 0) (aA (pv 1) (aA (pv 2) (aA (pv 3) aC))))))) (bE (gR fF)) cZ)
   (aM (oE ay.never rfl (eD rfl B.range (aA aH aC)) (aV (i:=6) jP.nd rfl (Or.inl rfl)) (bE (fZ (bW (bM (aW IS IL GG rfl (aA (pv 0) (aA (pv 1) (aA (pv 2) (aA (gW (aA (aW Np Nf r4 rfl (aA (pv 0) (aA (pv 2) aC))) aC)) aC))))))) (bE (gR fF)) cZ)) (λ_=>rfl))
   (bE (gR fF)))))))) ?_
  obtain ⟨ki,n1,n6⟩:=W.ki
  have hM:=W.p.sm
  have gz:=hM.nd
  have dg:∀ {H':Hp} {key:ax} {v:V},Wn K H' C t a ns N Pt Pl x sp D S->bX S.kv (.inr key)=some v->kF H' sp (.str key) (some v):=λW e=>W.p.sh.g9 (k:=.inr _) e
  obtain ⟨n0,P_⟩:∃ n0,n0=S.n:=⟨_,rfl⟩
  refine bG λu hu=>?_
  refine gO ⟨_,rfl,sp,_,rfl,dg W (cY S),S.ap,_,S.nums,rfl,.inl W.p.sh.dr,jH W.p.sh.tl,by omega,λp ms hp j9 qa=>?_⟩
  have em:=W.jb j9 qa
  subst em
  refine ⟨2,rfl,p,_,rfl,d9.of aB,λq hq=>?_⟩
  rw [show (2:Int)=((2:Nat):Int) from rfl,V6,<- List.map_take]
  have s1:=(aD.new (o:=.lst (S.nums.map V.int)) hp).trans (aD.new (o:=.lst ((S.nums.take 2).map V.int)) hq)
  have W1:=W.same s1
  have eq1:upd (upd H p (.lst (S.nums.map V.int))) q (.lst ((S.nums.take 2).map V.int)) q=some (.lst ((S.nums.take 2).map V.int)):=aB
  generalize upd (upd H p (.lst (S.nums.map V.int))) q (.lst ((S.nums.take 2).map V.int))=H1 at W1 eq1 ⊢
  refine ⟨q,rfl,⟨_,d9.of eq1⟩,nN (K:=K) (a:=q) (xs:=(S.nums.take 2).map V.int) (λσ=>∃ u,σ = [u]) (λi ys H'=>Wn K H' C t a ns N Pt Pl x sp D S/\H' q=some (.lst ((S.nums.take 2).map V.int))/\∃ f9,ys=f9.map V.ref/\ib K H' f9 (((S.nums.take 2).take i).map .take)) (iK (by simp; omega)) ⟨none,rfl⟩ ⟨W1,eq1,[],rfl,ib.nil⟩ (λi ys H' ⟨_,_,f9,e,h⟩=>by rw [e,Qc,h.len,Qc,Jf]; omega) (λi ys H' h=>d9.of h.2.1) ?_ ?_⟩
  ·rintro i ys σ z H' hz ⟨u,rfl⟩ ⟨W',e',f9,rfl,hA⟩ hlen
   rw [Qh] at hz
   obtain ⟨k0,Dt,rfl⟩:=Qp.mp hz
   refine cR ?_
   refine ⟨_,rfl,kc _ _,λdp ik=>⟨hlen,⟨_,rfl⟩,W'.same (aD.new ik),aD.new ik _ _ e',f9++[dp],by rw [Qt]; rfl,?_⟩⟩
   rw [Jr,Dt,Qt]
   exact (hA.same (aD.new ik)).append (ib.one (e:=.take k0) (d8.of aB))
  clear W1 eq1 s1
  rintro ys H2 ⟨W2,_,f9,rfl,hA⟩ l1 zt
  rw [show (S.nums.take 2).take ((S.nums.take 2).map V.int).length=S.nums.take 2 from Jj (by simp)] at hA
  -- + put (0,),take due
  subst hu
  refine bG λu hu=>?_
  refine gO ⟨_,rfl,md 1 (by decide) |> Je,λp0 BJ=>⟨kc _ _,λd1 my=>⟨_,rfl,sp,.int S.fg,rfl,?_⟩⟩⟩
  have s3:=(aD.new (o:=.lst (f9.map V.ref)) zt).trans ((aD.new (o:=.tup [.int 0]) BJ).trans (aD.new (o:=.tup [.str "put",.ref p0]) my))
  have Ly:upd (upd (upd H2 l1 (.lst (f9.map V.ref))) p0 (.tup [.int 0])) d1 (.tup [.str "put",.ref p0]) l1=some (.lst (f9.map V.ref)):=((aD.new (o:=.tup [.int 0]) BJ).trans (aD.new my)) _ _ aB
  have g1:gN K (upd (upd (upd H2 l1 (.lst (f9.map V.ref))) p0 (.tup [.int 0])) d1 (.tup [.str "put",.ref p0])) d1 (.put p0 [0]):=⟨d8.of aB,(aD.new my).dk (d8.of aB)⟩
  have W3:=W2.same s3
  have Lo:=hA.same s3
  clear BJ my zt
  generalize upd (upd (upd H2 l1 (.lst (f9.map V.ref))) p0 (.tup [.int 0])) d1 (.tup [.str "put",.ref p0])=H3 at s3 Ly g1 W3 Lo ⊢
  refine ⟨dg W3 (lZ S),kc _ _,λd2 hd2=>⟨kc _ _,λl2 pk=>?_⟩⟩
  have s4:=(aD.new (o:=.tup [.str "take",.int S.fg]) hd2).trans (aD.new (o:=.lst [.ref d1,.ref d2]) pk)
  have dl:f9.length<=2:=by rw [hA.len,Qc,Jf]; omega
  refine ⟨l1,l2,_,_,rfl,rfl,s4 _ _ Ly,aB,by rw [Rf,Qc]; simp; omega,λl3 BO=>?_⟩
  have g2:gN K (upd (upd H3 d2 (.tup [.str "take",.int S.fg])) l2 (.lst [.ref d1,.ref d2])) d2 (.take S.fg):=(aD.new pk).dk (d8.of aB)
  have s5:=s4.trans (aD.new (o:=.lst (f9.map V.ref++[.ref d1,.ref d2])) BO)
  have W5:=W3.same s5
  have Pm:l3≠t:=(W3.same s4).gm.ne BO
  have B5:BL K l3 (nI S p0) (upd (upd (upd H3 d2 (.tup [.str "take",.int S.fg])) l2 (.lst [.ref d1,.ref d2])) l3 (.lst (f9.map V.ref++[.ref d1,.ref d2]))) :=
   ⟨f9++[d1,d2],by rw [Qt]; exact aB,(Lo.same s5).append (ib.cons (g1.same s5) (ib.one (g2.same (aD.new BO))))⟩
  clear BO pk hd2 g2 g1 s4 s3 Ly Lo W3 W2 hA
  generalize upd (upd (upd H3 d2 (.tup [.str "take",.int S.fg])) l2 (.lst [.ref d1,.ref d2])) l3 (.lst (f9.map V.ref++[.ref d1,.ref d2]))=H5 at W5 B5 ⊢
  obtain ⟨dA,A⟩:=aEU (p:=p0) hM
  have eA:(nI S p0).length<=4:=by unfold nI; rw [Qe,Qc,Jf]; simp; omega
  generalize r6:(nI S p0).foldl SD.step S=S3 at A
  subst hu
  refine bG λu hu=>?_
  refine gO ⟨_,rfl,sp,_,rfl,dg W5 (cT S),?_⟩
  subst hu
  refine eV (λd6 H'=>∃ lp es v5,d6 = [some (.ref t),some (.ref x),some (.ref sp),some (.ref lp),some (.int S.n),v5,none]/\Wn K H' C t a ns N Pt Pl x sp D S/\BL K lp es H'/\lp≠t/\iL S es/\es.length<=30) (λN' bP=>?_) ?_
  ·refine ⟨_,rfl,S.n,6,rfl,rfl,_,rfl,?_⟩
   by_cases h6:S.n < 6
   ·refine eI (decide_eq_true h6) ?_
    refine ⟨_,rfl,md 1 (by decide) |> Je,λd1 my=>⟨_,rfl,md 1 (by decide) |> Je,λq hq=>⟨kc _ _,λd2 hd2=>⟨_,rfl,sp,.int S.fg,rfl,?_⟩⟩⟩⟩
    have s6:=(aD.new (o:=.tup [.str "come"]) my).trans ((aD.new (o:=.tup [.int S.n]) hq).trans (aD.new (o:=.tup [.str "put",.ref q]) hd2))
    have g1:gN K (upd (upd (upd H5 d1 (.tup [.str "come"])) q (.tup [.int S.n])) d2 (.tup [.str "put",.ref q])) d1 .gp:=((aD.new (o:=.tup [.int S.n]) hq).trans (aD.new hd2)).dk (d8.of aB)
    have g2:gN K (upd (upd (upd H5 d1 (.tup [.str "come"])) q (.tup [.int S.n])) d2 (.tup [.str "put",.ref q])) d2 (.put q [S.n]):=⟨d8.of aB,(aD.new hd2).dk (d8.of aB)⟩
    have W6:=W5.same s6
    have B6:=B5.same s6
    clear my hq hd2
    generalize upd (upd (upd H5 d1 (.tup [.str "come"])) q (.tup [.int S.n])) d2 (.tup [.str "put",.ref q])=H6 at s6 g1 g2 W6 B6 ⊢
    refine ⟨dg W6 (lZ S),S.fg,1,rfl,rfl,kc _ _,λd3 K4=>⟨md 1 (by decide) |> Je,λd4 QH=>⟨OT _ _ _ _,λl4 AW=>?_⟩⟩⟩
    have s7:=(aD.new (o:=.tup [.str "take",.int (S.fg+1)]) K4).trans ((aD.new (o:=.tup [.str "go"]) QH).trans (aD.new (o:=.lst [.ref d1,.ref d2,.ref d3,.ref d4]) AW))
    obtain ⟨ds,e6,A6⟩:=B6
    refine ⟨l3,l4,_,_,rfl,rfl,s7 _ _ e6,aB,by rw [Rf,Qc,A6.len]; simp; omega,λl5 BN=>?_⟩
    have s8:=s7.trans (aD.new (o:=.lst (ds.map V.ref++[.ref d1,.ref d2,.ref d3,.ref d4])) BN)
    have gB:=aEV (p:=q) A.m (by rw [A.n]; exact h6) A.len
    rw [A.n,A.fg] at gB
    refine bP _ _ ⟨l5,nI S p0++[.gp,.put q [S.n],.take (S.fg+1),.go],none,rfl,W6.same s8,⟨ds++[d1,d2,d3,d4],by rw [Qt]; exact aB,(A6.same s8).append (ib.cons (g1.same s8) (ib.cons (g2.same s8) (ib.cons ?_ (ib.one ?_))))⟩,(W6.same s7).gm.ne BN,kD dA (by rw [r6]; exact gB),by rw [Qe]; simp; omega⟩
    ·exact ((aD.new (o:=.tup [.str "go"]) QH).trans ((aD.new AW).trans (aD.new BN))).dk (d8.of aB)
    ·exact ((aD.new AW).trans (aD.new BN)).dk (d8.of aB)
   ·refine bK (decide_eq_false h6) ?_
    have e6:S.n=6:=by omega
    refine gO ⟨_,rfl,sp,_,rfl,dg W5 (cY S),S.ap,_,S.nums,rfl,.inl W5.p.sh.dr,jH W5.p.sh.tl,by omega,λp ms hp j9 qa=>?_⟩
    have em:=W5.jb j9 qa
    subst em
    refine ⟨_,rfl,p,_,rfl,d9.of aB,λq hq=>?_⟩
    dsimp only
    rw [show pC (S.nums.map V.int) (some 2) none=(S.nums.drop 2).map V.int by rw [List.map_drop]; exact wX _ 2]
    have s6:=(aD.new (o:=.lst (S.nums.map V.int)) hp).trans (aD.new (o:=.lst ((S.nums.drop 2).map V.int)) hq)
    have W6:=W5.same s6
    have B6:=B5.same s6
    have Lx:upd (upd H5 p (.lst (S.nums.map V.int))) q (.lst ((S.nums.drop 2).map V.int)) q=some (.lst ((S.nums.drop 2).map V.int)):=aB
    generalize upd (upd H5 p (.lst (S.nums.map V.int))) q (.lst ((S.nums.drop 2).map V.int))=H6 at W6 B6 Lx ⊢
    refine ⟨q,rfl,⟨_,d9.of Lx⟩,nN (K:=K) (a:=q) (xs:=(S.nums.drop 2).map V.int) (λσ=>∃ u,σ = [u,some (.int S.n),some (.ref sp)]) (λi ys H'=>H'=H6/\ys=(((S.nums.drop 2).take i).filter (fM S (S.n - 1))).map V.int) (iK (by simp; omega)) ⟨none,rfl⟩ ⟨rfl,rfl⟩ (λi ys H' h=>by rw [h.2,Qc]; exact Qx (Xw ..) (by rw [Jf]; omega)) (λi ys H' h=>by rw [h.1]; exact d9.of Lx) ?_ ?_⟩
    ·rintro i ys σ z H' hz ⟨u,rfl⟩ ⟨rfl,rfl⟩ hlen
     rw [Qh] at hz
     obtain ⟨k0,Dt,rfl⟩:=Qp.mp hz
     have AX:=Dt
     rw [List.getElem?_drop] at AX
     have hj:=(Qa.mp AX).1
     obtain ⟨t0,uy⟩:∃ t0,S.ts[2+i]?=some t0:=⟨_,Qb (by rw [W6.p.sh.tl]; exact hj)⟩
     obtain ⟨l0,Dr⟩:∃ l0,S.ws[2+i]?=some l0:=⟨_,Qb (by rw [W6.p.sh.wl]; exact hj)⟩
     have nk:=W6.p.sh.tup _ _ _ uy Dr
     dsimp only [bO]
     refine ⟨_,rfl,S.n,1,rfl,rfl,_,rfl,sp,_,rfl,dg W6 (cY S),_,rfl,S.ap,.ref t0,rfl,.inl ⟨_,.inl k0,.inl W6.p.sh.dr,rfl,(cK gz AX uy).symm⟩,t0,_,rfl,.inr nk,rfl,jR _,_,rfl,?_⟩
     rw [qS,<- UO gz AX Dr,Jr,Dt,Yd,Qt]
     cases hf:fM S (S.n - 1) k0 with
     | true=>exact kN ⟨_,rfl,hlen,⟨_,rfl⟩,rfl,by simp [hf]⟩
     | false=>exact oH ⟨⟨_,rfl⟩,rfl,by simp [hf]⟩
    rintro ys H' ⟨rfl,rfl⟩ l5 BN
    rw [show (S.nums.drop 2).take ((S.nums.drop 2).map V.int).length=S.nums.drop 2 from Jj (by simp)]
    obtain ⟨ks,En⟩:∃ ks,ks=(S.nums.drop 2).filter (fM S (S.n - 1)):=⟨_,rfl⟩
    rw [<- En]
    have kl:ks.length<=12:=by rw [En]; exact Qx (Xw ..) (by rw [Xt]; omega)
    have W7:=W6.same (aD.new (o:=.lst (ks.map V.int)) BN)
    have B7:=B6.same (aD.new (o:=.lst (ks.map V.int)) BN)
    have e7:upd H' l5 (.lst (ks.map V.int)) l5=some (.lst (ks.map V.int)):=aB
    generalize upd H' l5 (.lst (ks.map V.int))=H7 at W7 B7 e7 ⊢
    refine gO ⟨_,rfl,_,rfl,l5,rfl,⟨_,d9.of e7⟩,nN (K:=K) (a:=l5) (xs:=ks.map V.int) (λσ=>∃ u,σ = [u]) (λi ys H'=>Wn K H' C t a ns N Pt Pl x sp D S/\BL K l3 (nI S p0) H'/\H' l5=some (.lst (ks.map V.int))/\∃ f9,ys=f9.map V.ref/\ib K H' f9 ((ks.take i).map .take)) (iK (by simp; omega)) ⟨none,rfl⟩ ⟨W7,B7,e7,[],rfl,ib.nil⟩ (λi ys H' ⟨_,_,_,f9,e,h⟩=>by rw [e,Qc,h.len,Qc,Jf]; omega) (λi ys H' h=>d9.of h.2.2.1) ?_ ?_⟩
    ·rintro i ys σ z H' hz ⟨u,rfl⟩ ⟨W',B',e',f9,rfl,hA⟩ hlen
     rw [Qh] at hz
     obtain ⟨k0,Dt,rfl⟩:=Qp.mp hz
     refine cR ?_
     refine ⟨_,rfl,kc _ _,λdp ik=>⟨hlen,⟨_,rfl⟩,W'.same (aD.new ik),B'.same (aD.new ik),aD.new ik _ _ e',f9++[dp],by rw [Qt]; rfl,?_⟩⟩
     rw [Jr,Dt,Qt]
     exact (hA.same (aD.new ik)).append (ib.one (e:=.take k0) (d8.of aB))
    rintro ys H8 ⟨W8,⟨Hy,e8,A8⟩,_,f9,rfl,hA⟩ l6 xb
    rw [show ks.take (ks.map V.int).length=ks from Jj (by simp)] at hA
    have s9:=aD.new (o:=.lst (f9.map V.ref)) xb
    refine ⟨l3,l6,_,_,rfl,rfl,s9 _ _ e8,aB,by rw [Rf,Qc,Qc,A8.len,hA.len,Qc]; omega,λl7 QB=>?_⟩
    have D3:=s9.trans (aD.new (o:=.lst (Hy.map V.ref++f9.map V.ref)) QB)
    have yx:=W8.same D3
    have X1:BL K l7 (nI S p0++ks.map .take) (upd (upd H8 l6 (.lst (f9.map V.ref))) l7 (.lst (Hy.map V.ref++f9.map V.ref))):=⟨Hy++f9,by rw [Qt]; exact aB,(A8.append hA).same D3⟩
    clear QB xb s9 D3 W8 A8 e8 hA
    generalize upd (upd H8 l6 (.lst (f9.map V.ref))) l7 (.lst (Hy.map V.ref++f9.map V.ref))=Ha at yx X1 ⊢
    refine ⟨_,rfl,md 1 (by decide) |> Je,λd1 my=>⟨md 1 (by decide) |> Je,λd2 hd2=>⟨_,rfl,S.n,1,rfl,rfl,md 1 (by decide) |> Je,λq hq=>⟨kc _ _,λd3 K4=>⟨Az _ _ _,λl8 o!=>?_⟩⟩⟩⟩⟩
    have t1:=aD.new (o:=.tup [.str "go"]) my
    have t2:=aD.new (o:=.tup [.str "come"]) hd2
    have t3:=aD.new (o:=.tup [.int (S.n - 1)]) hq
    have t4:=aD.new (o:=.tup [.str "put",.ref q]) K4
    have t5:=aD.new (o:=.lst [.ref d1,.ref d2,.ref d3]) o!
    have DX:=t2.trans (t3.trans (t4.trans t5))
    obtain ⟨ds,e11,X3⟩:=X1
    refine ⟨l7,l8,_,_,rfl,rfl,(t1.trans DX) _ _ e11,aB,by rw [Rf,Qc,X3.len,Qe,Qc]; simp; omega,λl9 Em=>?_⟩
    have t6:=aD.new (o:=.lst (ds.map V.ref++[.ref d1,.ref d2,.ref d3])) Em
    have gC:=aEW (p:=q) (ks:=ks) A.m (by rw [A.n]; exact e6) A.len (by rw [En]; exact (gz.sublist (List.drop_sublist ..)).filter _) (λk hk=>(A.mem k).mpr (by rw [En] at hk; exact (Xf.mp hk).1)) λk l hp hm=>by
     obtain ⟨j,vt,BQ⟩:=hp
     have kd:=(A.mem k).mp (Qd vt)
     obtain ⟨j',g1,g2⟩:=A.pr k l ⟨j,vt,BQ⟩
     rw [A.n] at hm
     rw [En]
     exact Xf.mpr ⟨kd,by rw [UO gz g1 g2]; exact decide_eq_true hm⟩
    rw [A.n] at gC
    refine bP _ _ ⟨l9,(nI S p0++ks.map .take)++[.go,.gp,.put q [S.n - 1]],_,rfl,yx.same ((t1.trans DX).trans t6),⟨ds++[d1,d2,d3],by rw [Qt]; exact aB,(X3.same ((t1.trans DX).trans t6)).append (ib.cons ?_ (ib.cons ?_ (ib.one ?_)))⟩,(yx.same (t1.trans DX)).gm.ne Em,by rw [List.append_assoc]; exact kD dA (by rw [r6]; exact gC),by rw [Qe,Qe,Qc]; simp; omega⟩
    ·exact (DX.trans t6).dk (d8.of aB)
    ·exact ((t3.trans (t4.trans t5)).trans t6).dk (d8.of aB)
    ·exact ⟨(t5.trans t6).dk (d8.of aB),((t4.trans t5).trans t6).dk (d8.of aB)⟩
  ·rintro σ H6 ⟨lp,es,v5,rfl,W6,⟨ds,e6,A6⟩,ZM,dM,el⟩
   refine ⟨_,rfl,_,rfl,_,rfl,_,rfl,t,a,ns,N,x,sp,lp,D,S,ds,es,rfl,W6,by omega,ZM.symm,⟨e6,A6.len,A6.all⟩,dM,λD' H7 W7=>⟨true,rfl,bK rfl ?_⟩⟩
   refine ⟨4,rfl,by decide,by decide,iP (lo:=0) (n:=(4:Int).toNat) (λi σ H'=>∃ v6 D S,σ = [some (.ref t),some (.ref x),some (.ref sp),some (.ref lp),some (.int n0),v5,v6]/\Wn K H' C t a ns (N+150+30*i) Pt Pl x sp D S) ⟨none,D',_,by rw [P_],W7.more (by omega)⟩ ?_ ?_⟩
   ·rintro i σ H' hi ⟨v6,D1,S1,rfl,W8⟩
    have hi:i < 4:=hi
    dsimp only [bO]
    refine ⟨_,rfl,_,rfl,_,rfl,_,rfl,_,rfl,t,a,ns,_,sp,S1,rfl,W8.gm,by omega,W8.p.sh,W8.p.sm,λdp e H9 b9 J9 hE EI=>⟨md 1 (by decide) |> Je,λl9 Em=>?_⟩⟩
    have W9:=W8.but b9 J9
    have s9:=aD.new (o:=.lst [.ref dp]) Em
    refine ⟨t,a,ns,_,x,sp,l9,D1,S1,[dp],[e],rfl,W9.same s9,by simp; omega,(W9.gm.ne Em).symm,⟨aB,rfl,(ib.one (hE.same s9)).all⟩,⟨EI,trivial⟩,λD2 Hb Wb=>⟨true,rfl,bK rfl ⟨_,D2,_,rfl,Wb.more (by simp; omega)⟩⟩⟩
   ·rintro σ H' ⟨v6,D1,S1,rfl,W8⟩
    exact k D1 S1 H' (W8.more (by show N+150+30*4<=_; omega))
end Ab
namespace L2
open PySem PySem.Spec PyProof.Rows
theorem aA2 (hK:X.K=K) (hu:X.A.units+100 < cm):iy X (bh .NotEq) (WX K):=by subst hK; exact aBP hu
end L2
namespace Ab
open PySem L2
theorem aEY {t:TS} {D0:Ends} {σ:St} (h:∀ D:Ends,(∀ d6 H',D0.nx d6 H'->D.nx d6 H')->(∀ d6 H',D0.bk d6 H'->D.bk d6 H')->t D σ H):t D0 σ H:=h D0 (λ_ _ z=>z) λ_ _ z=>z
theorem aEZ {tA tB:TT} {σ:St} {Q:Bool->Hp->Prop} (hA:∀ R:Bool->Hp->Prop,(∀ b,R b H)->tA σ H R) (hB:∀ R:Bool->Hp->Prop,(∀ b,R b H)->tB σ H R) (h:∀ b,Q b H):LU tA tB σ H Q:=by
 refine hA _ λb=>?_
 cases b with
 | false=>exact oH (h false)
 | true=>exact kN (hB _ h)
theorem jO.Gb (e:H t=some (.lst xs)) (b:ff t H H') (n:H0 t≠none) {wd:Wd} (h:jO K D H0 H wd v):jO K D H0 H' wd v :=
 h.keep (x:=t) (a:=t) (b:=t) (λc u h1 _ _=>b c u h1) (NT.lst e) (NT.lst e) (NT.lst e) n n n
section
variable {H3:Hp} {a x sp ap da dh:ae} {N:Nat} {n:Int}
theorem aGi (J:gq K H2 t a ns N) (hT:H2 Pt=some (.tab rQ)) (K_:H2 Pl=some (.tab qR)) (j7:1<=n) (jc:n<=6) (es:H2 sp=some (.dK (⟨n,0,[],[],ap,[]⟩:SD).kv)) (ea:H2 ap=some (.dK [])) (ph:sp≠ap) (q:aD H2 H3) (hD:iz K H3 C x (DD.begun n dx da dh)) (yo:H2 da=none) (v_:H2 dh=none) :
  Wn K H3 C t a ns N Pt Pl x sp (DD.begun n dx da dh) ⟨n,0,[],[],ap,[]⟩:=by
 have Y1:jm K H2 sp ⟨n,0,[],[],ap,[]⟩:=⟨es,ea,rfl,rfl,λi t l q=>by simp at q,ph⟩
 have Y2:ko ⟨n,0,[],[],ap,[]⟩:=⟨jA j7 jc (Jo _) λl hl=>(Qq hl).elim,List.Pairwise.nil,λk hk=>(Qq hk).elim,Zb _,rfl⟩
 have ne:∀ {c d:ae} {o:HO},H2 c=some o->H2 d=none->d≠c:=λh1 h2 z=>by rw [z,h1] at h2; cases h2
 refine ⟨J.same q,q _ _ hT,q _ _ K_,⟨hD,aFW j7 jc,Y1.same q,Y2,⟨rfl,rfl,rfl,rfl⟩⟩,?_⟩
 show [da,dh,sp,ap].Nodup
 simp only [Jh,Qj,Qq,or_false,not_or,We,and_true,not_false_eq_true]
 exact ⟨⟨hD.ne,ne es yo,ne ea yo⟩,⟨ne es v_,ne ea v_⟩,ph⟩
end
section
variable {c:Nat->ae}
def HZ (K:Rb) (Pt Pl:ae):Sp:=λvs H Q _=>∃ (a:ae) (ns:List Int),vs = [.ref a]/\d9 K H a (ns.map V.int)/\H Pt=some (.tab rQ)/\H Pl=some (.tab qR)/\∀ H',H' Pt=some (.tab rQ)->H' Pl=some (.tab qR)->Q (.bl true) H'
theorem kE:c_ ["script", "jar", "bad", "k", "state", "full", "dealing", "turn", "deed", "ahead", "due", "found"] ["script"] (aI HI):=.of
set_option maxHeartbeats 4000000 in
theorem aHv {fN fU fV fG:ae} {dI dN dK dU dV dG:az} (G:Fn K mg "law" HI ["script"] f fd) (T:Dc K C) (B:Bl mg) (MK:Mk K C fI) (Dp:mg "Dealing" = some (.ref C)) (nc:Fn K mg "_law_e_scoop" kQ ["jar", "many"] fS dS) (m_:b_ P w K mg base d7 2 fS dS ["jar", "many"] (jN K)) (X0:Fn K mg "_law_e_begun" yT ["hands"] fB dB) (XH:b_ P w K mg base d7 1 fB dB ["hands"] zK) (Nm:Mt K C "__init__" uU ["self", "hands"] fI dI) (Fs:b_ P w K mg base d7 3 fI dI ["self", "hands"] (US K C)) (Np:Fn K mg "_law_e_deed" xF ["jar", "state"] fD dD) (Nf:b_ P w K mg base d7 4 fD dD ["jar", "state"] (MX K)) (Af:Fn K mg "_law_e_do" AA ["dealing", "deed"] fO dO) (Ck:b_ P w K mg base d7 4 fO dO ["dealing", "deed"] (HL K C Pt)) (Cq:Fn K mg "_law_e_step" rM ["state", "deed"] fT dT) (Ci:b_ P w K mg base d7 1 fT dT ["state", "deed"] (vN K)) (IQ:Fn K mg "_law_e_asked" vA ["jar", "dealing"] fA dA) (IK:b_ P w K mg base d7 11 fA dA ["jar", "dealing"] (zM K C Pl)) (Nl:Fn K mg "_law_e_stands" lV ["found", "state"] fN dN) (M9:b_ P w K mg base d7 3 fN dN ["found", "state"] (vS K)) (IP:Fn K mg "_law_e_word" uS ["dealing", "deed"] fW dW) (IG:b_ P w K mg base d7 5 fW dW ["dealing", "deed"] (zQ K C)) (GEl:Fn K mg "_law_e_are_levels" lU ["state", "where", "heights"] fL dL) (OEl:b_ P w K mg base d7 2 fL dL ["state", "where", "heights"] (vQ K)) (GRf:Fn K mg "_law_e_refused" lD ["jar", "state"] fR dR) (ORf:b_ P w K mg base d7 5 fR dR ["jar", "state"] (rX K C)) (XY:Fn K mg "_law_e_kept" Fd ["found"] fK dK) (XE:b_ P w K mg base d7 1 fK dK ["found"] MR) (GFu:Fn K mg "_law_e_full" HU ["jar", "state", "dealing"] fU dU) (OFu:b_ P w K mg base d7 5 fU dU ["jar", "state", "dealing"] (MV K C Pt Pl)) (GFa:Fn K mg "_law_e_full_again" uT ["jar", "state", "dealing"] fV dV) (OFa:b_ P w K mg base d7 13 fV dV ["jar", "state", "dealing"] (VE K C Pt Pl)) (GGb:Fn K mg "_law_e_good_behind" pG ["jar", "dealing", "state"] fG dG) (OGb:b_ P w K mg base d7 13 fG dG ["jar", "dealing", "state"] (VU K C Pt Pl)):b_ P w K mg base d7 14 f fd ["script"] (HZ K Pt Pl):=by
 refine G.fn.oK kE λfh A outer s H vs Q E hr h=>?_
 ·obtain ⟨a,ns,rfl,ha,hT,K_,k⟩:=h
  have hu:=bV hr
  have O_:dz 13 _:=hr
  have GI:dz 11 _:=hr.mono (by decide)
  have r5:dz 5 _:=hr.mono (by decide)
  have r4:dz 4 _:=hr.mono (by decide)
  have r3:dz 3 _:=hr.mono (by decide)
  have r2:dz 2 _:=hr.mono (by decide)
  have r1:dz 1 _:=hr.mono (by decide)
  have yb:(A.deeper (PyProof.Rows.envOfC "law" (aI HI) s.heap.objs.size f fh)).units+100 < cm:=by have:=r1.un; omega
  refine ji.ex (aM (cP (i:=1) kE.nd rfl (Or.inl rfl) (eK (aG ⟨(pv 0)⟩ (aG dF (aG dF bD aO) aO) yF)))
   (aM (mX ay.never rfl (eK (aG dF (aG dF (aG ⟨(pS lP aH)⟩ (aG fF (aG fF (aG sU (aG cH (aG (cO (aG dF bD aO)) (aG (eK (aG dF bD aO)) (aG ⟨(aY xU aH aH)⟩ (aG ⟨jY⟩ bD V3) jI) yE) eG) aO) aO) aO) aO) MC) aO) aO)) (aV (i:=2) kE.nd rfl (Or.inl rfl)) (bE (fZ (aP oJ (aW IP IG r5 rfl (aA oS (aA (pv 2) aC))) aK (aU _)) (bE (gR fF)) cZ)) (λ_=>rfl))
   (aM (oE ay.never rfl (eD rfl B.range (aA aH aC)) (aV (i:=3) kE.nd rfl (Or.inl rfl)) (aM (fZ (PW.pt (mL (aP mM (pv 3) aH (aU _)) (lN (aP IA (bN cN (pv 1) aH (λ_ _=>rfl)) (aL bB rfl B.len eQ (aA (pv 0) aC)) (aU _))))) (bE ⟨aDj⟩) cZ)
   (aM (cP (i:=4) kE.nd rfl (Or.inl rfl) ⟨(aW X0 XH r1 rfl (aA (aY eF aH (aW nc m_ r2 rfl (aA (pv 1) (aA aH aC)))) aC))⟩)
   (aM (cP (i:=5) kE.nd rfl (Or.inl rfl) ⟨(oV (gQ dY (pv 3) aH (aU _)) (oU (gQ dY (aW nc m_ r2 rfl (aA (pv 1) (aA aH aC))) aH (aU _))))⟩)
   (aM (fZ (PW.pt (mL (bM (pv 5)) (lN (aP dY (aW nc m_ r2 rfl (aA (pv 1) (aA aH aC))) aH (aU _))))) (bE (cP (i:=4) kE.nd rfl (Or.inl rfl) ⟨(aW X0 XH r1 rfl (aA aH aC))⟩)) cZ)
   (aM (cP (i:=6) kE.nd rfl (Or.inl rfl) ⟨(aFb MK Fs r4 rfl Dp Nm.bd .nil gJ (aA (aQ (bV hr) (pv 4) aK (λ_ _=>rfl)) aC))⟩)
   (aM (fZ (bM (pv 5)) (bE ⟨(cL (aW GFu OFu r5 rfl (aA (pv 1) (aA (pv 4) (aA (pv 6) aC)))))⟩) cZ)
   (aM (oE ay.never rfl (eD rfl B.range (aA (aY iB (aW nc m_ r2 rfl (aA (pv 1) (aA aH aC))) (cS wO rfl B.int Fe (aA (gQ mM (pv 3) aH (aU _)) aC))) aC)) (aV (i:=7) kE.nd rfl (Or.inl rfl)) (aM (cP (i:=8) kE.nd rfl (Or.inl rfl) ⟨(aW Np Nf r4 rfl (aA (pv 1) (aA (pv 4) aC)))⟩)
   (aM ⟨(cL (aW Cq Ci r1 rfl (aA (pv 4) (aA (pv 8) aC))))⟩
   (bE ⟨(cL (aW Af Ck r4 rfl (aA (pv 6) (aA (pv 8) aC))))⟩))) (λ_=>rfl))
   (aM (cP (i:=9) kE.nd rfl (Or.inl rfl) ⟨(aW IQ IK GI rfl (aA (pv 1) (aA (pv 6) aC)))⟩)
   (aM (fZ (bW (bM (aW Nl M9 r3 rfl (aA (pv 9) (aA (pv 4) aC))))) (bE (gR fF)) cZ)
   (aM (oE ay.never rfl (hX (aW GRf ORf r5 rfl (aA (pv 1) (aA (pv 4) aC)))) (oW rfl (dP (aV (i:=8) kE.nd rfl (Or.inl rfl)) (dP (aV (i:=10) kE.nd rfl (Or.inl rfl)) lO))) (aM (oE ay.never rfl (eD rfl B.range (aA aH aC)) (aV (i:=7) kE.nd rfl (Or.inl rfl)) (bE (fZ (aP oJ (aW IP IG r5 rfl (aA (pv 6) (aA (pv 8) aC))) (pv 10) (aU _)) (bE (gR fF)) cZ)) (λ_=>rfl))
   (aM (cP (i:=11) kE.nd rfl (Or.inl rfl) ⟨(aW IQ IK GI rfl (aA (pv 1) (aA (pv 6) aC)))⟩)
   (aM (fZ (aP (aA2 (K:=K) rfl yb) (aW XY XE r1 rfl (aA (pv 11) aC)) (aW XY XE r1 rfl (aA (pv 9) aC)) (aU _)) (bE (gR fF)) cZ)
   (bE (fZ (bW (bM (aW GEl OEl r2 rfl (aA (pv 4) (aA (aQ (bV hr) (pv 11) aK (λ_ _=>rfl)) (aA (aQ (bV hr) (pv 11) aK (λ_ _=>rfl)) aC)))))) (bE (gR fF)) cZ))))) (λ_=>rfl))
   (aM (fZ (PW.pt (mL (bM (pv 5)) (lN (bW (bM (aW GFa OFa O_ rfl (aA (pv 1) (aA (pv 4) (aA (pv 6) aC))))))))) (bE (gR fF)) cZ)
   (bE (fZ (bW (bM (aW GGb OGb O_ rfl (aA (pv 1) (aA (pv 6) (aA (pv 4) aC)))))) (bE (gR fF)) cZ))))))))))))) (λ_=>rfl))
   (bE (gR fF))))) ?_
  refine gO ⟨_,rfl,md 3 (by decide) |> Je,λt ht=>?_⟩
  have q1:=aD.new (o:=.lst [.ref a,.int 0,.int 0]) ht
  have J1:gq K (upd H t (.lst [.ref a,.int 0,.int 0])) t a ns 0:=⟨⟨0,0,Zb _,Zb _,aB⟩,q1.lj ha⟩
  have QU:=q1 _ _ hT
  have F6:=q1 _ _ K_
  generalize upd H t (.lst [.ref a,.int 0,.int 0])=H1 at q1 J1 QU F6 ⊢
  have fx:Fx [t] H1:=λb hb=>by rw [Qu.mp hb]; exact J1.lst
  refine bG λu hu=>?_
  refine pQ (qY (tK (K:=K) (R:=λd=>eL d=false) (S:=[t]) (n:=11) fx (aT (ED.dep dJ rfl) (aT (ED.dep dJ rfl) (aT (ED.dep (E_ (g:=λi=>-i) dJ) rfl) (aT (ED.dep sM rfl) (aT (ED.dep sM rfl) (aT (ED.dep zS rfl) (aT (ED.dep vV rfl) (aT (ED.dep (iV (cF dJ eM)) rfl) (aT (ED.dep (zT (cF dJ eM)) rfl)
   (aT (λH s f Q k=>⟨10,20,rfl,rfl,⟨by decide,by decide,by decide⟩,k _ _ (aD.refl _) ⟨.int _,cG.mpr rfl,by decide +kernel⟩⟩) (aT (ED.dep VB rfl) mC))))))))))) λlp xs H2 s2 i5 PN hx=>?_))
  have s3:=s2.trans (aD.new (o:=.lst xs) i5)
  have Ks:∀ y∈xs,ku K (λd=>eL d=false) [t] (upd H2 lp (.lst xs)) y:=λy h=>(hx y h).keep (Vw.same (aD.new i5))
  have e3:upd H2 lp (.lst xs) lp=some (.lst xs):=aB
  have J3:=J1.same s3
  have La:=s3 _ _ QU
  have CU:=s3 _ _ F6
  generalize upd H2 lp (.lst xs)=H3 at s3 Ks e3 J3 La CU ⊢
  refine ⟨lp,rfl,⟨_,d9.of e3⟩,jC (K:=K) (a:=lp) (xs:=xs) (λi σ H'=>(∃ v2,σ = [some (.ref a),some (.ref t),v2,none,none,none,none,none,none,none,none,none])/\aD H3 H') ⟨⟨none,rfl⟩,aD.refl _⟩ (λi σ H' _ h=>d9.of (h.2 _ _ e3)) ?_ ?_⟩
  ·rintro i z σ H' hz ⟨⟨v2,rfl⟩,s'⟩
   obtain ⟨d,hd,hb⟩:=Ks z (Qd hz)
   dsimp only [bO]
   refine ⟨_,rfl,.ft,z,0, "book",rfl,by decide,rfl,.inl ⟨rfl,rfl,d,s'.den _ _ (Vw.sub.den _ _ hd),hb⟩,λNj Bx=>⟨rfl,_,rfl,bK (by simp) ⟨⟨_,rfl⟩,s'.trans Bx⟩⟩⟩
  rintro σ H4 ⟨⟨v2,rfl⟩,s4⟩
  subst hu
  have J4:=J3.same s4
  have QT:=s4 _ _ La
  have F5:=s4 _ _ CU
  dsimp only
  refine pQ ⟨3,rfl,by decide,by decide,iP (lo:=0) (n:=3) (λi σ H'=>(∃ v2 v3 v4 v5 v6 v7 v8 v9 v10 v11,σ = [some (.ref a),some (.ref t),v2,v3,v4,v5,v6,v7,v8,v9,v10,v11])/\gq K H' t a ns (100000*i)/\H' Pt=some (.tab rQ)/\H' Pl=some (.tab qR)) ⟨⟨_,_,_,_,_,_,_,_,_,_,rfl⟩,J4,QT,F5⟩ ?_ ?_⟩
  rotate_left
  ·rintro σ H' ⟨_,_,p2,l2⟩
   exact k _ p2 l2
  clear J4 QT F5 s4 H4 La CU J3 s3 Ks e3 i5
  rintro i σ H2 hi ⟨⟨v2,v3,v4,v5,v6,v7,v8,v9,v10,v11,rfl⟩,J2,p2,l2⟩
  dsimp only [bO]
  obtain ⟨⟨Y9,q2,rh,G!,Ej⟩,FW⟩:=id J2
  obtain ⟨N,F?⟩:∃ N,N=100000*i:=⟨_,rfl⟩
  rw [<- F?] at J2
  have hNb:N<=200000:=by omega
  refine aEY λD0 kn kb=>?_
  refine bG λu hu=>?_
  refine eV (λd6 H'=>d6 = [some (.ref a),some (.ref t),v2,some (.int (0+i)),v4,v5,v6,v7,v8,v9,v10,v11]/\H'=H2) (λN' bP=>?_) ?_
  ·refine aEZ (λR hR=>⟨_,rfl,_,_,rfl,rfl,_,rfl,hR _⟩) (λR hR=>⟨_,rfl,t,_,1,.int Y9,rfl,rfl,d9.of Ej,rfl,_,rfl,a,_,rfl,.inl FW,_,_,rfl,rfl,_,rfl,hR _⟩) (λb=>?_)
   exact gK (λ_=>kb _ _ (k _ p2 l2)) (λ_=>bP _ _ ⟨rfl,rfl⟩)
  rintro σ H' ⟨rfl,rfl⟩
  subst hu
  clear rh G! Ej FW
  -- the state,full
  refine bG λu hu=>?_
  refine eV (λd6 H2=>∃ n sp ap,d6 = [some (.ref a),some (.ref t),v2,some (.int (0+i)),some (.ref sp),v5,v6,v7,v8,v9,v10,v11]/\1<=n/\n<=6/\gq K H2 t a ns (N+1)/\H2 Pt=some (.tab rQ)/\H2 Pl=some (.tab qR)/\H2 sp=some (.dK (⟨n,0,[],[],ap,[]⟩:SD).kv)/\H2 ap=some (.dK [])/\sp≠ap) (λN' bP=>?_) ?_
  ·refine ⟨_,rfl,t,a,ns,N,6,rfl,J2,by omega,by decide,by decide,λr H1 r0 r1 b1 J1=>⟨1,r,rfl,rfl,1+r,rfl,λsp ap H2 q2 ns0 na0 ph vd wb=>bP _ _ ⟨1+r,sp,ap,rfl,by omega,by omega,J1.same q2,?_,?_,vd,wb,ph⟩⟩⟩
   ·obtain ⟨_,Lw⟩:=J2.lst
    exact q2 _ _ (b1 _ _ (λz=>by rw [z,Lw] at p2; cases p2) p2)
   ·obtain ⟨_,Lw⟩:=J2.lst
    exact q2 _ _ (b1 _ _ (λz=>by rw [z,Lw] at l2; cases l2) l2)
  clear J2 p2 l2
  rintro σ H2 ⟨n,sp,ap,rfl,n1,n6,J2,p2,l2,vd,wb,ph⟩
  subst hu
  have bt:∀ {H2 H3:Hp} {M:Nat} {c:ae} {u:HO},gq K H2 t a ns M->ff t H2 H3->H2 c=some u->(∀ xs,u≠.lst xs)->H3 c=some u:=λJ b h n=>b _ _ (λz=>by obtain ⟨_,e⟩:=J.lst; rw [z,e] at h; exact n _ (Option.some.inj h).symm) h
  refine bG λu hu=>?_
  refine eV (λd6 H2=>∃ (full:Bool) (n:Int) (sp ap:ae),d6 = [some (.ref a),some (.ref t),v2,some (.int (0+i)),some (.ref sp),some (.bl full),v6,v7,v8,v9,v10,v11]/\(full=true->i=0)/\1<=n/\n<=6/\gq K H2 t a ns (N+2)/\H2 Pt=some (.tab rQ)/\H2 Pl=some (.tab qR)/\H2 sp=some (.dK (⟨n,0,[],[],ap,[]⟩:SD).kv)/\H2 ap=some (.dK [])/\sp≠ap) (λN' bP=>?_) ?_
  ·refine ⟨_,rfl,rfl,decide (V.int (0+i)=V.int 0),rfl,?_⟩
   refine gK (λh=>?_) (λ_=>bP _ _ ⟨false,n,sp,ap,rfl,λz=>(by cases z),n1,n6,J2.more (by omega),p2,l2,vd,wb,ph⟩)
   have h0:i=0:=by
    have:=of_decide_eq_true h
    injection this with this
    omega
   exact ⟨_,rfl,t,a,ns,_,2,rfl,J2,by omega,by decide,by decide,λr H3 _ _ b3 J3=>⟨rfl,bP _ _ ⟨_,n,sp,ap,rfl,λ_=>h0,n1,n6,J3,bt J2 b3 p2 (λ_ z=>by cases z),bt J2 b3 l2 (λ_ z=>by cases z),bt J2 b3 vd (λ_ z=>by cases z),bt J2 b3 wb (λ_ z=>by cases z),ph⟩⟩⟩
  clear J2 p2 l2 vd wb ph n1 n6 n sp ap H2
  rintro σ H2 ⟨full,n,sp,ap,rfl,Bs,n1,n6,J2,p2,l2,vd,wb,ph⟩
  subst hu
  refine bG λu hu=>?_
  refine eV (λd6 H2=>∃ (n:Int) (sp ap:ae),d6 = [some (.ref a),some (.ref t),v2,some (.int (0+i)),some (.ref sp),some (.bl full),v6,v7,v8,v9,v10,v11]/\1<=n/\n<=6/\gq K H2 t a ns (N+3)/\H2 Pt=some (.tab rQ)/\H2 Pl=some (.tab qR)/\H2 sp=some (.dK (⟨n,0,[],[],ap,[]⟩:SD).kv)/\H2 ap=some (.dK [])/\sp≠ap) (λN' bP=>?_) ?_
  ·refine ⟨_,rfl,full,rfl,gK (λ_=>?_) (λ_=>oH (bP _ _ ⟨n,sp,ap,rfl,n1,n6,J2.more (by omega),p2,l2,vd,wb,ph⟩))⟩
   refine ⟨_,rfl,t,a,ns,_,3,rfl,J2,by omega,by decide,by decide,λr H3 _ _ b3 J3=>⟨rfl,_,rfl,gK (λ_=>?_) (λ_=>bP _ _ ⟨n,sp,ap,rfl,n1,n6,J3,bt J2 b3 p2 (λ_ z=>by cases z),bt J2 b3 l2 (λ_ z=>by cases z),bt J2 b3 vd (λ_ z=>by cases z),bt J2 b3 wb (λ_ z=>by cases z),ph⟩)⟩⟩
   exact ⟨6,rfl,λO1 ap' H4 q4 _ _ Nv V? Z?=>bP _ _ ⟨6,O1,ap',rfl,by decide,by decide,J3.same q4,q4 _ _ (bt J2 b3 p2 (λ_ z=>by cases z)),q4 _ _ (bt J2 b3 l2 (λ_ z=>by cases z)),V?,Z?,Nv⟩⟩
  clear J2 p2 l2 vd wb ph n1 n6 n sp ap H2
  rintro σ H2 ⟨n,sp,ap,rfl,n1,n6,J2,p2,l2,vd,wb,ph⟩
  subst hu
  -- the dealing made
  refine bG λu hu=>?_
  refine eV (λd6 H3=>∃ x D S,d6 = [some (.ref a),some (.ref t),v2,some (.int (0+i)),some (.ref sp),some (.bl full),some (.ref x),v7,v8,v9,v10,v11]/\Wn K H3 C t a ns (N+3) Pt Pl x sp D S/\S.nums = []/\S.fg=0) (λN' bP=>?_) ?_
  ·refine ⟨_,rfl,sp,_,rfl,.inl ⟨_,.inr "hands",.inl vd,rfl,(cT _).symm⟩,λx dx hx Ew ZR=>?_⟩
   refine ⟨x,dx,n,rfl,aB,n1,n6,λda dh H3 b3 yo v_ hD=>⟨rfl,?_⟩⟩
   have q3:aD H2 H3:=λc u hc=>by
    have c1:c≠x:=λz=>by rw [z,hx] at hc; cases hc
    have c2:c≠dx:=λz=>by rw [z,Ew] at hc; cases hc
    exact b3 _ _ c1 (by rw [aF c1,aF c2]; exact hc)
   have nn:∀ {d:ae},(upd (upd H2 dx (.own x)) x (.ins C dx [])) d=none->H2 d=none:=λ{d} hd=>by
    have d1:d≠x:=λz=>by rw [z,aB] at hd; cases hd
    have d2:d≠dx:=λz=>by rw [z,aF ZR,aB] at hd; cases hd
    rw [aF d1,aF d2] at hd; exact hd
   exact bP _ _ ⟨x,_,_,rfl,aGi J2 p2 l2 n1 n6 vd wb ph q3 hD (nn yo) (nn v_),rfl,rfl⟩
  clear J2 p2 l2 vd wb ph n1 n6 n ap H2
  rintro σ H2 ⟨x,D,S,rfl,W2,S0,d0⟩
  subst hu
  refine bG λu hu=>?_
  refine eV (λd6 H3=>d6 = [some (.ref a),some (.ref t),v2,some (.int (0+i)),some (.ref sp),some (.bl full),some (.ref x),v7,v8,v9,v10,v11]/\∃ D S,Wn K H3 C t a ns (N+99) Pt Pl x sp D S/\(full=true->S.nums.length=12)/\S.fg<=12) (λN' bP=>?_) ?_
  ·refine ⟨_,rfl,full,rfl,gK (λ_=>?_) (λhf=>bP _ _ ⟨rfl,D,S,W2.more (by omega),λz=>absurd z hf,by omega⟩)⟩
   exact ⟨_,rfl,_,rfl,_,rfl,t,a,ns,_,x,sp,D,S,rfl,W2,by omega,S0,λD' S' H' h1 _ h3 W'=>bP _ _ ⟨rfl,D',S',W'.more (by omega),λ_=>h1,by omega⟩⟩
  clear W2 S0 d0 D S H2
  rintro σ H2 ⟨rfl,D,S,W2,G_,d2⟩
  subst hu
  -- drawn deeds
  refine bG λu hu=>?_
  refine eV (λd6 H3=>(∃ v7 v8,d6 = [some (.ref a),some (.ref t),v2,some (.int (0+i)),some (.ref sp),some (.bl full),some (.ref x),v7,v8,v9,v10,v11])/\∃ D S,Wn K H3 C t a ns (N+1000) Pt Pl x sp D S/\(full=true->S.nums.length=12)/\S.fg<=30) (λN' bP=>?_) ?_
  ·refine ⟨_,rfl,t,a,ns,_,9,rfl,W2.gm,by omega,by decide,by decide,λr H3 r0 r1 b3 J3=>⟨_,rfl,0+(i:Int),0,rfl,rfl,.inr ⟨_,rfl,?_⟩⟩⟩
   have W3:=W2.but b3 J3
   obtain ⟨m,hm⟩:∃ m:Int,m=r*(if decide ((0:Int) < 0+(i:Int))=true then 1 else 0):=⟨_,rfl⟩
   have k?:0<=m/\m<=8/\(full=true->m=0):=by
    rw [hm]
    split
    ·rename_i h
     have:=of_decide_eq_true h
     refine ⟨by omega,by omega,λz=>?_⟩
     have:=Bs z
     omega
    ·refine ⟨by omega,by omega,λ_=>by omega⟩
   refine ⟨r,_,rfl,rfl,.inr (by split <;> decide),m,by rw [hm],by omega,by omega,?_⟩
   refine iP (lo:=0) (n:=m.toNat) (λj d6 H3=>(∃ v7 v8,d6 = [some (.ref a),some (.ref t),v2,some (.int (0+i)),some (.ref sp),some (.bl full),some (.ref x),v7,v8,v9,v10,v11])/\∃ D S,Wn K H3 C t a ns (N+100+40*j) Pt Pl x sp D S/\(full=true->S.nums.length=12)/\S.fg<=12+j) ⟨⟨_,_,rfl⟩,D,S,W3,G_,by omega⟩ ?_ ?_
   ·rintro j σ H4 hj ⟨⟨v7,v8,rfl⟩,D,S,W4,_,d4⟩
    dsimp only [bO]
    refine gO ⟨_,rfl,_,rfl,t,a,ns,_,sp,S,rfl,W4.gm,by omega,W4.p.sh,W4.p.sm,λdp e H5 b5 J5 hE EI=>?_⟩
    have W5:=W4.but b5 J5
    refine pQ ⟨_,rfl,_,rfl,sp,dp,S,e,rfl,W5.p.sh,W5.p.sm,hE,EI,λH6 b6 C?=>?_⟩
    obtain ⟨Lj,ms,mp⟩:=W5.ot b6
    refine ⟨_,rfl,_,rfl,x,dp,D,S,e,rfl,Lj,W5.p.dm,W5.p.lk,hE.keep b6 ms.nt mp.nt mp.nt,EI,b6.tab ms mp mp W5.pt,λDn H7 b7 da dh A0 EE Ec SA=>⟨⟨_,_,rfl⟩,Dn,S.step e,(W5.Bu b6 C? b7 da dh A0 EE Ec EI).more (by omega),λz=>?_,?_⟩⟩
    ·have:=k?.2.2 z
     omega
    ·cases e <;> (try simp only [SD.step]) <;> omega
   ·rintro σ H4 ⟨⟨v7,v8,rfl⟩,D,S,W4,h4,d4⟩
    exact bP _ _ ⟨⟨_,_,rfl⟩,D,S,W4.more (by omega),h4,by omega⟩
  clear W2 G_ d2 D S H2 Bs
  rintro σ H2 ⟨⟨YO,YN,rfl⟩,D,S,W2,G_,d2⟩
  subst hu
  -- asked
  refine gO ⟨_,rfl,_,rfl,t,a,ns,_,x,D,rfl,W2.gm,by omega,W2.p.dh,W2.p.dm,W2.pl,λfp kf H3 b3 J3 nf hf vf=>?_⟩
  have W3:=W2.but b3 J3
  refine bG λu hu=>?_
  refine eV (λd6 H'=>d6 = [some (.ref a),some (.ref t),v2,some (.int (0+i)),some (.ref sp),some (.bl full),some (.ref x),YO,YN,some (.ref fp),v10,v11]/\aD H3 H') (λN' bP=>?_) ?_
  ·exact ⟨_,rfl,_,rfl,fp,sp,kf,H2,S,D,rfl,hf,vf,W3.p.lk,W3.p.dm,W3.p.dh.hl,W3.p.sh,W3.p.sm,by rw [W2.p.sh.dr]; exact λz=>(by cases z),λH5 s5=>⟨true,rfl,bK rfl (bP _ _ ⟨rfl,s5⟩)⟩⟩
  rintro σ H4 ⟨rfl,s4⟩
  subst hu
  have W4:=W3.same s4
  have K0:=s4 _ _ hf
  have Au:∀ wd:Wd,∃ v,bX kf (.inr wd.str)=some v/\jO K D H2 H4 wd v:=λwd=>let ⟨v,h1,h2⟩:=vf wd; ⟨v,h1,h2.same s4⟩
  have Ej:H2 t≠none:=by obtain ⟨_,e⟩:=W2.gm.lst; rw [e]; exact λz=>(by cases z)
  clear hf vf s4 W3 J3 b3 H3
  obtain ⟨ki,n1,n6⟩:=W4.ki
  obtain ⟨eN,_,eU,eW⟩:=W4.p.lk
  have F9:D.hs.length=D.nums.length:=W4.p.dh.hl
  have Nq:D.ws.length=D.nums.length:=W4.p.dh.wl
  have N4:D.nums.Nodup:=by rw [eU]; exact W4.p.sm.nd
  obtain ⟨mw,rn⟩:=fJ W4.p.dm.dl
  have AQ:∀ g∈D.hs,0<=g/\g < S.n:=λg hg=>by
   obtain ⟨i,hi⟩:=Qs.mp hg
   have hl:=Qb (show i < D.ws.length by rw [<- mw]; exact (Qa.mp hi).1)
   have:=(bA ((aZ W4.p.dm.bk).2.2.2 _ (Qd hl))).2.1 g (rn i _ _ hi hl)
   rw [eN] at this; exact this
  -- what is refused
  refine bG λu hu=>?_
  refine eV (λd6 H3=>(∃ v7 v8 v10 v11,d6 = [some (.ref a),some (.ref t),v2,some (.int (0+i)),some (.ref sp),some (.bl full),some (.ref x),v7,v8,some (.ref fp),v10,v11])/\Wn K H3 C t a ns (N+5000) Pt Pl x sp D S) (λN' bP=>?_) ?_
  ·refine qY ⟨_,rfl,_,rfl,t,a,ns,_,Pt,Pl,x,sp,D,S,rfl,W4,by omega,by omega,λrl rows H5 JY b5 J5 Su w_ Gg=>?_⟩
   have W5:=W4.but b5 J5
   obtain ⟨_,Ss⟩:=W4.gm.lst
   have ZH:rl≠t:=W4.gm.ne JY
   have Pn:fp≠t:=λz=>by rw [z,Ss] at K0; cases K0
   have u!:=b5 _ _ Pn K0
   have Om:∀ wd:Wd,∃ v,bX kf (.inr wd.str)=some v/\jO K D H2 H5 wd v:=λwd=>let ⟨v,h1,h2⟩:=Au wd; ⟨v,h1,h2.Gb Ss b5 Ej⟩
   refine ⟨rl,rfl,⟨_,d9.of Su⟩,jC (K:=K) (a:=rl) (xs:=rows) (λj d6 H'=>(∃ v7 v8 v10 v11,d6 = [some (.ref a),some (.ref t),v2,some (.int (0+i)),some (.ref sp),some (.bl full),some (.ref x),v7,v8,some (.ref fp),v10,v11])/\Wn K H' C t a ns (N+2000+5*j) Pt Pl x sp D S/\H' rl=some (.lst rows)/\(∀ y∈rows,wL K D [rl,t] H' y)/\H' fp=some (.dK kf)/\∀ wd:Wd,∃ v,bX kf (.inr wd.str)=some v/\jO K D H2 H' wd v) ⟨⟨_,_,_,_,rfl⟩,W5.more (by omega),Su,Gg,u!,Om⟩ (λ_ _ _ _ h=>d9.of h.2.2.1) ?_ ?_⟩
   ·rintro j y σ H6 hy ⟨⟨w7,w8,JA,DW,rfl⟩,W6,W?,P4,t?,Ol⟩
    have hj:=(Qa.mp hy).1
    obtain ⟨r,dp,jj,tw,rfl,nk,NY,Ψ,Ob⟩:=P4 y (Qd hy)
    refine ⟨r,_,rfl,Vw.sub.dk nk,rfl,_,_,rfl,_,_,rfl,rfl,?_⟩
    dsimp only [bO]
    refine bG λu hu=>?_
    refine eV (λd6 H'=>(∃ v7,d6 = [some (.ref a),some (.ref t),v2,some (.int (0+i)),some (.ref sp),some (.bl full),some (.ref x),v7,some (.ref dp),some (.ref fp),some (.str tw),DW])/\aD H6 H') (λN' bP=>?_) ?_
    ·refine ⟨2,rfl,by decide,by decide,iP (lo:=0) (n:=2) (λ_ d6 H'=>(∃ v7,d6 = [some (.ref a),some (.ref t),v2,some (.int (0+i)),some (.ref sp),some (.bl full),some (.ref x),v7,some (.ref dp),some (.ref fp),some (.str tw),DW])/\aD H6 H') ⟨⟨_,rfl⟩,aD.refl _⟩ ?_ (λd6 H' h=>bP _ _ h)⟩
     rintro _ d6 H7 _ ⟨⟨v7,rfl⟩,s7⟩
     dsimp only [bO]
     refine ⟨_,rfl,_,rfl,.ref x,.ref dp,jj,tw,rfl,NY,Ψ,.inr ⟨x,dp,D,rfl,rfl,W6.p.dh.same s7,by rw [eU]; exact ki,(Ob.same Vw.sub).same s7⟩,λH8 s8=>⟨_,rfl,rfl,_,rfl,bK (by simp) ⟨⟨_,rfl⟩,s7.trans s8⟩⟩⟩
    rintro d6 H7 ⟨⟨v7,rfl⟩,s7⟩
    subst hu
    have W7:=W6.same s7
    obtain ⟨_,Hx⟩:=W7.gm.lst
    refine gO ⟨_,rfl,_,rfl,t,a,ns,_,x,D,rfl,W7.gm,by omega,W7.p.dh,W7.p.dm,W7.pl,λfq kq H8 b8 J8 nq hq As=>?_⟩
    have W8:=W7.but b8 J8
    have QE:=b8 _ _ Pn (s7 _ _ t?)
    have W!:=b8 _ _ ZH (s7 _ _ W?)
    have d!:∀ y∈rows,wL K D [rl,t] H8 y:=λy h=>(P4 y h).keep ((Vw.same s7).trans (ff.vw b8 (by simp)))
    have CY:∀ wd:Wd,∃ v,bX kf (.inr wd.str)=some v/\jO K D H2 H8 wd v:=λwd=>let ⟨v,h1,h2⟩:=Ol wd; ⟨v,h1,(h2.same s7).Gb Hx b8 Ej⟩
    refine bG λu hu=>?_
    refine eV (λd6 H'=>d6 = [some (.ref a),some (.ref t),v2,some (.int (0+i)),some (.ref sp),some (.bl full),some (.ref x),v7,some (.ref dp),some (.ref fp),some (.str tw),some (.ref fq)]/\aD H8 H') (λN' bP=>?_) ?_
    ·refine ⟨_,rfl,fq,kq,rfl,hq,λwd=>let ⟨v,h1,_⟩:=As wd; ⟨v,h1⟩,λl1 YF H9 s9 _ e1 g1=>?_⟩
     refine ⟨_,rfl,fp,kf,rfl,s9 _ _ QE,λwd=>let ⟨v,h1,_⟩:=CY wd; ⟨v,h1⟩,λl2 OF Ha sa _ e2 g2=>?_⟩
     refine ⟨l1,l2,YF,OF,rfl,rfl,d9.of (sa _ _ e1),d9.of e2,by rw [g1.1,g2.1],λm v u hv hu=>?_,_,rfl,bK rfl (bP _ _ ⟨rfl,s9.trans sa⟩)⟩
     have k!:m < 4:=by rw [<- g1.1]; exact (Qa.mp hv).1
     obtain ⟨wd,AM⟩:∃ wd,BB[m]?=some wd:=⟨_,Qb (show m < BB.length from k!)⟩
     have nl:wd≠.levels:=λz=>by
      have:=Qd AM
      rw [z] at this
      revert this
      decide
     obtain ⟨v',h1,h2⟩:=As wd
     obtain ⟨u',h3,h4⟩:=CY wd
     have ev:=g1.2 m wd v AM hv
     have eu:=g2.2 m wd u AM hu
     rw [h1] at ev
     rw [h3] at eu
     cases ev
     cases eu
     exact aET N4 F9 Nq nl (h2.same (s9.trans sa)) (h4.same (s9.trans sa))
    rintro d6 H9 ⟨rfl,s9⟩
    subst hu
    have W9:=W8.same s9
    obtain ⟨_,ad,wp,rfl,Hr,Eg⟩:=As .kg
    obtain ⟨_,av,vp,lv,rfl,Ku,EF⟩:=As .levels
    rw [eU] at Eg
    rw [eN,eW] at EF
    have AI:wp≠S.ap:=λz=>by rw [z,W7.p.sh.dr] at Hr; cases Hr
    refine ⟨_,rfl,_,rfl,fq,_,rfl,.inl ⟨kq,.inr "deal",.inl (s9 _ _ hq),rfl,ad.symm⟩,_,rfl,fq,_,rfl,.inl ⟨kq,.inr "levels",.inl (s9 _ _ hq),rfl,av.symm⟩,sp,wp,vp,S,D.hs,lv,rfl,W9.p.sh,W9.p.sm,⟨s9 _ _ Eg,by rw [F9,eU],AQ⟩,AI,s9.dk Ku,EF,λHa sa=>⟨true,rfl,bK rfl ⟨⟨_,_,_,_,rfl⟩,(W9.same sa).more (by omega),sa _ _ (s9 _ _ W!),λy h=>(d! y h).keep (Vw.same (s9.trans sa)),sa _ _ (s9 _ _ QE),λwd=>let ⟨v,h1,h2⟩:=CY wd; ⟨v,h1,h2.same (s9.trans sa)⟩⟩⟩⟩
   ·rintro σ H6 ⟨⟨w7,w8,JA,DW,rfl⟩,W6,_⟩
    exact bP _ _ ⟨⟨_,_,_,_,rfl⟩,W6.more (by omega)⟩
  rintro σ H5 ⟨⟨w7,w8,JA,DW,rfl⟩,W5⟩
  subst hu
  refine bG λu hu=>?_
  refine eV (λd6 H'=>d6 = [some (.ref a),some (.ref t),v2,some (.int (0+i)),some (.ref sp),some (.bl full),some (.ref x),w7,w8,some (.ref fp),JA,DW]/\∃ D S,Wn K H' C t a ns (N+5060) Pt Pl x sp D S) (λN' bP=>?_) ?_
  ·refine ⟨_,rfl,full,rfl,gK (λhf=>?_) (λ_=>oH (bP _ _ ⟨rfl,D,S,W5.more (by omega)⟩))⟩
   exact ⟨_,rfl,_,rfl,_,rfl,t,a,ns,_,x,sp,D,S,rfl,W5,by omega,G_ hf,λD' S' H' W'=>⟨true,rfl,bK rfl (bP _ _ ⟨rfl,D',S',W'.more (by omega)⟩)⟩⟩
  rintro σ H6 ⟨rfl,D',S',W6⟩
  subst hu
  exact ⟨_,rfl,_,rfl,_,rfl,t,a,ns,_,x,sp,D',S',rfl,W6,by omega,λD2 S2 H7 W7=>⟨true,rfl,bK rfl (kn _ _ ⟨⟨_,_,_,_,_,_,_,_,_,_,rfl⟩,W7.gm.more (by omega),W7.pt,W7.pl⟩)⟩⟩
end
end Ab
namespace Ab
open PySem L2 PyProof.Rows
theorem PH (h:us.length=1):∃ a,us = [a]:=by
 match us,h with
 | [a],_=>exact ⟨a,rfl⟩
theorem ln2 (h:us.length=2):∃ a b,us = [a,b]:=by
 match us,h with
 | [a,b],_=>exact ⟨a,b,rfl⟩
theorem Z8 (h:us.length=3):∃ a b c,us = [a,b,c]:=by
 match us,h with
 | [a,b,c],_=>exact ⟨a,b,c,rfl⟩
theorem PD (h:us.length=4):∃ a b c d,us = [a,b,c,d]:=by
 match us,h with
 | [a,b,c,d],_=>exact ⟨a,b,c,d,rfl⟩
theorem aIg (X:K.In h) (G:h.Ns aj mg) {x:ax} {kV:aa} (hb:∀ (kV doc pm:aa) (an:Option ae) (fh ct:aa) (us:List aa),us.length=ps.length->c7 (Tg x x (iY st) (eZ st) (aI st) .none kV doc pm an fh ct) ⟨us,[]⟩=pure (ps.zip us)) (a:Rg K aj x=some (some (.ref f))) (l:K.lookup f=some ⟨oc,od,.func (Tg x x (iY st) (eZ st) (aI st) .none kV doc pm an fh ct),uw⟩) (c:Uc K fh x=true) (k:Tc K (.ref f)=true) :
  ∃ f fd,Fn K mg x st ps f fd:=by
 have F:=MP (st:=st) l c k
 exact ⟨f,_,F,Rv X G a,k,F.binds hb⟩
theorem U1 (X:K.In h) (G:h.Ns aj mg) {x:ax} {kV:aa} (hb:∀ (kV doc pm:aa) (an:Option ae) (fh ct:aa) (us:List aa),us.length=ps.length->c7 (Tg x x (iY st) (eZ st) (aI st) .none kV doc pm an fh ct) ⟨us,[]⟩=pure (ps.zip us)) (a:Rg K aj x=some (some (.ref f))) (l:K.lookup f=some ⟨oc,od,.func (Tg x x (iY st) (eZ st) (aI st) .none kV doc pm an fh ct),uw⟩) (c:Uc K fh x=true) (k:Tc K (.ref f)=true) :
  ∃ f fd,Fn K mg x st ps f fd/\fd.code=fh:=by
 have F:=MP (st:=st) l c k
 exact ⟨f,_,⟨F,Rv X G a,k,F.binds hb⟩,rfl⟩
theorem aIh (X:K.In h) (G:h.Ns aj mg) {t6 JH:Tok} (z0:Rg K aj "isinstance" = some none) (z1:Rg K aj "int" = some none) (z2:Rg K aj "bool" = some none) (z3:Rg K aj "tuple" = some none) (z4:Rg K aj "list" = some none) (z5:Rg K aj "len" = some none) (z6:Rg K aj "all" = some none) (z7:Rg K aj "zip" = some none) (z8:Rg K aj "range" = some none) (z9:Rg K aj "sorted" = some none) (DV:Rg K aj "set" = some none) (YC:Rg K aj "sum" = some none) (YB:Rg K aj "repr" = some none) (YA:Rg K aj "enumerate" = some none) (X_:Rg K aj "min" = some none) (X':Rg K aj "any" = some none) (X9:Rg K aj "dict" = some none) (X8:Rg K aj "ValueError" = some none) (zA:Rg K aj "MOST_HANDS" = some (some (.int 6 t6))) (zB:Rg K aj "MOST_WORKS" = some (some (.int 12 JH))):Bl mg :=
 ⟨Ri X G z0,Ri X G z1,Ri X G z2,Ri X G z3,Ri X G z4,Ri X G z5,Ri X G z6,Ri X G z7,Ri X G z8,Ri X G z9,Ri X G DV,Ri X G YC,Ri X G YB,Ri X G YA,Ri X G X_,Ri X G X',Ri X G X9,Ri X G X8,⟨_,Rv X G zA⟩,⟨_,Rv X G zB⟩⟩
def S8 (K:Rb) (mg:ax->Option aa):Prop:=∃ Cc,Dc K Cc/\mg "Dealing" = some (.ref Cc)/\(∃ f fd,Mk K Cc f/\Mt K Cc "__init__" uU ["self", "hands"] f fd)/\(∃ f fd,Mt K Cc "book_now" uV ["self"] f fd)/\(∃ f fd,Mt K Cc "deal_now" nC ["self"] f fd)/\(∃ f fd,Mt K Cc "count_moved" nD ["self", "many"] f fd)/\(∃ f fd,Mt K Cc "put" Ca ["self", "able"] f fd)/\(∃ f fd,Mt K Cc "take" uW ["self", "number"] f fd)/\(∃ f fd,Mt K Cc "come" uX ["self"] f fd)/\(∃ f fd,Mt K Cc "go" tj ["self"] f fd)/\(∃ f fd,Mt K Cc "works" pH ["self"] f fd)/\(∃ f fd,Mt K Cc "deal" Fc ["self"] f fd)/\(∃ f fd,Mt K Cc "loads" rJ ["self"] f fd)/\(∃ f fd,Mt K Cc "levels" qK ["self"] f fd)/\(∃ f fd,Mt K Cc "moved" uY ["self"] f fd)
theorem aIj {x:ax} {kV:aa} (hb:∀ (kV doc pm:aa) (an:Option ae) (fh ct:aa) (us:List aa),us.length=ps.length->c7 (Tg x (("Dealing." : ax)++x) (iY st) (eZ st) (aI st) .none kV doc pm an fh ct) ⟨us,[]⟩=pure (ps.zip us)) (a:Rm K (.ref C) x=some (some (.ref f))) (i:Uy K (.ref f)=true) (l:K.lookup f=some ⟨oc,od,.func (Tg x (("Dealing." : ax)++x) (iY st) (eZ st) (aI st) .none kV doc pm an fh ct),uw⟩) (c:Uc K fh (("Dealing." : ax)++x)=true) (k:Tc K (.ref f)=true) :
  ∃ f fd,Mt K C x st ps f fd:=by
 have F:=MP (st:=st) l c k
 exact ⟨f,_,F,⟨a,i,k⟩,F.binds hb⟩
theorem aIk (X:K.In h) (G:h.Ns aj mg) {f0:ae} (cg:Rg K aj "Dealing" = some (some (.ref C))) (pg:Uh K C ax.empty=true) (hd:Ut K C=true) (po:Vn K C=true) (sa:Rm K (.ref C) "__setattr__" = some (some (.builtin "object.__setattr__"))) (n1:Rm K (.ref C) "many_hands" = some none) (n2:Rm K (.ref C) "able_of" = some none) (n3:Rm K (.ref C) "hand_of" = some none) (n4:Rm K (.ref C) "next_number" = some none) (n5:Rm K (.ref C) "moved_last" = some none) (n6:Rm K (.ref C) "moved_in_all" = some none) (m1:Vt K C=true) (m2:Rm K (.ref C) "__init__" = some (some (.ref f0))) (m3:Uy K (.ref f0)=true) (m4:Tc K (.ref C)=true) (hIn:∃ f fd,Mt K C "__init__" uU ["self", "hands"] f fd) (R1:∃ f fd,Mt K C "book_now" uV ["self"] f fd) (A0:∃ f fd,Mt K C "deal_now" nC ["self"] f fd) (R0:∃ f fd,Mt K C "count_moved" nD ["self", "many"] f fd) (Q1:∃ f fd,Mt K C "put" Ca ["self", "able"] f fd) (QQ:∃ f fd,Mt K C "take" uW ["self", "number"] f fd) (RZ:∃ f fd,Mt K C "come" uX ["self"] f fd) (RN:∃ f fd,Mt K C "go" tj ["self"] f fd) (QK:∃ f fd,Mt K C "works" pH ["self"] f fd) (RU:∃ f fd,Mt K C "deal" Fc ["self"] f fd) (Q_:∃ f fd,Mt K C "loads" rJ ["self"] f fd) (RA:∃ f fd,Mt K C "levels" qK ["self"] f fd) (Q9:∃ f fd,Mt K C "moved" uY ["self"] f fd):S8 K mg:=by
 obtain ⟨f,fd,M⟩:=hIn
 have e:f=f0:=by
  have:=M.me.at_.symm.trans m2
  injection this with this
  injection this with this
  injection this
 subst e
 exact ⟨C,⟨⟨pg,hd,po,sa⟩,n1,n2,n3,n4,n5,n6⟩,Rv X G cg,⟨f,fd,⟨m1,m2,m3,m4⟩,M⟩,R1,A0,R0,Q1,QQ,RZ,RN,QK,RU,Q_,RA,Q9⟩
theorem aIl (X:K.In h) (G:h.Ns aj mg) {a0 a1 a2 a3 a4 a5 a6 a7 a8 a9 wc:ae} (zE:Rg K aj "DealError" = some (some (.ref cE))) (qE:pw K cE kh=true) (z0:Rg K aj "NoBook" = some (some (.ref a0))) (q0:pw K a0 (.ref cE::kh)=true) (z1:Rg K aj "NoCosts" = some (some (.ref a1))) (q1:pw K a1 (.ref cE::kh)=true) (z2:Rg K aj "NoDeal" = some (some (.ref a2))) (q2:pw K a2 (.ref cE::kh)=true) (z3:Rg K aj "NoHand" = some (some (.ref a3))) (q3:pw K a3 (.ref cE::kh)=true) (z4:Rg K aj "NoRooms" = some (some (.ref a4))) (q4:pw K a4 (.ref cE::kh)=true) (z5:Rg K aj "NoRow" = some (some (.ref a5))) (q5:pw K a5 (.ref cE::kh)=true) (z6:Rg K aj "NoText" = some (some (.ref a6))) (q6:pw K a6 (.ref cE::kh)=true) (z7:Rg K aj "NoWay" = some (some (.ref a7))) (q7:pw K a7 (.ref cE::kh)=true) (z8:Rg K aj "NoWeights" = some (some (.ref a8))) (q8:pw K a8 (.ref cE::kh)=true) (z9:Rg K aj "NoWork" = some (some (.ref a9))) (q9:pw K a9 (.ref cE::kh)=true) (DV:Rg K aj "TooMany" = some (some (.ref wc))) (JS:pw K wc (.ref cE::kh)=true) (nd : [cE,a0,a1,a2,a3,a4,a5,a6,a7,a8,a9,wc].Nodup):∃ cE c,Cl K mg cE c:=by
 have hl:∀ i,i < 11->∃ a,[a0,a1,a2,a3,a4,a5,a6,a7,a8,a9,wc][i]?=some a:=λi hi=>⟨_,Qb (l:=[a0,a1,a2,a3,a4,a5,a6,a7,a8,a9,wc]) (i:=i) hi⟩
 have hc:∀ (i:Nat) (a:ae),[a0,a1,a2,a3,a4,a5,a6,a7,a8,a9,wc][i]?=some a->(λi:Nat=>([a0,a1,a2,a3,a4,a5,a6,a7,a8,a9,wc][i]?).getD 0) i=a:=λi a e=>by show ([a0,a1,a2,a3,a4,a5,a6,a7,a8,a9,wc][i]?).getD 0=a; rw [e]; rfl
 have ZS : [a0,a1,a2,a3,a4,a5,a6,a7,a8,a9,wc].Nodup:=(Jh.mp nd).2
 have ZP:cE∉[a0,a1,a2,a3,a4,a5,a6,a7,a8,a9,wc]:=(Jh.mp nd).1
 refine ⟨cE,λi=>([a0,a1,a2,a3,a4,a5,a6,a7,a8,a9,wc][i]?).getD 0,⟨λi n e=>?_,λi hi=>?_,λi j hi hj e=>?_,λi hi e=>?_,Rv X G zE,aDO qE⟩⟩
 ·match i,e with
  | 0,e=>injection e with e; subst e; exact Rv X G z0
  | 1,e=>injection e with e; subst e; exact Rv X G z1
  | 2,e=>injection e with e; subst e; exact Rv X G z2
  | 3,e=>injection e with e; subst e; exact Rv X G z3
  | 4,e=>injection e with e; subst e; exact Rv X G z4
  | 5,e=>injection e with e; subst e; exact Rv X G z5
  | 6,e=>injection e with e; subst e; exact Rv X G z6
  | 7,e=>injection e with e; subst e; exact Rv X G z7
  | 8,e=>injection e with e; subst e; exact Rv X G z8
  | 9,e=>injection e with e; subst e; exact Rv X G z9
  | 10,e=>injection e with e; subst e; exact Rv X G DV
  | n+11,e=>exact absurd (Qa.mp e).1 (by show ¬ n+11 < 11; omega)
 ·match i,hi with
  | 0,_=>exact iF qE q0
  | 1,_=>exact iF qE q1
  | 2,_=>exact iF qE q2
  | 3,_=>exact iF qE q3
  | 4,_=>exact iF qE q4
  | 5,_=>exact iF qE q5
  | 6,_=>exact iF qE q6
  | 7,_=>exact iF qE q7
  | 8,_=>exact iF qE q8
  | 9,_=>exact iF qE q9
  | 10,_=>exact iF qE JS
  | n+11,hi=>omega
 ·obtain ⟨a,ea⟩:=hl i hi
  obtain ⟨b,eb⟩:=hl j hj
  have e':a=b:=(hc i a ea).symm.trans (e.trans (hc j b eb))
  subst e'
  have yn:i < [a0,a1,a2,a3,a4,a5,a6,a7,a8,a9,wc].length:=hi
  exact (Ym yn ZS).mp (ea.trans eb.symm)
 ·obtain ⟨a,ea⟩:=hl i hi
  have e':a=cE:=(hc i a ea).symm.trans e
  subst e'
  exact ZP (Qd ea)
theorem aGj {l:Vu} {fa c2 qx:ae} (t!:mg "law" = some (.ref fa)) (B:Bl mg) (J!:∃ cE c,Cl K mg cE c) (I?:S8 K mg) (Lc:∃ f fd,Fn K mg "steps_to_least" lF ["book", "deal", "able", "measures"] f fd/\fd.code=.ref c) (hZ:∀ base:af,base.BuiltinsAt mg Pt->Lm K mg base c Pt) (Lh:∃ f fd,Fn K mg "levels_or_way" HK ["book", "deal"] f fd/\fd.code=.ref c2) (B?:∀ base:af,base.BuiltinsAt mg qx->Lm K mg base c2 qx) (hW:∃ f fd,Fn K mg "is_whole" lT ["thing"] f fd) (hH:∃ f fd,Fn K mg "are_hands" pI ["thing"] f fd) (RD:∃ f fd,Fn K mg "is_work" pJ ["hands", "thing"] f fd) (R7:∃ f fd,Fn K mg "is_book" uZ ["thing"] f fd) (RV:∃ f fd,Fn K mg "is_deal" yR ["book", "thing"] f fd) (Q7:∃ f fd,Fn K mg "need_book" MH ["book"] f fd) (Q5:∃ f fd,Fn K mg "need_deal" MG ["book", "deal"] f fd) (hC:∃ f fd,Fn K mg "counted" jZ ["hands", "deal"] f fd) (hL:∃ f fd,Fn K mg "loads" MF ["book", "deal"] f fd) (BY:∃ f fd,Fn K mg "handing" kA ["book", "deal"] f fd) (QZ:∃ f fd,Fn K mg "reached" lE ["rows", "first"] f fd) (QL:∃ f fd,Fn K mg "way_to" rK ["found", "last"] f fd) (QR:∃ f fd,Fn K mg "steps_of_take" qL ["book", "deal", "work"] f fd) (QN:∃ f fd,Fn K mg "_law_e_whirl" yS ["cell", "at"] f fd) (QW:∃ f fd,Fn K mg "_law_e_scoop" kQ ["jar", "many"] f fd) (Sd:∃ f fd,Fn K mg "_law_e_able" qM ["jar", "hands"] f fd) (RY:∃ f fd,Fn K mg "_law_e_deed" xF ["jar", "state"] f fd) (RT:∃ f fd,Fn K mg "_law_e_step" rM ["state", "deed"] f fd) (R8:∃ f fd,Fn K mg "_law_e_begun" yT ["hands"] f fd) (RW:∃ f fd,Fn K mg "_law_e_do" AA ["dealing", "deed"] f fd) (QM:∃ f fd,Fn K mg "_law_e_whole_in" jE ["some"] f fd) (RK:∃ f fd,Fn K mg "_law_e_heaps" qN ["state", "where"] f fd) (RJ:∃ f fd,Fn K mg "_law_e_is_deal" nE ["state", "where"] f fd) (R_:∃ f fd,Fn K mg "_law_e_are_levels" lU ["state", "where", "heights"] f fd) (Sa:∃ f fd,Fn K mg "_law_e_ask" HJ ["dealing", "word"] f fd) (R9:∃ f fd,Fn K mg "_law_e_asked" vA ["jar", "dealing"] f fd) (QV:∃ f fd,Fn K mg "_law_e_stands" lV ["found", "state"] f fd) (RG:∃ f fd,Fn K mg "_law_e_kind" HV ["caught"] f fd) (QO:∃ f fd,Fn K mg "_law_e_word" uS ["dealing", "deed"] f fd) (Q3:∃ f fd,Fn K mg "_law_e_no_works" qJ ["jar", "hands"] f fd) (QY:∃ f fd,Fn K mg "_law_e_refused" lD ["jar", "state"] f fd) (Hk:∃ f fd,Fn K mg "_law_e_kept" Fd ["found"] f fd) (Sb:∃ f fd,Fn K mg "_law_e_all_done" nB ["jar", "dealing", "state", "deeds"] f fd) (RO:∃ f fd,Fn K mg "_law_e_good_behind" pG ["jar", "dealing", "state"] f fd) (RP:∃ f fd,Fn K mg "_law_e_full" HU ["jar", "state", "dealing"] f fd) (RQ:∃ f fd,Fn K mg "_law_e_full_again" uT ["jar", "state", "dealing"] f fd) (RB:∃ f fd,Fn K mg "law" HI ["script"] f fd)
  : ∃ fd:az,(∀ (s:ah) (v:aa),BindsTo s fd ⟨[v],[]⟩ [("script",v)])/\∀ base:af,K.In base->base.Ns aj mg->base.BuiltinsAt mg Pt->base.BuiltinsAt mg qx->b_ l.prog w K mg base d7 14 fa fd ["script"] (HZ K Pt qx):=by
 obtain ⟨O!,dST,ST,hc⟩:=Lc
 obtain ⟨P?,dLO,LO,yq⟩:=Lh
 obtain ⟨fW,dW,W⟩:=hW
 obtain ⟨fH,dH,H⟩:=hH
 obtain ⟨Sq,SM,Kw⟩:=RD
 obtain ⟨T!,dBP,BP⟩:=R7
 obtain ⟨S?,dDP,DP⟩:=RV
 obtain ⟨xj,xm,NB⟩:=Q7
 obtain ⟨xi,xk,ND⟩:=Q5
 obtain ⟨fC,dC,C⟩:=hC
 obtain ⟨fL,dL,L⟩:=hL
 obtain ⟨fHD,dHD,HD⟩:=BY
 obtain ⟨fRC,dRC,RC⟩:=QZ
 obtain ⟨fWT,dWT,WT⟩:=QL
 obtain ⟨N?,dTK,TK⟩:=QR
 obtain ⟨fWH,dWH,WH⟩:=QN
 obtain ⟨O?,dSC,SC⟩:=QW
 obtain ⟨fAB,dAB,AB⟩:=Sd
 obtain ⟨fDD,dDD,DD⟩:=RY
 obtain ⟨S!,dEP,EP⟩:=RT
 obtain ⟨T?,dBE,BE⟩:=R8
 obtain ⟨fDO,dDO,DO⟩:=RW
 obtain ⟨N!,dWI,WI⟩:=QM
 obtain ⟨R!,dHP,HP⟩:=RK
 obtain ⟨fID,dID,ID⟩:=RJ
 obtain ⟨fAL,dAL,AL⟩:=R_
 obtain ⟨fAK,dAK,AK⟩:=Sa
 obtain ⟨fAS,dAS,AS⟩:=R9
 obtain ⟨fSD,dSD,SD⟩:=QV
 obtain ⟨Q?,dKI,KI⟩:=RG
 obtain ⟨fWD,dWD,WD⟩:=QO
 obtain ⟨fNW,dNW,NW⟩:=Q3
 obtain ⟨P!,dRF,RF⟩:=QY
 obtain ⟨Q!,dKP,KP⟩:=Hk
 obtain ⟨fAD,dAD,AD⟩:=Sb
 obtain ⟨fGB,dGB,GB⟩:=RO
 obtain ⟨R?,dFU,FU⟩:=RP
 obtain ⟨fFA,dFA,FA⟩:=RQ
 obtain ⟨fLW,dLW,LW⟩:=RB
 obtain ⟨Cc,T,Dp,⟨fIn,dIn,MK,GX⟩,⟨A2,A5,GZ⟩,⟨A1,A4,Ea⟩,⟨B4,B_,Eb⟩,⟨DE,DK,GV⟩,⟨DC,DJ,GU⟩,⟨B3,B9,GY⟩,⟨B2,B8,tj⟩,⟨Ht,HA,Pw⟩,⟨Hv,HE,Pz⟩,⟨Lq,LF,Ki⟩,⟨Lr,LG,Py⟩,⟨Hu,HB,Px⟩⟩:=I?
 have e:=t!.symm.trans LW.Kh
 cases e
 have R:Pr K mg fW fH Sq T! xj S? xi fL dW dH SM dBP xm dDP xk dL:=⟨W,H,Kw,BP,NB,DP,ND,⟨fC,dC,C⟩,L⟩
 refine ⟨dLW,λs v=>?_,λbase _ _ Ln Oe=>?_⟩
 ·obtain ⟨oc,od,kV,doc,pm,an,fh,ct,uw,rfl,lk,mi⟩:=LW.fn.ex
  exact .of_eq rfl
 ·have Z:=hZ base Ln
  have Z2:=B? base Oe
  have OW:b_ l.prog w K mg base d7 1 fW dW ["thing"] (lW K):=qO W B
  have OH:b_ l.prog w K mg base d7 2 fH dH ["thing"] (qP K):=WR H B W
  have XD:b_ l.prog w K mg base d7 2 Sq SM ["hands", "thing"] (qQ K):=WQ Kw B W
  have OC:b_ l.prog w K mg base d7 1 fC dC ["hands", "deal"] (lH K):=pK C B
  have OST:b_ l.prog w K mg base d7 2 O! dST ["book", "deal", "able", "measures"] (zG K Pt):=aEj ST hc Z B HD RC WT
  have OLO:b_ l.prog w K mg base d7 8 P? dLO ["book", "deal"] (LY K qx):=aHg LO yq Z2 B R HD RC WT
  have OTK:b_ l.prog w K mg base d7 2 N? dTK ["book", "deal", "work"] (zH K):=aEl TK B C HD RC WT
  have Nh:b_ l.prog w K mg base d7 1 A2 A5 ["self"] (qT K Cc):=aEo GZ T B
  have IJ:b_ l.prog w K mg base d7 1 A1 A4 ["self"] (oA K Cc):=aEp Ea T B
  have Bf:b_ l.prog w K mg base d7 1 B4 B_ ["self", "many"] (oB K Cc):=aEq Eb T
  have IH:=aC6 Ki T Ea IJ C OC
  have Fq:=aHj GV T B Kw XD GZ Nh Ea IJ Ki IH ST OST Eb Bf
  have Fp:=aFS GU T B W OW GZ Nh Ea IJ TK OTK Eb Bf
  have Fu:=aEu GY T B Eb Bf
  have Ft:=aHi tj T B Eb Bf
  have M6:b_ l.prog w K mg base d7 1 Ht HA ["self"] (vM K Cc):=aC8 Pw T B
  have Nd:b_ l.prog w K mg base d7 1 Hv HE ["self"] (zJ K Cc):=aEt Pz T B
  have Na:=aBD Py T GZ Nh Ea IJ LO OLO
  have M_:b_ l.prog w K mg base d7 1 Hu HB ["self"] (zI K Cc):=aEs Px T
  have Fs:=aFX GX T B H OH
  have Cj:b_ l.prog w K mg base d7 2 O? dSC ["jar", "many"] (jN K):=aEh SC B WH
  have Fv:=aFL AB B SC Cj
  have OBE:b_ l.prog w K mg base d7 1 T? dBE ["hands"] (zK):=aEB BE
  have Nc:b_ l.prog w K mg base d7 1 S! dEP ["state", "deed"] (vN K):=aF1 EP
  have Ng:=aIc DO T GV Fq GU Fp GY Fu tj Ft
  have XG:=aF3 DD B SC Cj AB Fv
  have M8:b_ l.prog w K mg base d7 1 N! dWI ["some"] (lK K):=aBG WI B
  have XF:b_ l.prog w K mg base d7 1 R! dHP ["state", "where"] (qX K):=aDa HP B
  have OID:=aBH ID B WI M8
  have XJ:=aDc AL B WI M8 HP XF
  have OAK:=aHm AK T Pw M6 Pz Nd Ki IH Py Na Px M_
  have XI:=aED AS B SC Cj AK OAK
  have XC:=aDd SD B WI M8 HP XF ID OID AL XJ
  obtain ⟨cE,c',Zc⟩:=J!
  have Ot:=aEF GX Zc H OH
  have Ow:b_ l.prog w K mg base (ir l.prog w) 2 B3 B9 ["self"] (zO Cc c'):=aEG GY T B Zc
  have Oq:=aF6 GV T B Zc Kw XD
  have Oo:=aEI GU T Zc W OW
  have Ou:b_ l.prog w K mg base (ir l.prog w) 2 B2 B8 ["self"] (L0 K Cc c'):=aHp tj T B Zc
  have Ov:=aHq DO T GV Oq GU Oo GY Ow tj Ou
  have OKI:b_ l.prog w K mg base d7 1 Q? dKI ["caught"] (MW c'):=aF5 KI B Zc
  have XB:=aEK WD Zc MK Dp GX Ot DO Ov KI OKI
  have XM:=aBJ AD DO Ng EP Nc AS XI SD XC
  have OFU:b_ l.prog w K mg base d7 5 R? dFU ["jar", "state", "dealing"] (MV K Cc Pt qx):=aGa FU B DO Ng EP Nc AB Fv
  have OFA:=aEM FA B SC Cj AB Fv AD XM WD XB
  have ONW:=aBO NW B SC Cj AB Fv
  have ORF:b_ l.prog w K mg base d7 5 P! dRF ["jar", "state"] (rX K Cc):=aBS RF B SC Cj AB Fv NW ONW
  have OKP:b_ l.prog w K mg base d7 1 Q! dKP ["found"] (MR):=aGd KP B
  have OGB:=aEX GB B AD XM DD XG
  exact aHv LW T B MK Dp SC Cj BE OBE GX Fs DD XG DO Ng EP Nc AS XI SD XC WD XB AL XJ RF ORF KP OKP FU OFU FA OFA GB OGB
theorem walk {l:Vu} {q:bo} {d:DefRec} {K:Params->Rb} {c2 qx:ae} (hn:l.most=some 63) (Ex:d.params.defaults = []) (hq:importsNone q=true) (hY:∀ (w:bq) (h:af),YP w h->(K w.params).In h) (hT:∀ (w:bq) (h:af),YP w h->h.get? Pt=some (Ta #[])) (Lb:∀ (w:bq) (h:af),YP w h->h.get? qx=some (Ta #[])) (il:Pt≠qx) (F:(∀ w:bq,Ui (K w.params) c Pt=true)->(∀ w:bq,Ui (K w.params) c2 qx=true)->∀ (w:bq) (mg:ax->Option aa) (fa:ae) (h:af),(K w.params).In h->h.Ns aj mg->mg d.name=some (.ref fa) ->
   ∃ fd:az,(∀ (s:ah) (u:aa),BindsTo s fd ⟨[u],[]⟩ [("script",u)])/\∀ base:af,(K w.params).In base->base.Ns aj mg->base.BuiltinsAt mg Pt->base.BuiltinsAt mg qx->b_ l.prog w (K w.params) mg base d7 14 fa fd ["script"] (HZ (K w.params) Pt qx)) (Hk:∀ w:bq,(K w.params).lookup Pt=none) (Od:∀ w:bq,(K w.params).lookup qx=none) (hC:∀ w:bq,Ui (K w.params) c Pt=true) (Hn:∀ w:bq,Ui (K w.params) c2 qx=true) :
  Mx q loose XP YP l.row.toRowW d [] (λf vs=>Mq f vs) :=
 L2.aD1 (n:=63) (k:=14) (x := "script") (CX:=λ_=>d7) (sp:=λw=>HZ (K w.params) Pt qx) (ts:=[(Pt,rQ),(qx,qR)]) hn (by decide) Ex ⟨rfl,by decide,by decide,rfl⟩ hq hY
  (λw h Y p hp=>by
   rcases Qj.mp hp with e | e
   ·rw [e]; exact ⟨hT w h Y,Hk w,c,Vf (hY w h Y) (hC w)⟩
   ·rw [Qu.mp e]; exact ⟨Lb w h Y,Od w,c2,Vf (hY w h Y) (Hn w)⟩) (by simp [il]) (λw mg fa h a b d=>let ⟨fd,h1,h2⟩:=F hC Hn w mg fa h a b d; ⟨fd,h1,λbase k1 k2 k3=>h2 base k1 k2 (k3 _ (Qm ..)) (k3 _ (Qi _ (Qm ..)))⟩)
  (λ_ _ a ns _ hO hS=>⟨a,ns,rfl,hS,hO.2 _ (Qm ..),hO.2 _ (Qi _ (Qm ..)),λH' h h2=>⟨rfl,λp hp=>by
   rcases Qj.mp hp with e | e
   ·rw [e]; exact h
   ·rw [Qu.mp e]; exact h2⟩⟩) λ_ _ _ _ _ z=>z
end Ab
open PySem PySem.W PyProof.Rows
set_option maxRecDepth 100000 in
set_option maxHeartbeats 0 in
theorem PySem.Challenge.cw_ablehands_k41_deeds_of_a_dealing_refused_holds : PySem.Challenge.rw_ablehands_k41_deeds_of_a_dealing_refused.Holds := by
 w_on; o_law; k_head; (case hw=>w_witness2)
 k_fill
 refine' Ab.walk (l:=PySem.Challenge.rw_ablehands_k41_deeds_of_a_dealing_refused) rfl rfl (by decide +kernel) (λw h Y=>PySem.W.km_in_of Y) (λw h Y=>Mi Y _ (Qi _ (Qm ..))) (λw h Y=>Mi Y _ (Qm ..)) (by decide) ?F ?KP ?KP2 ?HC ?HC2
 case F =>
  intro hC Hn w mg fa h KX G AV
  refine' Ab.aGj AV ?B ?Ce ?Cl ?Lc ?Z ?Lh ?Z2 ?hW ?hH ?RD ?R7 ?RV ?Q7 ?Q5 ?hC ?hL ?BY ?QZ ?QL ?QR ?QN ?QW ?Sd ?RY ?RT ?R8 ?RW ?QM ?RK ?RJ ?R_ ?Sa ?R9 ?QV ?RG ?QO ?Q3 ?QY ?Hk ?Sb ?RO ?RP ?RQ ?RB
  case Z =>
   intro base hb
   exact ⟨hC w,by decide,hb⟩
  case Z2 =>
   intro base hb
   exact ⟨Hn w,by decide,hb⟩
  case Lh =>
   refine' Ab.U1 KX G (by intro _ _ _ _ _ _ us hl; obtain ⟨_,_,rfl⟩:=Ab.ln2 hl; rfl) ?a ?l ?c ?k
   (case a=>k_is); (case l=>k_is); (case c=>k_is); (case k=>k_is)
  case Lc =>
   refine' Ab.U1 KX G (by intro _ _ _ _ _ _ us hl; obtain ⟨_,_,_,_,rfl⟩:=Ab.PD hl; rfl) ?a ?l ?c ?k
   (case a=>k_is); (case l=>k_is); (case c=>k_is); (case k=>k_is)
  case Ce =>
   refine' Ab.aIl KX G ?zE ?qE ?z0 ?q0 ?z1 ?q1 ?z2 ?q2 ?z3 ?q3 ?z4 ?q4 ?z5 ?q5 ?z6 ?q6 ?z7 ?q7 ?z8 ?q8 ?z9 ?q9 ?DV ?JS ?nd
   (case zE=>k_is); (case qE=>kernel_rfl)
   (case z0 | z1 | z2 | z3 | z4 | z5 | z6 | z7 | z8 | z9 | DV=>k_is); (case q0 | q1 | q2 | q3 | q4 | q5 | q6 | q7 | q8 | q9 | JS=>kernel_rfl); (case nd=>decide)
  case Cl =>
   refine' Ab.aIk KX G ?cg ?pg ?hd ?po ?sa ?n1 ?n2 ?n3 ?n4 ?n5 ?n6 ?m1 ?m2 ?m3 ?m4 ?hIn ?R1 ?A0 ?R0 ?Q1 ?QQ ?RZ ?RN ?QK ?RU ?Q_ ?RA ?Q9
   (case cg | pg | hd | po | sa | n1 | n2 | n3 | n4 | n5 | n6 | m1 | m2 | m3 | m4=>k_is)
   all_goals (refine' Ab.aIj ?b ?a ?i ?l ?c ?k; (case a=>k_is); (case i=>k_is); (case l=>k_is); (case c=>k_is); (case k=>k_is); (case b=>(intro _ _ _ _ _ _ us hl; first | (obtain ⟨_,rfl⟩:=Ab.PH hl; rfl) | (obtain ⟨_,_,rfl⟩:=Ab.ln2 hl; rfl))))
  case B =>
   apply Ab.aIh KX G <;> k_is
  all_goals (refine' Ab.aIg KX G ?b ?a ?l ?c ?k; (case a=>k_is); (case l=>k_is); (case c=>k_is); (case k=>k_is); (case b=>(intro _ _ _ _ _ _ us hl; first | (obtain ⟨_,rfl⟩:=Ab.PH hl; rfl) | (obtain ⟨_,_,rfl⟩:=Ab.ln2 hl; rfl) | (obtain ⟨_,_,_,rfl⟩:=Ab.Z8 hl; rfl) | (obtain ⟨_,_,_,_,rfl⟩:=Ab.PD hl; rfl))))
 case KP=>intro w; first | k_is | kernel_rfl
 case KP2=>intro w; first | k_is | kernel_rfl
 case HC=>intro w; kernel_rfl
 case HC2=>intro w; kernel_rfl
